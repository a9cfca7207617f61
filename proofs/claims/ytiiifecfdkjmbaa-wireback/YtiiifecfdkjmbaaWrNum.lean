/- Lemmas. Lemmas. Lemmas. -/
import Derived.Test.YtiiifecfdkjmbaaOwnX
import Derived.Test.YtiiifecfdkjmbaaRegK
import Derived.Laws.IdiomStrings
import Derived.Test.YtiiifecfdkjmbaaPureZ
namespace Go.Proofs.Ytiiifecfdkjmbaa
set_option maxRecDepth 8000
open Go.RowKit Go.Shelf
theorem Di {p o q:Nat} (h:o≠q):(⟨p,o,none⟩:Addr)≠⟨p,q,none⟩:=fun e=>h (by injection e)
theorem aJ (w:World) (p:Nat) {o q:Nat} (v:Value) (h:o≠q):(w.setCell ⟨p,o,none⟩ v).cell? ⟨p,q,none⟩=w.cell? ⟨p,q,none⟩:=World.cell?_setCell_other _ _ _ _ (Di h)
theorem dP (w:World) (p o:Nat) (v:Value) {u:Value} (h:w.cell? ⟨p,o,none⟩=some u):(w.setCell ⟨p,o,none⟩ v).cell? ⟨p,o,none⟩=some v:=World.cell?_setCell_same' _ _ _ (by rw [h];rfl)
def Ci (w:World) (p:Nat) (a b c:Value):World:=((w.setCell ⟨p,0,none⟩ a).setCell ⟨p,1,none⟩ b).setCell ⟨p,2,none⟩ c
theorem pU (w:World) (p:Nat) (a b c:Value):Fr (fun i=>i=p) w (Ci w p a b c):=by
 have h0:Fr (fun i=>i=p) w w:=Fr.refl _ _
 exact ((h0.setCell ⟨p,0,none⟩ a (fun _=>rfl)).setCell ⟨p,1,none⟩ b (fun _=>rfl)).setCell ⟨p,2,none⟩ c (fun _=>rfl)
def Cj (w:World) (p:Nat) (a b c d:Value):World:=(((w.setCell ⟨p,0,none⟩ a).setCell ⟨p,1,none⟩ b).setCell ⟨p,2,none⟩ c).setCell ⟨p,3,none⟩ d
theorem mD (w:World) (p:Nat) (a b c d:Value):Fr (fun i=>i=p) w (Cj w p a b c d):=by
 have h0:Fr (fun i=>i=p) w w:=Fr.refl _ _
 exact (((h0.setCell ⟨p,0,none⟩ a (fun _=>rfl)).setCell ⟨p,1,none⟩ b (fun _=>rfl)).setCell ⟨p,2,none⟩ c (fun _=>rfl)).setCell ⟨p,3,none⟩ d (fun _=>rfl)
structure aV (w:World) (p:Nat) (v l h t:Value):Prop where
 lt:p < w.heap.size
 c0:w.cell? ⟨p,0,none⟩=some v
 c1:w.cell? ⟨p,1,none⟩=some l
 c2:w.cell? ⟨p,2,none⟩=some h
 c3:w.cell? ⟨p,3,none⟩=some t
 z0:w.frozen? ⟨p,0,none⟩=false
 z1:w.frozen? ⟨p,1,none⟩=false
 z2:w.frozen? ⟨p,2,none⟩=false
 z3:w.frozen? ⟨p,3,none⟩=false
theorem aV.fr {B:Nat->Prop} {w w':World} {p:Nat} {v l h t:Value} (b:aV w p v l h t) (k:Fr B w w') (hB:¬ B p):aV w' p v l h t :=
 ⟨zQ4 b.lt k.size,(k.cell (p:=⟨p,0,none⟩) b.lt hB).trans b.c0,(k.cell (p:=⟨p,1,none⟩) b.lt hB).trans b.c1,(k.cell (p:=⟨p,2,none⟩) b.lt hB).trans b.c2,(k.cell (p:=⟨p,3,none⟩) b.lt hB).trans b.c3,
  (k.frozen (p:=⟨p,0,none⟩) b.lt hB).trans b.z0,(k.frozen (p:=⟨p,1,none⟩) b.lt hB).trans b.z1,(k.frozen (p:=⟨p,2,none⟩) b.lt hB).trans b.z2,(k.frozen (p:=⟨p,3,none⟩) b.lt hB).trans b.z3⟩
theorem aV.since {w w':World} {p:Nat} {v l h t:Value} (b:aV w p v l h t) (k:Since w w'):aV w' p v l h t:=b.fr (k.fr fun _=>False) (fun x=>x)
theorem aV.new (w:World) (T:TypeId) (v l h t:Value):aV (w.alloc (.cells #[v,l,h,t] T)) w.heap.size v l h t:=by
 constructor <;> simp [go_sem]
theorem aV.put {w:World} {p:Nat} {v l h t:Value} (b:aV w p v l h t) (v' l' h' t':Value):aV (Cj w p v' l' h' t') p v' l' h' t':=by
 have z:∀ o,(Cj w p v' l' h' t').frozen? ⟨p,o,none⟩=w.frozen? ⟨p,o,none⟩:=fun o=>by
  unfold Cj;rw [World.frozen?_setCell,World.frozen?_setCell,World.frozen?_setCell,World.frozen?_setCell]
 exact ⟨zQ4 b.lt (mD w p v' l' h' t').size,
  (aJ _ _ _ (by decide)).trans ((aJ _ _ _ (by decide)).trans ((aJ _ _ _ (by decide)).trans (dP _ _ _ _ b.c0))),
  (aJ _ _ _ (by decide)).trans ((aJ _ _ _ (by decide)).trans (dP _ _ _ _ ((aJ _ _ _ (by decide)).trans b.c1))),
  (aJ _ _ _ (by decide)).trans (dP _ _ _ _ ((aJ _ _ _ (by decide)).trans ((aJ _ _ _ (by decide)).trans b.c2))),
  dP _ _ _ _ ((aJ _ _ _ (by decide)).trans ((aJ _ _ _ (by decide)).trans ((aJ _ _ _ (by decide)).trans b.c3))),
  (z 0).trans b.z0,(z 1).trans b.z1,(z 2).trans b.z2,(z 3).trans b.z3⟩
open Pu
set_option linter.unusedVariables false
set_option linter.unusedSimpArgs false
open _root_.Go.Proofs.Try hiding checked
def bs (l:List UInt8):ByteArray:=⟨l.toArray⟩
theorem FD (s:ByteArray):bs s.data.toList=s:=by unfold bs;simp
theorem iL (l:List UInt8):(bs l).size=l.length:=by unfold bs;show l.toArray.size=_;simp
theorem Dp (l:List UInt8):(bs l).data.toList=l:=by unfold bs;simp
theorem Dq (l:List UInt8) (n:Nat):(bs l).extract 0 n=bs (l.take n):=by
 apply ByteArray.ext
 rw [ByteArray.data_extract]
 unfold bs
 simp
theorem Dr (l:List UInt8) (n m:Nat) (h:m=l.length):(bs l).extract n m=bs (l.drop n):=by
 subst h
 apply ByteArray.ext
 rw [ByteArray.data_extract]
 unfold bs
 simp [List.take_of_length_le]
structure RdB (w:World) (B:Nat) (s:List UInt8) (g n:Int):Prop where
 lt:B < w.heap.size
 c0:w.cell? ⟨B,0,none⟩=some (.string (bs s))
 c1:w.cell? ⟨B,1,none⟩=some (.int .i64 g)
 c2:w.cell? ⟨B,2,none⟩=some (.int .i64 n)
 z0:w.frozen? ⟨B,0,none⟩=false
 z1:w.frozen? ⟨B,1,none⟩=false
 z2:w.frozen? ⟨B,2,none⟩=false
theorem RdB.fr {X:Nat->Prop} {w w':World} {B:Nat} {s:List UInt8} {g n:Int} (h:RdB w B s g n) (k:Fr X w w') (hX:¬ X B):RdB w' B s g n :=
 ⟨zQ4 h.lt k.size,(k.cell (p:=⟨B,0,none⟩) h.lt hX).trans h.c0,(k.cell (p:=⟨B,1,none⟩) h.lt hX).trans h.c1,(k.cell (p:=⟨B,2,none⟩) h.lt hX).trans h.c2,
  (k.frozen (p:=⟨B,0,none⟩) h.lt hX).trans h.z0,(k.frozen (p:=⟨B,1,none⟩) h.lt hX).trans h.z1,(k.frozen (p:=⟨B,2,none⟩) h.lt hX).trans h.z2⟩
theorem RdB.since {w w':World} {B:Nat} {s:List UInt8} {g n:Int} (h:RdB w B s g n) (k:Since w w'):RdB w' B s g n:=h.fr (k.fr fun _=>False) (fun x=>x)
theorem RdB.rest {w:World} {B:Nat} {s:List UInt8} {g n:Int} (h:RdB w B s g n) (r:List UInt8):RdB (w.setCell ⟨B,0,none⟩ (.string (bs r))) B r g n:=by
 have hF:Fr (fun i=>i=B) w (w.setCell ⟨B,0,none⟩ (.string (bs r))):=(Fr.refl (fun i=>i=B) w).setCell ⟨B,0,none⟩ _ (fun _=>rfl)
 exact ⟨zQ4 h.lt hF.size,dP _ _ _ _ h.c0,(aJ _ _ _ (by decide)).trans h.c1,(aJ _ _ _ (by decide)).trans h.c2,by rw [World.frozen?_setCell];exact h.z0,by rw [World.frozen?_setCell];exact h.z1,by rw [World.frozen?_setCell];exact h.z2⟩
abbrev FB (B:Nat) (w w':World):Prop:=Fr (fun i=>i=B) w w'
theorem FB.trans' {B:Nat} {a b c:World} (h:FB B a b) (k:FB B b c):FB B a c:=Fr.trans h k (fun _ _ x=>x) (fun _ _ x=>x)
theorem Since.fb {B:Nat} {a b:World} (h:Since a b):FB B a b:=h.fr _
def Sg (lo hi:Nat) (P:World->Prop) (w:World):Prop:=hi<=w.heap.size/\∀ W:World,hi<=W.heap.size->(∀ k,lo<=k->k < hi->W.heap[k]? = w.heap[k]?)->P W
theorem Sg.out {lo hi:Nat} {P:World->Prop} {w:World} (h:Sg lo hi P w):P w:=h.2 w h.1 (fun _ _ _=>rfl)
theorem Sg.fr {lo hi:Nat} {P:World->Prop} {w w':World} {X:Nat->Prop} (h:Sg lo hi P w) (k:Fr X w w') (hX:∀ i,lo<=i->i < hi->¬ X i):Sg lo hi P w' :=
 ⟨zQ5 h.1 k.size,fun W hW hk=>h.2 W hW (fun i h1 h2=>(hk i h1 h2).trans (k.block i (zQ4 h2 h.1) (hX i h1 h2)))⟩
theorem Sg.mono {lo lo' hi hi':Nat} {P:World->Prop} {w:World} (h:Sg lo hi P w) (h1:lo'<=lo) (h2:hi<=hi') (h3:hi'<=w.heap.size):Sg lo' hi' P w :=
 ⟨h3,fun W hW hk=>h.2 W (zQ5 h2 hW) (fun i a b=>hk i (zQ5 h1 a) (zQ4 b h2))⟩
theorem Sg.const {lo hi:Nat} {P:Prop} {w:World} (h:P) (hh:hi<=w.heap.size):Sg lo hi (fun _=>P) w:=⟨hh,fun _ _ _=>h⟩
theorem kV (w:World):Calls prog 103 #[.bool true] w fun r w'=>r=.returned (.tuple #[])/\w'=w:=by
 go_enter func103,ntmps103
 go_wp2
 go_end0
 exact ⟨rfl,rfl⟩
theorem kW (w:World):Calls prog 103 #[.bool false] w fun r w'=>r=.panicked (pan 1)/\w'=w:=by
 go_enter func103,ntmps103
 go_wp2
 exact ⟨rfl,rfl,rfl⟩
theorem zB (B n:Nat) (hn:n<=1000) (s:List UInt8) (g m:Int) (w:World) (h:RdB w B s g m) (hp:ou n s=none) :
  Calls prog 169 #[.pointer (some ⟨B,0,none⟩),.int .i64 n] w fun e w'=>e=.panicked (pan 1)/\w'=w:=by
 have hlt:¬ n<=s.length:=fun h=>by unfold ou at hp;rw [if_pos h] at hp;cases hp
 have hd:decide (n<=(bs s).size)=false:=by rw [iL];simp;omega
 have c0:=h.c0
 clear hp
 go_enter func169,ntmps169
 go_wp2_with (go_at_call 103;refine (kW _).mono ?_;rintro e w' ⟨rfl,rfl⟩)
 exact ⟨rfl,rfl,rfl⟩
theorem zC (B n:Nat) (hn:n<=1000) (s t r:List UInt8) (g m:Int) (w:World) (h:RdB w B s g m) (hp:ou n s=some (t,r)) :
  Calls prog 169 #[.pointer (some ⟨B,0,none⟩),.int .i64 n] w fun e w'=>e=.returned (.string (bs t))/\RdB w' B r g m/\FB B w w':=by
 obtain ⟨rfl,rfl⟩:=jG.1 hp
 clear hp
 have hd:decide (t.length<=(bs (t++r)).size)=true:=by rw [iL];simp
 have c0:=h.c0
 have z0:=h.z0
 have hR:=h.rest r
 have hF:FB B w (w.setCell ⟨B,0,none⟩ (.string (bs r))):=(Fr.refl (fun i=>i=B) w).setCell ⟨B,0,none⟩ _ (fun _=>rfl)
 have e1:(bs (t++r)).extract 0 t.length=bs t:=by rw [Dq];simp
 have e2:(bs (t++r)).extract t.length (bs (t++r)).size=bs r:=by rw [Dr _ _ _ (iL _)];simp
 have l1:t.length<=(bs (t++r)).size:=by rw [iL];simp
 go_enter func169,ntmps169
 go_wp2_with (go_at_call 103;refine (kV _).mono ?_;rintro e w' ⟨rfl,rfl⟩)
 go_ret
 exact ⟨rfl,hR,hF⟩
end Go.Proofs.Ytiiifecfdkjmbaa
set_option maxHeartbeats 1000000
namespace Go.Proofs.Ytiiifecfdkjmbaa
open _root_.Go.Proofs.Try hiding checked
set_option maxRecDepth 8000
open Go.RowKit Go.Shelf
open Pu
set_option linter.unusedVariables false
set_option linter.unusedSimpArgs false
theorem AB (t:List UInt8) (k:Nat) (b:UInt8) (h:t[k]? = some b):kL (t.take (k+1))=kL (t.take k)*256+b.toNat:=by
 unfold kL
 rw [List.take_add_one,h,List.foldl_append]
 rfl
theorem q8:∀ (t:List UInt8) (a:Int),0<=a->0<=t.foldl (fun a b=>a*256+(b.toNat:Int)) a/\t.foldl (fun a b=>a*256+(b.toNat:Int)) a < (a+1)*256 ^ t.length
 | [],a,h=>by simp;omega
 | b::r,a,h=>by
  have hb:=b.toNat_lt
  have:=q8 r (a*256+b.toNat) (by omega)
  refine ⟨this.1,Int.lt_of_lt_of_le this.2 ?_⟩
  rw [List.length_cons,Int.pow_succ,Int.mul_comm (256 ^ r.length) 256,<-Int.mul_assoc]
  exact Int.mul_le_mul_of_nonneg_right (by omega) (Int.le_of_lt (Int.pow_pos (by omega)))
theorem yR (t:List UInt8) (h:t.length<=3):0<=kL t/\kL t < 16777216:=by
 have hb:=q8 t 0 (by omega)
 refine ⟨hb.1,Int.lt_of_lt_of_le hb.2 ?_⟩
 match t,h with
 | [],_=>decide
 | [_],_=>simp
 | [_,_],_=>simp
 | [_,_,_],_=>simp
theorem Dv (a b:Int) (ha:0<=a/\a < 16777216) (hb:0<=b/\b < 256):bits BinOp.or IntKind.i64 (a*256) b=a*256+b:=by
 obtain ⟨x,rfl⟩:∃ x:Nat,a=(x:Int):=⟨a.toNat,by omega⟩
 obtain ⟨y,rfl⟩:∃ y:Nat,b=(y:Int):=⟨b.toNat,by omega⟩
 have hx:x*256 < 2 ^ 64:=by omega
 have hy:y < 2 ^ 64:=by omega
 unfold bits
 have e1:BitVec.ofInt IntKind.i64.bits ((x:Int)*256)=BitVec.ofNat 64 (x*256):=by
  show BitVec.ofInt 64 ((x:Int)*256)=_
  rw [show (x:Int)*256=((x*256:Nat):Int) from by omega,BitVec.ofInt_natCast]
 have e2:BitVec.ofInt IntKind.i64.bits (y:Int)=BitVec.ofNat 64 y:=by
  show BitVec.ofInt 64 (y:Int)=_
  rw [BitVec.ofInt_natCast]
 simp only [e1,e2]
 have e3:(BitVec.ofNat 64 (x*256) ||| BitVec.ofNat 64 y).toNat=x*256+y:=by
  rw [BitVec.toNat_or,BitVec.toNat_ofNat,BitVec.toNat_ofNat,Nat.mod_eq_of_lt hx,Nat.mod_eq_of_lt hy]
  have:=Nat.two_pow_add_eq_or_of_lt (i:=8) (b:=y) (by omega) x
  rw [show 2 ^ 8*x=x*256 from by omega] at this
  exact this.symm
 have e4:((BitVec.ofNat 64 (x*256) ||| BitVec.ofNat 64 y:BitVec 64).toNat:Int)=(x:Int)*256+y:=by rw [e3];omega
 refine Eq.trans (congrArg IntKind.i64.wrap e4) (IntWalk.i64_in _ (by omega))
theorem yS (t:List UInt8) (w1:World):∃ cap w2,(convert 9 116 (.string (bs t))).run prog w1=.ok (.slice (some ⟨w1.heap.size,0,none⟩) t.length cap) w2/\Since w1 w2/\∀ (k:Nat) (b:UInt8),t[k]? = some b->w2.cell? ⟨w1.heap.size,k,none⟩=some (.int .u8 (b.toNat:Int)):=by
 have hcv:=run_bytes_of_string (P:=prog) w1 9 116 5 (bs t) (by kernel_rfl) (by kernel_rfl) (by kernel_rfl)
 rw [show (bs t).size=t.length from iL t] at hcv
 refine ⟨_,_,hcv,((Since.refl w1).drew).alloc _, ?_⟩
 intro k b hb
 have hk:=(zQ2.1 hb).1
 have h0:=World.cell?_alloc_mark w1.drew (bytesRow (bs t) (grownCap w1 t.length 0 5)) 5 ((bytesRow (bs t) (grownCap w1 t.length 0 5)).size,(bytesRow (bs t) (grownCap w1 t.length 0 5)).size+1) k
 refine h0.trans ((bytesRow_at (bs t) _ k (by show k < t.toArray.size;simpa using hk)).trans ?_)
 have:t[k]=b:=(zQ2.1 hb).2
 subst this
 rfl
theorem sU (B n:Nat) (hn:n<=3) (s:List UInt8) (g m:Int) (w:World) (h:RdB w B s g m) (hp:dh n s=none) :
  Calls prog 151 #[.pointer (some ⟨B,0,none⟩),.int .i64 n] w fun e w'=>e=.panicked (pan 1)/\w'=w:=by
 have hp':ou n s=none:=by
  unfold dh at hp
  cases hs:ou n s with
  | none=>rfl
  | some p=>rw [hs] at hp;cases hp
 go_enter func151,ntmps151
 go_wp2_with (go_at_call 169;refine (zB B n (by omega) s g m w h hp').mono ?_;rintro e w' ⟨rfl,rfl⟩)
 exact ⟨rfl,rfl,rfl⟩
theorem sV (B n:Nat) (hn:n<=3) (s r:List UInt8) (x:Int) (g m:Int) (w:World) (h:RdB w B s g m) (hp:dh n s=some (x,r)) :
  Calls prog 151 #[.pointer (some ⟨B,0,none⟩),.int .i64 n] w fun e w'=>e=.returned (.int .i64 x)/\RdB w' B r g m/\FB B w w':=by
 obtain ⟨t,rfl,rfl,rfl⟩:=jH.1 hp
 have ht:=zC B t.length (by omega) (t++r) t r g m w h (jG.2 ⟨rfl,rfl⟩)
 obtain ⟨vt,hvt⟩:∃ y,kL t=y:=⟨_,rfl⟩
 have HV:Hid (kL t=vt):=hvt
 rw [hvt]
 clear hp hvt
 go_enter func151,ntmps151
 go_wp2_with (go_at_call 169;refine ht.mono ?_;rintro e w1 ⟨rfl,hR1,hF1⟩;obtain ⟨cp,w2,hcv,hS2,hc2⟩:=yS t w1)
 have hR2:=hR1.since hS2
 have hF2:FB B w w2:=FB.trans' hF1 hS2.fb
 clear hcv hR1 hF1 h ht
 go_loop [5,13] (fun v i=>∃ k:Nat,k<=t.length/\i=.int .i64 k/\v=.int .i64 (kL (t.take k))) (fun _ i=>t.length - (intOf i).toNat)
 case atStart=>exact ⟨0,Nat.zero_le _,rfl,rfl⟩
 case round =>
  obtain ⟨k,hk,rfl,rfl⟩:=hrel
  by_cases hlt:k < t.length
  ·obtain ⟨b,hb⟩:∃ b,t[k]? = some b:=⟨_,zQ1 hlt⟩
   have c0:=hc2 k b hb
   have HST:Hid (kL (t.take (k+1))=kL (t.take k)*256+b.toNat):=AB t k b hb
   obtain ⟨a,ha⟩:∃ a,kL (t.take k)=a:=⟨_,rfl⟩
   have hb8:=b.toNat_lt
   have HA:Hid (kL (t.take k)=a):=ha
   have hbd:=yR (t.take k) (by rw [List.length_take];omega)
   rw [ha] at hbd ⊢
   clear hc2 hb ha
   go_wp2
   refine ⟨⟨k+1,by omega,by go_num, ?_⟩,by simp [intOf];omega⟩
   rw [Dv a _ hbd (by omega),HST.out,HA.out]
  ·obtain rfl:k=t.length:=by omega
   rw [List.take_length,HV.out]
   clear hc2
   go_wp2
   go_ret
   exact ⟨rfl,hR2,hF2⟩
theorem gW (B:Nat) (s:List UInt8) (g m:Int) (w:World) (h:RdB w B s g m) :
  Calls prog 128 #[.pointer (some ⟨B,0,none⟩)] w fun e w'=>FB B w w'/\((dh 1 s=none/\e=.panicked (pan 1))\/∃ x r,dh 1 s=some (x,r)/\e=.returned (.int .i64 x)/\(0<=x/\x < 256)/\RdB w' B r g m):=by
 cases hp:dh 1 s with
 | none =>
  have hn:=sU B 1 (by omega) s g m w h hp
  go_enter func128,ntmps128
  go_wp2_with (go_at_call 151;refine hn.mono ?_;rintro e w' ⟨rfl,rfl⟩)
  exact ⟨rfl,Fr.refl _ _,.inl ⟨trivial,rfl⟩⟩
 | some p =>
  obtain ⟨x,r⟩:=p
  have hn:=sV B 1 (by omega) s r x g m w h hp
  have hx:0<=x/\x < 256:=by
   obtain ⟨t,-,ht,rfl⟩:=jH.1 hp
   obtain ⟨a,rfl⟩:=len1 ht
   have:=a.toNat_lt
   rw [Ee];omega
  have HX:Hid (0<=x/\x < 256):=hx
  clear hp hx
  go_enter func128,ntmps128
  go_wp2_with (go_at_call 151;refine hn.mono ?_;rintro e w' ⟨rfl,hR,hF⟩)
  go_ret
  exact ⟨hF,.inr ⟨x,r,rfl,rfl,HX.out,hR⟩⟩
theorem qZ (B:Nat) (s:List UInt8) (g m:Int) (w:World) (h:RdB w B s g m) :
  Calls prog 152 #[.pointer (some ⟨B,0,none⟩)] w fun e w'=>FB B w w'/\((dh 3 s=none/\e=.panicked (pan 1))\/∃ x r,dh 3 s=some (x,r)/\e=.returned (.int .i64 x)/\RdB w' B r g m):=by
 cases hp:dh 3 s with
 | none =>
  have hn:=sU B 3 (by omega) s g m w h hp
  go_enter func152,ntmps152
  go_wp2_with (go_at_call 151;refine hn.mono ?_;rintro e w' ⟨rfl,rfl⟩)
  exact ⟨rfl,Fr.refl _ _,.inl ⟨trivial,rfl⟩⟩
 | some p =>
  obtain ⟨x,r⟩:=p
  have hn:=sV B 3 (by omega) s r x g m w h hp
  clear hp
  go_enter func152,ntmps152
  go_wp2_with (go_at_call 151;refine hn.mono ?_;rintro e w' ⟨rfl,hR,hF⟩)
  go_ret
  exact ⟨hF,.inr ⟨x,r,rfl,rfl,hR⟩⟩
theorem Cy (B:Nat) (s:List UInt8) (g m:Int) (w:World) (h:RdB w B s g m) :
  Calls prog 175 #[.pointer (some ⟨B,0,none⟩)] w fun e w'=>FB B w w'/\((lJ s=none/\e=.panicked (pan 1))\/∃ x r,lJ s=some (x,r)/\e=.returned (.bool x)/\RdB w' B r g m):=by
 have hsm:=gW B s g m w h
 go_enter func175,ntmps175
 go_wp2_with (go_at_call 128;refine hsm.mono ?_;rintro e w1 ⟨hF,(⟨hn,rfl⟩ | ⟨x,r,hs,rfl,hx,hR⟩)⟩)
 ·exact ⟨rfl,hF,.inl ⟨by unfold lJ;rw [hn];rfl,rfl⟩⟩
 cases hd:decide (x<=1)
 ·have HN:Hid (lJ s=none):=by unfold Hid lJ;rw [hs,ak,if_neg (by simpa using hd)]
  clear hs hsm
  go_wp2_with (go_at_call 103;refine (kW _).mono ?_;rintro e w' ⟨rfl,rfl⟩)
  exact ⟨rfl,hF,.inl ⟨HN.out,rfl⟩⟩
 ·have HN:Hid (lJ s=some (x == 1,r)):=by unfold Hid lJ;rw [hs,ak,if_pos (by simpa using hd)]
  clear hs hsm
  go_wp2_with (go_at_call 103;refine (kV _).mono ?_;rintro e w' ⟨rfl,rfl⟩)
  go_ret
  exact ⟨hF,.inr ⟨_,_,HN.out,rfl,hR⟩⟩
end Go.Proofs.Ytiiifecfdkjmbaa
