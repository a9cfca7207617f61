/- Lemmas. -/
import Derived.Test.YtiiifecfdkjmbaaRegM
import Derived.Test.YtiiifecfdkjmbaaRMoveX
import Derived.Test.YtiiifecfdkjmbaaWrNum
set_option maxHeartbeats 4000000
namespace Go.Proofs.Ytiiifecfdkjmbaa
open _root_.Go.Proofs.Try hiding checked
set_option maxRecDepth 8000
open Go.RowKit Go.Shelf
open Pu
set_option linter.unusedVariables false
set_option linter.unusedSimpArgs false
theorem Dm:ET 116 5 1 1:=qw (z:=.int .u8 0) (by kernel_rfl) (by kernel_rfl) rfl
theorem qY (f:Nat->Int):∀ j,((List.range j).flatMap fun i=>b1 (f i)).length=j
 | 0=>rfl
 | j+1=>by rw [List.range_succ,List.flatMap_append,List.length_append,qY f j];rfl
def u8V (b:UInt8):Value:=.int .u8 (b.toNat:Int)
structure Pen (lo:Nat) (w:World) (P:Nat) (s:Sl) (l:List UInt8):Prop where
 lt:P < w.heap.size
 lop:lo<=P
 c:w.cell? ⟨P,0,none⟩=some (.slice s.a l.length s.cap)
 z:w.frozen? ⟨P,0,none⟩=false
 row:Row w lo 1 s l.length (l.map u8V)
 off:¬ s.blk=some P
theorem Pen.fr {lo:Nat} {w w':World} {P:Nat} {s:Sl} {l:List UInt8} {X:Nat->Prop} (h:Pen lo w P s l) (k:Fr X w w') (hP:¬ X P) (hs:∀ b,s.blk=some b->¬ X b):Pen lo w' P s l :=
 ⟨zQ4 h.lt k.size,h.lop,(k.cell (p:=⟨P,0,none⟩) h.lt hP).trans h.c,(k.frozen (p:=⟨P,0,none⟩) h.lt hP).trans h.z,h.row.fr k hs,h.off⟩
theorem Pen.since {lo:Nat} {w w':World} {P:Nat} {s:Sl} {l:List UInt8} (h:Pen lo w P s l) (k:Since w w'):Pen lo w' P s l:=h.fr (k.fr fun _=>False) (fun x=>x) (fun _ _ x=>x)
def PX (P:Nat) (s:Sl) (i:Nat):Prop:=i=P\/s.blk=some i
def gN (n:Nat) (s s':Sl):Prop:=s'=s\/∃ b,s'.blk=some b/\n<=b
theorem gN.trans {n m:Nat} {s t u:Sl} (h:gN n s t) (k:gN m t u) (hm:n<=m):gN n s u:=by
 rcases k with rfl | ⟨b,e,hb⟩
 ·exact h
 ·exact .inr ⟨b,e,by omega⟩
theorem PX.trans {P:Nat} {s s':Sl} {a b c:World} (h:Fr (PX P s) a b) (k:Fr (PX P s') b c) (hn:gN a.heap.size s s'):Fr (PX P s) a c :=
 h.trans k (fun _ _ x=>x) (fun i hi x=>by
  rcases x with rfl | x
  ·exact .inl rfl
  ·rcases hn with rfl | ⟨b,e,hb⟩
   ·exact .inr x
   ·rw [e] at x;cases x;omega)
theorem Pen.push {lo:Nat} {w w2:World} {P:Nat} {s s':Sl} {l m:List UInt8} (h:Pen lo w P s l) (hR:Row w2 lo 1 s' (l.length+m.length) (l.map u8V++m.map u8V)) (hF:Fr (fun k=>s.blk=some k) w w2) (hS:s'=s\/(Since w w2/\s'.blk=some w.heap.size)) {W:World} (hW:w2.setCell ⟨P,0,none⟩ (.slice s'.a (l.length+m.length) s'.cap)=W) :
  Pen lo W P s' (l++m)/\Fr (PX P s) w W/\gN w.heap.size s s':=by
 have hc:=(hF.cell (p:=⟨P,0,none⟩) h.lt h.off).trans h.c
 have hz:=(hF.frozen (p:=⟨P,0,none⟩) h.lt h.off).trans h.z
 have hoff:¬ s'.blk=some P:=by
  rcases hS with rfl | ⟨_,e⟩
  ·exact h.off
  ·intro e2;rw [e] at e2;cases e2;have:=h.lt;omega
 have k:Fr (fun i=>i=P) w2 W:=by rw [<-hW];exact (Fr.refl (fun i=>i=P) w2).setCell ⟨P,0,none⟩ _ (fun _=>rfl)
 refine ⟨⟨zQ4 h.lt (zQ5 hF.size k.size),h.lop, ?_, ?_, ?_,hoff⟩,hF.trans k (fun _ _ x=>.inr x) (fun _ _ x=>.inl x), ?_⟩
 ·rw [<-hW,List.length_append];exact dP _ _ _ _ hc
 ·rw [<-hW,World.frozen?_setCell];exact hz
 ·rw [List.length_append,List.map_append];exact hR.fr k (fun b hb e=>hoff (e ▸ hb))
 ·rcases hS with rfl | ⟨_,e⟩
  ·exact .inl rfl
  ·exact .inr ⟨_,e,Nat.le_refl _⟩
def je (sz:Nat) (x:Int):List UInt8:=(List.range sz).flatMap fun i=>b1 (x / 2 ^ (8*(sz - 1 - i)))
theorem qW (x:Int):je 1 x=b1 x:=by unfold je;simp [List.range_succ]
theorem yH (x:Int):je 3 x=b3 x:=by unfold je b3;simp [List.range_succ]
theorem Ct (sz:Nat) (x:Int):(je sz x).length=sz:=qY _ sz
theorem Fe (n:Int):b1 n=[UInt8.ofNat (n % 256).toNat]:=rfl
theorem Fg (n:Int):u8V (UInt8.ofNat (n % 256).toNat)=.int .u8 (n % 256):=by
 unfold u8V
 have:((UInt8.ofNat (n % 256).toNat).toNat:Int)=n % 256:=by simp;omega
 rw [this]
theorem gV (sz:Nat) (xs:List Int):(xs.flatMap (je sz)).length=sz*xs.length:=by
 induction xs with
 | nil=>simp
 | cons x r ih=>rw [List.flatMap_cons,List.length_append,ih,Ct,List.length_cons,Nat.mul_add];omega
theorem Ay {o:Oper} {a:Act} {C:World->Prop} {K:Act->Prop} {x y:Operand} {n:Int} {t:Nat} (hop:o.op=.binOp .shr 3 x y 3) (hx:a.eval x=.int .i64 n) (hy:a.eval y=.int .i64 (8*(t:Int))) (ht:t<=2) (hK:K (a.put o.dst (.int .i64 (n / 2 ^ (8*t))))):o.quiet prog a C K:=by
 refine ⟨.int .i64 (n / 2 ^ (8*t)),fun w _=>?_,hK⟩
 have hm:min (8*(t:Int)).toNat IntKind.i64.bits=8*t:=by show min _ 64=_;omega
 have hr:(binOp .shr 3 (.int .i64 n) (.int .i64 (8*(t:Int)))).run prog w=.ok (.int .i64 (n / 2 ^ (8*t))) w:=by
  rw [binOp_shr,shift_shr_any _ _ _ _ (by omega),hm];rfl
 obtain ⟨dst,op,ty,pos,after,guard⟩:=o
 dsimp only at hop
 subst hop
 unfold Oper.quietAt
 simp only [execOp]
 rw [hx,hy]
 simp only [Sem.run_bind,Sem.run_pure]
 rw [show (eqGuard BinOp.shr 3 x y (Value.int IntKind.i64 n) (Value.int IntKind.i64 (8*(t:Int)))).run prog w=.ok () w from rfl]
 simp only [Result.andThen]
 rw [hr]
 simp [go_sem,Oper.quietUpon]
theorem Cu {o:Oper} {a:Act} {C:World->Prop} {K:Act->Prop} {x:Operand} {n:Int} (hop:o.op=.convert 3 5 x) (hx:a.eval x=.int .i64 n) (hK:K (a.put o.dst (.int .u8 (n % 256)))):o.quiet prog a C K:=by
 have hw:IntKind.u8.wrap n=n % 256:=rfl
 refine ⟨.int .u8 (n % 256),fun w _=>?_,hK⟩
 have hr:(convert 3 5 (.int .i64 n)).run prog w=.ok (.int .u8 (n % 256)) w:=by
  simp [go_sem,underlying5,underlying3,hw]
 obtain ⟨dst,op,ty,pos,after,guard⟩:=o
 dsimp only at hop
 subst hop
 unfold Oper.quietAt
 simp only [execOp]
 rw [hx]
 simp only [Sem.run_bind,Sem.run_pure]
 rw [hr]
 simp [go_sem,Oper.quietUpon]
attribute [local go_sem] Oper.semAt_some
set_option maxRecDepth 8000 in
theorem dQ (lo P sz:Nat) (hsz:sz<=3) (a:Option Addr) (len cap:Nat) (xs:List Int) (s:Sl) (l:List UInt8) (w:World) (h:Pen lo w P s l) (hI:Ints w a len xs) (hab:0 < len->∀ b off,a=some ⟨b,off,none⟩->¬ PX P s b) (hlen:l.length+sz*len<=100000000) :
  Calls prog 98 #[.pointer (some ⟨P,0,none⟩),.int .i64 sz,.slice a len cap] w fun e w'=>e=.returned (.tuple #[])/\∃ s',Pen lo w' P s' (l++xs.flatMap (je sz))/\Fr (PX P s) w w'/\gN w.heap.size s s':=by
 obtain ⟨rfl,hmax,hc0⟩:=hI
 go_enter func98,ntmps98
 go_wp2_with fail
 go_loopw [11] (fun i wr=>∃ (k:Nat) (s':Sl),k<=xs.length/\i=.int .i64 k/\Pen lo wr P s' (l++(xs.take k).flatMap (je sz))/\Fr (PX P s) w wr/\gN w.heap.size s s') (fun i _=>xs.length - (intOf i).toNat)
 case atStart=>exact ⟨0,s,Nat.zero_le _,rfl,by simpa using h,Fr.refl _ _,.inl rfl⟩
 case round =>
  obtain ⟨wo,rfl⟩:∃ wo,wo=wr:=⟨_,rfl⟩
  obtain ⟨k,s1,hk,rfl,hP,hF,hN⟩:=hrel
  by_cases hlt:k < xs.length
  ·obtain ⟨x,hx⟩:∃ x,xs[k]? = some x:=⟨_,zQ1 hlt⟩
   obtain ⟨b,off,ea,hb,hc⟩:=hc0 (by omega)
   have hXb:=hab (by omega) b off ea
   have HT:Hid ((xs.take (k+1)).flatMap (je sz)=(xs.take k).flatMap (je sz)++je sz x):=by unfold Hid;rw [List.take_add_one,hx];simp
   subst ea
   have c0:wo.cell? ⟨b,off+k,none⟩=some (.int .i64 x):=by
    have:=(hF.cell (p:=⟨b,off+k,none⟩) hb hXb).trans (hc k hlt)
    rwa [hx] at this
   have k1:(k:Int) < (xs.length:Int):=by omega
   have HL:Hid (l.length+sz*k+sz<=100000000):=by
    unfold Hid
    have:sz*(k+1)<=sz*xs.length:=Nat.mul_le_mul_left _ hlt
    rw [Nat.mul_add] at this;omega
   obtain ⟨l1,hl1⟩:∃ y,l++(xs.take k).flatMap (je sz)=y:=⟨_,rfl⟩
   have HL1:Hid (l++(xs.take k).flatMap (je sz)=l1):=hl1
   have hll:l1.length=l.length+sz*k:=by rw [<-hl1,List.length_append,gV,List.length_take];congr 2;omega
   rw [hl1] at hP
   have HLL:Hid (l1.length+sz<=100000000):=by have:=HL.out;unfold Hid;omega
   clear hl1 hll hx hc
   go_wp2_with fail
   clear c0
   go_loopw [8] (fun i wr=>∃ (j:Nat) (s2:Sl),j<=sz/\i=.int .i64 ((sz:Int) - 1 - j)/\Pen lo wr P s2 (l1++(List.range j).flatMap (fun i=>b1 (x / 2 ^ (8*(sz - 1 - i)))))/\Fr (PX P s) w wr/\gN w.heap.size s s2) (fun i _=>(intOf i+1).toNat)
   case atStart=>exact ⟨0,s1,Nat.zero_le _,by simp,by simpa using hP,hF,hN⟩
   case round =>
    obtain ⟨wi,rfl⟩:∃ wi,wi=wr:=⟨_,rfl⟩
    obtain ⟨j,s2,hj,rfl,hP2,hF2,hN2⟩:=hrel
    by_cases hjl:j < sz
    ·obtain ⟨t,ht,ht2,ht3⟩:∃ t:Nat,(sz:Int) - 1 - j=(t:Int)/\t<=2/\sz - 1 - j=t:=⟨sz - 1 - j,by omega,by omega,rfl⟩
     have HTT:Hid (sz - 1 - j=t):=ht3
     have HTI:Hid ((sz:Int) - 1 - j=(t:Int)):=ht
     rw [ht]
     obtain ⟨l2,hl2⟩:∃ y,l1++(List.range j).flatMap (fun i=>b1 (x / 2 ^ (8*(sz - 1 - i))))=y:=⟨_,rfl⟩
     have HL2:Hid (l1++(List.range j).flatMap (fun i=>b1 (x / 2 ^ (8*(sz - 1 - i))))=l2):=hl2
     have JQ:l2.length<=100000000:=by
      rw [<-hl2,List.length_append]
      have:((List.range j).flatMap (fun i=>b1 (x / 2 ^ (8*(sz - 1 - i))))).length=j:=qY _ j
      have:=HLL.out
      omega
     rw [hl2] at hP2
     clear hl2 ht ht3 hP hN hF
     obtain ⟨q,hq⟩:∃ q,(x / 2 ^ (8*t)) % 256=q:=⟨_,rfl⟩
     have HQ:Hid ((x / 2 ^ (8*t)) % 256=q):=hq
     clear hq
     go_wp2_with fail
     obtain ⟨W0,hW0⟩:∃ y,wi.drew=y:=⟨_,rfl⟩
     have hs0:=iW hW0
     obtain ⟨S0,hS0⟩:∃ S0:World->Prop,∀ w',S0 w'↔Since wi w':=⟨_,fun _=>Iff.rfl⟩
     have c0:∀ y:aB S0,y.w.cell? ⟨P,0,none⟩=some (.slice s2.a l2.length s2.cap):=fun y=>(hP2.since ((hS0 _).1 y.h)).c
     have aN:=(hS0 W0).2 hs0
     have hne:Nonempty (aB S0):=⟨⟨_,aN⟩⟩
     have xP:=lu w
     obtain ⟨W1,hW1⟩:∃ y,W0.alloc (.cells #[.int .u8 q] 5)=y:=⟨_,rfl⟩
     have Jj:=au hW1
     have hs1:=hs0.trans Jj
     have hsrc:Src prog 1 116 (.slice (some ⟨W0.heap.size,0,none⟩) 1 1) 1 [.int .u8 q] W1:=by
      rw [<-hW1];exact dB (size:=1) Dm.und [.int .u8 q] rfl (fun u hu=>by simp at hu;subst hu;rfl) 1
     have hP3:=hP2.since hs1
     have G5:=(hS0 W1).2 hs1
     have hlo1:lo<=W1.heap.size:=zQ5 hP3.lop (Nat.le_of_lt hP3.lt)
     have hrow3:=hP3.row
     have hd8:wrap64 (8*(t:Int))=8*(t:Int):=IntWalk.wrap64_in _ (by omega)
     refine p8 (fun w'=>∃ x:aB S0,w'=x.w) (by kernel_rfl) ?_
     rw [hW0]
     clear hW0
     refine tW 0 rfl ?_;go_big_quiet_op
     refine tW 1 rfl ?_;go_big_quiet_op
     refine tW 2 rfl ?_;go_big_quiet_op
     refine tW 3 rfl ?_;go_big_quiet_op
     refine tM 4 rfl (ah aN) ?_;go_big_quiet_op
     refine tW 5 rfl ?_;go_big_quiet_op
     refine tW 6 rfl ?_;go_big_quiet_op
     refine tW 7 rfl ?_;go_big_quiet_op
     refine tW 8 rfl ?_
     refine Ay (n:=x) (t:=t) rfl rfl rfl ht2 ?_
     simp only [Act.put,zQ7,zQ8,zQ9]
     refine tM 9 rfl (ah aN) ?_
     refine Cu (n:=x / 2 ^ (8*t)) rfl rfl ?_
     rw [HQ.out]
     simp only [Act.put,zQ7,zQ8,zQ9]
     refine lC 10 rfl (by kernel_rfl) ?_
     intro K hK
     go_simp
     refine hK _ _ (fun _ _=>ah G5) ?_
     clear hK K
     refine lC 11 rfl (by kernel_rfl) ?_
     intro K hK
     refine dw Dm (by rfl) _ _ 116 (by rfl) (by rfl) hrow3 (by rfl) hsrc (by omega) hlo1 ?_
     intro sa' sc' W6 lX hF6 hB6
     have hnB:=hP3.off
     have y3:=(hF6.cell (p:=⟨P,0,none⟩) hP3.lt hnB).trans hP3.c
     have z3:=(hF6.frozen (p:=⟨P,0,none⟩) hP3.lt hnB).trans hP3.z
     obtain ⟨W7,hW7⟩:∃ y,W6.setCell ⟨P,0,none⟩ (.slice sa' (l2.length+1) sc')=y:=⟨_,rfl⟩
     have hq2:[Value.int .u8 q]=(b1 (x / 2 ^ (8*t))).map u8V:=by rw [Fe,List.map_cons,Fg,HQ.out];rfl
     rw [hq2] at lX
     obtain ⟨hP7,hF7,hN7⟩:=hP3.push (s':=⟨sa',sc'⟩) (m:=b1 (x / 2 ^ (8*t))) lX hF6 hB6 hW7
     clear lX hF6 hB6 hq2 hnB
     refine hK _ _ (fun h=>absurd h (by decide +kernel)) ?_
     clear hK K
     simp only [Act.put,zQ7,zQ8,zQ9]
     refine tW 12 rfl ?_;go_big_quiet_op
     refine tW 13 rfl ?_;go_big_quiet_op
     refine lC 14 rfl (by kernel_rfl) ?_
     intro K hK
     go_simp
     refine hK _ _ (fun h=>absurd h (by decide +kernel)) ?_
     clear hK K
     refine su (by kernel_rfl) ?_
     clear c0 hne aN G5 hS0 y3 z3
     go_wp2
     have hN3:gN wi.heap.size s2 ⟨sa',sc'⟩:=by
      rcases hN7 with e | ⟨b',e,hb'⟩
      ·exact .inl e
      ·exact .inr ⟨b',e,zQ5 hs1.size hb'⟩
     have hF3:Fr (PX P s2) wi W7:=(hs1.fr _).trans hF7 (fun _ _ x=>x) (fun _ _ x=>x)
     refine ⟨⟨j+1,⟨sa',sc'⟩,by omega, ?_, ?_,PX.trans hF2 hF3 hN2,hN2.trans hN3 hF2.size⟩,by simp [intOf]⟩
     ·have:=HTI.out;congr 1;omega
     ·rw [List.range_succ,List.flatMap_append,<-List.append_assoc,HL2.out]
      have e:List.flatMap (fun i=>b1 (x / 2 ^ (8*(sz - 1 - i)))) [j]=b1 (x / 2 ^ (8*t)):=by simp [HTT.out]
      rw [e];exact hP7
    ·obtain rfl:j=sz:=by omega
     go_wp2
     refine ⟨⟨k+1,s2,by omega,by go_num, ?_,hF2,hN2⟩,by simp [intOf];omega⟩
     rw [HT.out,<-List.append_assoc,HL1.out];exact hP2
  ·obtain rfl:k=xs.length:=by omega
   rw [List.take_length] at hP
   go_wp2
   go_end0
   exact ⟨rfl,s1,hP,hF,hN⟩
end Go.Proofs.Ytiiifecfdkjmbaa
