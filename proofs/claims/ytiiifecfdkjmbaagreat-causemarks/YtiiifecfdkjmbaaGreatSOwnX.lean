/- Lemmas. -/
import Derived.Test.YtiiifecfdkjmbaaGreatOwnX
import Derived.Test.YtiiifecfdkjmbaaGreatRegM
set_option maxHeartbeats 1000000
namespace Go.Proofs.YtiiifecfdkjmbaaGreat
open _root_.Go.Proofs.Tryz hiding checked
set_option maxRecDepth 8000
open Go.RowKit Go.Shelf
theorem Px {p o q:Nat} (h:o≠q):(⟨p,o,none⟩:Addr)≠⟨p,q,none⟩:=fun e=>h (by injection e)
theorem bJ (w:World) (p:Nat) {o q:Nat} (v:Value) (h:o≠q):(w.setCell ⟨p,o,none⟩ v).cell? ⟨p,q,none⟩=w.cell? ⟨p,q,none⟩:=World.cell?_setCell_other _ _ _ _ (Px h)
theorem kK (w:World) (p o:Nat) (v:Value) {u:Value} (h:w.cell? ⟨p,o,none⟩=some u):(w.setCell ⟨p,o,none⟩ v).cell? ⟨p,o,none⟩=some v:=World.cell?_setCell_same' _ _ _ (by rw [h];rfl)
def y8 (w:World) (p:Nat) (a b c:Value):World:=((w.setCell ⟨p,0,none⟩ a).setCell ⟨p,1,none⟩ b).setCell ⟨p,2,none⟩ c
theorem pI {w:World} {p:Nat} {a b c u:Value} (h:w.cell? ⟨p,0,none⟩=some u):(y8 w p a b c).cell? ⟨p,0,none⟩=some a :=
 (bJ _ _ _ (by decide)).trans ((bJ _ _ _ (by decide)).trans (kK _ _ _ _ h))
theorem pJ {w:World} {p:Nat} {a b c u:Value} (h:w.cell? ⟨p,1,none⟩=some u):(y8 w p a b c).cell? ⟨p,1,none⟩=some b :=
 (bJ _ _ _ (by decide)).trans (kK _ _ _ _ ((bJ _ _ _ (by decide)).trans h))
theorem pK {w:World} {p:Nat} {a b c u:Value} (h:w.cell? ⟨p,2,none⟩=some u):(y8 w p a b c).cell? ⟨p,2,none⟩=some c :=
 kK _ _ _ _ ((bJ _ _ _ (by decide)).trans ((bJ _ _ _ (by decide)).trans h))
theorem MF (w:World) (p:Nat) (a b c:Value) {o:Nat} (h:2 < o):(y8 w p a b c).cell? ⟨p,o,none⟩=w.cell? ⟨p,o,none⟩ :=
 (bJ _ _ _ (by omega)).trans ((bJ _ _ _ (by omega)).trans (bJ _ _ _ (by omega)))
theorem gT (w:World) (p:Nat) (a b c:Value) (x:Addr):(y8 w p a b c).frozen? x=w.frozen? x:=by
 unfold y8;rw [World.frozen?_setCell,World.frozen?_setCell,World.frozen?_setCell]
theorem dN (w:World) (p:Nat) (a b c:Value):Fr (fun i=>i=p) w (y8 w p a b c):=by
 have h0:Fr (fun i=>i=p) w w:=Fr.refl _ _;exact ((h0.setCell ⟨p,0,none⟩ a (fun _=>rfl)).setCell ⟨p,1,none⟩ b (fun _=>rfl)).setCell ⟨p,2,none⟩ c (fun _=>rfl)
open Pu
set_option linter.unusedVariables false
set_option linter.unusedSimpArgs false
theorem LV {w:World} {len:Nat} {xs:List Int} (h:Ints w none len xs):len=0/\xs=[]:=by
 have hl:=h.hlen;by_cases h0:0 < len
 ·obtain ⟨b,off,e,_⟩:=h.cells h0;cases e
 ·have:len=0:=by omega
  subst this;exact ⟨rfl,zQ6 hl⟩
theorem LW {w:World} {len:Nat} {xs:List Mg} (h:fA w none len xs):len=0/\xs=[]:=by
 have hl:=h.hlen;by_cases h0:0 < len
 ·obtain ⟨b,off,e,_⟩:=h.cells h0;cases e
 ·have:len=0:=by omega
  subst this;exact ⟨rfl,zQ6 hl⟩
theorem pO (a:Option Addr) (len cap:Nat) (xs:List Int) (w:World) (hI:Ints w a len xs) (hl:len<=1000) :
  Calls prog 164 #[.slice a len cap] w fun e w'=>∃ s:Sl,e=.returned (s.v xs.length)/\Row w' w.heap.size 1 s xs.length (xs.map kR)/\Since w w':=by
 cases a with
 | none =>
  obtain ⟨rfl,rfl⟩:=LV hI;have hnil:∀ W,(binOp .eql 22 (.slice none 0 cap) (.slice none 0 0)).run prog W=.ok (.bool true) W:=fun W=>by kernel_rfl
  go_enter func164,ntmps164
  go_wp2
  go_ret
  exact ⟨⟨none,0⟩,rfl,Row.nil _ _ _,Since.refl _⟩
 | some ad =>
  have hlen:=hI.hlen;obtain ⟨w2,hw2⟩:∃ w2,w.alloc (.cells #[] 3)=w2:=⟨_,rfl⟩;have hS2:=ay hw2;have hR2:Row w2 w.heap.size 1 ⟨some ⟨w.heap.size,0,none⟩,0⟩ 0 []:=by rw [<-hw2];exact Row.empty w _ 1 _
  have hsrc:=xu (c:=cap) (hI.since hS2);have hnil:∀ W,(binOp .eql 22 (.slice (some ad) len cap) (.slice none 0 0)).run prog W=.ok (.bool false) W:=fun W=>by kernel_rfl
  go_enter func164,ntmps164
  go_wp2_with (at_builtin;refine gQ FU rfl _ _ 22 rfl rfl hR2 rfl hsrc (by omega) hS2.size ?_;intro ga gc w3 hR3 hF3 hB3)
  simp only [Nat.zero_add,List.nil_append] at hR3;have hS3:Since w2 w3:=hF3.since (fun i _ e=>by unfold Sl.blk at e;simp at e)
  go_ret
  refine ⟨⟨ga,gc⟩, ?_, ?_,hS2.trans hS3⟩
  ·simp [Sl.v,hlen]
  ·rw [hlen];exact hR3
theorem qd (a:Option Addr) (len cap:Nat) (xs:List Mg) (w:World) (hI:fA w a len xs) (hl:len<=1000) :
  Calls prog 190 #[.slice a len cap] w fun e w'=>∃ s:Sl,e=.returned (s.v xs.length)/\Row w' w.heap.size 5 s xs.length (flat xs)/\Since w w':=by
 cases a with
 | none =>
  obtain ⟨rfl,rfl⟩:=LW hI;have hnil:∀ W,(binOp .eql 39 (.slice none 0 cap) (.slice none 0 0)).run prog W=.ok (.bool true) W:=fun W=>by kernel_rfl
  go_enter func190,ntmps190
  go_wp2
  go_ret
  exact ⟨⟨none,0⟩,rfl,Row.nil _ _ _,Since.refl _⟩
 | some ad =>
  have hlen:=hI.hlen;obtain ⟨w2,hw2⟩:∃ w2,w.alloc (.cells #[] 42)=w2:=⟨_,rfl⟩;have hS2:=ay hw2;have hR2:Row w2 w.heap.size 5 ⟨some ⟨w.heap.size,0,none⟩,0⟩ 0 []:=by rw [<-hw2];exact Row.empty w _ 5 _
  have hsrc:=ji (c:=cap) (hI.since hS2);have hnil:∀ W,(binOp .eql 39 (.slice (some ad) len cap) (.slice none 0 0)).run prog W=.ok (.bool false) W:=fun W=>by kernel_rfl
  go_enter func190,ntmps190
  go_wp2_with (at_builtin;refine gQ iE rfl _ _ 39 rfl rfl hR2 rfl hsrc (by omega) hS2.size ?_;intro ga gc w3 hR3 hF3 hB3)
  simp only [Nat.zero_add,List.nil_append] at hR3;have hS3:Since w2 w3:=hF3.since (fun i _ e=>by unfold Sl.blk at e;simp at e)
  go_ret
  refine ⟨⟨ga,gc⟩, ?_, ?_,hS2.trans hS3⟩
  ·simp [Sl.v,hlen]
  ·rw [hlen];exact hR3
abbrev Hd:=Value × Value × Value
def iJ (ns:List Nd) (H:Nat->Hd) (i:Nat):List Value:=[kR (ns[i]?.getD ⟨0,[],[],[]⟩).clock,(H i).1,(H i).2.1,(H i).2.2]
def gy (ns:List Nd) (H:Nat->Hd):List Value:=(List.range ns.length).flatMap (iJ ns H)
def Ju (w:World) (ns:List Nd) (H:Nat->Hd):Prop:=∀ i x,ns[i]? = some x->oH yR w (H i).1 x.last/\nO w (H i).2.1 x.held/\nO w (H i).2.2 x.told
theorem Ju.since {w w':World} {ns:List Nd} {H:Nat->Hd} (h:Ju w ns H) (k:Since w w'):Ju w' ns H:=fun i x hx =>
 ⟨og kW _ _ _ _ k (h i x hx).1,jT _ _ _ _ k (h i x hx).2.1,jT _ _ _ _ k (h i x hx).2.2⟩
theorem J9 (ns:List Nd) (H:Nat->Hd):(gy ns H).length=ns.length*4:=sD (f:=iJ ns H) (sz:=4) (fun _=>rfl) _
theorem Ka {ns:List Nd} {H:Nat->Hd} {i j:Nat} (hi:i < ns.length) (hj:j < 4):(gy ns H)[i*4+j]? = (iJ ns H i)[j]?:=sw (f:=iJ ns H) (sz:=4) (fun _=>rfl) i j hi hj
theorem GY {α:Type} {P:World->Value->α->Prop} {w:World} {v:Value} {xs:List α} (h:oH P w v xs):v.oneCell'=true:=by obtain ⟨a,c,rfl,_⟩:=h;rfl
theorem Da {w:World} {v:Value} {xs:List Mg} (h:nO w v xs):v.oneCell'=true:=by obtain ⟨a,c,rfl,_⟩:=h;rfl
theorem Py {w:World} {ns:List Nd} {H:Nat->Hd} (h:Ju w ns H):∀ u∈gy ns H,u.oneCell'=true:=by
 intro u hu;unfold gy at hu;obtain ⟨i,hi,hu⟩:=List.mem_flatMap.1 hu;rw [List.mem_range] at hi;obtain ⟨h1,h2,h3⟩:=h i _ (zQ1 hi);unfold iJ at hu;simp only [List.mem_cons,List.not_mem_nil,or_false] at hu;rcases hu with rfl | rfl | rfl | rfl
 ·rfl
 ·exact GY h1
 ·exact Da h2
 ·exact Da h3
theorem LU {w:World} {a:Option Addr} {len:Nat} {ns:List Nd} (h:Nodes w a len ns):∃ H:Nat->Hd,Ju w ns H/\(0 < len->∃ b off,a=some ⟨b,off,none⟩/\b < w.heap.size/\∀ j u,(gy ns H)[j]? = some u->w.cell? ⟨b,off+j,none⟩=some u):=by
 have hl:=h.hlen;by_cases h0:0 < len
 ·obtain ⟨b,off,rfl,hb,hc⟩:=h.cells h0
  have hex:∀ i:Nat,∃ v:Hd,∀ x,ns[i]? = some x->w.cell? ⟨b,off+i*4+1,none⟩=some v.1/\w.cell? ⟨b,off+i*4+2,none⟩=some v.2.1/\w.cell? ⟨b,off+i*4+3,none⟩=some v.2.2/\oH yR w v.1 x.last/\nO w v.2.1 x.held/\nO w v.2.2 x.told:=by
   intro i
   cases hx:ns[i]? with
   | none=>exact ⟨(undef,undef,undef),fun x hx'=>by cases hx'⟩
   | some x =>
    obtain ⟨_,⟨v1,c1,p1⟩,⟨v2,c2,p2⟩,⟨v3,c3,p3⟩⟩:=hc i x hx;exact ⟨(v1,v2,v3),fun y hy=>by cases hy;exact ⟨c1,c2,c3,p1,p2,p3⟩⟩
  obtain ⟨H,hH⟩:=Classical.axiomOfChoice hex;refine ⟨H,fun i x hx=>⟨(hH i x hx).2.2.2.1,(hH i x hx).2.2.2.2.1,(hH i x hx).2.2.2.2.2⟩,fun _=>⟨b,off,rfl,hb,fun j u hj=>?_⟩⟩;have hjl:=(zQ2.1 hj).1;rw [J9] at hjl;obtain ⟨x,hx⟩:∃ x,ns[j / 4]? = some x:=⟨_,zQ1 (by omega)⟩;have hg:=Ka (H:=H) (i:=j / 4) (j:=j % 4) (ns:=ns) (by omega) (by omega);rw [show j / 4*4+j % 4=j from by omega,hj] at hg;obtain ⟨e1,e2,e3,_⟩:=hH _ _ hx;have e0:=(hc _ _ hx).clk;have hm:j % 4=0\/j % 4=1\/j % 4=2\/j % 4=3:=by omega
  unfold iJ at hg;rw [hx] at hg
  rcases hm with hm | hm | hm | hm <;> rw [hm] at hg <;> simp at hg <;> subst hg
  ·rw [show off+j=off+j / 4*4 from by omega];exact e0
  ·rw [show off+j=off+j / 4*4+1 from by omega];exact e1
  ·rw [show off+j=off+j / 4*4+2 from by omega];exact e2
  ·rw [show off+j=off+j / 4*4+3 from by omega];exact e3
 ·refine ⟨fun _=>(undef,undef,undef),fun i x hx=>?_,fun h=>absurd h h0⟩;have:=(zQ2.1 hx).1;omega
theorem LX {w:World} {a:Option Addr} {n c:Nat} {ns:List Nd} {H:Nat->Hd} (hl:ns.length=n) (hH:Ju w ns H) (hc:0 < n->∃ b off,a=some ⟨b,off,none⟩/\b < w.heap.size/\∀ j u,(gy ns H)[j]? = some u->w.cell? ⟨b,off+j,none⟩=some u):Src prog 4 23 (.slice a n c) n (gy ns H) w :=
 yh mP.und (by rw [J9,hl]) (Py hH) (fun h=>by obtain ⟨b,off,e,_,hcl⟩:=hc h;exact ⟨b,off,e,hcl⟩)
theorem Bt (a:Option Addr) (len cap:Nat) (ns:List Nd) (H:Nat->Hd) (w:World) (hl:ns.length=len) (hmx:len<=1000) (hH:Ju w ns H)
  (hc:0 < len->∃ b off,a=some ⟨b,off,none⟩/\b < w.heap.size/\∀ j u,(gy ns H)[j]? = some u->w.cell? ⟨b,off+j,none⟩=some u) :
  Calls prog 188 #[.slice a len cap] w fun e w'=>∃ s:Sl,e=.returned (s.v ns.length)/\Row w' w.heap.size 4 s ns.length (gy ns H)/\Since w w':=by
 cases a with
 | none =>
  have h0:len=0:=by
   by_cases h0:0 < len
   ·obtain ⟨b,off,e,_⟩:=hc h0;cases e
   ·omega
  subst h0;have hn:ns=[]:=zQ6 hl;subst hn;have hnil:∀ W,(binOp .eql 23 (.slice none 0 cap) (.slice none 0 0)).run prog W=.ok (.bool true) W:=fun W=>by kernel_rfl
  go_enter func188,ntmps188
  go_wp2
  go_ret
  exact ⟨⟨none,0⟩,rfl,Row.nil _ _ _,Since.refl _⟩
 | some ad =>
  obtain ⟨w2,hw2⟩:∃ w2,w.alloc (.cells #[] 45)=w2:=⟨_,rfl⟩;have hS2:=ay hw2;have hR2:Row w2 w.heap.size 4 ⟨some ⟨w.heap.size,0,none⟩,0⟩ 0 []:=by rw [<-hw2];exact Row.empty w _ 4 _
  have hsrc:Src prog 4 23 (.slice (some ad) len cap) len (gy ns H) w2:=LX hl (hH.since hS2) (fun h=>by
   obtain ⟨b,off,e,hb,hcl⟩:=hc h;exact ⟨b,off,e,zQ4 hb hS2.size,fun j u hj=>(hS2.cellAt hb _).trans (hcl j u hj)⟩)
  clear hc hH;have hnil:∀ W,(binOp .eql 23 (.slice (some ad) len cap) (.slice none 0 0)).run prog W=.ok (.bool false) W:=fun W=>by kernel_rfl
  go_enter func188,ntmps188
  go_wp2_with (at_builtin;refine gQ mP rfl _ _ 23 rfl rfl hR2 rfl hsrc (by omega) hS2.size ?_;intro ga gc w3 hR3 hF3 hB3)
  simp only [Nat.zero_add,List.nil_append] at hR3;have hS3:Since w2 w3:=hF3.since (fun i _ e=>by unfold Sl.blk at e;simp at e)
  go_ret
  refine ⟨⟨ga,gc⟩, ?_, ?_,hS2.trans hS3⟩
  ·simp [Sl.v,hl]
  ·rw [hl];exact hR3
theorem take_set {α:Type} (xss:List (List α)) (j:Nat) (xs:List α) (hx:xss[j]? = some xs):(xss.take j++List.replicate (xss.length - j) []).set j xs=xss.take (j+1)++List.replicate (xss.length - (j+1)) []:=by
 have hj:=(zQ2.1 hx).1;obtain ⟨m,hm⟩:∃ m,xss.length - j=m+1:=⟨xss.length - j - 1,by omega⟩;have ht:(xss.take j).length=j:=by simp;omega
 rw [hm,List.replicate_succ,List.set_append_right _ _ (by omega),ht,Nat.sub_self,zQ8,List.take_add_one,hx,show xss.length - (j+1)=m from by omega];simp
theorem Bu (a:Option Addr) (cap:Nat) (xss:List (List Int)) (w:World) (hI:Slices yR w a xss.length xss) (hl:xss.length<=1000) (hls:∀ (k:Nat) (xs:List Int),xss[k]? = some xs->xs.length<=1000) :
  Calls prog 189 #[.slice a xss.length cap] w fun e w'=>∃ (s:Sl) (rs:Nat->Sl),e=.returned (s.v xss.length)/\bC 1 qw w.heap.size w' s rs xss/\Since w w':=by
 have hmk:=fun y=>run_make_row' (P:=prog) 43 22 (.slice none 0 0) 24 (by kernel_rfl) (by kernel_rfl) rfl .i64 .i64 xss.length (by omega) (by omega) y;obtain ⟨w1,hw1⟩:∃ w1,w.alloc (.cells (madeCells #[.slice none 0 0] xss.length) 22)=w1:=⟨_,rfl⟩;have hS1:=ay hw1
 have ze:bC 1 qw w.heap.size w1 ⟨some ⟨w.heap.size,0,none⟩,xss.length⟩ (fun _=>⟨none,0⟩) (List.replicate xss.length ([]:List Int)):=by
  rw [<-hw1];exact bC.made rfl w.heap.size w xss.length _ (Nat.le_refl _) (by unfold maxLen;omega)
 have HC:Hid (0 < xss.length->∃ b off,a=some ⟨b,off,none⟩/\b < w.heap.size/\∀ i x,xss[i]? = some x->∃ v,w.cell? ⟨b,off+i,none⟩=some v/\yR w v x):=hI.cells;clear hI
 go_enter func189,ntmps189
 go_wp2
 go_loopw [11] (fun i wr=>∃ (j:Nat) (rs:Nat->Sl),j<=xss.length/\i=.int .i64 j/\bC 1 qw w.heap.size wr ⟨some ⟨w.heap.size,0,none⟩,xss.length⟩ rs (xss.take j++List.replicate (xss.length - j) [])/\Since w wr) (fun i _=>xss.length - (intOf i).toNat)
 case atStart=>exact ⟨0,_,Nat.zero_le _,rfl,by simpa using ze,hS1⟩
 case round =>
  clear ze hw1 hS1 hmk;obtain ⟨wo,rfl⟩:∃ wo,wo=wr:=⟨_,rfl⟩;obtain ⟨j,rs,hj,rfl,hLL,hS⟩:=hrel;by_cases hlt:j < xss.length
  ·obtain ⟨xs,hx⟩:∃ xs,xss[j]? = some xs:=⟨_,zQ1 hlt⟩;obtain ⟨b,off,rfl,hb,hcell⟩:=HC.out (by omega);obtain ⟨v,hv,ra,rc,rfl,hrc,hR⟩:=hcell j xs hx;have f0:wo.cell? ⟨b,off+j,none⟩=some (.slice ra xs.length rc):=(hS.cellAt hb _).trans hv;have n1:(j:Int) < (xss.length:Int):=by omega
   have hlen:(xss.take j++List.replicate (xss.length - j) ([]:List Int)).length=xss.length:=by simp;omega
   have Jv:=hls j xs hx;have HX:Hid (xss[j]? = some xs):=hx;have hCl:=pO ra xs.length rc xs wo (hR.since hS) Jv;clear hcell hv hx
   go_wp2_with (go_at_call 164;refine hCl.mono ?_;rintro e w2 ⟨s,rfl,mO,hS2⟩;unfold Sl.v;have Fv:=hLL.since hS2;obtain ⟨b',o',e',_,hblt,hall,_⟩:=Fv.top.body (by show 0 < xss.length;omega);dsimp only at e';cases e';obtain ⟨q1,q2⟩:=hall j (by show j < xss.length*1;omega);rw [Nat.zero_add] at q1 q2;obtain ⟨u,hu⟩:=Option.isSome_iff_exists.1 q1)
   go_roundw
   case rel =>
    have hput:=Fv.put (k:=j) (by rw [hlen];exact hlt) rfl (mO.mono hS.size) (fun c hc=>by
     have hge:=mO.iX c hc;refine ⟨fun e=>?_,fun i _ hi e=>?_⟩
     ·have:=(hLL.blk (.inl e)).2;omega
     ·have:=(hLL.blk (.inr ⟨i,hi,e⟩)).2;omega)
    rw [take_set xss j xs HX.out,Nat.zero_add] at hput;exact ⟨j+1,_,by omega,by go_num,hput,⟨(hS.trans hS2).below.setCell (p:=⟨w.heap.size,j,none⟩) (Nat.le_refl _) _⟩⟩
   case measure=>simp [intOf];omega
  ·obtain rfl:j=xss.length:=by omega
   rw [Nat.sub_self,List.replicate_zero,List.append_nil,List.take_of_length_le (Nat.le_refl _)] at hLL
   go_wp2
   go_ret
   exact ⟨⟨some ⟨w.heap.size,0,none⟩,xss.length⟩,rs,rfl,hLL,hS⟩
theorem Bv (a:Option Addr) (cap:Nat) (xss:List (List Mg)) (w:World) (hI:Slices nO w a xss.length xss) (hl:xss.length<=1000) (hls:∀ (k:Nat) (xs:List Mg),xss[k]? = some xs->xs.length<=1000) :
  Calls prog 191 #[.slice a xss.length cap] w fun e w'=>∃ (s:Sl) (rs:Nat->Sl),e=.returned (s.v xss.length)/\bC 5 flat w.heap.size w' s rs xss/\Since w w':=by
 have hmk:=fun y=>run_make_row' (P:=prog) 40 39 (.slice none 0 0) 24 (by kernel_rfl) (by kernel_rfl) rfl .i64 .i64 xss.length (by omega) (by omega) y;obtain ⟨w1,hw1⟩:∃ w1,w.alloc (.cells (madeCells #[.slice none 0 0] xss.length) 39)=w1:=⟨_,rfl⟩;have hS1:=ay hw1
 have ze:bC 5 flat w.heap.size w1 ⟨some ⟨w.heap.size,0,none⟩,xss.length⟩ (fun _=>⟨none,0⟩) (List.replicate xss.length ([]:List Mg)):=by
  rw [<-hw1];exact bC.made rfl w.heap.size w xss.length _ (Nat.le_refl _) (by unfold maxLen;omega)
 have HC:Hid (0 < xss.length->∃ b off,a=some ⟨b,off,none⟩/\b < w.heap.size/\∀ i x,xss[i]? = some x->∃ v,w.cell? ⟨b,off+i,none⟩=some v/\nO w v x):=hI.cells;clear hI
 go_enter func191,ntmps191
 go_wp2
 go_loopw [11] (fun i wr=>∃ (j:Nat) (rs:Nat->Sl),j<=xss.length/\i=.int .i64 j/\bC 5 flat w.heap.size wr ⟨some ⟨w.heap.size,0,none⟩,xss.length⟩ rs (xss.take j++List.replicate (xss.length - j) [])/\Since w wr) (fun i _=>xss.length - (intOf i).toNat)
 case atStart=>exact ⟨0,_,Nat.zero_le _,rfl,by simpa using ze,hS1⟩
 case round =>
  clear ze hw1 hS1 hmk;obtain ⟨wo,rfl⟩:∃ wo,wo=wr:=⟨_,rfl⟩;obtain ⟨j,rs,hj,rfl,hLL,hS⟩:=hrel;by_cases hlt:j < xss.length
  ·obtain ⟨xs,hx⟩:∃ xs,xss[j]? = some xs:=⟨_,zQ1 hlt⟩;obtain ⟨b,off,rfl,hb,hcell⟩:=HC.out (by omega);obtain ⟨v,hv,ra,rc,rfl,hrc,hR⟩:=hcell j xs hx;have f0:wo.cell? ⟨b,off+j,none⟩=some (.slice ra xs.length rc):=(hS.cellAt hb _).trans hv;have n1:(j:Int) < (xss.length:Int):=by omega
   have hlen:(xss.take j++List.replicate (xss.length - j) ([]:List Mg)).length=xss.length:=by simp;omega
   have Jv:=hls j xs hx;have HX:Hid (xss[j]? = some xs):=hx;have hCl:=qd ra xs.length rc xs wo (hR.since hS) Jv;clear hcell hv hx
   go_wp2_with (go_at_call 190;refine hCl.mono ?_;rintro e w2 ⟨s,rfl,mO,hS2⟩;unfold Sl.v;have Fv:=hLL.since hS2;obtain ⟨b',o',e',_,hblt,hall,_⟩:=Fv.top.body (by show 0 < xss.length;omega);dsimp only at e';cases e';obtain ⟨q1,q2⟩:=hall j (by show j < xss.length*1;omega);rw [Nat.zero_add] at q1 q2;obtain ⟨u,hu⟩:=Option.isSome_iff_exists.1 q1)
   go_roundw
   case rel =>
    have hput:=Fv.put (k:=j) (by rw [hlen];exact hlt) rfl (mO.mono hS.size) (fun c hc=>by
     have hge:=mO.iX c hc;refine ⟨fun e=>?_,fun i _ hi e=>?_⟩
     ·have:=(hLL.blk (.inl e)).2;omega
     ·have:=(hLL.blk (.inr ⟨i,hi,e⟩)).2;omega)
    rw [take_set xss j xs HX.out,Nat.zero_add] at hput;exact ⟨j+1,_,by omega,by go_num,hput,⟨(hS.trans hS2).below.setCell (p:=⟨w.heap.size,j,none⟩) (Nat.le_refl _) _⟩⟩
   case measure=>simp [intOf];omega
  ·obtain rfl:j=xss.length:=by omega
   rw [Nat.sub_self,List.replicate_zero,List.append_nil,List.take_of_length_le (Nat.le_refl _)] at hLL
   go_wp2
   go_ret
   exact ⟨⟨some ⟨w.heap.size,0,none⟩,xss.length⟩,rs,rfl,hLL,hS⟩
theorem bE.R7 {lo:Nat} {w:World} {s t:Sl} {gs:List Int} (hR:Row w lo 1 s gs.length (gs.map kR)) (hm:gs.length<=1000) (hN:Row w lo 4 t 0 []) (hd:∀ b,s.blk=some b->t.blk≠some b) :
  bE lo w ⟨gs,[],[]⟩ (fun ix=>if ix=(0,0,0) then s else if ix=(1,0,0) then t else ⟨none,0⟩):=by
 have only:∀ ix,okI ⟨gs,[],[]⟩ ix->ix=(0,0,0)\/ix=(1,0,0)\/ix=(2,0,0):=by
  rintro ⟨t,i,k⟩ hok
  match t,hok with
  | 0,hok=>obtain ⟨rfl,rfl⟩:=hok;exact .inl rfl
  | 1,hok=>obtain ⟨rfl,rfl⟩:=hok;exact .inr (.inl rfl)
  | 2,hok=>obtain ⟨rfl,rfl⟩:=hok;exact .inr (.inr rfl)
  | 3,hok=>exact absurd hok.1 (by simp)
  | 4,hok=>exact absurd hok.1 (by simp)
  | 5,hok=>exact absurd hok.1 (by simp)
  | 6,hok=>exact absurd hok.1 (by simp)
  | 7,hok=>exact absurd hok.1 (by simp)
  | 8,hok=>exact absurd hok.1 (by simp)
  | t+9,hok=>exact hok.elim
 refine ⟨fun ix hx=>?_,fun ix hx=>?_,fun i j b hi hj e1 e2=>?_⟩
 ·rcases only ix hx with rfl | rfl | rfl
  ·rw [if_pos rfl];exact hR
  ·rw [if_neg (by simp),if_pos rfl];exact hN
  ·rw [if_neg (by simp),if_neg (by simp)];exact Row.nil w lo 1
 ·rcases only ix hx with rfl | rfl | rfl
  ·exact hm
  ·exact Nat.zero_le _
  ·exact Nat.zero_le _
 ·rcases only i hi with rfl | rfl | rfl <;> rcases only j hj with rfl | rfl | rfl <;> simp [Sl.blk] at e1 e2 ⊢
  ·exact absurd (show t.blk=some b by unfold Sl.blk;simp [e2]) (hd b (by unfold Sl.blk;simp [e1]))
  ·exact absurd (show t.blk=some b by unfold Sl.blk;simp [e1]) (hd b (by unfold Sl.blk;simp [e2]))
theorem Row.uniq {w:World} {lo lo' sz:Nat} {s:Sl} {n:Nat} {xs ys:List Value} (h:Row w lo sz s n xs) (k:Row w lo' sz s n ys):xs=ys:=by
 have h1:=h.len;have h2:=k.len;by_cases hc:0 < s.cap
 ·obtain ⟨b,off,e,_,_,_,hx⟩:=h.body hc;obtain ⟨b',off',e',_,_,_,hy⟩:=k.body hc;rw [e] at e';cases e';refine List.ext_getElem? fun j=>?_;by_cases hj:j < n*sz
  ·have a1:=hx j _ (zQ1 (by omega));have a2:=hy j _ (zQ1 (by omega));rw [a1] at a2;rw [zQ1 (by omega),zQ1 (by omega)];exact a2
  ·rw [List.getElem?_eq_none (by omega),List.getElem?_eq_none (by omega)]
 ·have:n=0:=by have:=h.cap;omega
  subst this;have e1:xs=[]:=zQ6 (by simpa using h1);have e2:ys=[]:=zQ6 (by simpa using h2);rw [e1,e2]
theorem Wp {A R:List Value} {c0 h1 h2 h3 v1 v2 v3:Value} {n:Nat} (hA:A.length=n) :
  (((A++([c0,h1,h2,h3]++R)).set (n+1) v1).set (n+2) v2).set (n+3) v3=A++([c0,v1,v2,v3]++R):=by
 subst hA;simp [List.set_append_right]
theorem GX {ns:List Nd} {H:Nat->Hd} {k:Nat} (hk:k < ns.length):(gy ns H).drop (k*4)=iJ ns H k++(gy ns H).drop ((k+1)*4):=by
 refine List.ext_getElem? fun j=>?_;rw [List.getElem?_drop];by_cases hj:j < 4
 ·rw [Ka hk hj,List.getElem?_append_left (by simpa [iJ] using hj)]
 ·rw [List.getElem?_append_right (by simp [iJ];omega),List.getElem?_drop]
  congr 1
  simp [iJ];omega
structure tY (lo:Nat) (w:World) (p:Nat) (gs:List Int) (ns:List Nd) (H:Nat->Hd) (nsl:Sl) (k:Nat) (L:Lay):Prop where
 own:bE lo w ⟨gs,ns.take k,[]⟩ L
 l1:L (1,0,0)=nsl
 l2:L (2,0,0)=⟨none,0⟩
 full:Row w lo 4 nsl ns.length (dM ⟨gs,ns.take k,[]⟩ L (1,0,0)++(gy ns H).drop (k*4))
 lt:p < w.heap.size
 c0:w.cell? ⟨p,0,none⟩=some (.slice (L (0,0,0)).a gs.length (L (0,0,0)).cap)
 c1:w.cell? ⟨p,1,none⟩=some (.slice nsl.a ns.length nsl.cap)
 c2:w.cell? ⟨p,2,none⟩=some (.slice none 0 0)
 z0:w.frozen? ⟨p,0,none⟩=false
 z1:w.frozen? ⟨p,1,none⟩=false
 z2:w.frozen? ⟨p,2,none⟩=false
 off:¬ gF ⟨gs,ns.take k,[]⟩ L p
theorem tY.step {lo:Nat} {w wB:World} {p:Nat} {gs:List Int} {ns:List Nd} {H:Nat->Hd} {nsl:Sl} {k:Nat} {L:Lay} (h:tY lo w p gs ns H nsl k L) {x:Nd} (hx:ns[k]? = some x) (hS:Since w wB) {ls:Sl} {rs:Nat->Sl} {hs ts:Sl}
  (hn:nN w.heap.size wB x ls rs hs ts) (hlo:lo<=w.heap.size) (hsm:xq x) (hN:ns.length<=1000) {b off cap:Nat} (he:nsl=⟨some ⟨b,off,none⟩,cap⟩) :
  tY lo (((wB.setCell ⟨b,off+k*4+1,none⟩ (ls.v x.last.length)).setCell ⟨b,off+k*4+2,none⟩ (hs.v x.held.length)).setCell ⟨b,off+k*4+3,none⟩ (ts.v x.told.length)) p gs ns H nsl (k+1) (dD L k nsl ls rs hs ts):=by
 have hk:=(zQ2.1 hx).1;have hlen:(ns.take k).length=k:=by rw [List.length_take];omega
 obtain ⟨A,hA⟩:∃ A,dM ⟨gs,ns.take k,[]⟩ L (1,0,0)=A:=⟨_,rfl⟩
 have hAl:A.length=k*4:=by
  have:Row w lo 4 (L (1,0,0)) (ns.take k).length (dM ⟨gs,ns.take k,[]⟩ L (1,0,0)):=h.own.row (1,0,0) ⟨rfl,rfl⟩;have:=this.len;rw [hA,hlen] at this;exact this
 have WT:ns.length<=cap:=by have:=h.full.cap;rw [he] at this;exact this
 have hnb:nsl.blk=some b:=by rw [he];unfold Sl.blk;rw [if_neg (by dsimp only;omega)];rfl
 have hbW:gF ⟨gs,ns.take k,[]⟩ L b:=⟨(1,0,0),⟨rfl,rfl⟩,by rw [h.l1];exact hnb⟩;have hbl:=h.own.blk hbW;have hpb:p≠b:=fun e=>h.off (e ▸ hbW);obtain ⟨W',hW'⟩:∃ W',((wB.setCell ⟨b,off+k*4+1,none⟩ (ls.v x.last.length)).setCell ⟨b,off+k*4+2,none⟩ (hs.v x.held.length)).setCell ⟨b,off+k*4+3,none⟩ (ts.v x.told.length)=W':=⟨_,rfl⟩
 have hF:Fr (fun i=>i=b) wB W':=by
  rw [<-hW'];exact (((Fr.refl (fun i=>i=b) wB).setCell ⟨b,off+k*4+1,none⟩ _ (fun _=>rfl)).setCell ⟨b,off+k*4+2,none⟩ _ (fun _=>rfl)).setCell ⟨b,off+k*4+3,none⟩ _ (fun _=>rfl)
 have hF2:Fr (fun i=>i=b) w W':=(hS.fr _).trans hF (fun _ _ e=>e) (fun _ _ e=>e)
 have hfull:Row W' lo 4 nsl ns.length (A++([.int .i64 x.clock,ls.v x.last.length,hs.v x.held.length,ts.v x.told.length]++(gy ns H).drop ((k+1)*4))):=by
  have h0:=h.full.since hS;rw [hA,GX hk,he] at h0;unfold iJ at h0;rw [hx] at h0;dsimp only [Option.getD_some] at h0;have h1:=((h0.set (k*4+1) (by omega) (ls.v x.last.length)).set (k*4+2) (by omega) (hs.v x.held.length)).set (k*4+3) (by omega) (ts.v x.told.length);rw [Wp hAl] at h1;rw [he,<-hW'];rw [Nat.add_assoc off (k*4) 1,Nat.add_assoc off (k*4) 2,Nat.add_assoc off (k*4) 3];exact h1
 have htk:Row W' lo 4 nsl (k+1) (A++[.int .i64 x.clock,ls.v x.last.length,hs.v x.held.length,ts.v x.told.length]):=by
  have:=hfull.take (k+1) (by omega);rw [<-List.append_assoc,List.take_left' (by simp [hAl];omega)] at this;exact this
 have hnew:∀ c,JW x ls rs hs ts c->w.heap.size<=c:=by
  rintro c (hc | hc | hc)
  ·exact (hn.last.blk hc).1
  ·exact hn.held.iX c hc
  ·exact hn.told.iX c hc
 have hn':nN lo W' x ls rs hs ts:=by
  have:=hn.fr hF (fun c hc e=>by have:=hnew c hc;omega);exact ⟨this.last.mono hlo,this.held.mono hlo,this.told.mono hlo,this.d1,this.d2⟩
 have hown:=h.own.addNode (w':=W') (by exact hF2.size) (s:=nsl) hn' hsm (by show (ns.take k).length+1<=1000;omega)
  (fun c hc=>by
   have h1:=hnew c hc;refine ⟨fun hb=>?_,fun e=>?_⟩
   ·have:=(h.own.blk hb).2;omega
   ·rw [hnb] at e;cases e;omega)
  (by show Row W' lo 4 nsl ((ns.take k).length+1) _;rw [hA,hlen];exact htk)
  (fun c hc hne=>hF2.block c (h.own.blk hc).2 (fun e=>hne (by rw [h.l1,hnb,e])))
  (fun c hc=>.inl (by rw [h.l1];exact hc))
 have hd':(⟨gs,ns.take k++[x],[]⟩:Wd)=⟨gs,ns.take (k+1),[]⟩:=by rw [List.take_add_one,hx];rfl
 have hown2:bE lo W' ⟨gs,ns.take (k+1),[]⟩ (dD L k nsl ls rs hs ts):=by
  have h1:bE lo W' ⟨gs,ns.take k++[x],[]⟩ (dD L (ns.take k).length nsl ls rs hs ts):=hown;rw [hd',hlen] at h1;exact h1
 have e0:dD L k nsl ls rs hs ts (0,0,0)=L (0,0,0):=by unfold dD;simp
 have e1:dD L k nsl ls rs hs ts (1,0,0)=nsl:=by unfold dD;simp
 have e2:dD L k nsl ls rs hs ts (2,0,0)=L (2,0,0):=by unfold dD;simp
 have hcells:dM ⟨gs,ns.take (k+1),[]⟩ (dD L k nsl ls rs hs ts) (1,0,0)=A++[.int .i64 x.clock,ls.v x.last.length,hs.v x.held.length,ts.v x.told.length]:=by
  have h1:Row W' lo 4 (dD L k nsl ls rs hs ts (1,0,0)) (ns.take (k+1)).length (dM ⟨gs,ns.take (k+1),[]⟩ (dD L k nsl ls rs hs ts) (1,0,0)):=hown2.row (1,0,0) ⟨rfl,rfl⟩;rw [e1,show (ns.take (k+1)).length=k+1 from by rw [List.length_take];omega] at h1;exact h1.uniq htk
 have hpl:p < W'.heap.size:=zQ4 h.lt hF2.size;rw [hW'];refine ⟨hown2,e1,e2.trans h.l2, ?_,hpl, ?_, ?_, ?_, ?_, ?_, ?_, ?_⟩
 ·rw [hcells,List.append_assoc];exact hfull
 ·rw [e0];exact (hF2.cell (p:=⟨p,0,none⟩) h.lt hpb).trans h.c0
 ·exact (hF2.cell (p:=⟨p,1,none⟩) h.lt hpb).trans h.c1
 ·exact (hF2.cell (p:=⟨p,2,none⟩) h.lt hpb).trans h.c2
 ·exact (hF2.frozen (p:=⟨p,0,none⟩) h.lt hpb).trans h.z0
 ·exact (hF2.frozen (p:=⟨p,1,none⟩) h.lt hpb).trans h.z1
 ·exact (hF2.frozen (p:=⟨p,2,none⟩) h.lt hpb).trans h.z2
 ·rintro ⟨⟨t,i,j⟩,hok,hb⟩;have hsz:=h.lt;by_cases h1:(t,i,j)=(1,0,0)
  ·rw [h1,e1,hnb] at hb;cases hb;exact hpb rfl
  ·unfold dD at hb;rw [if_neg h1] at hb
   have old:okI ⟨gs,ns.take (k+1),[]⟩ (t,i,j)->i≠k\/t<=2\/7<=t->(L (t,i,j)).blk=some p->False:=by
    intro hok hik hL;refine h.off ⟨(t,i,j), ?_,hL⟩
    have Wq:∀ i,i≠k->aT ⟨gs,ns.take (k+1),[]⟩ i=aT ⟨gs,ns.take k,[]⟩ i:=by
     intro i hi;have:=zu (d:=⟨gs,ns.take k,[]⟩) (x:=x) i
     rw [show ({ (⟨gs,ns.take k,[]⟩:Wd) with nodes:=(⟨gs,ns.take k,[]⟩:Wd).nodes++[x] }:Wd)=⟨gs,ns.take (k+1),[]⟩ from hd'] at this
     rw [this,if_neg];rw [show (⟨gs,ns.take k,[]⟩:Wd).nodes.length=k from hlen];exact hi
    have hl1:(ns.take (k+1)).length=k+1:=by rw [List.length_take];omega
    match t,hok,hik with
    | 0,hok,_=>exact hok
    | 1,hok,_=>exact hok
    | 2,hok,_=>exact hok
    | 3,hok,hik=>have hik:i≠k:=by omega
                 exact ⟨by have:i < (ns.take (k+1)).length:=hok.1;show i < (ns.take k).length;omega,hok.2⟩
    | 4,hok,hik=>have hik:i≠k:=by omega
                 refine ⟨by have:i < (ns.take (k+1)).length:=hok.1;show i < (ns.take k).length;omega, ?_⟩;have:=hok.2;rw [Wq i hik] at this;exact this
    | 5,hok,hik=>have hik:i≠k:=by omega
                 exact ⟨by have:i < (ns.take (k+1)).length:=hok.1;show i < (ns.take k).length;omega,hok.2⟩
    | 6,hok,hik=>have hik:i≠k:=by omega
                 exact ⟨by have:i < (ns.take (k+1)).length:=hok.1;show i < (ns.take k).length;omega,hok.2⟩
    | 7,hok,_=>exact absurd hok.1 (by simp)
    | 8,hok,_=>exact absurd hok.1 (by simp)
    | t+9,hok,_=>exact hok.elim
   dsimp only at hb;by_cases hik:i=k
   ·rw [if_pos hik] at hb;by_cases t3:t=3
    ·rw [if_pos t3] at hb;have:=hnew p (.inl (.inl hb));omega
    ·rw [if_neg t3] at hb;by_cases t4:t=4
     ·rw [if_pos t4] at hb;subst t4;have hj:j < (aT ⟨gs,ns.take (k+1),[]⟩ i).last.length:=hok.2;have:aT ⟨gs,ns.take (k+1),[]⟩ i=x:=bK (by show (ns.take (k+1))[i]? = some x;rw [hik,List.getElem?_take_of_lt (by omega)];exact hx);rw [this] at hj;have:=hnew p (.inl (.inr ⟨j,hj,hb⟩));omega
     ·rw [if_neg t4] at hb;by_cases t5:t=5
      ·rw [if_pos t5] at hb;have:=hnew p (.inr (.inl hb));omega
      ·rw [if_neg t5] at hb;by_cases t6:t=6
       ·rw [if_pos t6] at hb;have:=hnew p (.inr (.inr hb));omega
       ·rw [if_neg t6] at hb;exact old hok (.inr (by omega)) hb
   ·rw [if_neg hik] at hb;exact old hok (.inl hik) hb
end Go.Proofs.YtiiifecfdkjmbaaGreat
