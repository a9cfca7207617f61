/- Lemmas. Lemmas. -/
import Derived.Test.YtediempflagfkaaGreatDoorOwnX
import Derived.Test.YtediempflagfkaaGreatDoorRegM
set_option linter.unusedVariables false
set_option linter.unusedSimpArgs false
set_option linter.unnecessarySimpa false
set_option maxHeartbeats 1000000
namespace Go.Proofs.YtediempflagfkaaGreatDoor
open _root_.Go.Proofs.Tryz hiding checked
set_option maxRecDepth 8000
open Go.RowKit Go.Shelf
theorem Qb{p o q:Nat}(h:o≠q):(⟨p,o,none⟩:Addr)≠⟨p,q,none⟩:=fun e=>h (by injection e)
theorem bH(w:World)(p:Nat){o q:Nat}(v:Value)(h:o≠q):(w.setCell ⟨p,o,none⟩ v).cell? ⟨p,q,none⟩=w.cell? ⟨p,q,none⟩:=World.cell?_setCell_other _ _ _ _ (Qb h)
theorem gN(w:World)(p o:Nat)(v:Value){u:Value}(h:w.cell? ⟨p,o,none⟩=some u):(w.setCell ⟨p,o,none⟩ v).cell? ⟨p,o,none⟩=some v:=World.cell?_setCell_same' _ _ _ (by rw[h];rfl)
def iB(w:World)(p:Nat)(a b c:Value):World:=((w.setCell ⟨p,0,none⟩ a).setCell ⟨p,1,none⟩ b).setCell ⟨p,2,none⟩ c
theorem uw{w:World}{p:Nat}{a b c u:Value}(h:w.cell? ⟨p,0,none⟩=some u):(iB w p a b c).cell? ⟨p,0,none⟩=some a :=
 (bH _ _ _ (by decide)).trans ((bH _ _ _ (by decide)).trans (gN _ _ _ _ h))
theorem uy{w:World}{p:Nat}{a b c u:Value}(h:w.cell? ⟨p,1,none⟩=some u):(iB w p a b c).cell? ⟨p,1,none⟩=some b :=
 (bH _ _ _ (by decide)).trans (gN _ _ _ _ ((bH _ _ _ (by decide)).trans h))
theorem uD{w:World}{p:Nat}{a b c u:Value}(h:w.cell? ⟨p,2,none⟩=some u):(iB w p a b c).cell? ⟨p,2,none⟩=some c :=
 gN _ _ _ _ ((bH _ _ _ (by decide)).trans ((bH _ _ _ (by decide)).trans h))
theorem RQ(w:World)(p:Nat)(a b c:Value){o:Nat}(h:2 < o):(iB w p a b c).cell? ⟨p,o,none⟩=w.cell? ⟨p,o,none⟩ :=
 (bH _ _ _ (by omega)).trans ((bH _ _ _ (by omega)).trans (bH _ _ _ (by omega)))
theorem iC(w:World)(p:Nat)(a b c:Value)(x:Addr):(iB w p a b c).frozen? x=w.frozen? x:=by
 unfold iB;rw[World.frozen?_setCell,World.frozen?_setCell,World.frozen?_setCell]
theorem aS(w:World)(p:Nat)(a b c:Value):Fr (fun i=>i=p) w (iB w p a b c):=by
 have h0:Fr (fun i=>i=p) w w:=Fr.refl _ _;exact((h0.setCell ⟨p,0,none⟩ a (fun _=>rfl)).setCell ⟨p,1,none⟩ b (fun _=>rfl)).setCell ⟨p,2,none⟩ c (fun _=>rfl)
def LQ(w:World)(p:Nat)(a b c d:Value):World:=(((w.setCell ⟨p,0,none⟩ a).setCell ⟨p,1,none⟩ b).setCell ⟨p,2,none⟩ c).setCell ⟨p,3,none⟩ d
theorem Ew(w:World)(p:Nat)(a b c d:Value):Fr (fun i=>i=p) w (LQ w p a b c d):=by
 have h0:Fr (fun i=>i=p) w w:=Fr.refl _ _;exact(((h0.setCell ⟨p,0,none⟩ a (fun _=>rfl)).setCell ⟨p,1,none⟩ b (fun _=>rfl)).setCell ⟨p,2,none⟩ c (fun _=>rfl)).setCell ⟨p,3,none⟩ d (fun _=>rfl)
structure xR (w:World) (p:Nat) (v l h t:Value):Prop where
 lt:p < w.heap.size
 c0:w.cell? ⟨p,0,none⟩=some v
 c1:w.cell? ⟨p,1,none⟩=some l
 c2:w.cell? ⟨p,2,none⟩=some h
 c3:w.cell? ⟨p,3,none⟩=some t
 z0:w.frozen? ⟨p,0,none⟩=false
 z1:w.frozen? ⟨p,1,none⟩=false
 z2:w.frozen? ⟨p,2,none⟩=false
 z3:w.frozen? ⟨p,3,none⟩=false
theorem xR.new(w:World)(T:TypeId)(v l h t:Value):xR (w.alloc (.cells #[v,l,h,t] T)) w.heap.size v l h t:=by
 constructor <;> simp[go_sem]
theorem xR.put{w:World}{p:Nat}{v l h t:Value}(b:xR w p v l h t)(v' l' h' t':Value):xR (LQ w p v' l' h' t') p v' l' h' t':=by
 have z:∀o,(LQ w p v' l' h' t').frozen? ⟨p,o,none⟩=w.frozen? ⟨p,o,none⟩:=fun o=>by
  unfold LQ;rw[World.frozen?_setCell,World.frozen?_setCell,World.frozen?_setCell,World.frozen?_setCell]
 exact⟨zQ4 b.lt (Ew w p v' l' h' t').size,
  (bH _ _ _ (by decide)).trans ((bH _ _ _ (by decide)).trans ((bH _ _ _ (by decide)).trans (gN _ _ _ _ b.c0))),
  (bH _ _ _ (by decide)).trans ((bH _ _ _ (by decide)).trans (gN _ _ _ _ ((bH _ _ _ (by decide)).trans b.c1))),
  (bH _ _ _ (by decide)).trans (gN _ _ _ _ ((bH _ _ _ (by decide)).trans ((bH _ _ _ (by decide)).trans b.c2))),
  gN _ _ _ _ ((bH _ _ _ (by decide)).trans ((bH _ _ _ (by decide)).trans ((bH _ _ _ (by decide)).trans b.c3))),
  (z 0).trans b.z0,(z 1).trans b.z1,(z 2).trans b.z2,(z 3).trans b.z3⟩
open Pu
theorem Na{w:World}{len:Nat}{xs:List Int}(h:Ints w none len xs):len=0/\xs=[]:=by
 have hl:=h.bq;by_cases h0:0 < len
 ·obtain⟨b,off,e,_⟩:=h.cells h0;cases e
 ·have:len=0:=by omega
  subst this;exact⟨rfl,zQ6 hl⟩
theorem Nb{w:World}{len:Nat}{xs:List Mg}(h:gD w none len xs):len=0/\xs=[]:=by
 have hl:=h.bq;by_cases h0:0 < len
 ·obtain⟨b,off,e,_⟩:=h.cells h0;cases e
 ·have:len=0:=by omega
  subst this;exact⟨rfl,zQ6 hl⟩
theorem ql(a:Option Addr)(len cap:Nat)(xs:List Int)(w:World)(hI:Ints w a len xs)(hl:len<=1000) :
  Calls prog 21 #[.slice a len cap] w fun e w'=>∃s:Sl,e=.returned (s.v xs.length)/\Row w' w.heap.size 1 s xs.length (xs.map j6)/\ak w w':=by
 cases a with
 | none =>
  obtain⟨rfl,rfl⟩:=Na hI;have hnil:∀W,(binOp .eql 22 (.slice none 0 cap) (.slice none 0 0)).run prog W=.ok (.bool true) W:=fun W=>by kernel_rfl
  go_enter func21,ntmps21
  go_wp2
  go_ret
  exact⟨⟨none,0⟩,rfl,Row.nil _ _ _,ak.refl _⟩
 | some ad =>
  have bq:=hI.bq;obtain⟨w2,hw2⟩:∃w2,w.alloc (.cells #[] 3)=w2:=⟨_,rfl⟩;have hS2:=aF hw2;have hR2:Row w2 w.heap.size 1 ⟨some ⟨w.heap.size,0,none⟩,0⟩ 0 []:=by rw[<-hw2];exact Row.empty w _ 1 _
  have hsrc:=yc (c:=cap) (hI.ay hS2);have hnil:∀W,(binOp .eql 22 (.slice (some ad) len cap) (.slice none 0 0)).run prog W=.ok (.bool false) W:=fun W=>by kernel_rfl
  go_enter func21,ntmps21
  go_wp2_with (at_builtin;refine iK xJ rfl _ _ 22 rfl rfl hR2 rfl hsrc (by omega) hS2.size ?_;intro ga gc w3 hR3 hF3 hB3)
  simp only[Nat.zero_add,List.nil_append]at hR3;have hS3:ak w2 w3:=hF3.ay (fun i _ e=>by unfold Sl.blk at e;simp at e)
  go_ret
  refine⟨⟨ga,gc⟩, ?_, ?_,hS2.trans hS3⟩
  ·simp[Sl.v,bq]
  ·rw[bq];exact hR3
theorem qF(a:Option Addr)(len cap:Nat)(xs:List Mg)(w:World)(hI:gD w a len xs)(hl:len<=1000) :
  Calls prog 156 #[.slice a len cap] w fun e w'=>∃s:Sl,e=.returned (s.v xs.length)/\Row w' w.heap.size 5 s xs.length (flat xs)/\ak w w':=by
 cases a with
 | none =>
  obtain⟨rfl,rfl⟩:=Nb hI;have hnil:∀W,(binOp .eql 62 (.slice none 0 cap) (.slice none 0 0)).run prog W=.ok (.bool true) W:=fun W=>by kernel_rfl
  go_enter func156,ntmps156
  go_wp2
  go_ret
  exact⟨⟨none,0⟩,rfl,Row.nil _ _ _,ak.refl _⟩
 | some ad =>
  have bq:=hI.bq;obtain⟨w2,hw2⟩:∃w2,w.alloc (.cells #[] 95)=w2:=⟨_,rfl⟩;have hS2:=aF hw2;have hR2:Row w2 w.heap.size 5 ⟨some ⟨w.heap.size,0,none⟩,0⟩ 0 []:=by rw[<-hw2];exact Row.empty w _ 5 _
  have hsrc:=jq (c:=cap) (hI.ay hS2);have hnil:∀W,(binOp .eql 62 (.slice (some ad) len cap) (.slice none 0 0)).run prog W=.ok (.bool false) W:=fun W=>by kernel_rfl
  go_enter func156,ntmps156
  go_wp2_with (at_builtin;refine iK jo rfl _ _ 62 rfl rfl hR2 rfl hsrc (by omega) hS2.size ?_;intro ga gc w3 hR3 hF3 hB3)
  simp only[Nat.zero_add,List.nil_append]at hR3;have hS3:ak w2 w3:=hF3.ay (fun i _ e=>by unfold Sl.blk at e;simp at e)
  go_ret
  refine⟨⟨ga,gc⟩, ?_, ?_,hS2.trans hS3⟩
  ·simp[Sl.v,bq]
  ·rw[bq];exact hR3
abbrev Hd:=Value × Value × Value
def iI(ns:List Nd)(H:Nat->Hd)(i:Nat):List Value:=[j6 (ns[i]?.getD ⟨0,[],[],[]⟩).aK,(H i).1,(H i).2.1,(H i).2.2]
def gy(ns:List Nd)(H:Nat->Hd):List Value:=(List.range ns.length).flatMap (iI ns H)
def Ko(w:World)(ns:List Nd)(H:Nat->Hd):Prop:=∀i x,ns[i]? = some x->pG zw w (H i).1 x.last/\oq w (H i).2.1 x.held/\oq w (H i).2.2 x.aG
theorem Ko.ay{w w':World}{ns:List Nd}{H:Nat->Hd}(h:Ko w ns H)(k:ak w w'):Ko w' ns H:=fun i x hx =>
 ⟨oO lg _ _ _ _ k (h i x hx).1,j4 _ _ _ _ k (h i x hx).2.1,j4 _ _ _ _ k (h i x hx).2.2⟩
theorem Lb(ns:List Nd)(H:Nat->Hd):(gy ns H).length=ns.length*4:=tX (f:=iI ns H) (sz:=4) (fun _=>rfl) _
theorem Lc{ns:List Nd}{H:Nat->Hd}{i j:Nat}(hi:i < ns.length)(hj:j < 4):(gy ns H)[i*4+j]? = (iI ns H i)[j]?:=tV (f:=iI ns H) (sz:=4) (fun _=>rfl) i j hi hj
theorem Iy{α:Type}{P:World->Value->α->Prop}{w:World}{v:Value}{xs:List α}(h:pG P w v xs):v.oneCell'=true:=by obtain⟨a,c,rfl,_⟩:=h;rfl
theorem Ea{w:World}{v:Value}{xs:List Mg}(h:oq w v xs):v.oneCell'=true:=by obtain⟨a,c,rfl,_⟩:=h;rfl
theorem Qc{w:World}{ns:List Nd}{H:Nat->Hd}(h:Ko w ns H):∀u∈gy ns H,u.oneCell'=true:=by
 intro u hu;unfold gy at hu;obtain⟨i,hi,hu⟩:=List.mem_flatMap.1 hu;rw[List.mem_range]at hi;obtain⟨h1,h2,h3⟩:=h i _ (zQ1 hi);unfold iI at hu;simp only[List.mem_cons,List.not_mem_nil,or_false]at hu;rcases hu with rfl | rfl | rfl | rfl
 ·rfl
 ·exact Iy h1
 ·exact Ea h2
 ·exact Ea h3
theorem M9{w:World}{a:Option Addr}{len:Nat}{ns:List Nd}(h:Nodes w a len ns):∃H:Nat->Hd,Ko w ns H/\(0 < len->∃b off,a=some ⟨b,off,none⟩/\b < w.heap.size/\∀j u,(gy ns H)[j]? = some u->w.cell? ⟨b,off+j,none⟩=some u):=by
 have hl:=h.bq;by_cases h0:0 < len
 ·obtain⟨b,off,rfl,hb,hc⟩:=h.cells h0
  have hex:∀i:Nat,∃v:Hd,∀x,ns[i]? = some x->w.cell? ⟨b,off+i*4+1,none⟩=some v.1/\w.cell? ⟨b,off+i*4+2,none⟩=some v.2.1/\w.cell? ⟨b,off+i*4+3,none⟩=some v.2.2/\pG zw w v.1 x.last/\oq w v.2.1 x.held/\oq w v.2.2 x.aG:=by
   intro i
   cases hx:ns[i]? with
   | none=>exact⟨(undef,undef,undef),fun x hx'=>by cases hx'⟩
   | some x =>
    obtain⟨_,⟨v1,c1,p1⟩,⟨v2,c2,p2⟩,⟨v3,c3,p3⟩⟩:=hc i x hx;exact⟨(v1,v2,v3),fun y hy=>by cases hy;exact⟨c1,c2,c3,p1,p2,p3⟩⟩
  obtain⟨H,hH⟩:=Classical.axiomOfChoice hex;refine⟨H,fun i x hx=>⟨(hH i x hx).2.2.2.1,(hH i x hx).2.2.2.2.1,(hH i x hx).2.2.2.2.2⟩,fun _=>⟨b,off,rfl,hb,fun j u hj=>?_⟩⟩;have hjl:=(zQ2.1 hj).1;rw[Lb]at hjl;obtain⟨x,hx⟩:∃x,ns[j / 4]? = some x:=⟨_,zQ1 (by omega)⟩;have hg:=Lc (H:=H) (i:=j / 4) (j:=j % 4) (ns:=ns) (by omega) (by omega);rw[show j / 4*4+j % 4=j from by omega,hj]at hg;obtain⟨e1,e2,e3,_⟩:=hH _ _ hx;have e0:=(hc _ _ hx).clk;have hm:j % 4=0\/j % 4=1\/j % 4=2\/j % 4=3:=by omega
  unfold iI at hg;rw[hx]at hg
  rcases hm with hm | hm | hm | hm <;> rw[hm]at hg <;> simp at hg <;> subst hg
  ·rw[show off+j=off+j / 4*4 from by omega];exact e0
  ·rw[show off+j=off+j / 4*4+1 from by omega];exact e1
  ·rw[show off+j=off+j / 4*4+2 from by omega];exact e2
  ·rw[show off+j=off+j / 4*4+3 from by omega];exact e3
 ·refine⟨fun _=>(undef,undef,undef),fun i x hx=>?_,fun h=>absurd h h0⟩;have:=(zQ2.1 hx).1;omega
theorem Nc{w:World}{a:Option Addr}{n c:Nat}{ns:List Nd}{H:Nat->Hd}(hl:ns.length=n)(hH:Ko w ns H)(hc:0 < n->∃b off,a=some ⟨b,off,none⟩/\b < w.heap.size/\∀j u,(gy ns H)[j]? = some u->w.cell? ⟨b,off+j,none⟩=some u):Src prog 4 28 (.slice a n c) n (gy ns H) w :=
 AY ny.und (by rw[Lb,hl]) (Qc hH) (fun h=>by obtain⟨b,off,e,_,hcl⟩:=hc h;exact⟨b,off,e,hcl⟩)
theorem Ce(a:Option Addr)(len cap:Nat)(ns:List Nd)(H:Nat->Hd)(w:World)(hl:ns.length=len)(hmx:len<=1000)(hH:Ko w ns H)
  (hc:0 < len->∃b off,a=some ⟨b,off,none⟩/\b < w.heap.size/\∀j u,(gy ns H)[j]? = some u->w.cell? ⟨b,off+j,none⟩=some u) :
  Calls prog 154 #[.slice a len cap] w fun e w'=>∃s:Sl,e=.returned (s.v ns.length)/\Row w' w.heap.size 4 s ns.length (gy ns H)/\ak w w':=by
 cases a with
 | none =>
  have h0:len=0:=by
   by_cases h0:0 < len
   ·obtain⟨b,off,e,_⟩:=hc h0;cases e
   ·omega
  subst h0;have hn:ns=[]:=zQ6 hl;subst hn;have hnil:∀W,(binOp .eql 28 (.slice none 0 cap) (.slice none 0 0)).run prog W=.ok (.bool true) W:=fun W=>by kernel_rfl
  go_enter func154,ntmps154
  go_wp2
  go_ret
  exact⟨⟨none,0⟩,rfl,Row.nil _ _ _,ak.refl _⟩
 | some ad =>
  obtain⟨w2,hw2⟩:∃w2,w.alloc (.cells #[] 64)=w2:=⟨_,rfl⟩;have hS2:=aF hw2;have hR2:Row w2 w.heap.size 4 ⟨some ⟨w.heap.size,0,none⟩,0⟩ 0 []:=by rw[<-hw2];exact Row.empty w _ 4 _
  have hsrc:Src prog 4 28 (.slice (some ad) len cap) len (gy ns H) w2:=Nc hl (hH.ay hS2) (fun h=>by
   obtain⟨b,off,e,hb,hcl⟩:=hc h;exact⟨b,off,e,zQ4 hb hS2.size,fun j u hj=>(hS2.av hb _).trans (hcl j u hj)⟩)
  clear hc hH;have hnil:∀W,(binOp .eql 28 (.slice (some ad) len cap) (.slice none 0 0)).run prog W=.ok (.bool false) W:=fun W=>by kernel_rfl
  go_enter func154,ntmps154
  go_wp2_with (at_builtin;refine iK ny rfl _ _ 28 rfl rfl hR2 rfl hsrc (by omega) hS2.size ?_;intro ga gc w3 hR3 hF3 hB3)
  simp only[Nat.zero_add,List.nil_append]at hR3;have hS3:ak w2 w3:=hF3.ay (fun i _ e=>by unfold Sl.blk at e;simp at e)
  go_ret
  refine⟨⟨ga,gc⟩, ?_, ?_,hS2.trans hS3⟩
  ·simp[Sl.v,hl]
  ·rw[hl];exact hR3
theorem take_set{α:Type}(xss:List (List α))(j:Nat)(xs:List α)(hx:xss[j]? = some xs):(xss.take j++List.replicate (xss.length - j) []).set j xs=xss.take (j+1)++List.replicate (xss.length - (j+1)) []:=by
 have hj:=(zQ2.1 hx).1;obtain⟨m,hm⟩:∃m,xss.length - j=m+1:=⟨xss.length - j - 1,by omega⟩;have ht:(xss.take j).length=j:=by simp;omega
 rw[hm,List.replicate_succ,List.set_append_right _ _ (by omega),ht,Nat.sub_self,zQ8,List.take_add_one,hx,show xss.length - (j+1)=m from by omega];simp
theorem Cg(a:Option Addr)(cap:Nat)(xss:List (List Int))(w:World)(hI:Slices zw w a xss.length xss)(hl:xss.length<=1000)(hls:∀(k:Nat) (xs:List Int),xss[k]? = some xs->xs.length<=1000) :
  Calls prog 155 #[.slice a xss.length cap] w fun e w'=>∃(s:Sl) (rs:Nat->Sl),e=.returned (s.v xss.length)/\eU 1 qP w.heap.size w' s rs xss/\ak w w':=by
 have hmk:=fun y=>run_make_row' (P:=prog) 60 22 (.slice none 0 0) 24 (by kernel_rfl) (by kernel_rfl) rfl .i64 .i64 xss.length (by omega) (by omega) y;obtain⟨w1,hw1⟩:∃w1,w.alloc (.cells (madeCells #[.slice none 0 0] xss.length) 22)=w1:=⟨_,rfl⟩;have hS1:=aF hw1
 have Gr:eU 1 qP w.heap.size w1 ⟨some ⟨w.heap.size,0,none⟩,xss.length⟩ (fun _=>⟨none,0⟩) (List.replicate xss.length ([]:List Int)):=by
  rw[<-hw1];exact eU.made rfl w.heap.size w xss.length _ (Nat.le_refl _) (by unfold maxLen;omega)
 have HC:Hid (0 < xss.length->∃b off,a=some ⟨b,off,none⟩/\b < w.heap.size/\∀i x,xss[i]? = some x->∃v,w.cell? ⟨b,off+i,none⟩=some v/\zw w v x):=hI.cells;clear hI
 go_enter func155,ntmps155
 go_wp2
 go_loopw [11] (fun i wr=>∃(j:Nat) (rs:Nat->Sl),j<=xss.length/\i=.int .i64 j/\eU 1 qP w.heap.size wr ⟨some ⟨w.heap.size,0,none⟩,xss.length⟩ rs (xss.take j++List.replicate (xss.length - j) [])/\ak w wr) (fun i _=>xss.length - (intOf i).toNat)
 case atStart=>exact⟨0,_,Nat.zero_le _,rfl,by simpa using Gr,hS1⟩
 case round =>
  clear Gr hw1 hS1 hmk;obtain⟨wo,rfl⟩:∃wo,wo=wr:=⟨_,rfl⟩;obtain⟨j,rs,hj,rfl,hLL,hS⟩:=hrel;by_cases hlt:j < xss.length
  ·obtain⟨xs,hx⟩:∃xs,xss[j]? = some xs:=⟨_,zQ1 hlt⟩;obtain⟨b,off,rfl,hb,hcell⟩:=HC.out (by omega);obtain⟨v,hv,ra,rc,rfl,hrc,hR⟩:=hcell j xs hx;have f0:wo.cell? ⟨b,off+j,none⟩=some (.slice ra xs.length rc):=(hS.av hb _).trans hv;have n1:(j:Int) < (xss.length:Int):=by omega
   have bq:(xss.take j++List.replicate (xss.length - j) ([]:List Int)).length=xss.length:=by simp;omega
   have Kq:=hls j xs hx;have HX:Hid (xss[j]? = some xs):=hx;have hCl:=ql ra xs.length rc xs wo (hR.ay hS) Kq;clear hcell hv hx
   go_wp2_with (go_at_call 21;refine hCl.mono ?_;rintro e w2 ⟨s,rfl,nu,hS2⟩;unfold Sl.v;have Gs:=hLL.ay hS2;obtain⟨b',o',e',_,hblt,hall,_⟩:=Gs.top.body (by show 0 < xss.length;omega);dsimp only at e';cases e';obtain⟨q1,q2⟩:=hall j (by show j < xss.length*1;omega);rw[Nat.zero_add]at q1 q2;obtain⟨u,hu⟩:=Option.isSome_iff_exists.1 q1)
   go_roundw
   case rel =>
    have hput:=Gs.put (k:=j) (by rw[bq];exact hlt) rfl (nu.mono hS.size) (fun c hc=>by
     have hge:=nu.jf c hc;refine⟨fun e=>?_,fun i _ hi e=>?_⟩
     ·have:=(hLL.blk (.inl e)).2;omega
     ·have:=(hLL.blk (.inr ⟨i,hi,e⟩)).2;omega)
    rw[take_set xss j xs HX.out,Nat.zero_add]at hput;exact⟨j+1,_,by omega,by go_num,hput,⟨(hS.trans hS2).below.setCell (p:=⟨w.heap.size,j,none⟩) (Nat.le_refl _) _⟩⟩
   case measure=>simp[intOf];omega
  ·obtain rfl:j=xss.length:=by omega
   rw[Nat.sub_self,List.replicate_zero,List.append_nil,List.take_of_length_le (Nat.le_refl _)]at hLL
   go_wp2
   go_ret
   exact⟨⟨some ⟨w.heap.size,0,none⟩,xss.length⟩,rs,rfl,hLL,hS⟩
theorem Ch(a:Option Addr)(cap:Nat)(xss:List (List Mg))(w:World)(hI:Slices oq w a xss.length xss)(hl:xss.length<=1000)(hls:∀(k:Nat) (xs:List Mg),xss[k]? = some xs->xs.length<=1000) :
  Calls prog 157 #[.slice a xss.length cap] w fun e w'=>∃(s:Sl) (rs:Nat->Sl),e=.returned (s.v xss.length)/\eU 5 flat w.heap.size w' s rs xss/\ak w w':=by
 have hmk:=fun y=>run_make_row' (P:=prog) 65 62 (.slice none 0 0) 24 (by kernel_rfl) (by kernel_rfl) rfl .i64 .i64 xss.length (by omega) (by omega) y;obtain⟨w1,hw1⟩:∃w1,w.alloc (.cells (madeCells #[.slice none 0 0] xss.length) 62)=w1:=⟨_,rfl⟩;have hS1:=aF hw1
 have Gr:eU 5 flat w.heap.size w1 ⟨some ⟨w.heap.size,0,none⟩,xss.length⟩ (fun _=>⟨none,0⟩) (List.replicate xss.length ([]:List Mg)):=by
  rw[<-hw1];exact eU.made rfl w.heap.size w xss.length _ (Nat.le_refl _) (by unfold maxLen;omega)
 have HC:Hid (0 < xss.length->∃b off,a=some ⟨b,off,none⟩/\b < w.heap.size/\∀i x,xss[i]? = some x->∃v,w.cell? ⟨b,off+i,none⟩=some v/\oq w v x):=hI.cells;clear hI
 go_enter func157,ntmps157
 go_wp2
 go_loopw [11] (fun i wr=>∃(j:Nat) (rs:Nat->Sl),j<=xss.length/\i=.int .i64 j/\eU 5 flat w.heap.size wr ⟨some ⟨w.heap.size,0,none⟩,xss.length⟩ rs (xss.take j++List.replicate (xss.length - j) [])/\ak w wr) (fun i _=>xss.length - (intOf i).toNat)
 case atStart=>exact⟨0,_,Nat.zero_le _,rfl,by simpa using Gr,hS1⟩
 case round =>
  clear Gr hw1 hS1 hmk;obtain⟨wo,rfl⟩:∃wo,wo=wr:=⟨_,rfl⟩;obtain⟨j,rs,hj,rfl,hLL,hS⟩:=hrel;by_cases hlt:j < xss.length
  ·obtain⟨xs,hx⟩:∃xs,xss[j]? = some xs:=⟨_,zQ1 hlt⟩;obtain⟨b,off,rfl,hb,hcell⟩:=HC.out (by omega);obtain⟨v,hv,ra,rc,rfl,hrc,hR⟩:=hcell j xs hx;have f0:wo.cell? ⟨b,off+j,none⟩=some (.slice ra xs.length rc):=(hS.av hb _).trans hv;have n1:(j:Int) < (xss.length:Int):=by omega
   have bq:(xss.take j++List.replicate (xss.length - j) ([]:List Mg)).length=xss.length:=by simp;omega
   have Kq:=hls j xs hx;have HX:Hid (xss[j]? = some xs):=hx;have hCl:=qF ra xs.length rc xs wo (hR.ay hS) Kq;clear hcell hv hx
   go_wp2_with (go_at_call 156;refine hCl.mono ?_;rintro e w2 ⟨s,rfl,nu,hS2⟩;unfold Sl.v;have Gs:=hLL.ay hS2;obtain⟨b',o',e',_,hblt,hall,_⟩:=Gs.top.body (by show 0 < xss.length;omega);dsimp only at e';cases e';obtain⟨q1,q2⟩:=hall j (by show j < xss.length*1;omega);rw[Nat.zero_add]at q1 q2;obtain⟨u,hu⟩:=Option.isSome_iff_exists.1 q1)
   go_roundw
   case rel =>
    have hput:=Gs.put (k:=j) (by rw[bq];exact hlt) rfl (nu.mono hS.size) (fun c hc=>by
     have hge:=nu.jf c hc;refine⟨fun e=>?_,fun i _ hi e=>?_⟩
     ·have:=(hLL.blk (.inl e)).2;omega
     ·have:=(hLL.blk (.inr ⟨i,hi,e⟩)).2;omega)
    rw[take_set xss j xs HX.out,Nat.zero_add]at hput;exact⟨j+1,_,by omega,by go_num,hput,⟨(hS.trans hS2).below.setCell (p:=⟨w.heap.size,j,none⟩) (Nat.le_refl _) _⟩⟩
   case measure=>simp[intOf];omega
  ·obtain rfl:j=xss.length:=by omega
   rw[Nat.sub_self,List.replicate_zero,List.append_nil,List.take_of_length_le (Nat.le_refl _)]at hLL
   go_wp2
   go_ret
   exact⟨⟨some ⟨w.heap.size,0,none⟩,xss.length⟩,rs,rfl,hLL,hS⟩
theorem bG.RO{lo:Nat}{w:World}{s t:Sl}{gs:List Int}(hR:Row w lo 1 s gs.length (gs.map j6))(hm:gs.length<=1000)(hN:Row w lo 4 t 0 [])(hd:∀b,s.blk=some b->t.blk≠some b) :
  bG lo w ⟨gs,[],[]⟩ (fun ix=>if ix=(0,0,0) then s else if ix=(1,0,0) then t else ⟨none,0⟩):=by
 have only:∀ix,okI ⟨gs,[],[]⟩ ix->ix=(0,0,0)\/ix=(1,0,0)\/ix=(2,0,0):=by
  rintro⟨t,i,k⟩ hok
  match t,hok with
  | 0,hok=>obtain⟨rfl,rfl⟩:=hok;exact .inl rfl
  | 1,hok=>obtain⟨rfl,rfl⟩:=hok;exact .inr (.inl rfl)
  | 2,hok=>obtain⟨rfl,rfl⟩:=hok;exact .inr (.inr rfl)
  | 3,hok=>exact absurd hok.1 (by simp)
  | 4,hok=>exact absurd hok.1 (by simp)
  | 5,hok=>exact absurd hok.1 (by simp)
  | 6,hok=>exact absurd hok.1 (by simp)
  | 7,hok=>exact absurd hok.1 (by simp)
  | 8,hok=>exact absurd hok.1 (by simp)
  | t+9,hok=>exact hok.elim
 refine⟨fun ix hx=>?_,fun ix hx=>?_,fun i j b hi hj e1 e2=>?_⟩
 ·rcases only ix hx with rfl | rfl | rfl
  ·rw[if_pos rfl];exact hR
  ·rw[if_neg (by simp),if_pos rfl];exact hN
  ·rw[if_neg (by simp),if_neg (by simp)];exact Row.nil w lo 1
 ·rcases only ix hx with rfl | rfl | rfl
  ·exact hm
  ·exact Nat.zero_le _
  ·exact Nat.zero_le _
 ·rcases only i hi with rfl | rfl | rfl <;> rcases only j hj with rfl | rfl | rfl <;> simp[Sl.blk]at e1 e2 ⊢
  ·exact absurd (show t.blk=some b by unfold Sl.blk;simp[e2]) (hd b (by unfold Sl.blk;simp[e1]))
  ·exact absurd (show t.blk=some b by unfold Sl.blk;simp[e1]) (hd b (by unfold Sl.blk;simp[e2]))
theorem Row.uniq{w:World}{lo lo' sz:Nat}{s:Sl}{n:Nat}{xs ys:List Value}(h:Row w lo sz s n xs)(k:Row w lo' sz s n ys):xs=ys:=by
 have h1:=h.len;have h2:=k.len;by_cases hc:0 < s.cap
 ·obtain⟨b,off,e,_,_,_,hx⟩:=h.body hc;obtain⟨b',off',e',_,_,_,hy⟩:=k.body hc;rw[e]at e';cases e';refine List.ext_getElem? fun j=>?_;by_cases hj:j < n*sz
  ·have a1:=hx j _ (zQ1 (by omega));have a2:=hy j _ (zQ1 (by omega));rw[a1]at a2;rw[zQ1 (by omega),zQ1 (by omega)];exact a2
  ·rw[List.getElem?_eq_none (by omega),List.getElem?_eq_none (by omega)]
 ·have:n=0:=by have:=h.cap;omega
  subst this;have e1:xs=[]:=zQ6 (by simpa using h1);have e2:ys=[]:=zQ6 (by simpa using h2);rw[e1,e2]
theorem VL{A R:List Value}{c0 h1 h2 h3 v1 v2 v3:Value}{n:Nat}(hA:A.length=n) :
  (((A++([c0,h1,h2,h3]++R)).set (n+1) v1).set (n+2) v2).set (n+3) v3=A++([c0,v1,v2,v3]++R):=by
 subst hA;simp[List.set_append_right]
theorem Iw{ns:List Nd}{H:Nat->Hd}{k:Nat}(hk:k < ns.length):(gy ns H).drop (k*4)=iI ns H k++(gy ns H).drop ((k+1)*4):=by
 refine List.ext_getElem? fun j=>?_;rw[List.getElem?_drop];by_cases hj:j < 4
 ·rw[Lc hk hj,List.getElem?_append_left (by simpa[iI] using hj)]
 ·rw[List.getElem?_append_right (by simp[iI];omega),List.getElem?_drop]
  congr 1
  simp[iI];omega
structure uQ (lo:Nat) (w:World) (p:Nat) (gs:List Int) (ns:List Nd) (H:Nat->Hd) (nsl:Sl) (k:Nat) (L:Lay):Prop where
 own:bG lo w ⟨gs,ns.take k,[]⟩ L
 l1:L (1,0,0)=nsl
 l2:L (2,0,0)=⟨none,0⟩
 full:Row w lo 4 nsl ns.length (dX ⟨gs,ns.take k,[]⟩ L (1,0,0)++(gy ns H).drop (k*4))
 lt:p < w.heap.size
 c0:w.cell? ⟨p,0,none⟩=some (.slice (L (0,0,0)).a gs.length (L (0,0,0)).cap)
 c1:w.cell? ⟨p,1,none⟩=some (.slice nsl.a ns.length nsl.cap)
 c2:w.cell? ⟨p,2,none⟩=some (.slice none 0 0)
 z0:w.frozen? ⟨p,0,none⟩=false
 z1:w.frozen? ⟨p,1,none⟩=false
 z2:w.frozen? ⟨p,2,none⟩=false
 off:¬ gT ⟨gs,ns.take k,[]⟩ L p
theorem uQ.step{lo:Nat}{w wB:World}{p:Nat}{gs:List Int}{ns:List Nd}{H:Nat->Hd}{nsl:Sl}{k:Nat}{L:Lay}(h:uQ lo w p gs ns H nsl k L){x:Nd}(hx:ns[k]? = some x)(hS:ak w wB){ls:Sl}{rs:Nat->Sl}{hs ts:Sl}
  (hn:oo w.heap.size wB x ls rs hs ts) (hlo:lo<=w.heap.size) (hsm:x9 x) (hN:ns.length<=1000) {b off cap:Nat} (he:nsl=⟨some ⟨b,off,none⟩,cap⟩) :
  uQ lo (((wB.setCell ⟨b,off+k*4+1,none⟩ (ls.v x.last.length)).setCell ⟨b,off+k*4+2,none⟩ (hs.v x.held.length)).setCell ⟨b,off+k*4+3,none⟩ (ts.v x.aG.length)) p gs ns H nsl (k+1) (dL L k nsl ls rs hs ts):=by
 have hk:=(zQ2.1 hx).1;have bq:(ns.take k).length=k:=by rw[List.length_take];omega
 obtain⟨A,hA⟩:∃A,dX ⟨gs,ns.take k,[]⟩ L (1,0,0)=A:=⟨_,rfl⟩
 have hAl:A.length=k*4:=by
  have:Row w lo 4 (L (1,0,0)) (ns.take k).length (dX ⟨gs,ns.take k,[]⟩ L (1,0,0)):=h.own.row (1,0,0) ⟨rfl,rfl⟩;have:=this.len;rw[hA,bq]at this;exact this
 have Wh:ns.length<=cap:=by have:=h.full.cap;rw[he]at this;exact this
 have hnb:nsl.blk=some b:=by rw[he];unfold Sl.blk;rw[if_neg (by dsimp only;omega)];rfl
 have hbW:gT ⟨gs,ns.take k,[]⟩ L b:=⟨(1,0,0),⟨rfl,rfl⟩,by rw[h.l1];exact hnb⟩;have hbl:=h.own.blk hbW;have hpb:p≠b:=fun e=>h.off (e ▸ hbW);obtain⟨W',hW'⟩:∃W',((wB.setCell ⟨b,off+k*4+1,none⟩ (ls.v x.last.length)).setCell ⟨b,off+k*4+2,none⟩ (hs.v x.held.length)).setCell ⟨b,off+k*4+3,none⟩ (ts.v x.aG.length)=W':=⟨_,rfl⟩
 have hF:Fr (fun i=>i=b) wB W':=by
  rw[<-hW'];exact(((Fr.refl (fun i=>i=b) wB).setCell ⟨b,off+k*4+1,none⟩ _ (fun _=>rfl)).setCell ⟨b,off+k*4+2,none⟩ _ (fun _=>rfl)).setCell ⟨b,off+k*4+3,none⟩ _ (fun _=>rfl)
 have hF2:Fr (fun i=>i=b) w W':=(hS.fr _).trans hF (fun _ _ e=>e) (fun _ _ e=>e)
 have hfull:Row W' lo 4 nsl ns.length (A++([.int .i64 x.aK,ls.v x.last.length,hs.v x.held.length,ts.v x.aG.length]++(gy ns H).drop ((k+1)*4))):=by
  have h0:=h.full.ay hS;rw[hA,Iw hk,he]at h0;unfold iI at h0;rw[hx]at h0;dsimp only[Option.getD_some]at h0;have h1:=((h0.set (k*4+1) (by omega) (ls.v x.last.length)).set (k*4+2) (by omega) (hs.v x.held.length)).set (k*4+3) (by omega) (ts.v x.aG.length);rw[VL hAl]at h1;rw[he,<-hW'];rw[Nat.add_assoc off (k*4) 1,Nat.add_assoc off (k*4) 2,Nat.add_assoc off (k*4) 3];exact h1
 have htk:Row W' lo 4 nsl (k+1) (A++[.int .i64 x.aK,ls.v x.last.length,hs.v x.held.length,ts.v x.aG.length]):=by
  have:=hfull.take (k+1) (by omega);rw[<-List.append_assoc,List.take_left' (by simp[hAl];omega)]at this;exact this
 have hnew:∀c,KV x ls rs hs ts c->w.heap.size<=c:=by
  rintro c (hc | hc | hc)
  ·exact(hn.last.blk hc).1
  ·exact hn.held.jf c hc
  ·exact hn.aG.jf c hc
 have hn':oo lo W' x ls rs hs ts:=by
  have:=hn.fr hF (fun c hc e=>by have:=hnew c hc;omega);exact⟨this.last.mono hlo,this.held.mono hlo,this.aG.mono hlo,this.d1,this.d2⟩
 have hown:=h.own.addNode (w':=W') (by exact hF2.size) (s:=nsl) hn' hsm (by show(ns.take k).length+1<=1000;omega)
  (fun c hc=>by
   have h1:=hnew c hc;refine⟨fun hb=>?_,fun e=>?_⟩
   ·have:=(h.own.blk hb).2;omega
   ·rw[hnb]at e;cases e;omega)
  (by show Row W' lo 4 nsl ((ns.take k).length+1) _;rw[hA,bq];exact htk)
  (fun c hc hne=>hF2.block c (h.own.blk hc).2 (fun e=>hne (by rw[h.l1,hnb,e])))
  (fun c hc=>.inl (by rw[h.l1];exact hc))
 have hd':(⟨gs,ns.take k++[x],[]⟩:Wd)=⟨gs,ns.take (k+1),[]⟩:=by rw[List.take_add_one,hx];rfl
 have hown2:bG lo W' ⟨gs,ns.take (k+1),[]⟩ (dL L k nsl ls rs hs ts):=by
  have h1:bG lo W' ⟨gs,ns.take k++[x],[]⟩ (dL L (ns.take k).length nsl ls rs hs ts):=hown;rw[hd',bq]at h1;exact h1
 have e0:dL L k nsl ls rs hs ts (0,0,0)=L (0,0,0):=by unfold dL;simp
 have e1:dL L k nsl ls rs hs ts (1,0,0)=nsl:=by unfold dL;simp
 have e2:dL L k nsl ls rs hs ts (2,0,0)=L (2,0,0):=by unfold dL;simp
 have hcells:dX ⟨gs,ns.take (k+1),[]⟩ (dL L k nsl ls rs hs ts) (1,0,0)=A++[.int .i64 x.aK,ls.v x.last.length,hs.v x.held.length,ts.v x.aG.length]:=by
  have h1:Row W' lo 4 (dL L k nsl ls rs hs ts (1,0,0)) (ns.take (k+1)).length (dX ⟨gs,ns.take (k+1),[]⟩ (dL L k nsl ls rs hs ts) (1,0,0)):=hown2.row (1,0,0) ⟨rfl,rfl⟩;rw[e1,show(ns.take (k+1)).length=k+1 from by rw[List.length_take];omega]at h1;exact h1.uniq htk
 have hpl:p < W'.heap.size:=zQ4 h.lt hF2.size;rw[hW'];refine⟨hown2,e1,e2.trans h.l2, ?_,hpl, ?_, ?_, ?_, ?_, ?_, ?_, ?_⟩
 ·rw[hcells,List.append_assoc];exact hfull
 ·rw[e0];exact(hF2.cell (p:=⟨p,0,none⟩) h.lt hpb).trans h.c0
 ·exact(hF2.cell (p:=⟨p,1,none⟩) h.lt hpb).trans h.c1
 ·exact(hF2.cell (p:=⟨p,2,none⟩) h.lt hpb).trans h.c2
 ·exact(hF2.frozen (p:=⟨p,0,none⟩) h.lt hpb).trans h.z0
 ·exact(hF2.frozen (p:=⟨p,1,none⟩) h.lt hpb).trans h.z1
 ·exact(hF2.frozen (p:=⟨p,2,none⟩) h.lt hpb).trans h.z2
 ·rintro⟨⟨t,i,j⟩,hok,hb⟩;have hsz:=h.lt;by_cases h1:(t,i,j)=(1,0,0)
  ·rw[h1,e1,hnb]at hb;cases hb;exact hpb rfl
  ·unfold dL at hb;rw[if_neg h1]at hb
   have old:okI ⟨gs,ns.take (k+1),[]⟩ (t,i,j)->i≠k\/t<=2\/7<=t->(L (t,i,j)).blk=some p->False:=by
    intro hok hik hL;refine h.off ⟨(t,i,j), ?_,hL⟩
    have VN:∀i,i≠k->bD ⟨gs,ns.take (k+1),[]⟩ i=bD ⟨gs,ns.take k,[]⟩ i:=by
     intro i hi;have:=zX (d:=⟨gs,ns.take k,[]⟩) (x:=x) i
     rw[show({ (⟨gs,ns.take k,[]⟩:Wd) with ah:=(⟨gs,ns.take k,[]⟩:Wd).ah++[x] }:Wd)=⟨gs,ns.take (k+1),[]⟩ from hd']at this
     rw[this,if_neg];rw[show(⟨gs,ns.take k,[]⟩:Wd).ah.length=k from bq];exact hi
    have hl1:(ns.take (k+1)).length=k+1:=by rw[List.length_take];omega
    match t,hok,hik with
    | 0,hok,_=>exact hok
    | 1,hok,_=>exact hok
    | 2,hok,_=>exact hok
    | 3,hok,hik=>have hik:i≠k:=by omega
                 exact⟨by have:i < (ns.take (k+1)).length:=hok.1;show i < (ns.take k).length;omega,hok.2⟩
    | 4,hok,hik=>have hik:i≠k:=by omega
                 refine⟨by have:i < (ns.take (k+1)).length:=hok.1;show i < (ns.take k).length;omega, ?_⟩;have:=hok.2;rw[VN i hik]at this;exact this
    | 5,hok,hik=>have hik:i≠k:=by omega
                 exact⟨by have:i < (ns.take (k+1)).length:=hok.1;show i < (ns.take k).length;omega,hok.2⟩
    | 6,hok,hik=>have hik:i≠k:=by omega
                 exact⟨by have:i < (ns.take (k+1)).length:=hok.1;show i < (ns.take k).length;omega,hok.2⟩
    | 7,hok,_=>exact absurd hok.1 (by simp)
    | 8,hok,_=>exact absurd hok.1 (by simp)
    | t+9,hok,_=>exact hok.elim
   dsimp only at hb;by_cases hik:i=k
   ·rw[if_pos hik]at hb;by_cases t3:t=3
    ·rw[if_pos t3]at hb;have:=hnew p (.inl (.inl hb));omega
    ·rw[if_neg t3]at hb;by_cases t4:t=4
     ·rw[if_pos t4]at hb;subst t4;have hj:j < (bD ⟨gs,ns.take (k+1),[]⟩ i).last.length:=hok.2;have:bD ⟨gs,ns.take (k+1),[]⟩ i=x:=dh (by show(ns.take (k+1))[i]? = some x;rw[hik,List.getElem?_take_of_lt (by omega)];exact hx);rw[this]at hj;have:=hnew p (.inl (.inr ⟨j,hj,hb⟩));omega
     ·rw[if_neg t4]at hb;by_cases t5:t=5
      ·rw[if_pos t5]at hb;have:=hnew p (.inr (.inl hb));omega
      ·rw[if_neg t5]at hb;by_cases t6:t=6
       ·rw[if_pos t6]at hb;have:=hnew p (.inr (.inr hb));omega
       ·rw[if_neg t6]at hb;exact old hok (.inr (by omega)) hb
   ·rw[if_neg hik]at hb;exact old hok (.inl hik) hb
end Go.Proofs.YtediempflagfkaaGreatDoor
set_option maxHeartbeats 1000000
namespace Go.Proofs.YtediempflagfkaaGreatDoor
open _root_.Go.Proofs.Tryz hiding checked
set_option maxRecDepth 8000
open Go.RowKit Go.Shelf
open Pu
theorem dJ(e:Int)(w:World):Calls prog 99 #[.bool true,.int .i64 e] w fun r w'=>r=.returned (.tuple #[])/\w'=w:=by
 go_enter func99,ntmps99
 go_wp2
 go_end0
 exact⟨rfl,rfl⟩
theorem gH(e:Int)(w:World):Calls prog 99 #[.bool false,.int .i64 e] w fun r w'=>r=.panicked (pan e)/\w'=w:=by
 go_enter func99,ntmps99
 go_wp2
 exact⟨rfl,rfl,rfl⟩
theorem vB(w:World):Calls prog 128 #[.int .i64 0] w fun r w'=>r=.returned (.tuple #[])/\w'=w:=by
 go_enter func128,ntmps128
 go_wp2_with (go_at_call 99;refine(dJ _ _).mono ?_;rintro e w' ⟨rfl,rfl⟩)
 go_end0
 exact⟨rfl,rfl⟩
theorem vw(e:Int)(he:(e == 0)=false)(w:World):Calls prog 128 #[.int .i64 e] w fun r w'=>r=.panicked (pan e)/\w'=w:=by
 go_enter func128,ntmps128
 go_wp2_with (go_at_call 99;refine(gH _ _).mono ?_;rintro e w' ⟨rfl,rfl⟩)
 exact⟨rfl,rfl,rfl⟩
structure dG (lo:Nat) (w:World) (p:Nat) (d:Wd) (L:Lay) (many:Int):Prop where
 made:dF lo w p d L
 lop:lo<=p
 cm:w.cell? ⟨p,3,none⟩=some (.int .i64 many)
 zm:w.frozen? ⟨p,3,none⟩=false
theorem dG.ay{lo:Nat}{w w':World}{p:Nat}{d:Wd}{L:Lay}{many:Int}(h:dG lo w p d L many)(k:ak w w'):dG lo w' p d L many :=
 ⟨h.made.ay k,h.lop,(k.av h.made.box.lt _).trans h.cm,(k.below.frozen (p:=⟨p,3,none⟩) h.made.box.lt).trans h.zm⟩
abbrev Up (lo:Nat) (X:Nat->Prop):Nat->Prop:=fun i=>¬ i < lo\/X i
theorem ak.up{w w':World}(h:ak w w')(lo:Nat)(X:Nat->Prop):Fr (Up lo X) w w':=h.fr _
theorem Fr.aT{lo:Nat}{X:Nat->Prop}{a b c:World}(h:Fr (Up lo X) a b)(k:Fr (Up lo X) b c):Fr (Up lo X) a c:=h.trans k (fun _ _ x=>x) (fun _ _ x=>x)
def vE(lo:Nat)(X:Nat->Prop)(p:Nat)(w:World)(r:Except Int (Wd × Int))(e:Ending)(w':World):Prop :=
 (∀er,r=.error er->e=.panicked (pan er)/\Fr (Up lo X) w w') /\
 (∀d' m,r=.ok (d',m)->e=.returned (.tuple #[])/\Fr (Up lo X) w w'/\∃L',dG lo w' p d' L' m)
theorem gu{lo:Nat}{X:Nat->Prop}{p:Nat}{w:World}{er:Int}{w':World}(h:Fr (Up lo X) w w'):vE lo X p w (.error er) (.panicked (pan er)) w' :=
 ⟨fun _ e=>(by cases e;exact⟨rfl,h⟩),fun _ _ e=>(by cases e)⟩
theorem pX{lo:Nat}{X:Nat->Prop}{p:Nat}{w:World}{d':Wd}{m:Int}{w':World}{L':Lay}(h:Fr (Up lo X) w w')(k:dG lo w' p d' L' m):vE lo X p w (.ok (d',m)) (.returned (.tuple #[])) w' :=
 ⟨fun _ e=>(by cases e),fun _ _ e=>(by cases e;exact⟨rfl,h,L',k⟩)⟩
theorem iq(p:Nat)(k:Int)(a:Option Addr)(n c:Nat)(w:World)(hc:w.cell? ⟨p,1,none⟩=some (.slice a n c)) :
  Calls prog 131 #[.pointer (some ⟨p,0,none⟩),.int .i64 k] w fun e w'=>e=.returned (.bool (decide (0<=k) && decide (k < (n:Int))))/\w'=w:=by
 by_cases h:0<=k
 ·go_enter func131,ntmps131
  go_wp2
  go_ret
  exact⟨by simp[h],rfl⟩
 ·go_enter func131,ntmps131
  go_wp2
  go_ret
  exact⟨by simp;omega,rfl⟩
theorem dG.become{lo:Nat}{w:World}{p:Nat}{d d':Wd}{L L':Lay}{many:Int}(h:dG lo w p d L many)(hO:bG (p+1) w d' L') :
  dG lo (((w.setCell ⟨p,0,none⟩ (.slice (L' (0,0,0)).a d'.au.length (L' (0,0,0)).cap)).setCell ⟨p,1,none⟩ (.slice (L' (1,0,0)).a d'.ah.length (L' (1,0,0)).cap)).setCell ⟨p,2,none⟩ (.slice (L' (2,0,0)).a d'.aB.length (L' (2,0,0)).cap)) p d' L' many:=by
 have hoff:¬ gT d' L' p:=fun hb=>by have:=(hO.blk hb).1;omega
 have b:=h.made.box;have hlt:=b.lt;have c0:=b.c0;have c1:=b.c1;have c2:=b.c2;have z0:=b.z0;have z1:=b.z1;have z2:=b.z2;have cm:=h.cm;have zm:=h.zm;refine⟨⟨(((hO.ko (p:=⟨p,0,none⟩) hoff _).ko (p:=⟨p,1,none⟩) hoff _).ko (p:=⟨p,2,none⟩) hoff _).mono (by have:=h.lop;omega), ?_,hoff⟩,h.lop, ?_, ?_⟩
 ·exact⟨zQ4 hlt (aS w p _ _ _).size,uw c0,uy c1,uD c2,(iC _ _ _ _ _ _).trans z0,(iC _ _ _ _ _ _).trans z1,(iC _ _ _ _ _ _).trans z2⟩
 ·exact(RQ _ _ _ _ _ (by decide)).trans cm
 ·exact(iC _ _ _ _ _ _).trans zm
theorem wP(p:Nat)(x:WV)(e:Int)(he:(e == 0)=false)(w:World) :
  Calls prog 132 #[.pointer (some ⟨p,0,none⟩),.agg #[.slice x.ga x.gl x.gc,.slice x.na x.nl x.nc,.slice x.wa x.wl x.wc],.int .i64 e] w fun r w'=>r=.panicked (pan e)/\ak w w':=by
 go_enter func132,ntmps132
 go_wp2_with (go_at_call 128;refine(vw _ he _).mono ?_;rintro e w' ⟨rfl,rfl⟩)
 exact⟨rfl,rfl,(ak.refl _).alloc _⟩
theorem zi{lo:Nat}{w:World}{p:Nat}{d d':Wd}{L L':Lay}{many:Int}(h:dG lo w p d L many)(hO:bG (p+1) w d' L') :
  Calls prog 132 #[.pointer (some ⟨p,0,none⟩),bF L' d',.int .i64 0] w fun r w'=>r=.returned (.tuple #[])/\dG lo w' p d' L' many/\Fr (fun i=>i=p) w w':=by
 unfold bF;obtain⟨w1,hw1⟩:∃w1,w.alloc (.cells #[.slice (L' (0,0,0)).a d'.au.length (L' (0,0,0)).cap,.slice (L' (1,0,0)).a d'.ah.length (L' (1,0,0)).cap,.slice (L' (2,0,0)).a d'.aB.length (L' (2,0,0)).cap] 31)=w1:=⟨_,rfl⟩;have hS1:=aF hw1;have q0:w1.cell? ⟨w.heap.size,0,none⟩=some (.slice (L' (0,0,0)).a d'.au.length (L' (0,0,0)).cap):=by rw[<-hw1];simp[go_sem]
 have q1:w1.cell? ⟨w.heap.size,1,none⟩=some (.slice (L' (1,0,0)).a d'.ah.length (L' (1,0,0)).cap):=by rw[<-hw1];simp[go_sem]
 have q2:w1.cell? ⟨w.heap.size,2,none⟩=some (.slice (L' (2,0,0)).a d'.aB.length (L' (2,0,0)).cap):=by rw[<-hw1];simp[go_sem]
 have h1:=h.ay hS1;obtain⟨lt,c0,c1,c2,z0,z1,z2⟩:=h1.made.box;have HB:=h1.become (hO.ay hS1)
 have HF:Fr (fun i=>i=p) w (((w1.setCell ⟨p,0,none⟩ (.slice (L' (0,0,0)).a d'.au.length (L' (0,0,0)).cap)).setCell ⟨p,1,none⟩ (.slice (L' (1,0,0)).a d'.ah.length (L' (1,0,0)).cap)).setCell ⟨p,2,none⟩ (.slice (L' (2,0,0)).a d'.aB.length (L' (2,0,0)).cap)) :=
  (hS1.fr _).trans (aS w1 p _ _ _) (fun _ _ e=>e) (fun _ _ e=>e)
 go_enter func132,ntmps132
 go_wp2_with (go_at_call 128;refine(vB _).mono ?_;rintro e w' ⟨rfl,rfl⟩)
 go_end0
 exact⟨rfl,HB,HF⟩
theorem mq(p:Nat)(x:WV)(k e:Int)(he:(e == 0)=false)(w:World) :
  Calls prog 101 #[.pointer (some ⟨p,0,none⟩),.agg #[.slice x.ga x.gl x.gc,.slice x.na x.nl x.nc,.slice x.wa x.wl x.wc],.int .i64 k,.int .i64 e] w fun r w'=>r=.panicked (pan e)/\ak w w':=by
 obtain⟨w1,hw1⟩:∃w1,w.alloc (.cells #[.slice x.ga x.gl x.gc,.slice x.na x.nl x.nc,.slice x.wa x.wl x.wc] 31)=w1:=⟨_,rfl⟩;have hP1:aP w1 w.heap.size x:=by rw[<-hw1];exact aP.new w x _
 obtain⟨lt,q0,q1,q2⟩:=hP1;have hS1:=aF hw1
 go_enter func101,ntmps101
 go_wp2_with (go_at_call 132;refine(wP p x e he w1).mono ?_;rintro e w' ⟨rfl,hS2⟩)
 exact⟨rfl,rfl,hS1.trans hS2⟩
theorem Nf{a b:Int}(ha:0<=a/\a<=100000)(hb:0<=b/\b<=100000):IntKind.i64.wrap (a+b)=a+b:=IntWalk.i64_in _ (by omega)
theorem oJ{lo:Nat}{w:World}{p:Nat}{d d':Wd}{L L':Lay}{many:Int}(k:Int)(hm:0<=many/\many<=100000)(hk:0<=k/\k<=100000)(h:dG lo w p d L many)(hO:bG (p+1) w d' L') :
  Calls prog 101 #[.pointer (some ⟨p,0,none⟩),bF L' d',.int .i64 k,.int .i64 0] w fun r w'=>r=.returned (.tuple #[])/\dG lo w' p d' L' (many+k)/\Fr (fun i=>i=p) w w':=by
 obtain⟨w1,hw1⟩:∃w1,w.alloc (.cells #[.slice (L' (0,0,0)).a d'.au.length (L' (0,0,0)).cap,.slice (L' (1,0,0)).a d'.ah.length (L' (1,0,0)).cap,.slice (L' (2,0,0)).a d'.aB.length (L' (2,0,0)).cap] 31)=w1:=⟨_,rfl⟩;have hS1:=aF hw1;have q0:w1.cell? ⟨w.heap.size,0,none⟩=some (.slice (L' (0,0,0)).a d'.au.length (L' (0,0,0)).cap):=by rw[<-hw1];simp[go_sem]
 have q1:w1.cell? ⟨w.heap.size,1,none⟩=some (.slice (L' (1,0,0)).a d'.ah.length (L' (1,0,0)).cap):=by rw[<-hw1];simp[go_sem]
 have q2:w1.cell? ⟨w.heap.size,2,none⟩=some (.slice (L' (2,0,0)).a d'.aB.length (L' (2,0,0)).cap):=by rw[<-hw1];simp[go_sem]
 have hadd:=Nf hm hk;have hBe:=zi (h.ay hS1) (hO.ay hS1);unfold bF at hBe ⊢
 go_enter func101,ntmps101
 go_wp2_with (go_at_call 132;refine hBe.mono ?_;rintro e w2 ⟨rfl,hB2,hF2⟩;have cm:=hB2.cm;have zm:=hB2.zm)
 go_end0
 have hp:=hB2.made.box.lt;have hFr:Fr (fun i=>i=p) w (w2.setCell ⟨p,3,none⟩ (.int .i64 (many+k))):=((hS1.fr (fun i=>i=p)).trans hF2 (fun _ _ e=>e) (fun _ _ e=>e)).setCell ⟨p,3,none⟩ _ (fun _=>rfl);have hF3:Fr (fun i=>i=p) w2 (w2.setCell ⟨p,3,none⟩ (.int .i64 (many+k))):=(Fr.refl (fun i=>i=p) w2).setCell ⟨p,3,none⟩ _ (fun _=>rfl);have hB:=hB2.made.box;refine⟨rfl,⟨⟨hB2.made.own.ko hB2.made.off _, ?_,hB2.made.off⟩,hB2.lop, ?_, ?_⟩,hFr⟩
 ·exact⟨zQ4 hp hF3.size,(bH _ _ _ (by decide)).trans hB.c0,(bH _ _ _ (by decide)).trans hB.c1,(bH _ _ _ (by decide)).trans hB.c2,by rw[World.frozen?_setCell];exact hB.z0,by rw[World.frozen?_setCell];exact hB.z1,by rw[World.frozen?_setCell];exact hB.z2⟩
 ·exact World.cell?_setCell_same' _ _ _ (by rw[cm];rfl)
 ·rw[World.frozen?_setCell];exact zm
end Go.Proofs.YtediempflagfkaaGreatDoor
