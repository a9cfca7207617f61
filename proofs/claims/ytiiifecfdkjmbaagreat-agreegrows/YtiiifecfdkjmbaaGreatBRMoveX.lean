/- What stands when furlongref.move begins to store; conditions: the world lies in memory of its own; the wire holds a message. Contract of furlongref.move; conditions: the world reads as one, it is right; both nodes are there. Contracts of furlongref.MoveError, MoveOf; conditions: the world reads as one. Contract of furlongref.DoOf for acts other than Calm; conditions: the world reads as one. -/
import Derived.Test.YtiiifecfdkjmbaaGreatBRCastX
namespace Go.Proofs.YtiiifecfdkjmbaaGreat
set_option maxRecDepth 8000
open Go.RowKit Go.Shelf
open _root_.Go.Proofs.YtiiifecfdkjmbaaGreat.Pure
set_option linter.unusedVariables false
set_option linter.unusedSimpArgs false
structure PY (w1 w3 w4:World) (p:Nat) (d:Wd) (L:Lay) (f t:Nat) (M:Mg) (rest:List Mg) (bw ow cw br oR cr bl ol lc:Nat):Prop where
 M4:lu w3 p d L f t (M::rest) bw ow cw br oR cr
 Ug:bH w3 bl ol M
 made:bM w1.heap.size w4 p d L
 Da:lu w4 p d L f t (M::rest) bw ow cw br oR cr
 msg:bH w4 w3.heap.size 0 M
 lt:w3.heap.size < w4.heap.size
 off:¬ gJ d L w3.heap.size
 since:Since w1 w4
 row:Row w4 w1.heap.size 5 ⟨some ⟨bl,ol,none⟩,lc⟩ (rest.length+1) (flat (M::rest))
theorem KT {w1 w2:World} {d:Wd} {L:Lay} {f t:Nat} {M:Mg} {rest:List Mg} (hO:aT w1.heap.size w2 d L) (hS:Since w1 w2) (r:dS d) (hf:f < d.nodes.length) (ht:t < d.nodes.length) (hE:ay d f t=M::rest) (T U:TypeId) :
  ∃ bl ol lc,L (8,f,t)=⟨some ⟨bl,ol,none⟩,lc⟩∧∀ w3 w4,w2.alloc (.cells #[.slice (L (0,0,0)).a d.groups.length (L (0,0,0)).cap,.slice (L (1,0,0)).a d.nodes.length (L (1,0,0)).cap,.slice (L (2,0,0)).a d.wires.length (L (2,0,0)).cap] T)=w3 →
   w3.alloc (.cells #[.int .i64 M.fr,.int .i64 M.gr,.int .i64 M.st,.bool M.nul,.string M.body] U)=w4→∃ bw ow cw br oR cr,PY w1 w3 w4 w2.heap.size d L f t M rest bw ow cw br oR cr bl ol lc:=by
 obtain ⟨row,hr,hrl⟩:=row_of r hf
 have vH:okI d (8,f,t):=⟨by rw [r.1];exact hf,by rw [dH hr];omega⟩
 have h8:Row w2 w1.heap.size 5 (L (8,f,t)) (ay d f t).length (flat (ay d f t)):=hO.row (8,f,t) vH
 rw [hE] at h8
 obtain ⟨bl,ol,e8,hll,hbl,hcl,hxl⟩:=h8.body (by have:=h8.cap;simp at this;omega)
 have hL8:L (8,f,t)=⟨some ⟨bl,ol,none⟩,(L (8,f,t)).cap⟩:=by rw [←e8]
 refine ⟨bl,ol,(L (8,f,t)).cap,hL8,fun w3 w4 h3 h4=>?_⟩
 have hS3:=av h3
 have hl3:w2.heap.size < w3.heap.size:=by rw [←h3];simp
 have hS4:=av h4
 have hM3:bM w1.heap.size w3 w2.heap.size d L:=by
  refine ⟨hO.since hS3, ?_,fun hb=>?_⟩
  ·rw [←h3];constructor <;> simp [go_sem]
  ·have:=(hO.blk hb).2;omega
 obtain ⟨bw,ow,cw,br,oR,cr,hH⟩:=hM3.pE r hf ht
 rw [hE] at hH
 refine ⟨bw,ow,cw,br,oR,cr,hH, ?_,hM3.since hS4,hH.since hS4, ?_, ?_,fun hb=>?_,(hS.trans hS3).trans hS4, ?_⟩
 ·have:=aZ hxl 0 M rfl
  simp only [Nat.zero_mul,Nat.add_zero] at this
  exact aB this hbl hS3
 ·rw [←h4];constructor <;> simp [go_sem]
 ·rw [←h4];simp
 ·have:=(hM3.own.blk hb).2;omega
 ·have:=h8.since (hS3.trans hS4)
  rw [hL8] at this;exact this
theorem JE {w:World} {lo bl ol lc:Nat} {M:Mg} {rest:List Mg} (h:Row w lo 5 ⟨some ⟨bl,ol,none⟩,lc⟩ (rest.length+1) (flat (M::rest))) :
  ∃ (sa:Option Addr) (sc:Nat),((lc=1∧rest.length=0∧sa=some ⟨bl,ol,none⟩∧sc=0)∨(1 < lc∧sa=some ⟨bl,ol+5,none⟩∧sc=lc - 1))∧Row w lo 5 ⟨sa,sc⟩ rest.length (flat rest)∧∀ b,Sl.blk ⟨sa,sc⟩=some b→Sl.blk ⟨some ⟨bl,ol,none⟩,lc⟩=some b:=by
 have hc:=h.cap
 dsimp only at hc
 by_cases h1:lc=1
 ·have hr:rest.length=0:=by omega
  have hr':rest=[]:=List.eq_nil_of_length_eq_zero hr
  subst hr'
  refine ⟨_,_,.inl ⟨h1,rfl,rfl,rfl⟩,⟨rfl,Nat.le_refl _,Nat.zero_le _,fun _=>.inr ⟨_,_,rfl⟩,fun hp=>absurd hp (by simp)⟩,fun b e=>?_⟩
  unfold Sl.blk at e;simp at e
 ·have hd:=h.drop 1 (by omega) (by omega)
  refine ⟨_,_,.inr ⟨by omega,rfl,rfl⟩, ?_,fun b e=>?_⟩
  ·have e:(flat (M::rest)).drop (1*5)=flat rest:=by
    show (M.cells++flat rest).drop 5=flat rest
    rw [List.drop_append_of_le_length (by simp [Mg.cells])];simp [Mg.cells]
   rw [e] at hd
   simpa using hd
  ·unfold Sl.blk at e ⊢
   rw [if_neg (by show ¬ lc - 1=0;omega)] at e
   rw [if_neg (by show ¬ lc=0;omega)]
   exact e
theorem ny {P:Program} {o:Oper} {a:Act} {S:World→Prop} {K:Act→Prop} {v:Value} (h:o.quiet P a S (fun a'=>a'=a.put o.dst v)) (hK:K (a.put o.dst v)):o.quiet P a S K:=by
 obtain ⟨v',hv,e⟩:=h
 exact ⟨v',hv,by rw [e];exact hK⟩
set_option maxHeartbeats 1000000 in
theorem Ee (x:WV) (d:Wd) (f t:Nat) (hf:f < d.nodes.length) (ht:t < d.nodes.length) (w:World) (hW:WAt w x d) (R:Right d) (hE:ay d f t=[]) :
  Calls Tryz.prog 93 #[.agg #[.slice x.ga x.gl x.gc,.slice x.na x.nl x.nc,.slice x.wa x.wl x.wc],.int .i64 f,.int .i64 t] w fun e w' =>
   e=.returned (.tuple #[.agg #[.slice none 0 0,.slice none 0 0,.slice none 0 0],.int .i64 7])∧Since w w':=by
 obtain ⟨ga,gl,gc,na,nl,nc,wa,wl,wc⟩:=x
 have hgl:=hW.g.hlen
 have hnl:=hW.n.hlen
 have hwl:=hW.r.hlen
 dsimp only at hgl hnl hwl ⊢
 subst hgl hnl hwl
 obtain ⟨wp,hwp⟩:∃ wp,w.alloc (.cells #[.slice ga d.groups.length gc,.slice na d.nodes.length nc,.slice wa d.wires.length wc] 26)=wp:=⟨_,rfl⟩
 have hPp:aG wp w.heap.size ⟨ga,d.groups.length,gc,na,d.nodes.length,nc,wa,d.wires.length,wc⟩:=by rw [←hwp];exact aG.new w ⟨ga,d.groups.length,gc,na,d.nodes.length,nc,wa,d.wires.length,wc⟩ _
 have hSp:=av hwp
 obtain ⟨w1,hw1⟩:∃ w1,wp.alloc (.cells #[.slice none 0 0,.slice none 0 0,.slice none 0 0] 26)=w1:=⟨_,rfl⟩
 have hNB:aA w1 wp.heap.size:=by rw [←hw1];exact aA.new wp _
 have bZ:=av hw1
 have hP1:=hPp.since bZ
 have hS1:=hSp.trans bZ
 have hR1:=(hW.since hS1).r
 dsimp only at hR1
 have p2:=hP1.c2
 dsimp only at p2
 obtain ⟨row,hr,hrl⟩:=row_of R.rows hf
 have hwn:(f:Int) < (d.wires.length:Int):=by have:=R.um;omega
 have htn:(t:Int) < (row.length:Int):=by omega
 obtain ⟨bw,ow,rfl,hbw,hcw⟩:=hR1.cells (by have:=R.um;omega)
 obtain ⟨v,k1,ra,rc,rfl,hrc,hRo⟩:=hcw f row hr
 obtain ⟨br,oR,rfl,hbr,hcr⟩:=hRo.cells (by omega)
 obtain ⟨l,hl⟩:∃ l,row[t]? = some l:=⟨_,List.getElem?_eq_getElem (by omega)⟩
 obtain ⟨v2,k2,la,lc,rfl,hlc,hLo⟩:=hcr t l hl
 have hl0:l=[]:=by rw [oF hr hl] at hE;exact hE
 subst hl0
 dsimp only [List.length_nil] at k2
 obtain ⟨lt,r0,r1,r2,r3,r4,r5⟩:=hNB
 go_enter Tryz.func93,Tryz.ntmps93
 go_wp2
 refine bodyPost_ret (v:=.tuple #[.agg #[.slice none 0 0,.slice none 0 0,.slice none 0 0],.int .i64 7]) ?_ rfl ⟨rfl,aK hSp.size hS1⟩
 simp [results,Tryz.results93,go_sem,r0,r1,r2]
def sQ (x:Nd) (m:Mg):Nd:={ x with clock:=max x.clock m.st }
set_option maxHeartbeats 4000000 in
theorem Gd (x:WV) (d:Wd) (f t:Nat) (hf:f < d.nodes.length) (ht:t < d.nodes.length) (w:World) (hW:WAt w x d) (R:Right d) (M:Mg) (rest:List Mg) (hE:ay d f t=M::rest) (Post:Ending→World→Prop)
  (je:∀ er,fG d f t=.error er→∀ w',Since w w'→Post (.returned (.tuple #[.agg #[.slice none 0 0,.slice none 0 0,.slice none 0 0],.int .i64 er])) w')
  (hOk:∀ d',fG d f t=.ok d'→∀ w' L,aT w.heap.size w' d' L→Since w w'→Post (.returned (.tuple #[aL L d',.int .i64 0])) w') :
  Calls Tryz.prog 93 #[.agg #[.slice x.ga x.gl x.gc,.slice x.na x.nl x.nc,.slice x.wa x.wl x.wc],.int .i64 f,.int .i64 t] w fun e w'=>Hid (Post e w'):=by
 obtain ⟨ga,gl,gc,na,nl,nc,wa,wl,wc⟩:=x
 have hgl:=hW.g.hlen
 have hnl:=hW.n.hlen
 have hwl:=hW.r.hlen
 dsimp only at hgl hnl hwl ⊢
 subst hgl hnl hwl
 obtain ⟨sn1,sn4,sg1,sg3⟩:=nD R.chk
 have hsm:=jL R
 have hmv:fG d f t=(dX (kV d f t M rest) t M).bind fun d3=>(eD d3 t).bind fun p=>.ok p.1:=by unfold fG;rw [hE]
 -- the node,its Last
 obtain ⟨nd,hnd⟩:∃ nd,d.nodes[t]? = some nd:=⟨_,List.getElem?_eq_getElem ht⟩
 have CY:=R.p9 f t M (by rw [hE];simp)
 obtain ⟨hc1,hc2⟩:=nP.1 CY.1
 obtain ⟨_,⟨hg0,hg1⟩,_,_⟩:=qb hc1
 obtain ⟨gg,hgg⟩:=Int.eq_ofNat_of_zero_le hg0
 have PZ:gg < d.groups.length:=by omega
 obtain ⟨lG,sS⟩:∃ r,nd.last[gg]? = some r:=⟨_,List.getElem?_eq_getElem (by rw [R.llen t nd hnd];exact PZ)⟩
 have M5:=R.lG t nd gg lG hnd sS
 obtain ⟨lv,hlv⟩:∃ v,lG[f]? = some v:=⟨_,List.getElem?_eq_getElem (by omega)⟩
 obtain ⟨X2,hX2⟩:∃ y,mI nd M f=y:=⟨_,rfl⟩
 have Gf:kV d f t M rest=setNode (aY d f t rest) t X2:=by unfold kV;rw [hnd];show setNode (aY d f t rest) t (mI nd M f)=_;rw [hX2]
 have Ib:X2={ sQ nd M with last:=(sQ nd M).last.set gg (lG.set f (max lv M.st)) }:=by
  rw [←hX2];unfold mI sQ
  rw [hgg,Int.toNat_natCast]
  simp only [sS,Option.getD_some]
  have:d9 nd.last gg f=lv:=rX sS hlv
  rw [this]
 -- the boxes
 obtain ⟨wp,hwp⟩:∃ wp,w.alloc (.cells #[.slice ga d.groups.length gc,.slice na d.nodes.length nc,.slice wa d.wires.length wc] 26)=wp:=⟨_,rfl⟩
 have hPp:aG wp w.heap.size ⟨ga,d.groups.length,gc,na,d.nodes.length,nc,wa,d.wires.length,wc⟩:=by rw [←hwp];exact aG.new w ⟨ga,d.groups.length,gc,na,d.nodes.length,nc,wa,d.wires.length,wc⟩ _
 have hSp:=av hwp
 obtain ⟨w1,hw1⟩:∃ w1,wp.alloc (.cells #[.slice none 0 0,.slice none 0 0,.slice none 0 0] 26)=w1:=⟨_,rfl⟩
 have hNB:aA w1 wp.heap.size:=by rw [←hw1];exact aA.new wp _
 have bZ:=av hw1
 have hP1:=hPp.since bZ
 have hS1:=hSp.trans bZ
 have hW1:=hW.since hS1
 have hR1:=hW1.r
 dsimp only at hR1
 have p0:=hP1.c0
 have p1:=hP1.c1
 have p2:=hP1.c2
 dsimp only at p0 p1 p2
 obtain ⟨row,hr,hrl⟩:=row_of R.rows hf
 have hwn:(f:Int) < (d.wires.length:Int):=by have:=R.um;omega
 have htn:(t:Int) < (d.nodes.length:Int):=by omega
 obtain ⟨bw,ow,rfl,hbw,hcw⟩:=hR1.cells (by have:=R.um;omega)
 obtain ⟨v,k1,ra,rc,rfl,hrc,hRo⟩:=hcw f row hr
 obtain ⟨br,oR,rfl,hbr,hcr⟩:=hRo.cells (by omega)
 obtain ⟨l,hl⟩:∃ l,row[t]? = some l:=⟨_,List.getElem?_eq_getElem (by omega)⟩
 obtain ⟨v2,k2,la,lc,rfl,hlc,hLo⟩:=hcr t l hl
 have hl0:l=M::rest:=by rw [oF hr hl] at hE;exact hE
 subst hl0
 rw [hrl] at k1
 dsimp only [List.length_cons] at k2
 have hrn:rest.length+1≤40:=by have:=R.oD f t;rw [hE] at this;simpa using this
 have hr0:¬ (((rest.length+1:Nat):Int)=0):=by omega
 have HGG:Hid (M.gr=gg):=hgg
 have HLR:=(show Hid _ from M5)
 clear hgg CY hc1 hc2 hg0 hg1 M5
 have iT:=(show Hid _ from je)
 have HOK:=(show Hid _ from hOk)
 have HR:Hid (Right d):=R
 have HMV:=(show Hid _ from hmv)
 have HCO:=(show Hid _ from Gf)
 have HX:=(show Hid _ from Ib)
 have HEE:=(show Hid _ from hE)
 clear je hOk hmv Gf Ib hX2 hE hcw hcr
 go_enter Tryz.func93,Tryz.ntmps93
 go_wp2_with (go_at_call 80;refine (mX ⟨ga,d.groups.length,gc,na,d.nodes.length,nc,some ⟨bw,ow,none⟩,d.wires.length,wc⟩ d w1 hW1 hsm).mono ?_;rintro e w2 ⟨L,rfl,hO2,dh⟩;simp only [aL];obtain ⟨bl,ol,lcc,hL8,F8⟩:=KT hO2 dh R.rows hf ht HEE.out 26 42;obtain ⟨w3,hw3⟩:∃ y,w2.alloc (.cells #[.slice (L (0,0,0)).a d.groups.length (L (0,0,0)).cap,.slice (L (1,0,0)).a d.nodes.length (L (1,0,0)).cap,.slice (L (2,0,0)).a d.wires.length (L (2,0,0)).cap] 26)=y:=⟨_,rfl⟩;obtain ⟨w4,hw4⟩:∃ y,w3.alloc (.cells #[.int .i64 M.fr,.int .i64 M.gr,.int .i64 M.st,.bool M.nul,.string M.body] 42)=y:=⟨_,rfl⟩;obtain ⟨bw2,ow2,cw2,br2,oR2,cr2,hIn⟩:=F8 w3 w4 hw3 hw4;have s2:=hIn.M4.top;have s3:=hIn.M4.row;have s4:=hIn.M4.cell;rw [hL8] at s4;dsimp only [Sl.v,List.length_cons] at s4;obtain ⟨g0,g1,g2,g3,g4⟩:=hIn.Ug)
 clear hw3 hw4 F8 hwp hw1 s2 s3 s4 g0 g1 g2 g3 g4 p0 p1 p2 k1 k2
 obtain ⟨bn,on,cn,hL1,_,hbn,hbk,hcn⟩:=hIn.made.own.lies (ix:=(1,0,0)) ⟨rfl,rfl⟩ (by show 0 < d.nodes.length;omega)
 obtain ⟨sa,sc,hsl,hRs,hbs⟩:=JE hIn.row
 obtain ⟨W0,hW0⟩:∃ y,w4.drew=y:=⟨_,rfl⟩
 have hs0:=bC hW0
 obtain ⟨S0,hS0⟩:∃ S0:World→Prop,∀ w',S0 w'↔Since w4 w':=⟨_,fun _=>Iff.rfl⟩
 have c1:∀ y:aj S0,y.w.cell? ⟨w2.heap.size,2,none⟩=some (.slice (some ⟨bw2,ow2,none⟩) d.wires.length cw2):=fun y=>(hIn.Da.since ((hS0 _).1 y.h)).top
 have c2:∀ y:aj S0,y.w.cell? ⟨bw2,ow2+f,none⟩=some (.slice (some ⟨br2,oR2,none⟩) d.nodes.length cr2):=fun y=>(hIn.Da.since ((hS0 _).1 y.h)).row
 have c3:∀ y:aj S0,y.w.cell? ⟨br2,oR2+t,none⟩=some (.slice (some ⟨bl,ol,none⟩) (rest.length+1) lcc):=fun y=>by have:=(hIn.Da.since ((hS0 _).1 y.h)).cell;rw [hL8] at this;exact this
 have ak:=(hS0 W0).2 hs0
 have hne:Nonempty (aj S0):=⟨⟨_,ak⟩⟩
 have y3:=(hIn.Da.since hs0).cell
 have z3:=(hIn.Da.since hs0).free
 rw [hL8] at y3
 dsimp only [Sl.v,List.length_cons] at y3
 have hcut:=hIn.made.JF R.rows hf ht hIn.Da.lay hs0 (rest:=rest) (by omega) (s:=⟨sa,sc⟩) (hRs.since hs0) (by rw [hL8];exact hbs)
 obtain ⟨W5,hW5⟩:∃ y,W0.setCell ⟨br2,oR2+t,none⟩ (.slice sa rest.length sc)=y:=⟨_,rfl⟩
 have IG:W0.setCell ⟨br2,oR2+t,none⟩ (Sl.v ⟨sa,sc⟩ rest.length)=W5:=hW5
 rw [IG] at hcut
 have Uh:(rest.length:Int)+1≤(lcc:Int):=by have:=hIn.row.cap;dsimp only at this;omega
 have HW5:=(show Hid _ from IG)
 clear IG
 refine nL (fun w'=>∃ x:aj S0,w'=x.w) (by kernel_rfl) ?_
 rw [hW0]
 clear hW0
 refine tL 0 rfl (ah ak) ?_
 go_big_quiet_op
 refine tL 1 rfl (ah ak) ?_
 go_big_quiet_op
 refine tL 2 rfl (ah ak) ?_
 go_big_quiet_op
 refine tL 3 rfl (ah ak) ?_
 go_big_quiet_op
 refine tL 4 rfl (ah ak) ?_
 go_big_quiet_op
 refine tL 5 rfl (ah ak) ?_
 go_big_quiet_op
 refine tL 6 rfl (ah ak) ?_
 go_big_quiet_op
 refine tL 7 rfl (ah ak) ?_
 go_big_quiet_op
 refine tL 8 rfl (ah ak) ?_
 go_big_quiet_op
 refine tL 9 rfl (ah ak) ?_
 go_big_quiet_op
 refine tL 10 rfl (ah ak) ?_
 go_big_quiet_op
 refine tL 11 rfl (ah ak) ?_
 go_big_quiet_op
 refine tL 12 rfl (ah ak) ?_
 go_big_quiet_op
 refine tL 13 rfl (ah ak) ?_
 go_big_quiet_op
 refine tL 14 rfl (ah ak) ?_
 refine ny (v:=.slice sa rest.length sc) ?_ ?_
 ·rcases hsl with ⟨h1,h2,h3,h4⟩ | ⟨h1,h3,h4⟩
  ·subst h1 h3 h4
   have hr:rest=[]:=List.eq_nil_of_length_eq_zero h2
   subst hr
   go_big_quiet_op
   simp [Act.put,hL1]
  ·subst h3 h4
   have h1':(1:Int) < (lcc:Int):=by omega
   go_big_quiet_op
   simp [Act.put,hL1]
 simp only [Act.put,List.setIfInBounds_toArray,List.set_cons_zero,List.set_cons_succ]
 refine tL 15 rfl (ah ak) ?_
 go_big_quiet_op
 refine fK 16 rfl (by kernel_rfl) ?_
 intro K hK
 go_simp
 refine hK _ _ (fun h=>absurd h (by decide +kernel)) ?_
 clear hK K
 refine jQ (by kernel_rfl) ?_
 obtain ⟨hM5,vI⟩:=hcut
 obtain ⟨hq5,II⟩:=vI.beside hIn.lt hIn.off
 have M6:=bB hIn.msg hq5
 have Eb:=Nat.lt_of_lt_of_le hIn.lt vI.fr.size
 have hS5:Since w1 W5:=vI.fr.aC hIn.since (fun i hi hb=>by have:=(hIn.made.own.blk hb).1;omega)
 have AB:(L.upd (8,f,t) ⟨sa,sc⟩) (1,0,0)=⟨some ⟨bn,on,none⟩,cn⟩:=hL1
 obtain ⟨L5,hL5⟩:∃ y,L.upd (8,f,t) ⟨sa,sc⟩=y:=⟨_,rfl⟩
 obtain ⟨D1,hD1⟩:∃ y,aY d f t rest=y:=⟨_,rfl⟩
 have IJ:D1.nodes[t]? = some nd:=by rw [←hD1];exact hnd
 have hN1:D1.nodes.length=d.nodes.length:=by rw [←hD1];rfl
 rw [hL5] at AB hM5 II
 rw [hD1] at hM5 II
 have HD1:=(show Hid _ from hD1)
 have HN1:=(show Hid _ from hN1)
 have b1:=hM5.box.c1
 rw [AB,hN1] at b1
 dsimp only at b1
 obtain ⟨q0,q1,_,_,qz⟩:=hM5.own.cells IJ AB
 have hb5:bn < W5.heap.size:=Nat.lt_of_lt_of_le hbn vI.fr.size
 clear hN1 hD1 hL5 c1 c2 c3 hne y3 z3 hW5
 go_wp2_with fail
 obtain ⟨W6,hW6⟩:∃ y,W5.drew=y:=⟨_,rfl⟩
 have hs6:=bC hW6
 obtain ⟨S7,hS7⟩:∃ S0:World→Prop,∀ w',S0 w'↔Since W5 w':=⟨_,fun _=>Iff.rfl⟩
 have c1:∀ y:aj S7,y.w.cell? ⟨bn,on+t*4,none⟩=some (.int .i64 nd.clock):=fun y=>(((hS7 _).1 y.h).cellAt hb5 _).trans q0
 have c2:∀ y:aj S7,y.w.cell? ⟨w3.heap.size,2,none⟩=some (.int .i64 M.st):=fun y=>(((hS7 _).1 y.h).cellAt Eb _).trans M6.c2
 have uo:=(hS7 W6).2 hs6
 have Ui:Nonempty (aj S7):=⟨⟨_,uo⟩⟩
 have e6:=(hs6.cellAt hb5 _).trans q0
 have z6:=(hs6.below.frozen (p:=⟨bn,on+t*4,none⟩) hb5).trans (by have:=qz 0 (by omega);simpa using this)
 obtain ⟨W7,hW7⟩:∃ y,W6.setCell ⟨bn,on+t*4,none⟩ (.int .i64 (max nd.clock M.st))=y:=⟨_,rfl⟩
 obtain ⟨hM7,qJ⟩:=hM5.sU IJ AB hs6 (max nd.clock M.st)
 rw [hW7] at hM7 qJ
 refine nL (fun w'=>∃ x:aj S7,w'=x.w) (by kernel_rfl) ?_
 rw [hW6]
 clear hW6
 refine tL 0 rfl (ah uo) ?_
 go_big_quiet_op
 refine tL 1 rfl (ah uo) ?_
 go_big_quiet_op
 refine tL 2 rfl (ah uo) ?_
 go_big_quiet_op
 refine tL 3 rfl (ah uo) ?_
 go_big_quiet_op
 refine tL 4 rfl (ah uo) ?_
 go_big_quiet_op
 refine tL 5 rfl (ah uo) ?_
 go_big_quiet_op
 refine tL 6 rfl (ah uo) ?_
 go_big_quiet_op
 refine tL 7 rfl (ah uo) ?_
 refine ny (v:=.int .i64 (max nd.clock M.st)) ?_ ?_
 ·go_big_quiet_op
  all_goals
   simp [Act.put,hL1]
   try omega
 simp only [Act.put,List.setIfInBounds_toArray,List.set_cons_zero,List.set_cons_succ]
 refine tL 8 rfl (ah uo) ?_
 go_big_quiet_op
 refine tL 9 rfl (ah uo) ?_
 go_big_quiet_op
 refine fK 10 rfl (by kernel_rfl) ?_
 intro K hK
 go_simp
 refine hK _ _ (fun h=>absurd h (by decide +kernel)) ?_
 clear hK K
 refine jQ (by kernel_rfl) ?_
 obtain ⟨X1,hX1⟩:∃ y,({ nd with clock:=max nd.clock M.st }:Nd)=y:=⟨_,rfl⟩
 have M7:sQ nd M=X1:=hX1
 rw [hX1] at hM7 qJ
 have hla:X1.last=nd.last:=by rw [←hX1]
 have Ef:(setNode D1 t X1).nodes[t]? = some X1:=by rw [cZ _ IJ,if_pos rfl]
 obtain ⟨D2,hD2⟩:∃ y,setNode D1 t X1=y:=⟨_,rfl⟩
 rw [hD2] at hM7 qJ Ef
 obtain ⟨hq7,P5⟩:=qJ.beside Eb II
 have IK:=bB M6 hq7
 have IL:=Nat.lt_of_lt_of_le Eb qJ.fr.size
 have Uj:Since w1 W7:=qJ.fr.aC hS5 (fun i hi hb=>by have:=(hM5.own.blk hb).1;omega)
 have Gg:X1.last[gg]? = some lG:=by rw [hla];exact sS
 have hpl:0 < lG.length:=by rw [HLR.out];omega
 obtain ⟨u0,u1,_,_,uz⟩:=hM7.own.cells Ef AB
 obtain ⟨b3,o3,cc3,b4,o4,cc4,hL3,hL4,hb3,hb4,v1,v2,v3⟩:=hM7.own.Db Ef Gg hpl
 rw [hL3,hla] at u1
 dsimp only [Sl.v] at u1
 have HX1:=(show Hid _ from M7)
 have HLA:=(show Hid _ from hla)
 have HD2:=(show Hid _ from hD2)
 have m1':=IK.c1
 rw [HGG.out] at m1'
 have Uk:(gg:Int) < (nd.last.length:Int):=by have:=(List.getElem?_eq_some_iff.1 sS).1;omega
 have Ul:(f:Int) < (lG.length:Int):=by rw [HLR.out];omega
 have v4:=v2 f lv hlv
 have v5:=v3 f (by omega)
 have hb7:bn < W7.heap.size:=Nat.lt_of_lt_of_le hb5 qJ.fr.size
 clear hX1 M7 hla hD2 hW7 c1 c2 Ui e6 z6 q0 q1 b1
 go_wp2_with fail
 obtain ⟨W8,hW8⟩:∃ y,W7.drew=y:=⟨_,rfl⟩
 have hs8:=bC hW8
 obtain ⟨S8,hS8⟩:∃ S0:World→Prop,∀ w',S0 w'↔Since W7 w':=⟨_,fun _=>Iff.rfl⟩
 have c1:∀ y:aj S8,y.w.cell? ⟨bn,on+t*4+1,none⟩=some (.slice (some ⟨b3,o3,none⟩) nd.last.length cc3):=fun y=>(((hS8 _).1 y.h).cellAt hb7 _).trans u1
 have c2:∀ y:aj S8,y.w.cell? ⟨w3.heap.size,1,none⟩=some (.int .i64 gg):=fun y=>(((hS8 _).1 y.h).cellAt IL _).trans m1'
 have c3:∀ y:aj S8,y.w.cell? ⟨b3,o3+gg,none⟩=some (.slice (some ⟨b4,o4,none⟩) lG.length cc4):=fun y=>(((hS8 _).1 y.h).cellAt hb3 _).trans v1
 have c4:∀ y:aj S8,y.w.cell? ⟨b4,o4+f,none⟩=some (.int .i64 lv):=fun y=>(((hS8 _).1 y.h).cellAt hb4 _).trans v4
 have c5:∀ y:aj S8,y.w.cell? ⟨w3.heap.size,2,none⟩=some (.int .i64 M.st):=fun y=>(((hS8 _).1 y.h).cellAt IL _).trans IK.c2
 have jl:=(hS8 W8).2 hs8
 have Od:Nonempty (aj S8):=⟨⟨_,jl⟩⟩
 have e8:=(hs8.cellAt hb4 _).trans v4
 have z8:=(hs8.below.frozen (p:=⟨b4,o4+f,none⟩) hb4).trans v5
 obtain ⟨W9,hW9⟩:∃ y,W8.setCell ⟨b4,o4+f,none⟩ (.int .i64 (max lv M.st))=y:=⟨_,rfl⟩
 obtain ⟨hM9,BS⟩:=hM7.M8 (k:=f) Ef Gg (by omega) hL4 hs8 (max lv M.st)
 rw [hW9] at hM9 BS
 refine nL (fun w'=>∃ x:aj S8,w'=x.w) (by kernel_rfl) ?_
 rw [hW8]
 clear hW8
 refine tL 0 rfl (ah jl) ?_
 go_big_quiet_op
 refine tL 1 rfl (ah jl) ?_
 go_big_quiet_op
 refine tL 2 rfl (ah jl) ?_
 go_big_quiet_op
 refine tL 3 rfl (ah jl) ?_
 go_big_quiet_op
 refine tL 4 rfl (ah jl) ?_
 go_big_quiet_op
 refine tL 5 rfl (ah jl) ?_
 go_big_quiet_op
 refine tL 6 rfl (ah jl) ?_
 go_big_quiet_op
 refine tL 7 rfl (ah jl) ?_
 go_big_quiet_op
 refine tL 8 rfl (ah jl) ?_
 go_big_quiet_op
 refine tL 9 rfl (ah jl) ?_
 go_big_quiet_op
 refine tL 10 rfl (ah jl) ?_
 go_big_quiet_op
 refine tL 11 rfl (ah jl) ?_
 go_big_quiet_op
 refine tL 12 rfl (ah jl) ?_
 go_big_quiet_op
 refine tL 13 rfl (ah jl) ?_
 go_big_quiet_op
 refine tL 14 rfl (ah jl) ?_
 go_big_quiet_op
 refine tL 15 rfl (ah jl) ?_
 go_big_quiet_op
 refine tL 16 rfl (ah jl) ?_
 go_big_quiet_op
 refine tL 17 rfl (ah jl) ?_
 go_big_quiet_op
 refine tL 18 rfl (ah jl) ?_
 go_big_quiet_op
 refine tL 19 rfl (ah jl) ?_
 go_big_quiet_op
 refine tL 20 rfl (ah jl) ?_
 go_big_quiet_op
 refine tL 21 rfl (ah jl) ?_
 go_big_quiet_op
 refine tL 22 rfl (ah jl) ?_
 refine ny (v:=.int .i64 (max lv M.st)) ?_ ?_
 ·go_big_quiet_op
  all_goals
   simp [Act.put,hL1]
   try omega
 simp only [Act.put,List.setIfInBounds_toArray,List.set_cons_zero,List.set_cons_succ]
 refine tL 23 rfl (ah jl) ?_
 go_big_quiet_op
 refine fK 24 rfl (by kernel_rfl) ?_
 intro K hK
 go_simp
 refine hK _ _ (fun h=>absurd h (by decide +kernel)) ?_
 clear hK K
 refine jQ (by kernel_rfl) ?_
 obtain ⟨dk,hdk⟩:∃ y,kV d f t M rest=y:=⟨_,rfl⟩
 have hDc:setNode D2 t { X1 with last:=X1.last.set gg (lG.set f (max lv M.st)) }=dk:=by
  rw [←hdk,HCO.out,HX.out,HX1.out,←HD2.out,←HD1.out]
  unfold setNode;simp [List.set_set]
 rw [hDc] at hM9 BS
 have hxk:dk.nodes[t]? = some X2:=by
  rw [←hdk,HCO.out]
  have h1:(aY d f t rest).nodes[t]? = some nd:=hnd
  rw [cZ _ h1,if_pos rfl]
 have hGk:dk.groups=d.groups:=by rw [←hdk,HCO.out];rfl
 have hNk:dk.nodes.length=d.nodes.length:=by rw [←hdk,HCO.out];simp [setNode,aY]
 have RN:X2.held=nd.held:=by rw [HX.out];rfl
 have P6:X2.last=nd.last.set gg (lG.set f (max lv M.st)):=by rw [HX.out];rfl
 have Ed:kr dk X2:=by
  have h2:=xu HR.out hnd
  refine ⟨by rw [P6,hGk,List.length_set];exact h2.len,fun g2 r2 hr2=>?_⟩
  rw [P6,List.getElem?_set] at hr2
  rw [hNk]
  split at hr2
  ·split at hr2
   ·have:=Option.some.inj hr2
    rw [←this,List.length_set];exact HLR.out
   ·cases hr2
  ·exact h2.rows g2 r2 hr2
 have IC:X2.held.length≤40:=by rw [RN];have:=HR.out.qU t;rw [(dD hnd).2.1] at this;exact this
 obtain ⟨hq9,Um⟩:=BS.beside IL P5
 have IQ:=bB IK hq9
 have hSr:Since w1 W9:=BS.fr.aC Uj (fun i hi hb=>by have:=(hM7.own.blk hb).1;omega)
 have m0:=IQ.c0
 have m1:=IQ.c1
 have m2:=IQ.c2
 have m3:=IQ.c3
 have m4:=IQ.c4
 have HMC:Hid (fG d f t=(dX dk t M).bind fun d3=>(eD d3 t).bind fun p=>.ok p.1):=by unfold Hid;rw [HMV.out,hdk]
 clear hDc hGk hNk RN P6 hdk c1 c2 c3 c4 c5 Od e8 z8 hW9 u0 u1 v1 v4 v5 m1'
 cases hmn:M.nul
 ·rw [hmn] at m3
  cases hP:(dK M X2.held != 0)
  ·have HP:Hid (dK M X2.held=0):=by unfold Hid;simpa using hP
   obtain ⟨X3,hX3⟩:∃ y,({ X2 with held:=gD M X2.held }:Nd)=y:=⟨_,rfl⟩
   obtain ⟨D3,hD3⟩:∃ y,setNode dk t X3=y:=⟨_,rfl⟩
   have mO:=oJ w1.heap.size w2.heap.size t M dk L5 X2 W9 hM9 hxk hSr.size
   rw [hX3,hD3,hmn] at mO
   have hx3:D3.nodes[t]? = some X3:=by rw [←hD3,cZ _ hxk,if_pos rfl]
   have MV:kr D3 X3:=by rw [←hD3,←hX3];exact ⟨Ed.len,fun gg row hr=>by have:=Ed.rows gg row hr;simpa [setNode] using this⟩
   have MW:X3.held.length≤40:=by
    rw [←hX3];show (gD M X2.held).length≤40
    rw [kS M X2.held HP.out]
    have:¬ 40≤X2.held.length:=fun h=>by have:=HP.out;unfold dK at this;split at this <;> simp_all
    omega
   have HCB:Hid (fG d f t=(eD D3 t).bind fun p=>.ok p.1):=by
    unfold Hid
    rw [HMC.out]
    unfold dX rW
    rw [hmn,hxk]
    simp only [HP.out,if_true,Bool.false_eq_true,if_false]
    rw [hX3,hD3];rfl
   have HTD:=(show Hid _ from xq hx3)
   clear hX3 hD3 hmn hxk
   cases hT:(iC D3 t X3 != 0)
   ·have HT:Hid (iC D3 t X3=0):=by unfold Hid;simpa using hT
    go_wp2_with (first
     | (go_at_call 146;refine mO.mono ?_;rintro e w6 ⟨rfl,hh1,hh2⟩;obtain ⟨L3,hM3,IE⟩:=hh2 HP.out;have AA:=IE.fr.aC hSr (fun i hi hb=>by have:=(hM9.own.blk hb).1;omega))
     | (go_at_call 147;refine (iQ w1.heap.size w2.heap.size t D3 L3 X3 w6 hM3 hx3 AA.size MV MW).mono ?_;rintro e w9 ⟨rfl,hT1,hT2⟩;obtain ⟨L4,hM4,y8⟩:=hT2 HT.out;have lC:=y8.fr.aC AA (fun i hi hb=>by have:=(hM3.own.blk hb).1;omega);obtain ⟨lt,r0,r1,r2,r3,r4,r5⟩:=hNB.since lC;have b0:=hM4.box.c0;have b1:=hM4.box.c1;have b2:=hM4.box.c2))
    obtain ⟨hO,hSf⟩:=hM4.own.result (w0:=w) (p:=wp.heap.size) hNB.lt hSp.size (hS1.trans lC) hS1.size
    refine bodyPost_ret (v:=.tuple #[aL L4 (setNode D3 t (sM D3 t X3)),.int .i64 0]) ?_ rfl (HOK.out _ (by rw [HCB.out,HTD.out,if_pos HT.out];rfl) _ L4 hO hSf)
    simp [results,Tryz.results93,go_sem,r0,r1,r2,aL]
   ·have HT:Hid (iC D3 t X3≠0):=by unfold Hid;simpa using hT
    go_wp2_with (first
     | (go_at_call 146;refine mO.mono ?_;rintro e w6 ⟨rfl,hh1,hh2⟩;obtain ⟨L3,hM3,IE⟩:=hh2 HP.out;have AA:=IE.fr.aC hSr (fun i hi hb=>by have:=(hM9.own.blk hb).1;omega))
     | (go_at_call 147;refine (iQ w1.heap.size w2.heap.size t D3 L3 X3 w6 hM3 hx3 AA.size MV MW).mono ?_;rintro e w9 ⟨rfl,hT1,hT2⟩;have lC:=AA.trans (hT1 HT.out);obtain ⟨lt,r0,r1,r2,r3,r4,r5⟩:=hNB.since lC))
    refine bodyPost_ret (v:=.tuple #[.agg #[.slice none 0 0,.slice none 0 0,.slice none 0 0],.int .i64 (iC D3 t X3)]) ?_ rfl (iT.out _ (by rw [HCB.out,HTD.out,if_neg HT.out];rfl) _ (aK hSp.size (hS1.trans lC)))
    simp [results,Tryz.results93,go_sem,r0,r1,r2,aL]
  ·have HP:Hid (dK M X2.held≠0):=by unfold Hid;simpa using hP
   have mO:=oJ w1.heap.size w2.heap.size t M dk L5 X2 W9 hM9 hxk hSr.size
   rw [hmn] at mO
   have HCB:Hid (fG d f t=.error (dK M X2.held)):=by
    unfold Hid
    rw [HMC.out]
    unfold dX rW
    rw [hmn,hxk]
    simp only [HP.out,Bool.false_eq_true,if_false];rfl
   clear hmn
   go_wp2_with (go_at_call 146;refine mO.mono ?_;rintro e w6 ⟨rfl,hh1,hh2⟩;have lC:=hSr.trans (hh1 HP.out);obtain ⟨lt,r0,r1,r2,r3,r4,r5⟩:=hNB.since lC)
   refine bodyPost_ret (v:=.tuple #[.agg #[.slice none 0 0,.slice none 0 0,.slice none 0 0],.int .i64 (dK M X2.held)]) ?_ rfl (iT.out _ HCB.out _ (aK hSp.size (hS1.trans lC)))
   simp [results,Tryz.results93,go_sem,r0,r1,r2,aL]
 ·rw [hmn] at m3
  have HCB:Hid (fG d f t=(eD dk t).bind fun p=>.ok p.1):=by
   unfold Hid
   rw [HMC.out]
   unfold dX
   rw [hmn];rfl
  have HTD:=(show Hid _ from xq hxk)
  clear hmn
  cases hT:(iC dk t X2 != 0)
  ·have HT:Hid (iC dk t X2=0):=by unfold Hid;simpa using hT
   go_wp2_with (go_at_call 147;refine (iQ w1.heap.size w2.heap.size t dk L5 X2 W9 hM9 hxk hSr.size Ed IC).mono ?_;rintro e w9 ⟨rfl,hT1,hT2⟩;obtain ⟨L4,hM4,y8⟩:=hT2 HT.out;have lC:=y8.fr.aC hSr (fun i hi hb=>by have:=(hM9.own.blk hb).1;omega);obtain ⟨lt,r0,r1,r2,r3,r4,r5⟩:=hNB.since lC;have b0:=hM4.box.c0;have b1:=hM4.box.c1;have b2:=hM4.box.c2)
   obtain ⟨hO,hSf⟩:=hM4.own.result (w0:=w) (p:=wp.heap.size) hNB.lt hSp.size (hS1.trans lC) hS1.size
   refine bodyPost_ret (v:=.tuple #[aL L4 (setNode dk t (sM dk t X2)),.int .i64 0]) ?_ rfl (HOK.out _ (by rw [HCB.out,HTD.out,if_pos HT.out];rfl) _ L4 hO hSf)
   simp [results,Tryz.results93,go_sem,r0,r1,r2,aL]
  ·have HT:Hid (iC dk t X2≠0):=by unfold Hid;simpa using hT
   go_wp2_with (go_at_call 147;refine (iQ w1.heap.size w2.heap.size t dk L5 X2 W9 hM9 hxk hSr.size Ed IC).mono ?_;rintro e w9 ⟨rfl,hT1,hT2⟩;have lC:=hSr.trans (hT1 HT.out);obtain ⟨lt,r0,r1,r2,r3,r4,r5⟩:=hNB.since lC)
   refine bodyPost_ret (v:=.tuple #[.agg #[.slice none 0 0,.slice none 0 0,.slice none 0 0],.int .i64 (iC dk t X2)]) ?_ rfl (iT.out _ (by rw [HCB.out,HTD.out,if_neg HT.out];rfl) _ (aK hSp.size (hS1.trans lC)))
   simp [results,Tryz.results93,go_sem,r0,r1,r2,aL]
theorem sI (x:WV) (d:Wd) (f t:Nat) (hf:f < d.nodes.length) (ht:t < d.nodes.length) (w:World) (hW:WAt w x d) (R:Right d) :
  Calls Tryz.prog 93 #[.agg #[.slice x.ga x.gl x.gc,.slice x.na x.nl x.nc,.slice x.wa x.wl x.wc],.int .i64 f,.int .i64 t] w fun e w'=>pU w (fG d f t) e w':=by
 cases hE:ay d f t with
 | nil =>
  refine (Ee x d f t hf ht w hW R hE).mono ?_
  rintro e w' ⟨rfl,hS⟩
  have h:fG d f t=.error 7:=by unfold fG;rw [hE]
  rw [h];exact dJ hS
 | cons M rest =>
  refine Gd x d f t hf ht w hW R M rest hE _ (fun er h w' hS=>?_) (fun d' h w' L hO hS=>?_)
  ·rw [h];exact dJ hS
  ·rw [h];exact fJ hO hS
def jM (d:Wd) (f t:Int):Int:=if aX d f≠0 then aX d f else aX d t
set_option maxHeartbeats 1000000 in
theorem pF (x:WV) (d:Wd) (f t:Int) (w:World) (hW:WAt w x d) :
  Calls Tryz.prog 92 #[.agg #[.slice x.ga x.gl x.gc,.slice x.na x.nl x.nc,.slice x.wa x.wl x.wc],.int .i64 f,.int .i64 t] w fun e w'=>e=.returned (.int .i64 (jM d f t))∧Since w w':=by
 obtain ⟨ga,gl,gc,na,nl,nc,wa,wl,wc⟩:=x
 dsimp only
 obtain ⟨w1,hw1⟩:∃ wp,w.alloc (.cells #[.slice ga gl gc,.slice na nl nc,.slice wa wl wc] 26)=wp:=⟨_,rfl⟩
 have hP1:aG w1 w.heap.size ⟨ga,gl,gc,na,nl,nc,wa,wl,wc⟩:=by rw [←hw1];exact aG.new w ⟨ga,gl,gc,na,nl,nc,wa,wl,wc⟩ _
 have hS1:=av hw1
 have hW1:=hW.since hS1
 have p0:=hP1.c0
 have p1:=hP1.c1
 have p2:=hP1.c2
 dsimp only at p0 p1 p2
 have PF:Hid (∀ y,Since w1 y→aG y w.heap.size ⟨ga,gl,gc,na,nl,nc,wa,wl,wc⟩):=fun y hy=>hP1.since hy
 cases hE:(aX d f != 0)
 ·have HE:Hid (jM d f t=aX d t):=by
   have:aX d f=0:=by simpa using hE
   unfold Hid jM;rw [this];simp
  go_enter Tryz.func92,Tryz.ntmps92
  go_wp2_with (first
   | (go_at_call_of 123 (Value.int IntKind.i64 f);refine (oO ⟨ga,gl,gc,na,nl,nc,wa,wl,wc⟩ d f w1 hW1).mono ?_;rintro e w2 ⟨rfl,hS2⟩;obtain ⟨lt2,f0,f1,f2⟩:=PF.out _ hS2;dsimp only at f0 f1 f2)
   | (go_at_call 123;refine (oO ⟨ga,gl,gc,na,nl,nc,wa,wl,wc⟩ d t w2 (hW1.since hS2)).mono ?_;rintro e w3 ⟨rfl,hS3⟩))
  go_ret
  exact ⟨by rw [HE.out];rfl,hS1.trans (hS2.trans (by assumption))⟩
 ·have HE:Hid (jM d f t=aX d f):=by
   have:¬ aX d f=0:=by simpa using hE
   unfold Hid jM;rw [if_pos this]
  go_enter Tryz.func92,Tryz.ntmps92
  go_wp2_with (go_at_call 123;refine (oO ⟨ga,gl,gc,na,nl,nc,wa,wl,wc⟩ d f w1 hW1).mono ?_;rintro e w2 ⟨rfl,hS2⟩)
  go_ret
  exact ⟨by rw [HE.out];rfl,hS1.trans hS2⟩
set_option maxHeartbeats 1000000 in
theorem lY (x:WV) (d:Wd) (n g:Int) (w:World) (hW:WAt w x d) :
  Calls Tryz.prog 34 #[.agg #[.slice x.ga x.gl x.gc,.slice x.na x.nl x.nc,.slice x.wa x.wl x.wc],.int .i64 n,.int .i64 g] w fun e w'=>Hid (pU w (jk d n g) e w'):=by
 obtain ⟨ga,gl,gc,na,nl,nc,wa,wl,wc⟩:=x
 dsimp only
 obtain ⟨wp,hwp⟩:∃ wp,w.alloc (.cells #[.slice ga gl gc,.slice na nl nc,.slice wa wl wc] 26)=wp:=⟨_,rfl⟩
 have hPp:aG wp w.heap.size ⟨ga,gl,gc,na,nl,nc,wa,wl,wc⟩:=by rw [←hwp];exact aG.new w ⟨ga,gl,gc,na,nl,nc,wa,wl,wc⟩ _
 have hSp:=av hwp
 obtain ⟨w1,hw1⟩:∃ w1,wp.alloc (.cells #[.slice none 0 0,.slice none 0 0,.slice none 0 0] 26)=w1:=⟨_,rfl⟩
 have hNB:aA w1 wp.heap.size:=by rw [←hw1];exact aA.new wp _
 have bZ:=av hw1
 have hP1:=hPp.since bZ
 have hS1:=hSp.trans bZ
 have hW1:=hW.since hS1
 have p0:=hP1.c0
 have p1:=hP1.c1
 have p2:=hP1.c2
 dsimp only at p0 p1 p2
 have PF:Hid (∀ y,Since w1 y→aG y w.heap.size ⟨ga,gl,gc,na,nl,nc,wa,wl,wc⟩):=fun y hy=>hP1.since hy
 cases hE:(jM d n g != 0)
 ·have hz:jM d n g=0:=by simpa using hE
  have h0:aX d n=0∧aX d g=0:=by
   unfold jM at hz
   by_cases h:aX d n=0
   ·rw [if_neg (by simpa using h)] at hz;exact ⟨h,hz⟩
   ·rw [if_pos h] at hz;exact ⟨hz,absurd hz h⟩
  have hw0:aH d=0:=by
   by_cases h:aH d=0
   ·exact h
   ·have:=h0.1;unfold aX at this;rw [if_neg h] at this;exact this
  have hin:∀ k:Int,aX d k=0→inB k 0 ((d.nodes.length:Int) - 1)=true:=by
   intro k hk
   unfold aX at hk;rw [if_pos hw0] at hk
   cases hb:inB k 0 ((d.nodes.length:Int) - 1)
   ·rw [hb] at hk;simp at hk
   ·rfl
  have hn:=hin n h0.1
  have hg:=hin g h0.2
  have hMO:jk d n g=fG d n.toNat g.toNat:=by unfold jk;rw [if_pos hw0,hn,hg];rfl
  have hR:Right d:=(bQ d).1 hw0
  unfold inB at hn hg
  simp only [decide_eq_true_eq] at hn hg
  obtain ⟨f,rfl⟩:=Int.eq_ofNat_of_zero_le hn.1
  obtain ⟨t,rfl⟩:=Int.eq_ofNat_of_zero_le hg.1
  rw [hMO]
  rw [Int.toNat_natCast,Int.toNat_natCast]
  have hf:f < d.nodes.length:=by omega
  have ht:t < d.nodes.length:=by omega
  clear hn hg hMO hw0 h0 hin hz
  obtain ⟨r,hr⟩:∃ r,fG d f t=r:=⟨_,rfl⟩
  rw [hr]
  have HRR:=(show Hid _ from hr)
  clear hr
  cases r with
  | error er =>
   go_enter Tryz.func34,Tryz.ntmps34
   go_wp2_with (first
    | (go_at_call 92;refine (pF ⟨ga,gl,gc,na,nl,nc,wa,wl,wc⟩ d f t w1 hW1).mono ?_;rintro e w2 ⟨rfl,hS2⟩;obtain ⟨lt2,f0,f1,f2⟩:=PF.out _ hS2;dsimp only at f0 f1 f2)
    | (go_at_call 93;refine (sI ⟨ga,gl,gc,na,nl,nc,wa,wl,wc⟩ d f t hf ht w2 (hW1.since hS2) hR).mono ?_;rintro e w3 ⟨hR3,_⟩;obtain ⟨rfl,hS3⟩:=hR3 er HRR.out;have hSr:=hS2.trans hS3;obtain ⟨lt,r0,r1,r2,r3,r4,r5⟩:=hNB.since hSr))
   refine bodyPost_ret (v:=.tuple #[.agg #[.slice none 0 0,.slice none 0 0,.slice none 0 0],.int .i64 er]) ?_ rfl (dJ (aK hSp.size (hS1.trans hSr)))
   simp [results,Tryz.results34,go_sem,r0,r1,r2]
  | ok d' =>
   go_enter Tryz.func34,Tryz.ntmps34
   go_wp2_with (first
    | (go_at_call 92;refine (pF ⟨ga,gl,gc,na,nl,nc,wa,wl,wc⟩ d f t w1 hW1).mono ?_;rintro e w2 ⟨rfl,hS2⟩;obtain ⟨lt2,f0,f1,f2⟩:=PF.out _ hS2;dsimp only at f0 f1 f2)
    | (go_at_call 93;refine (sI ⟨ga,gl,gc,na,nl,nc,wa,wl,wc⟩ d f t hf ht w2 (hW1.since hS2) hR).mono ?_;rintro e w3 ⟨_,hR3⟩;obtain ⟨L,rfl,hO,hS3⟩:=hR3 d' HRR.out;simp only [aL];have hSr:=hS2.trans hS3;obtain ⟨lt,r0,r1,r2,r3,r4,r5⟩:=hNB.since hSr))
   obtain ⟨hO2,hSf⟩:=hO.result (w0:=w) (p:=wp.heap.size) (Nat.lt_of_lt_of_le hNB.lt hS2.size) hSp.size (hS1.trans hSr) (Nat.le_trans hS1.size hS2.size)
   refine bodyPost_ret (v:=.tuple #[aL L d',.int .i64 0]) ?_ rfl (fJ hO2 hSf)
   simp [results,Tryz.results34,go_sem,r0,r1,r2,aL]
 ·have hne:jM d n g≠0:=by simpa using hE
  have HF:Hid (jk d n g=.error (jM d n g)):=by
   unfold Hid jk
   by_cases hw0:aH d=0
   ·rw [if_pos hw0]
    have hk:∀ k:Int,aX d k=if inB k 0 ((d.nodes.length:Int) - 1) then 0 else 4:=fun k=>by unfold aX;rw [if_pos hw0]
    unfold jM at hne ⊢
    rw [hk n,hk g] at hne ⊢
    cases h1:inB n 0 ((d.nodes.length:Int) - 1) <;> cases h2:inB g 0 ((d.nodes.length:Int) - 1) <;> simp [h1,h2] at hne ⊢
   ·rw [if_neg hw0]
    have hk:∀ k:Int,aX d k=aH d:=fun k=>by unfold aX;rw [if_neg hw0]
    unfold jM
    rw [hk n,if_pos hw0]
  clear hne
  go_enter Tryz.func34,Tryz.ntmps34
  go_wp2_with (go_at_call 92;refine (pF ⟨ga,gl,gc,na,nl,nc,wa,wl,wc⟩ d n g w1 hW1).mono ?_;rintro e w2 ⟨rfl,hS2⟩;obtain ⟨lt,r0,r1,r2,r3,r4,r5⟩:=hNB.since hS2)
  refine bodyPost_ret (v:=.tuple #[.agg #[.slice none 0 0,.slice none 0 0,.slice none 0 0],.int .i64 (jM d n g)]) ?_ rfl (by unfold Hid;rw [HF.out];exact dJ (aK hSp.size (hS1.trans hS2)))
  simp [results,Tryz.results34,go_sem,r0,r1,r2]
def acV (x:Ac):Value:=.agg #[.int .i64 x.kind,.int .i64 x.one,.int .i64 x.two,.string x.body]
set_option maxHeartbeats 2000000 in
theorem yS (x:WV) (d:Wd) (a:Ac) (h4:a.kind≠4) (w:World) (hW:WAt w x d) :
  Calls Tryz.prog 61 #[.agg #[.slice x.ga x.gl x.gc,.slice x.na x.nl x.nc,.slice x.wa x.wl x.wc],acV a] w fun e w'=>Hid (pU w (doD d a) e w'):=by
 obtain ⟨ga,gl,gc,na,nl,nc,wa,wl,wc⟩:=x
 obtain ⟨kind,one,two,body⟩:=a
 unfold acV
 dsimp only at h4 ⊢
 obtain ⟨wq,hwq⟩:∃ wp,w.alloc (.cells #[.slice ga gl gc,.slice na nl nc,.slice wa wl wc] 26)=wp:=⟨_,rfl⟩
 have hPq:aG wq w.heap.size ⟨ga,gl,gc,na,nl,nc,wa,wl,wc⟩:=by rw [←hwq];exact aG.new w ⟨ga,gl,gc,na,nl,nc,wa,wl,wc⟩ _
 have hSq:=av hwq
 obtain ⟨wp,hwp⟩:∃ wp,wq.alloc (.cells #[.int .i64 kind,.int .i64 one,.int .i64 two,.string body] 58)=wp:=⟨_,rfl⟩
 have Fb:=av hwp
 have hlq:wq.heap.size < wp.heap.size:=by rw [←hwp];simp
 have a0:wp.cell? ⟨wq.heap.size,0,none⟩=some (.int .i64 kind):=by rw [←hwp];simp [go_sem]
 have a1:wp.cell? ⟨wq.heap.size,1,none⟩=some (.int .i64 one):=by rw [←hwp];simp [go_sem]
 have a2:wp.cell? ⟨wq.heap.size,2,none⟩=some (.int .i64 two):=by rw [←hwp];simp [go_sem]
 have a3:wp.cell? ⟨wq.heap.size,3,none⟩=some (.string body):=by rw [←hwp];simp [go_sem]
 have hSp:=hSq.trans Fb
 obtain ⟨w1,hw1⟩:∃ w1,wp.alloc (.cells #[.slice none 0 0,.slice none 0 0,.slice none 0 0] 26)=w1:=⟨_,rfl⟩
 have hNB:aA w1 wp.heap.size:=by rw [←hw1];exact aA.new wp _
 have bZ:=av hw1
 have hP1:=hPq.since (Fb.trans bZ)
 have hS1:=hSp.trans bZ
 have hW1:=hW.since hS1
 have p0:=hP1.c0
 have p1:=hP1.c1
 have p2:=hP1.c2
 dsimp only at p0 p1 p2
 have d0:=(bZ.cellAt hlq _).trans a0
 have d1:=(bZ.cellAt hlq _).trans a1
 have d2:=(bZ.cellAt hlq _).trans a2
 have d3:=(bZ.cellAt hlq _).trans a3
 clear a0 a1 a2 a3
 by_cases h1:kind=1
 ·subst h1
  obtain ⟨r,hr⟩:∃ r,doD d ⟨1,one,two,body⟩=r:=⟨_,rfl⟩
  rw [hr]
  have HRR:=(show Hid _ from hr)
  clear hr
  cases r with
  | error er =>
   go_enter Tryz.func61,Tryz.ntmps61
   go_wp2_with (go_at_call 29;refine (gM ⟨ga,gl,gc,na,nl,nc,wa,wl,wc⟩ d one two false body w1 hW1).mono ?_;rintro e w3 hR3;obtain ⟨rfl,hS3⟩:=hR3.out.1 er HRR.out;obtain ⟨lt,r0,r1,r2,r3,r4,r5⟩:=hNB.since hS3)
   refine bodyPost_ret (v:=.tuple #[.agg #[.slice none 0 0,.slice none 0 0,.slice none 0 0],.int .i64 er]) ?_ rfl (dJ (aK hSp.size (hS1.trans hS3)))
   simp [results,Tryz.results61,go_sem,r0,r1,r2]
  | ok d' =>
   go_enter Tryz.func61,Tryz.ntmps61
   go_wp2_with (go_at_call 29;refine (gM ⟨ga,gl,gc,na,nl,nc,wa,wl,wc⟩ d one two false body w1 hW1).mono ?_;rintro e w3 hR3;obtain ⟨L,rfl,hO,hS3⟩:=hR3.out.2 d' HRR.out;simp only [aL];obtain ⟨lt,r0,r1,r2,r3,r4,r5⟩:=hNB.since hS3)
   obtain ⟨hO2,hSf⟩:=hO.result (w0:=w) (p:=wp.heap.size) hNB.lt hSp.size (hS1.trans hS3) hS1.size
   refine bodyPost_ret (v:=.tuple #[aL L d',.int .i64 0]) ?_ rfl (fJ hO2 hSf)
   simp [results,Tryz.results61,go_sem,r0,r1,r2,aL]
 by_cases h2:kind=2
 ·subst h2
  obtain ⟨r,hr⟩:∃ r,doD d ⟨2,one,two,body⟩=r:=⟨_,rfl⟩
  rw [hr]
  have HRR:=(show Hid _ from hr)
  clear hr
  cases r with
  | error er =>
   go_enter Tryz.func61,Tryz.ntmps61
   go_wp2_with (go_at_call 29;refine (gM ⟨ga,gl,gc,na,nl,nc,wa,wl,wc⟩ d one two true ByteArray.empty w1 hW1).mono ?_;rintro e w3 hR3;obtain ⟨rfl,hS3⟩:=hR3.out.1 er HRR.out;obtain ⟨lt,r0,r1,r2,r3,r4,r5⟩:=hNB.since hS3)
   refine bodyPost_ret (v:=.tuple #[.agg #[.slice none 0 0,.slice none 0 0,.slice none 0 0],.int .i64 er]) ?_ rfl (dJ (aK hSp.size (hS1.trans hS3)))
   simp [results,Tryz.results61,go_sem,r0,r1,r2]
  | ok d' =>
   go_enter Tryz.func61,Tryz.ntmps61
   go_wp2_with (go_at_call 29;refine (gM ⟨ga,gl,gc,na,nl,nc,wa,wl,wc⟩ d one two true ByteArray.empty w1 hW1).mono ?_;rintro e w3 hR3;obtain ⟨L,rfl,hO,hS3⟩:=hR3.out.2 d' HRR.out;simp only [aL];obtain ⟨lt,r0,r1,r2,r3,r4,r5⟩:=hNB.since hS3)
   obtain ⟨hO2,hSf⟩:=hO.result (w0:=w) (p:=wp.heap.size) hNB.lt hSp.size (hS1.trans hS3) hS1.size
   refine bodyPost_ret (v:=.tuple #[aL L d',.int .i64 0]) ?_ rfl (fJ hO2 hSf)
   simp [results,Tryz.results61,go_sem,r0,r1,r2,aL]
 by_cases h3:kind=3
 ·subst h3
  obtain ⟨r,hr⟩:∃ r,doD d ⟨3,one,two,body⟩=r:=⟨_,rfl⟩
  rw [hr]
  have HRR:=(show Hid _ from hr)
  clear hr
  cases r with
  | error er =>
   go_enter Tryz.func61,Tryz.ntmps61
   go_wp2_with (go_at_call 34;refine (lY ⟨ga,gl,gc,na,nl,nc,wa,wl,wc⟩ d one two w1 hW1).mono ?_;rintro e w3 hR3;obtain ⟨rfl,hS3⟩:=hR3.out.1 er HRR.out;obtain ⟨lt,r0,r1,r2,r3,r4,r5⟩:=hNB.since hS3)
   refine bodyPost_ret (v:=.tuple #[.agg #[.slice none 0 0,.slice none 0 0,.slice none 0 0],.int .i64 er]) ?_ rfl (dJ (aK hSp.size (hS1.trans hS3)))
   simp [results,Tryz.results61,go_sem,r0,r1,r2]
  | ok d' =>
   go_enter Tryz.func61,Tryz.ntmps61
   go_wp2_with (go_at_call 34;refine (lY ⟨ga,gl,gc,na,nl,nc,wa,wl,wc⟩ d one two w1 hW1).mono ?_;rintro e w3 hR3;obtain ⟨L,rfl,hO,hS3⟩:=hR3.out.2 d' HRR.out;simp only [aL];obtain ⟨lt,r0,r1,r2,r3,r4,r5⟩:=hNB.since hS3)
   obtain ⟨hO2,hSf⟩:=hO.result (w0:=w) (p:=wp.heap.size) hNB.lt hSp.size (hS1.trans hS3) hS1.size
   refine bodyPost_ret (v:=.tuple #[aL L d',.int .i64 0]) ?_ rfl (fJ hO2 hSf)
   simp [results,Tryz.results61,go_sem,r0,r1,r2,aL]
 have b1:(kind == 1)=false:=by simpa using h1
 have b2:(kind == 2)=false:=by simpa using h2
 have b3:(kind == 3)=false:=by simpa using h3
 have b4:(kind == 4)=false:=by simpa using h4
 have HF:Hid (doD d ⟨kind,one,two,body⟩=.error 6):=by unfold Hid doD;dsimp only;rw [if_neg h1,if_neg h2,if_neg h3,if_neg h4]
 clear h1 h2 h3 h4
 obtain ⟨lt,r0,r1,r2,r3,r4,r5⟩:=hNB
 go_enter Tryz.func61,Tryz.ntmps61
 go_wp2
 refine bodyPost_ret (v:=.tuple #[.agg #[.slice none 0 0,.slice none 0 0,.slice none 0 0],.int .i64 6]) ?_ rfl (by unfold Hid;rw [HF.out];exact dJ (aK hSp.size hS1))
 simp [results,Tryz.results61,go_sem,r0,r1,r2]
end Go.Proofs.YtiiifecfdkjmbaaGreat
