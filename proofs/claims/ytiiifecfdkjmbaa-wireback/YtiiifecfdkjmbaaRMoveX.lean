/- Lemmas. -/
import Derived.Test.YtiiifecfdkjmbaaRCastX
set_option maxHeartbeats 4000000
namespace Go.Proofs.Ytiiifecfdkjmbaa
open _root_.Go.Proofs.Try hiding checked
set_option maxRecDepth 8000
open Go.RowKit Go.Shelf
open Pu
set_option linter.unusedVariables false
set_option linter.unusedSimpArgs false
structure EA (w1 w3 w4:World) (p:Nat) (d:Wd) (L:Lay) (f t:Nat) (M:Mg) (rest:List Mg) (bw ow cw br oR cr bl ol lc:Nat):Prop where
 BU:jJ w3 p d L f t (M::rest) bw ow cw br oR cr
 Iz:dR w3 bl ol M
 made:bD w1.heap.size w4 p d L
 sJ:jJ w4 p d L f t (M::rest) bw ow cw br oR cr
 msg:dR w4 w3.heap.size 0 M
 lt:w3.heap.size < w4.heap.size
 off:¬ gJ d L w3.heap.size
 since:Since w1 w4
 row:Row w4 w1.heap.size 5 ⟨some ⟨bl,ol,none⟩,lc⟩ (rest.length+1) (flat (M::rest))
theorem Ak {w1 w2:World} {d:Wd} {L:Lay} {f t:Nat} {M:Mg} {rest:List Mg} (hO:aP w1.heap.size w2 d L) (hS:Since w1 w2) (r:fu d) (hf:f < d.nodes.length) (ht:t < d.nodes.length) (hE:aG d f t=M::rest) (T U:TypeId) :
  ∃ bl ol lc,L (8,f,t)=⟨some ⟨bl,ol,none⟩,lc⟩/\∀ w3 w4,w2.alloc (.cells #[.slice (L (0,0,0)).a d.groups.length (L (0,0,0)).cap,.slice (L (1,0,0)).a d.nodes.length (L (1,0,0)).cap,.slice (L (2,0,0)).a d.wires.length (L (2,0,0)).cap] T)=w3 ->
   w3.alloc (.cells #[.int .i64 M.fr,.int .i64 M.gr,.int .i64 M.st,.bool M.nul,.string M.body] U)=w4->∃ bw ow cw br oR cr,EA w1 w3 w4 w2.heap.size d L f t M rest bw ow cw br oR cr bl ol lc:=by
 obtain ⟨row,hr,hrl⟩:=row_of r hf
 have oD:okI d (8,f,t):=⟨by rw [r.1];exact hf,by rw [aZ hr];omega⟩
 have h8:Row w2 w1.heap.size 5 (L (8,f,t)) (aG d f t).length (flat (aG d f t)):=hO.row (8,f,t) oD
 rw [hE] at h8
 obtain ⟨bl,ol,e8,hll,hbl,hcl,hxl⟩:=h8.body (by have:=h8.cap;simp at this;omega)
 have hL8:L (8,f,t)=⟨some ⟨bl,ol,none⟩,(L (8,f,t)).cap⟩:=by rw [<-e8]
 refine ⟨bl,ol,(L (8,f,t)).cap,hL8,fun w3 w4 h3 h4=>?_⟩
 have hS3:=au h3
 have hl3:w2.heap.size < w3.heap.size:=by rw [<-h3];simp
 have hS4:=au h4
 have hM3:bD w1.heap.size w3 w2.heap.size d L:=by
  refine ⟨hO.since hS3, ?_,fun hb=>?_⟩
  ·rw [<-h3];constructor <;> simp [go_sem]
  ·have:=(hO.blk hb).2;omega
 obtain ⟨bw,ow,cw,br,oR,cr,hH⟩:=hM3.BK r hf ht
 rw [hE] at hH
 refine ⟨bw,ow,cw,br,oR,cr,hH, ?_,hM3.since hS4,hH.since hS4, ?_, ?_,fun hb=>?_,(hS.trans hS3).trans hS4, ?_⟩
 ·have:=aX hxl 0 M rfl
  simp only [Nat.zero_mul,Nat.add_zero] at this
  exact dM this hbl hS3
 ·rw [<-h4];constructor <;> simp [go_sem]
 ·rw [<-h4];simp
 ·have:=(hM3.own.blk hb).2;omega
 ·have:=h8.since (hS3.trans hS4)
  rw [hL8] at this;exact this
theorem Db {w:World} {lo bl ol lc:Nat} {M:Mg} {rest:List Mg} (h:Row w lo 5 ⟨some ⟨bl,ol,none⟩,lc⟩ (rest.length+1) (flat (M::rest))) :
  ∃ (sa:Option Addr) (sc:Nat),((lc=1/\rest.length=0/\sa=some ⟨bl,ol,none⟩/\sc=0)\/(1 < lc/\sa=some ⟨bl,ol+5,none⟩/\sc=lc - 1))/\Row w lo 5 ⟨sa,sc⟩ rest.length (flat rest)/\∀ b,Sl.blk ⟨sa,sc⟩=some b->Sl.blk ⟨some ⟨bl,ol,none⟩,lc⟩=some b:=by
 have hc:=h.cap
 dsimp only at hc
 by_cases h1:lc=1
 ·have hr:rest.length=0:=by omega
  have hr':rest=[]:=zQ6 hr
  subst hr'
  refine ⟨_,_,.inl ⟨h1,rfl,rfl,rfl⟩,⟨rfl,Nat.le_refl _,Nat.zero_le _,fun _=>.inr ⟨_,_,rfl⟩,fun hp=>absurd hp (by simp)⟩,fun b e=>?_⟩
  unfold Sl.blk at e;simp at e
 ·have hd:=h.drop 1 (by omega) (by omega)
  refine ⟨_,_,.inr ⟨by omega,rfl,rfl⟩, ?_,fun b e=>?_⟩
  ·have e:(flat (M::rest)).drop (1*5)=flat rest:=by
    show (M.cells++flat rest).drop 5=flat rest
    rw [List.drop_append_of_le_length (by simp [Mg.cells])];simp [Mg.cells]
   rw [e] at hd
   simpa using hd
  ·unfold Sl.blk at e ⊢
   rw [if_neg (by show ¬ lc - 1=0;omega)] at e
   rw [if_neg (by show ¬ lc=0;omega)]
   exact e
theorem oF {P:Program} {o:Oper} {a:Act} {S:World->Prop} {K:Act->Prop} {v:Value} (h:o.quiet P a S (fun a'=>a'=a.put o.dst v)) (hK:K (a.put o.dst v)):o.quiet P a S K:=by
 obtain ⟨v',hv,e⟩:=h
 exact ⟨v',hv,by rw [e];exact hK⟩
theorem uy (x:WV) (d:Wd) (f t:Nat) (hf:f < d.nodes.length) (ht:t < d.nodes.length) (w:World) (hW:WAt w x d) (R:Right d) (hE:aG d f t=[]) :
  Calls prog 159 #[.agg #[.slice x.ga x.gl x.gc,.slice x.na x.nl x.nc,.slice x.wa x.wl x.wc],.int .i64 f,.int .i64 t] w fun e w' =>
   e=.returned (.tuple #[.agg #[.slice none 0 0,.slice none 0 0,.slice none 0 0],.int .i64 7])/\Since w w':=by
 obtain ⟨ga,gl,gc,na,nl,nc,wa,wl,wc⟩:=x
 have hgl:=hW.g.hlen
 have hnl:=hW.n.hlen
 have hwl:=hW.r.hlen
 dsimp only at hgl hnl hwl ⊢
 subst hgl hnl hwl
 obtain ⟨wp,hwp⟩:∃ wp,w.alloc (.cells #[.slice ga d.groups.length gc,.slice na d.nodes.length nc,.slice wa d.wires.length wc] 26)=wp:=⟨_,rfl⟩
 have hPp:aT wp w.heap.size ⟨ga,d.groups.length,gc,na,d.nodes.length,nc,wa,d.wires.length,wc⟩:=by rw [<-hwp];exact aT.new w ⟨ga,d.groups.length,gc,na,d.nodes.length,nc,wa,d.wires.length,wc⟩ _
 have hSp:=au hwp
 obtain ⟨w1,hw1⟩:∃ w1,wp.alloc (.cells #[.slice none 0 0,.slice none 0 0,.slice none 0 0] 26)=w1:=⟨_,rfl⟩
 have hNB:bQ w1 wp.heap.size:=by rw [<-hw1];exact bQ.new wp _
 have iI:=au hw1
 have hP1:=hPp.since iI
 have hS1:=hSp.trans iI
 have hR1:=(hW.since hS1).r
 dsimp only at hR1
 have p2:=hP1.c2
 dsimp only at p2
 obtain ⟨row,hr,hrl⟩:=row_of R.rows hf
 have hwn:(f:Int) < (d.wires.length:Int):=by have:=R.vX;omega
 have htn:(t:Int) < (row.length:Int):=by omega
 obtain ⟨bw,ow,rfl,hbw,hcw⟩:=hR1.cells (by have:=R.vX;omega)
 obtain ⟨v,k1,ra,rc,rfl,hrc,hRo⟩:=hcw f row hr
 obtain ⟨br,oR,rfl,hbr,hcr⟩:=hRo.cells (by omega)
 obtain ⟨l,hl⟩:∃ l,row[t]? = some l:=⟨_,zQ1 (by omega)⟩
 obtain ⟨v2,k2,la,lc,rfl,hlc,hLo⟩:=hcr t l hl
 have hl0:l=[]:=by rw [jR hr hl] at hE;exact hE
 subst hl0
 dsimp only [List.length_nil] at k2
 obtain ⟨lt,r0,r1,r2,r3,r4,r5⟩:=hNB
 go_enter func159,ntmps159
 go_wp2
 refine bodyPost_ret (v:=.tuple #[.agg #[.slice none 0 0,.slice none 0 0,.slice none 0 0],.int .i64 7]) ?_ rfl ⟨rfl,bG hSp.size hS1⟩
 simp [results,results159,go_sem,r0,r1,r2]
def uD (x:Nd) (m:Mg):Nd:={ x with clock:=max x.clock m.st }
theorem wL (x:WV) (d:Wd) (f t:Nat) (hf:f < d.nodes.length) (ht:t < d.nodes.length) (w:World) (hW:WAt w x d) (R:Right d) (M:Mg) (rest:List Mg) (hE:aG d f t=M::rest) (Post:Ending->World->Prop)
  (BI:∀ er,iQ d f t=.error er->∀ w',Since w w'->Post (.returned (.tuple #[.agg #[.slice none 0 0,.slice none 0 0,.slice none 0 0],.int .i64 er])) w')
  (hOk:∀ d',iQ d f t=.ok d'->∀ w' L,aP w.heap.size w' d' L->Since w w'->Post (.returned (.tuple #[bS L d',.int .i64 0])) w') :
  Calls prog 159 #[.agg #[.slice x.ga x.gl x.gc,.slice x.na x.nl x.nc,.slice x.wa x.wl x.wc],.int .i64 f,.int .i64 t] w fun e w'=>Hid (Post e w'):=by
 obtain ⟨ga,gl,gc,na,nl,nc,wa,wl,wc⟩:=x
 have hgl:=hW.g.hlen
 have hnl:=hW.n.hlen
 have hwl:=hW.r.hlen
 dsimp only at hgl hnl hwl ⊢
 subst hgl hnl hwl
 obtain ⟨sn1,sn4,sg1,sg3⟩:=nu R.chk
 have hsm:=nO R
 have hmv:iQ d f t=(eZ (vW d f t M rest) t M).bind fun d3=>(jQ d3 t).bind fun p=>.ok p.1:=by unfold iQ;rw [hE]
 -- the node,its Last
 obtain ⟨nd,hnd⟩:∃ nd,d.nodes[t]? = some nd:=⟨_,zQ1 ht⟩
 have DN:=R.zm f t M (by rw [hE];simp)
 obtain ⟨hc1,hc2⟩:=Bu.1 DN.1
 obtain ⟨_,⟨hg0,hg1⟩,_,_⟩:=zV hc1
 obtain ⟨gg,hgg⟩:=Int.eq_ofNat_of_zero_le hg0
 have IB:gg < d.groups.length:=by omega
 obtain ⟨mZ,wM⟩:∃ r,nd.last[gg]? = some r:=⟨_,zQ1 (by rw [R.llen t nd hnd];exact IB)⟩
 have Gf:=R.mZ t nd gg mZ hnd wM
 obtain ⟨lv,hlv⟩:∃ v,mZ[f]? = some v:=⟨_,zQ1 (by omega)⟩
 obtain ⟨X2,hX2⟩:∃ y,um nd M f=y:=⟨_,rfl⟩
 have DR:vW d f t M rest=setNode (aQ d f t rest) t X2:=by unfold vW;rw [hnd];show setNode (aQ d f t rest) t (um nd M f)=_;rw [hX2]
 have Gg:X2={ uD nd M with last:=(uD nd M).last.set gg (mZ.set f (max lv M.st)) }:=by
  rw [<-hX2];unfold um uD
  rw [hgg,Int.toNat_natCast]
  simp only [wM,Option.getD_some]
  have:bT nd.last gg f=lv:=oV wM hlv
  rw [this]
 -- the boxes
 obtain ⟨wp,hwp⟩:∃ wp,w.alloc (.cells #[.slice ga d.groups.length gc,.slice na d.nodes.length nc,.slice wa d.wires.length wc] 26)=wp:=⟨_,rfl⟩
 have hPp:aT wp w.heap.size ⟨ga,d.groups.length,gc,na,d.nodes.length,nc,wa,d.wires.length,wc⟩:=by rw [<-hwp];exact aT.new w ⟨ga,d.groups.length,gc,na,d.nodes.length,nc,wa,d.wires.length,wc⟩ _
 have hSp:=au hwp
 obtain ⟨w1,hw1⟩:∃ w1,wp.alloc (.cells #[.slice none 0 0,.slice none 0 0,.slice none 0 0] 26)=w1:=⟨_,rfl⟩
 have hNB:bQ w1 wp.heap.size:=by rw [<-hw1];exact bQ.new wp _
 have iI:=au hw1
 have hP1:=hPp.since iI
 have hS1:=hSp.trans iI
 have hW1:=hW.since hS1
 have hR1:=hW1.r
 dsimp only at hR1
 have p0:=hP1.c0
 have p1:=hP1.c1
 have p2:=hP1.c2
 dsimp only at p0 p1 p2
 obtain ⟨row,hr,hrl⟩:=row_of R.rows hf
 have hwn:(f:Int) < (d.wires.length:Int):=by have:=R.vX;omega
 have htn:(t:Int) < (d.nodes.length:Int):=by omega
 obtain ⟨bw,ow,rfl,hbw,hcw⟩:=hR1.cells (by have:=R.vX;omega)
 obtain ⟨v,k1,ra,rc,rfl,hrc,hRo⟩:=hcw f row hr
 obtain ⟨br,oR,rfl,hbr,hcr⟩:=hRo.cells (by omega)
 obtain ⟨l,hl⟩:∃ l,row[t]? = some l:=⟨_,zQ1 (by omega)⟩
 obtain ⟨v2,k2,la,lc,rfl,hlc,hLo⟩:=hcr t l hl
 have hl0:l=M::rest:=by rw [jR hr hl] at hE;exact hE
 subst hl0
 rw [hrl] at k1
 dsimp only [List.length_cons] at k2
 have hrn:rest.length+1<=40:=by have:=R.vZ f t;rw [hE] at this;simpa using this
 have hr0:¬ (((rest.length+1:Nat):Int)=0):=by omega
 have HGG:Hid (M.gr=gg):=hgg
 have HLR:=(show Hid _ from Gf)
 clear hgg DN hc1 hc2 hg0 hg1 Gf
 have uq:=(show Hid _ from BI)
 have HOK:=(show Hid _ from hOk)
 have HR:Hid (Right d):=R
 have HMV:=(show Hid _ from hmv)
 have HCO:=(show Hid _ from DR)
 have HX:=(show Hid _ from Gg)
 have HEE:=(show Hid _ from hE)
 clear BI hOk hmv DR Gg hX2 hE hcw hcr
 go_enter func159,ntmps159
 go_wp2_with (go_at_call 62;refine (nQ ⟨ga,d.groups.length,gc,na,d.nodes.length,nc,some ⟨bw,ow,none⟩,d.wires.length,wc⟩ d w1 hW1 hsm).mono ?_;rintro e w2 ⟨L,rfl,hO2,aY⟩;simp only [bS];obtain ⟨bl,ol,lcc,hL8,wG⟩:=Ak hO2 aY R.rows hf ht HEE.out 26 48;obtain ⟨w3,hw3⟩:∃ y,w2.alloc (.cells #[.slice (L (0,0,0)).a d.groups.length (L (0,0,0)).cap,.slice (L (1,0,0)).a d.nodes.length (L (1,0,0)).cap,.slice (L (2,0,0)).a d.wires.length (L (2,0,0)).cap] 26)=y:=⟨_,rfl⟩;obtain ⟨w4,hw4⟩:∃ y,w3.alloc (.cells #[.int .i64 M.fr,.int .i64 M.gr,.int .i64 M.st,.bool M.nul,.string M.body] 48)=y:=⟨_,rfl⟩;obtain ⟨bw2,ow2,cw2,br2,oR2,cr2,hIn⟩:=wG w3 w4 hw3 hw4;have s2:=hIn.BU.top;have s3:=hIn.BU.row;have s4:=hIn.BU.cell;rw [hL8] at s4;dsimp only [Sl.v,List.length_cons] at s4;obtain ⟨g0,g1,g2,g3,g4⟩:=hIn.Iz)
 clear hw3 hw4 wG hwp hw1 s2 s3 s4 g0 g1 g2 g3 g4 p0 p1 p2 k1 k2
 obtain ⟨bn,on,cn,hL1,_,hbn,hbk,hcn⟩:=hIn.made.own.lies (ix:=(1,0,0)) ⟨rfl,rfl⟩ (by show 0 < d.nodes.length;omega)
 obtain ⟨sa,sc,hsl,hRs,hbs⟩:=Db hIn.row
 obtain ⟨W0,hW0⟩:∃ y,w4.drew=y:=⟨_,rfl⟩
 have hs0:=iW hW0
 obtain ⟨S0,hS0⟩:∃ S0:World->Prop,∀ w',S0 w'↔Since w4 w':=⟨_,fun _=>Iff.rfl⟩
 have c1:∀ y:aB S0,y.w.cell? ⟨w2.heap.size,2,none⟩=some (.slice (some ⟨bw2,ow2,none⟩) d.wires.length cw2):=fun y=>(hIn.sJ.since ((hS0 _).1 y.h)).top
 have c2:∀ y:aB S0,y.w.cell? ⟨bw2,ow2+f,none⟩=some (.slice (some ⟨br2,oR2,none⟩) d.nodes.length cr2):=fun y=>(hIn.sJ.since ((hS0 _).1 y.h)).row
 have c3:∀ y:aB S0,y.w.cell? ⟨br2,oR2+t,none⟩=some (.slice (some ⟨bl,ol,none⟩) (rest.length+1) lcc):=fun y=>by have:=(hIn.sJ.since ((hS0 _).1 y.h)).cell;rw [hL8] at this;exact this
 have aN:=(hS0 W0).2 hs0
 have hne:Nonempty (aB S0):=⟨⟨_,aN⟩⟩
 have y3:=(hIn.sJ.since hs0).cell
 have z3:=(hIn.sJ.since hs0).free
 rw [hL8] at y3
 dsimp only [Sl.v,List.length_cons] at y3
 have hcut:=hIn.made.Dc R.rows hf ht hIn.sJ.lay hs0 (rest:=rest) (by omega) (s:=⟨sa,sc⟩) (hRs.since hs0) (by rw [hL8];exact hbs)
 obtain ⟨W5,hW5⟩:∃ y,W0.setCell ⟨br2,oR2+t,none⟩ (.slice sa rest.length sc)=y:=⟨_,rfl⟩
 have EB:W0.setCell ⟨br2,oR2+t,none⟩ (Sl.v ⟨sa,sc⟩ rest.length)=W5:=hW5
 rw [EB] at hcut
 have JF:(rest.length:Int)+1<=(lcc:Int):=by have:=hIn.row.cap;dsimp only at this;omega
 have HW5:=(show Hid _ from EB)
 clear EB
 refine kM (fun w'=>∃ x:aB S0,w'=x.w) (by kernel_rfl) ?_
 rw [hW0]
 clear hW0
 refine tL 0 rfl (ah aN) ?_;go_big_quiet_op
 refine tL 1 rfl (ah aN) ?_;go_big_quiet_op
 refine tL 2 rfl (ah aN) ?_;go_big_quiet_op
 refine tL 3 rfl (ah aN) ?_;go_big_quiet_op
 refine tL 4 rfl (ah aN) ?_;go_big_quiet_op
 refine tL 5 rfl (ah aN) ?_;go_big_quiet_op
 refine tL 6 rfl (ah aN) ?_;go_big_quiet_op
 refine tL 7 rfl (ah aN) ?_;go_big_quiet_op
 refine tL 8 rfl (ah aN) ?_;go_big_quiet_op
 refine tL 9 rfl (ah aN) ?_;go_big_quiet_op
 refine tL 10 rfl (ah aN) ?_;go_big_quiet_op
 refine tL 11 rfl (ah aN) ?_;go_big_quiet_op
 refine tL 12 rfl (ah aN) ?_;go_big_quiet_op
 refine tL 13 rfl (ah aN) ?_;go_big_quiet_op
 refine tL 14 rfl (ah aN) ?_
 refine oF (v:=.slice sa rest.length sc) ?_ ?_
 ·rcases hsl with ⟨h1,h2,h3,h4⟩ | ⟨h1,h3,h4⟩
  ·subst h1 h3 h4
   have hr:rest=[]:=zQ6 h2
   subst hr
   go_big_quiet_op
   simp [Act.put,hL1]
  ·subst h3 h4
   have h1':(1:Int) < (lcc:Int):=by omega
   go_big_quiet_op
   simp [Act.put,hL1]
 simp only [Act.put,zQ7,zQ8,zQ9]
 refine tL 15 rfl (ah aN) ?_;go_big_quiet_op
 refine eO 16 rfl (by kernel_rfl) ?_
 intro K hK
 go_simp
 refine hK _ _ (fun h=>absurd h (by decide +kernel)) ?_
 clear hK K
 refine jS (by kernel_rfl) ?_
 obtain ⟨hM5,uE⟩:=hcut
 obtain ⟨hq5,EC⟩:=uE.beside hIn.lt hIn.off
 have Gh:=fC hIn.msg hq5
 have BJ:=zQ4 hIn.lt uE.fr.size
 have hS5:Since w1 W5:=uE.fr.aC hIn.since (fun i hi hb=>by have:=(hIn.made.own.blk hb).1;omega)
 have BX:(L.upd (8,f,t) ⟨sa,sc⟩) (1,0,0)=⟨some ⟨bn,on,none⟩,cn⟩:=hL1
 obtain ⟨L5,hL5⟩:∃ y,L.upd (8,f,t) ⟨sa,sc⟩=y:=⟨_,rfl⟩
 obtain ⟨D1,hD1⟩:∃ y,aQ d f t rest=y:=⟨_,rfl⟩
 have ED:D1.nodes[t]? = some nd:=by rw [<-hD1];exact hnd
 have hN1:D1.nodes.length=d.nodes.length:=by rw [<-hD1];rfl
 rw [hL5] at BX hM5 EC
 rw [hD1] at hM5 EC
 have HD1:=(show Hid _ from hD1)
 have HN1:=(show Hid _ from hN1)
 have b1:=hM5.box.c1
 rw [BX,hN1] at b1
 dsimp only at b1
 obtain ⟨q0,q1,_,_,qz⟩:=hM5.own.cells ED BX
 have hb5:bn < W5.heap.size:=zQ4 hbn uE.fr.size
 clear hN1 hD1 hL5 c1 c2 c3 hne y3 z3 hW5
 go_wp2_with fail
 obtain ⟨W6,hW6⟩:∃ y,W5.drew=y:=⟨_,rfl⟩
 have hs6:=iW hW6
 obtain ⟨S7,hS7⟩:∃ S0:World->Prop,∀ w',S0 w'↔Since W5 w':=⟨_,fun _=>Iff.rfl⟩
 have c1:∀ y:aB S7,y.w.cell? ⟨bn,on+t*4,none⟩=some (.int .i64 nd.clock):=fun y=>(((hS7 _).1 y.h).cellAt hb5 _).trans q0
 have c2:∀ y:aB S7,y.w.cell? ⟨w3.heap.size,2,none⟩=some (.int .i64 M.st):=fun y=>(((hS7 _).1 y.h).cellAt BJ _).trans Gh.c2
 have nX:=(hS7 W6).2 hs6
 have IC:Nonempty (aB S7):=⟨⟨_,nX⟩⟩
 have e6:=(hs6.cellAt hb5 _).trans q0
 have z6:=(hs6.below.frozen (p:=⟨bn,on+t*4,none⟩) hb5).trans (by have:=qz 0 (by omega);simpa using this)
 obtain ⟨W7,hW7⟩:∃ y,W6.setCell ⟨bn,on+t*4,none⟩ (.int .i64 (max nd.clock M.st))=y:=⟨_,rfl⟩
 obtain ⟨hM7,rQ⟩:=hM5.EF ED BX hs6 (max nd.clock M.st)
 rw [hW7] at hM7 rQ
 refine kM (fun w'=>∃ x:aB S7,w'=x.w) (by kernel_rfl) ?_
 rw [hW6]
 clear hW6
 refine tL 0 rfl (ah nX) ?_;go_big_quiet_op
 refine tL 1 rfl (ah nX) ?_;go_big_quiet_op
 refine tL 2 rfl (ah nX) ?_;go_big_quiet_op
 refine tL 3 rfl (ah nX) ?_;go_big_quiet_op
 refine tL 4 rfl (ah nX) ?_;go_big_quiet_op
 refine tL 5 rfl (ah nX) ?_;go_big_quiet_op
 refine tL 6 rfl (ah nX) ?_;go_big_quiet_op
 refine tL 7 rfl (ah nX) ?_
 refine oF (v:=.int .i64 (max nd.clock M.st)) ?_ ?_
 ·go_big_quiet_op
  all_goals
   simp [Act.put,hL1]
   try omega
 simp only [Act.put,zQ7,zQ8,zQ9]
 refine tL 8 rfl (ah nX) ?_;go_big_quiet_op
 refine tL 9 rfl (ah nX) ?_;go_big_quiet_op
 refine eO 10 rfl (by kernel_rfl) ?_
 intro K hK
 go_simp
 refine hK _ _ (fun h=>absurd h (by decide +kernel)) ?_
 clear hK K
 refine jS (by kernel_rfl) ?_
 obtain ⟨X1,hX1⟩:∃ y,({ nd with clock:=max nd.clock M.st }:Nd)=y:=⟨_,rfl⟩
 have Gi:uD nd M=X1:=hX1
 rw [hX1] at hM7 rQ
 have hla:X1.last=nd.last:=by rw [<-hX1]
 have Df:(setNode D1 t X1).nodes[t]? = some X1:=by rw [fM _ ED,if_pos rfl]
 obtain ⟨D2,hD2⟩:∃ y,setNode D1 t X1=y:=⟨_,rfl⟩
 rw [hD2] at hM7 rQ Df
 obtain ⟨hq7,IE⟩:=rQ.beside BJ EC
 have EG:=fC Gh hq7
 have EH:=zQ4 BJ rQ.fr.size
 have IG:Since w1 W7:=rQ.fr.aC hS5 (fun i hi hb=>by have:=(hM5.own.blk hb).1;omega)
 have DT:X1.last[gg]? = some mZ:=by rw [hla];exact wM
 have hpl:0 < mZ.length:=by rw [HLR.out];omega
 obtain ⟨u0,u1,_,_,uz⟩:=hM7.own.cells Df BX
 obtain ⟨b3,o3,cc3,b4,o4,cc4,hL3,hL4,hb3,hb4,v1,v2,v3⟩:=hM7.own.Al Df DT hpl
 rw [hL3,hla] at u1
 dsimp only [Sl.v] at u1
 have HX1:=(show Hid _ from Gi)
 have HLA:=(show Hid _ from hla)
 have HD2:=(show Hid _ from hD2)
 have m1':=EG.c1
 rw [HGG.out] at m1'
 have JG:(gg:Int) < (nd.last.length:Int):=by have:=(zQ2.1 wM).1;omega
 have JH:(f:Int) < (mZ.length:Int):=by rw [HLR.out];omega
 have v4:=v2 f lv hlv
 have v5:=v3 f (by omega)
 have hb7:bn < W7.heap.size:=zQ4 hb5 rQ.fr.size
 clear hX1 Gi hla hD2 hW7 c1 c2 IC e6 z6 q0 q1 b1
 go_wp2_with fail
 obtain ⟨W8,hW8⟩:∃ y,W7.drew=y:=⟨_,rfl⟩
 have hs8:=iW hW8
 obtain ⟨S8,hS8⟩:∃ S0:World->Prop,∀ w',S0 w'↔Since W7 w':=⟨_,fun _=>Iff.rfl⟩
 have c1:∀ y:aB S8,y.w.cell? ⟨bn,on+t*4+1,none⟩=some (.slice (some ⟨b3,o3,none⟩) nd.last.length cc3):=fun y=>(((hS8 _).1 y.h).cellAt hb7 _).trans u1
 have c2:∀ y:aB S8,y.w.cell? ⟨w3.heap.size,1,none⟩=some (.int .i64 gg):=fun y=>(((hS8 _).1 y.h).cellAt EH _).trans m1'
 have c3:∀ y:aB S8,y.w.cell? ⟨b3,o3+gg,none⟩=some (.slice (some ⟨b4,o4,none⟩) mZ.length cc4):=fun y=>(((hS8 _).1 y.h).cellAt hb3 _).trans v1
 have c4:∀ y:aB S8,y.w.cell? ⟨b4,o4+f,none⟩=some (.int .i64 lv):=fun y=>(((hS8 _).1 y.h).cellAt hb4 _).trans v4
 have c5:∀ y:aB S8,y.w.cell? ⟨w3.heap.size,2,none⟩=some (.int .i64 M.st):=fun y=>(((hS8 _).1 y.h).cellAt EH _).trans EG.c2
 have iP:=(hS8 W8).2 hs8
 have CU:Nonempty (aB S8):=⟨⟨_,iP⟩⟩
 have e8:=(hs8.cellAt hb4 _).trans v4
 have z8:=(hs8.below.frozen (p:=⟨b4,o4+f,none⟩) hb4).trans v5
 obtain ⟨W9,hW9⟩:∃ y,W8.setCell ⟨b4,o4+f,none⟩ (.int .i64 (max lv M.st))=y:=⟨_,rfl⟩
 obtain ⟨hM9,Dg⟩:=hM7.EI (k:=f) Df DT (by omega) hL4 hs8 (max lv M.st)
 rw [hW9] at hM9 Dg
 refine kM (fun w'=>∃ x:aB S8,w'=x.w) (by kernel_rfl) ?_
 rw [hW8]
 clear hW8
 refine tL 0 rfl (ah iP) ?_;go_big_quiet_op
 refine tL 1 rfl (ah iP) ?_;go_big_quiet_op
 refine tL 2 rfl (ah iP) ?_;go_big_quiet_op
 refine tL 3 rfl (ah iP) ?_;go_big_quiet_op
 refine tL 4 rfl (ah iP) ?_;go_big_quiet_op
 refine tL 5 rfl (ah iP) ?_;go_big_quiet_op
 refine tL 6 rfl (ah iP) ?_;go_big_quiet_op
 refine tL 7 rfl (ah iP) ?_;go_big_quiet_op
 refine tL 8 rfl (ah iP) ?_;go_big_quiet_op
 refine tL 9 rfl (ah iP) ?_;go_big_quiet_op
 refine tL 10 rfl (ah iP) ?_;go_big_quiet_op
 refine tL 11 rfl (ah iP) ?_;go_big_quiet_op
 refine tL 12 rfl (ah iP) ?_;go_big_quiet_op
 refine tL 13 rfl (ah iP) ?_;go_big_quiet_op
 refine tL 14 rfl (ah iP) ?_;go_big_quiet_op
 refine tL 15 rfl (ah iP) ?_;go_big_quiet_op
 refine tL 16 rfl (ah iP) ?_;go_big_quiet_op
 refine tL 17 rfl (ah iP) ?_;go_big_quiet_op
 refine tL 18 rfl (ah iP) ?_;go_big_quiet_op
 refine tL 19 rfl (ah iP) ?_;go_big_quiet_op
 refine tL 20 rfl (ah iP) ?_;go_big_quiet_op
 refine tL 21 rfl (ah iP) ?_;go_big_quiet_op
 refine tL 22 rfl (ah iP) ?_
 refine oF (v:=.int .i64 (max lv M.st)) ?_ ?_
 ·go_big_quiet_op
  all_goals
   simp [Act.put,hL1]
   try omega
 simp only [Act.put,zQ7,zQ8,zQ9]
 refine tL 23 rfl (ah iP) ?_;go_big_quiet_op
 refine eO 24 rfl (by kernel_rfl) ?_
 intro K hK
 go_simp
 refine hK _ _ (fun h=>absurd h (by decide +kernel)) ?_
 clear hK K
 refine jS (by kernel_rfl) ?_
 obtain ⟨dk,hdk⟩:∃ y,vW d f t M rest=y:=⟨_,rfl⟩
 have hDc:setNode D2 t { X1 with last:=X1.last.set gg (mZ.set f (max lv M.st)) }=dk:=by
  rw [<-hdk,HCO.out,HX.out,HX1.out,<-HD2.out,<-HD1.out]
  unfold setNode;simp [List.set_set]
 rw [hDc] at hM9 Dg
 have hxk:dk.nodes[t]? = some X2:=by
  rw [<-hdk,HCO.out]
  have h1:(aQ d f t rest).nodes[t]? = some nd:=hnd
  rw [fM _ h1,if_pos rfl]
 have hGk:dk.groups=d.groups:=by rw [<-hdk,HCO.out];rfl
 have hNk:dk.nodes.length=d.nodes.length:=by rw [<-hdk,HCO.out];simp [setNode,aQ]
 have Gj:X2.held=nd.held:=by rw [HX.out];rfl
 have EJ:X2.last=nd.last.set gg (mZ.set f (max lv M.st)):=by rw [HX.out];rfl
 have uw:jA dk X2:=by
  have h2:=nP HR.out hnd
  refine ⟨by rw [EJ,hGk,List.length_set];exact h2.len,fun g2 r2 hr2=>?_⟩
  rw [EJ,List.getElem?_set] at hr2
  rw [hNk]
  split at hr2
  ·split at hr2
   ·have:=Option.some.inj hr2
    rw [<-this,List.length_set];exact HLR.out
   ·cases hr2
  ·exact h2.rows g2 r2 hr2
 have BM:X2.held.length<=40:=by rw [Gj];have:=HR.out.vY t;rw [(jl hnd).2.1] at this;exact this
 obtain ⟨hq9,JI⟩:=Dg.beside EH IE
 have BZ:=fC EG hq9
 have hSr:Since w1 W9:=Dg.fr.aC IG (fun i hi hb=>by have:=(hM7.own.blk hb).1;omega)
 have m0:=BZ.c0
 have m1:=BZ.c1
 have m2:=BZ.c2
 have m3:=BZ.c3
 have m4:=BZ.c4
 have HMC:Hid (iQ d f t=(eZ dk t M).bind fun d3=>(jQ d3 t).bind fun p=>.ok p.1):=by unfold Hid;rw [HMV.out,hdk]
 clear hDc hGk hNk Gj EJ hdk c1 c2 c3 c4 c5 CU e8 z8 hW9 u0 u1 v1 v4 v5 m1'
 cases hmn:M.nul
 ·rw [hmn] at m3
  cases hP:(bV M X2.held != 0)
  ·have HP:Hid (bV M X2.held=0):=by unfold Hid;simpa using hP
   obtain ⟨X3,hX3⟩:∃ y,({ X2 with held:=eU M X2.held }:Nd)=y:=⟨_,rfl⟩
   obtain ⟨D3,hD3⟩:∃ y,setNode dk t X3=y:=⟨_,rfl⟩
   have mO:=jT w1.heap.size w2.heap.size t M dk L5 X2 W9 hM9 hxk hSr.size
   rw [hX3,hD3,hmn] at mO
   have hx3:D3.nodes[t]? = some X3:=by rw [<-hD3,fM _ hxk,if_pos rfl]
   have BN:jA D3 X3:=by rw [<-hD3,<-hX3];exact ⟨uw.len,fun gg row hr=>by have:=uw.rows gg row hr;simpa [setNode] using this⟩
   have BO:X3.held.length<=40:=by
    rw [<-hX3];show (eU M X2.held).length<=40
    rw [kg M X2.held HP.out]
    have:¬ 40<=X2.held.length:=fun h=>by have:=HP.out;unfold bV at this;split at this <;> simp_all
    omega
   have HCB:Hid (iQ d f t=(jQ D3 t).bind fun p=>.ok p.1):=by
    unfold Hid
    rw [HMC.out]
    unfold eZ sI
    rw [hmn,hxk]
    simp only [HP.out,if_true,Bool.false_eq_true,if_false]
    rw [hX3,hD3];rfl
   have HTD:=(show Hid _ from nN hx3)
   clear hX3 hD3 hmn hxk
   cases hT:(dL D3 t X3 != 0)
   ·have HT:Hid (dL D3 t X3=0):=by unfold Hid;simpa using hT
    go_wp2_with (first
     | (go_at_call 172;refine mO.mono ?_;rintro e w6 ⟨rfl,hh1,hh2⟩;obtain ⟨L3,hM3,yt⟩:=hh2 HP.out;have qJ:=yt.fr.aC hSr (fun i hi hb=>by have:=(hM9.own.blk hb).1;omega))
     | (go_at_call 63;refine (eu w1.heap.size w2.heap.size t D3 L3 X3 w6 hM3 hx3 qJ.size BN BO).mono ?_;rintro e w9 ⟨rfl,hT1,hT2⟩;obtain ⟨L4,hM4,yu⟩:=hT2 HT.out;have iB:=yu.fr.aC qJ (fun i hi hb=>by have:=(hM3.own.blk hb).1;omega);obtain ⟨lt,r0,r1,r2,r3,r4,r5⟩:=hNB.since iB;have b0:=hM4.box.c0;have b1:=hM4.box.c1;have b2:=hM4.box.c2))
    obtain ⟨hO,hSf⟩:=hM4.own.result (w0:=w) (p:=wp.heap.size) hNB.lt hSp.size (hS1.trans iB) hS1.size
    refine bodyPost_ret (v:=.tuple #[bS L4 (setNode D3 t (lS D3 t X3)),.int .i64 0]) ?_ rfl (HOK.out _ (by rw [HCB.out,HTD.out,if_pos HT.out];rfl) _ L4 hO hSf)
    simp [results,results159,go_sem,r0,r1,r2,bS]
   ·have HT:Hid (dL D3 t X3≠0):=by unfold Hid;simpa using hT
    go_wp2_with (first
     | (go_at_call 172;refine mO.mono ?_;rintro e w6 ⟨rfl,hh1,hh2⟩;obtain ⟨L3,hM3,yt⟩:=hh2 HP.out;have qJ:=yt.fr.aC hSr (fun i hi hb=>by have:=(hM9.own.blk hb).1;omega))
     | (go_at_call 63;refine (eu w1.heap.size w2.heap.size t D3 L3 X3 w6 hM3 hx3 qJ.size BN BO).mono ?_;rintro e w9 ⟨rfl,hT1,hT2⟩;have iB:=qJ.trans (hT1 HT.out);obtain ⟨lt,r0,r1,r2,r3,r4,r5⟩:=hNB.since iB))
    refine bodyPost_ret (v:=.tuple #[.agg #[.slice none 0 0,.slice none 0 0,.slice none 0 0],.int .i64 (dL D3 t X3)]) ?_ rfl (uq.out _ (by rw [HCB.out,HTD.out,if_neg HT.out];rfl) _ (bG hSp.size (hS1.trans iB)))
    simp [results,results159,go_sem,r0,r1,r2,bS]
  ·have HP:Hid (bV M X2.held≠0):=by unfold Hid;simpa using hP
   have mO:=jT w1.heap.size w2.heap.size t M dk L5 X2 W9 hM9 hxk hSr.size
   rw [hmn] at mO
   have HCB:Hid (iQ d f t=.error (bV M X2.held)):=by
    unfold Hid
    rw [HMC.out]
    unfold eZ sI
    rw [hmn,hxk]
    simp only [HP.out,Bool.false_eq_true,if_false];rfl
   clear hmn
   go_wp2_with (go_at_call 172;refine mO.mono ?_;rintro e w6 ⟨rfl,hh1,hh2⟩;have iB:=hSr.trans (hh1 HP.out);obtain ⟨lt,r0,r1,r2,r3,r4,r5⟩:=hNB.since iB)
   refine bodyPost_ret (v:=.tuple #[.agg #[.slice none 0 0,.slice none 0 0,.slice none 0 0],.int .i64 (bV M X2.held)]) ?_ rfl (uq.out _ HCB.out _ (bG hSp.size (hS1.trans iB)))
   simp [results,results159,go_sem,r0,r1,r2,bS]
 ·rw [hmn] at m3
  have HCB:Hid (iQ d f t=(jQ dk t).bind fun p=>.ok p.1):=by
   unfold Hid
   rw [HMC.out]
   unfold eZ
   rw [hmn];rfl
  have HTD:=(show Hid _ from nN hxk)
  clear hmn
  cases hT:(dL dk t X2 != 0)
  ·have HT:Hid (dL dk t X2=0):=by unfold Hid;simpa using hT
   go_wp2_with (go_at_call 63;refine (eu w1.heap.size w2.heap.size t dk L5 X2 W9 hM9 hxk hSr.size uw BM).mono ?_;rintro e w9 ⟨rfl,hT1,hT2⟩;obtain ⟨L4,hM4,yu⟩:=hT2 HT.out;have iB:=yu.fr.aC hSr (fun i hi hb=>by have:=(hM9.own.blk hb).1;omega);obtain ⟨lt,r0,r1,r2,r3,r4,r5⟩:=hNB.since iB;have b0:=hM4.box.c0;have b1:=hM4.box.c1;have b2:=hM4.box.c2)
   obtain ⟨hO,hSf⟩:=hM4.own.result (w0:=w) (p:=wp.heap.size) hNB.lt hSp.size (hS1.trans iB) hS1.size
   refine bodyPost_ret (v:=.tuple #[bS L4 (setNode dk t (lS dk t X2)),.int .i64 0]) ?_ rfl (HOK.out _ (by rw [HCB.out,HTD.out,if_pos HT.out];rfl) _ L4 hO hSf)
   simp [results,results159,go_sem,r0,r1,r2,bS]
  ·have HT:Hid (dL dk t X2≠0):=by unfold Hid;simpa using hT
   go_wp2_with (go_at_call 63;refine (eu w1.heap.size w2.heap.size t dk L5 X2 W9 hM9 hxk hSr.size uw BM).mono ?_;rintro e w9 ⟨rfl,hT1,hT2⟩;have iB:=hSr.trans (hT1 HT.out);obtain ⟨lt,r0,r1,r2,r3,r4,r5⟩:=hNB.since iB)
   refine bodyPost_ret (v:=.tuple #[.agg #[.slice none 0 0,.slice none 0 0,.slice none 0 0],.int .i64 (dL dk t X2)]) ?_ rfl (uq.out _ (by rw [HCB.out,HTD.out,if_neg HT.out];rfl) _ (bG hSp.size (hS1.trans iB)))
   simp [results,results159,go_sem,r0,r1,r2,bS]
theorem o9 (x:WV) (d:Wd) (f t:Nat) (hf:f < d.nodes.length) (ht:t < d.nodes.length) (w:World) (hW:WAt w x d) (R:Right d) :
  Calls prog 159 #[.agg #[.slice x.ga x.gl x.gc,.slice x.na x.nl x.nc,.slice x.wa x.wl x.wc],.int .i64 f,.int .i64 t] w fun e w'=>Ah w (iQ d f t) e w':=by
 cases hE:aG d f t with
 | nil =>
  refine (uy x d f t hf ht w hW R hE).mono ?_
  rintro e w' ⟨rfl,hS⟩
  have h:iQ d f t=.error 7:=by unfold iQ;rw [hE]
  rw [h];exact gu hS
 | cons M rest =>
  refine wL x d f t hf ht w hW R M rest hE _ (fun er h w' hS=>?_) (fun d' h w' L hO hS=>?_)
  ·rw [h];exact gu hS
  ·rw [h];exact mq hO hS
def fO (d:Wd) (f t:Int):Int:=if bH d f≠0 then bH d f else bH d t
theorem jX (x:WV) (d:Wd) (f t:Int) (w:World) (hW:WAt w x d) :
  Calls prog 158 #[.agg #[.slice x.ga x.gl x.gc,.slice x.na x.nl x.nc,.slice x.wa x.wl x.wc],.int .i64 f,.int .i64 t] w fun e w'=>e=.returned (.int .i64 (fO d f t))/\Since w w':=by
 obtain ⟨ga,gl,gc,na,nl,nc,wa,wl,wc⟩:=x
 dsimp only
 obtain ⟨w1,hw1⟩:∃ wp,w.alloc (.cells #[.slice ga gl gc,.slice na nl nc,.slice wa wl wc] 26)=wp:=⟨_,rfl⟩
 have hP1:aT w1 w.heap.size ⟨ga,gl,gc,na,nl,nc,wa,wl,wc⟩:=by rw [<-hw1];exact aT.new w ⟨ga,gl,gc,na,nl,nc,wa,wl,wc⟩ _
 have hS1:=au hw1
 have hW1:=hW.since hS1
 have p0:=hP1.c0
 have p1:=hP1.c1
 have p2:=hP1.c2
 dsimp only at p0 p1 p2
 have PF:Hid (∀ y,Since w1 y->aT y w.heap.size ⟨ga,gl,gc,na,nl,nc,wa,wl,wc⟩):=fun y hy=>hP1.since hy
 cases hE:(bH d f != 0)
 ·have HE:Hid (fO d f t=bH d t):=by
   have:bH d f=0:=by simpa using hE
   unfold Hid fO;rw [this];simp
  go_enter func158,ntmps158
  go_wp2_with (first
   | (go_at_call_of 52 (Value.int IntKind.i64 f);refine (jU ⟨ga,gl,gc,na,nl,nc,wa,wl,wc⟩ d f w1 hW1).mono ?_;rintro e w2 ⟨rfl,hS2⟩;obtain ⟨lt2,f0,f1,f2⟩:=PF.out _ hS2;dsimp only at f0 f1 f2)
   | (go_at_call 52;refine (jU ⟨ga,gl,gc,na,nl,nc,wa,wl,wc⟩ d t w2 (hW1.since hS2)).mono ?_;rintro e w3 ⟨rfl,hS3⟩))
  go_ret
  exact ⟨by rw [HE.out];rfl,hS1.trans (hS2.trans (by assumption))⟩
 ·have HE:Hid (fO d f t=bH d f):=by
   have:¬ bH d f=0:=by simpa using hE
   unfold Hid fO;rw [if_pos this]
  go_enter func158,ntmps158
  go_wp2_with (go_at_call 52;refine (jU ⟨ga,gl,gc,na,nl,nc,wa,wl,wc⟩ d f w1 hW1).mono ?_;rintro e w2 ⟨rfl,hS2⟩)
  go_ret
  exact ⟨by rw [HE.out];rfl,hS1.trans hS2⟩
theorem mP (x:WV) (d:Wd) (n g:Int) (w:World) (hW:WAt w x d) :
  Calls prog 135 #[.agg #[.slice x.ga x.gl x.gc,.slice x.na x.nl x.nc,.slice x.wa x.wl x.wc],.int .i64 n,.int .i64 g] w fun e w'=>Hid (Ah w (kK d n g) e w'):=by
 obtain ⟨ga,gl,gc,na,nl,nc,wa,wl,wc⟩:=x
 dsimp only
 obtain ⟨wp,hwp⟩:∃ wp,w.alloc (.cells #[.slice ga gl gc,.slice na nl nc,.slice wa wl wc] 26)=wp:=⟨_,rfl⟩
 have hPp:aT wp w.heap.size ⟨ga,gl,gc,na,nl,nc,wa,wl,wc⟩:=by rw [<-hwp];exact aT.new w ⟨ga,gl,gc,na,nl,nc,wa,wl,wc⟩ _
 have hSp:=au hwp
 obtain ⟨w1,hw1⟩:∃ w1,wp.alloc (.cells #[.slice none 0 0,.slice none 0 0,.slice none 0 0] 26)=w1:=⟨_,rfl⟩
 have hNB:bQ w1 wp.heap.size:=by rw [<-hw1];exact bQ.new wp _
 have iI:=au hw1
 have hP1:=hPp.since iI
 have hS1:=hSp.trans iI
 have hW1:=hW.since hS1
 have p0:=hP1.c0
 have p1:=hP1.c1
 have p2:=hP1.c2
 dsimp only at p0 p1 p2
 have PF:Hid (∀ y,Since w1 y->aT y w.heap.size ⟨ga,gl,gc,na,nl,nc,wa,wl,wc⟩):=fun y hy=>hP1.since hy
 cases hE:(fO d n g != 0)
 ·have hz:fO d n g=0:=by simpa using hE
  have h0:bH d n=0/\bH d g=0:=by
   unfold fO at hz
   by_cases h:bH d n=0
   ·rw [if_neg (by simpa using h)] at hz;exact ⟨h,hz⟩
   ·rw [if_pos h] at hz;exact ⟨hz,absurd hz h⟩
  have hw0:aA d=0:=by
   by_cases h:aA d=0
   ·exact h
   ·have:=h0.1;unfold bH at this;rw [if_neg h] at this;exact this
  have hin:∀ k:Int,bH d k=0->inB k 0 ((d.nodes.length:Int) - 1)=true:=by
   intro k hk
   unfold bH at hk;rw [if_pos hw0] at hk
   cases hb:inB k 0 ((d.nodes.length:Int) - 1)
   ·rw [hb] at hk;simp at hk
   ·rfl
  have hn:=hin n h0.1
  have hg:=hin g h0.2
  have hMO:kK d n g=iQ d n.toNat g.toNat:=by unfold kK;rw [if_pos hw0,hn,hg];rfl
  have hR:Right d:=(jr d).1 hw0
  unfold inB at hn hg
  simp only [decide_eq_true_eq] at hn hg
  obtain ⟨f,rfl⟩:=Int.eq_ofNat_of_zero_le hn.1
  obtain ⟨t,rfl⟩:=Int.eq_ofNat_of_zero_le hg.1
  rw [hMO]
  rw [Int.toNat_natCast,Int.toNat_natCast]
  have hf:f < d.nodes.length:=by omega
  have ht:t < d.nodes.length:=by omega
  clear hn hg hMO hw0 h0 hin hz
  obtain ⟨r,hr⟩:∃ r,iQ d f t=r:=⟨_,rfl⟩
  rw [hr]
  have HRR:=(show Hid _ from hr)
  clear hr
  cases r with
  | error er =>
   go_enter func135,ntmps135
   go_wp2_with (first
    | (go_at_call 158;refine (jX ⟨ga,gl,gc,na,nl,nc,wa,wl,wc⟩ d f t w1 hW1).mono ?_;rintro e w2 ⟨rfl,hS2⟩;obtain ⟨lt2,f0,f1,f2⟩:=PF.out _ hS2;dsimp only at f0 f1 f2)
    | (go_at_call 159;refine (o9 ⟨ga,gl,gc,na,nl,nc,wa,wl,wc⟩ d f t hf ht w2 (hW1.since hS2) hR).mono ?_;rintro e w3 ⟨hR3,_⟩;obtain ⟨rfl,hS3⟩:=hR3 er HRR.out;have hSr:=hS2.trans hS3;obtain ⟨lt,r0,r1,r2,r3,r4,r5⟩:=hNB.since hSr))
   refine bodyPost_ret (v:=.tuple #[.agg #[.slice none 0 0,.slice none 0 0,.slice none 0 0],.int .i64 er]) ?_ rfl (gu (bG hSp.size (hS1.trans hSr)))
   simp [results,results135,go_sem,r0,r1,r2]
  | ok d' =>
   go_enter func135,ntmps135
   go_wp2_with (first
    | (go_at_call 158;refine (jX ⟨ga,gl,gc,na,nl,nc,wa,wl,wc⟩ d f t w1 hW1).mono ?_;rintro e w2 ⟨rfl,hS2⟩;obtain ⟨lt2,f0,f1,f2⟩:=PF.out _ hS2;dsimp only at f0 f1 f2)
    | (go_at_call 159;refine (o9 ⟨ga,gl,gc,na,nl,nc,wa,wl,wc⟩ d f t hf ht w2 (hW1.since hS2) hR).mono ?_;rintro e w3 ⟨_,hR3⟩;obtain ⟨L,rfl,hO,hS3⟩:=hR3 d' HRR.out;simp only [bS];have hSr:=hS2.trans hS3;obtain ⟨lt,r0,r1,r2,r3,r4,r5⟩:=hNB.since hSr))
   obtain ⟨hO2,hSf⟩:=hO.result (w0:=w) (p:=wp.heap.size) (zQ4 hNB.lt hS2.size) hSp.size (hS1.trans hSr) (zQ5 hS1.size hS2.size)
   refine bodyPost_ret (v:=.tuple #[bS L d',.int .i64 0]) ?_ rfl (mq hO2 hSf)
   simp [results,results135,go_sem,r0,r1,r2,bS]
 ·have hne:fO d n g≠0:=by simpa using hE
  have HF:Hid (kK d n g=.error (fO d n g)):=by
   unfold Hid kK
   by_cases hw0:aA d=0
   ·rw [if_pos hw0]
    have hk:∀ k:Int,bH d k=if inB k 0 ((d.nodes.length:Int) - 1) then 0 else 4:=fun k=>by unfold bH;rw [if_pos hw0]
    unfold fO at hne ⊢
    rw [hk n,hk g] at hne ⊢
    cases h1:inB n 0 ((d.nodes.length:Int) - 1) <;> cases h2:inB g 0 ((d.nodes.length:Int) - 1) <;> simp [h1,h2] at hne ⊢
   ·rw [if_neg hw0]
    have hk:∀ k:Int,bH d k=aA d:=fun k=>by unfold bH;rw [if_neg hw0]
    unfold fO
    rw [hk n,if_pos hw0]
  clear hne
  go_enter func135,ntmps135
  go_wp2_with (go_at_call 158;refine (jX ⟨ga,gl,gc,na,nl,nc,wa,wl,wc⟩ d n g w1 hW1).mono ?_;rintro e w2 ⟨rfl,hS2⟩;obtain ⟨lt,r0,r1,r2,r3,r4,r5⟩:=hNB.since hS2)
  refine bodyPost_ret (v:=.tuple #[.agg #[.slice none 0 0,.slice none 0 0,.slice none 0 0],.int .i64 (fO d n g)]) ?_ rfl (by unfold Hid;rw [HF.out];exact gu (bG hSp.size (hS1.trans hS2)))
  simp [results,results135,go_sem,r0,r1,r2]
def acV (x:Ac):Value:=.agg #[.int .i64 x.kind,.int .i64 x.one,.int .i64 x.two,.string x.body]
theorem oZ (x:WV) (d:Wd) (a:Ac) (h4:a.kind≠4) (w:World) (hW:WAt w x d) :
  Calls prog 105 #[.agg #[.slice x.ga x.gl x.gc,.slice x.na x.nl x.nc,.slice x.wa x.wl x.wc],acV a] w fun e w'=>Hid (Ah w (doD d a) e w'):=by
 obtain ⟨ga,gl,gc,na,nl,nc,wa,wl,wc⟩:=x
 obtain ⟨kind,one,two,body⟩:=a
 unfold acV
 dsimp only at h4 ⊢
 obtain ⟨wq,hwq⟩:∃ wp,w.alloc (.cells #[.slice ga gl gc,.slice na nl nc,.slice wa wl wc] 26)=wp:=⟨_,rfl⟩
 have hPq:aT wq w.heap.size ⟨ga,gl,gc,na,nl,nc,wa,wl,wc⟩:=by rw [<-hwq];exact aT.new w ⟨ga,gl,gc,na,nl,nc,wa,wl,wc⟩ _
 have hSq:=au hwq
 obtain ⟨wp,hwp⟩:∃ wp,wq.alloc (.cells #[.int .i64 kind,.int .i64 one,.int .i64 two,.string body] 73)=wp:=⟨_,rfl⟩
 have Gl:=au hwp
 have hlq:wq.heap.size < wp.heap.size:=by rw [<-hwp];simp
 have a0:wp.cell? ⟨wq.heap.size,0,none⟩=some (.int .i64 kind):=by rw [<-hwp];simp [go_sem]
 have a1:wp.cell? ⟨wq.heap.size,1,none⟩=some (.int .i64 one):=by rw [<-hwp];simp [go_sem]
 have a2:wp.cell? ⟨wq.heap.size,2,none⟩=some (.int .i64 two):=by rw [<-hwp];simp [go_sem]
 have a3:wp.cell? ⟨wq.heap.size,3,none⟩=some (.string body):=by rw [<-hwp];simp [go_sem]
 have hSp:=hSq.trans Gl
 obtain ⟨w1,hw1⟩:∃ w1,wp.alloc (.cells #[.slice none 0 0,.slice none 0 0,.slice none 0 0] 26)=w1:=⟨_,rfl⟩
 have hNB:bQ w1 wp.heap.size:=by rw [<-hw1];exact bQ.new wp _
 have iI:=au hw1
 have hP1:=hPq.since (Gl.trans iI)
 have hS1:=hSp.trans iI
 have hW1:=hW.since hS1
 have p0:=hP1.c0
 have p1:=hP1.c1
 have p2:=hP1.c2
 dsimp only at p0 p1 p2
 have d0:=(iI.cellAt hlq _).trans a0
 have d1:=(iI.cellAt hlq _).trans a1
 have d2:=(iI.cellAt hlq _).trans a2
 have d3:=(iI.cellAt hlq _).trans a3
 clear a0 a1 a2 a3
 by_cases h1:kind=1
 ·subst h1
  obtain ⟨r,hr⟩:∃ r,doD d ⟨1,one,two,body⟩=r:=⟨_,rfl⟩
  rw [hr]
  have HRR:=(show Hid _ from hr)
  clear hr
  cases r with
  | error er =>
   go_enter func105,ntmps105
   go_wp2_with (go_at_call 134;refine (iO ⟨ga,gl,gc,na,nl,nc,wa,wl,wc⟩ d one two false body w1 hW1).mono ?_;rintro e w3 hR3;obtain ⟨rfl,hS3⟩:=hR3.out.1 er HRR.out;obtain ⟨lt,r0,r1,r2,r3,r4,r5⟩:=hNB.since hS3)
   refine bodyPost_ret (v:=.tuple #[.agg #[.slice none 0 0,.slice none 0 0,.slice none 0 0],.int .i64 er]) ?_ rfl (gu (bG hSp.size (hS1.trans hS3)))
   simp [results,results105,go_sem,r0,r1,r2]
  | ok d' =>
   go_enter func105,ntmps105
   go_wp2_with (go_at_call 134;refine (iO ⟨ga,gl,gc,na,nl,nc,wa,wl,wc⟩ d one two false body w1 hW1).mono ?_;rintro e w3 hR3;obtain ⟨L,rfl,hO,hS3⟩:=hR3.out.2 d' HRR.out;simp only [bS];obtain ⟨lt,r0,r1,r2,r3,r4,r5⟩:=hNB.since hS3)
   obtain ⟨hO2,hSf⟩:=hO.result (w0:=w) (p:=wp.heap.size) hNB.lt hSp.size (hS1.trans hS3) hS1.size
   refine bodyPost_ret (v:=.tuple #[bS L d',.int .i64 0]) ?_ rfl (mq hO2 hSf)
   simp [results,results105,go_sem,r0,r1,r2,bS]
 by_cases h2:kind=2
 ·subst h2
  obtain ⟨r,hr⟩:∃ r,doD d ⟨2,one,two,body⟩=r:=⟨_,rfl⟩
  rw [hr]
  have HRR:=(show Hid _ from hr)
  clear hr
  cases r with
  | error er =>
   go_enter func105,ntmps105
   go_wp2_with (go_at_call 134;refine (iO ⟨ga,gl,gc,na,nl,nc,wa,wl,wc⟩ d one two true ByteArray.empty w1 hW1).mono ?_;rintro e w3 hR3;obtain ⟨rfl,hS3⟩:=hR3.out.1 er HRR.out;obtain ⟨lt,r0,r1,r2,r3,r4,r5⟩:=hNB.since hS3)
   refine bodyPost_ret (v:=.tuple #[.agg #[.slice none 0 0,.slice none 0 0,.slice none 0 0],.int .i64 er]) ?_ rfl (gu (bG hSp.size (hS1.trans hS3)))
   simp [results,results105,go_sem,r0,r1,r2]
  | ok d' =>
   go_enter func105,ntmps105
   go_wp2_with (go_at_call 134;refine (iO ⟨ga,gl,gc,na,nl,nc,wa,wl,wc⟩ d one two true ByteArray.empty w1 hW1).mono ?_;rintro e w3 hR3;obtain ⟨L,rfl,hO,hS3⟩:=hR3.out.2 d' HRR.out;simp only [bS];obtain ⟨lt,r0,r1,r2,r3,r4,r5⟩:=hNB.since hS3)
   obtain ⟨hO2,hSf⟩:=hO.result (w0:=w) (p:=wp.heap.size) hNB.lt hSp.size (hS1.trans hS3) hS1.size
   refine bodyPost_ret (v:=.tuple #[bS L d',.int .i64 0]) ?_ rfl (mq hO2 hSf)
   simp [results,results105,go_sem,r0,r1,r2,bS]
 by_cases h3:kind=3
 ·subst h3
  obtain ⟨r,hr⟩:∃ r,doD d ⟨3,one,two,body⟩=r:=⟨_,rfl⟩
  rw [hr]
  have HRR:=(show Hid _ from hr)
  clear hr
  cases r with
  | error er =>
   go_enter func105,ntmps105
   go_wp2_with (go_at_call 135;refine (mP ⟨ga,gl,gc,na,nl,nc,wa,wl,wc⟩ d one two w1 hW1).mono ?_;rintro e w3 hR3;obtain ⟨rfl,hS3⟩:=hR3.out.1 er HRR.out;obtain ⟨lt,r0,r1,r2,r3,r4,r5⟩:=hNB.since hS3)
   refine bodyPost_ret (v:=.tuple #[.agg #[.slice none 0 0,.slice none 0 0,.slice none 0 0],.int .i64 er]) ?_ rfl (gu (bG hSp.size (hS1.trans hS3)))
   simp [results,results105,go_sem,r0,r1,r2]
  | ok d' =>
   go_enter func105,ntmps105
   go_wp2_with (go_at_call 135;refine (mP ⟨ga,gl,gc,na,nl,nc,wa,wl,wc⟩ d one two w1 hW1).mono ?_;rintro e w3 hR3;obtain ⟨L,rfl,hO,hS3⟩:=hR3.out.2 d' HRR.out;simp only [bS];obtain ⟨lt,r0,r1,r2,r3,r4,r5⟩:=hNB.since hS3)
   obtain ⟨hO2,hSf⟩:=hO.result (w0:=w) (p:=wp.heap.size) hNB.lt hSp.size (hS1.trans hS3) hS1.size
   refine bodyPost_ret (v:=.tuple #[bS L d',.int .i64 0]) ?_ rfl (mq hO2 hSf)
   simp [results,results105,go_sem,r0,r1,r2,bS]
 have b1:(kind == 1)=false:=by simpa using h1
 have b2:(kind == 2)=false:=by simpa using h2
 have b3:(kind == 3)=false:=by simpa using h3
 have b4:(kind == 4)=false:=by simpa using h4
 have HF:Hid (doD d ⟨kind,one,two,body⟩=.error 6):=by unfold Hid doD;dsimp only;rw [if_neg h1,if_neg h2,if_neg h3,if_neg h4]
 clear h1 h2 h3 h4
 obtain ⟨lt,r0,r1,r2,r3,r4,r5⟩:=hNB
 go_enter func105,ntmps105
 go_wp2
 refine bodyPost_ret (v:=.tuple #[.agg #[.slice none 0 0,.slice none 0 0,.slice none 0 0],.int .i64 6]) ?_ rfl (by unfold Hid;rw [HF.out];exact gu (bG hSp.size hS1))
 simp [results,results105,go_sem,r0,r1,r2]
end Go.Proofs.Ytiiifecfdkjmbaa
