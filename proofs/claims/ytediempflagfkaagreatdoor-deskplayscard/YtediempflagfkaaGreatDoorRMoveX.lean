/- Lemmas. -/
import Derived.Test.YtediempflagfkaaGreatDoorRCastX
set_option linter.unusedVariables false
set_option linter.unusedSimpArgs false
set_option linter.unnecessarySimpa false
set_option maxHeartbeats 4000000
namespace Go.Proofs.YtediempflagfkaaGreatDoor
open _root_.Go.Proofs.Tryz hiding checked
set_option maxRecDepth 8000
open Go.RowKit Go.Shelf
open Pu
structure Rm (w1 w3 w4:World) (p:Nat) (d:Wd) (L:Lay) (f t:Nat) (M:Mg) (rest:List Mg) (bw ow cw br oR cr bl ol lc:Nat):Prop where
 OD:lS w3 p d L f t (M::rest) bw ow cw br oR cr
 Vg:cO w3 bl ol M
 made:dF w1.heap.size w4 p d L
 D7:lS w4 p d L f t (M::rest) bw ow cw br oR cr
 msg:cO w4 w3.heap.size 0 M
 lt:w3.heap.size < w4.heap.size
 off:¬ gT d L w3.heap.size
 ay:ak w1 w4
 row:Row w4 w1.heap.size 5 ⟨some ⟨bl,ol,none⟩,lc⟩ (rest.length+1) (flat (M::rest))
theorem MQ{w1 w2:World}{d:Wd}{L:Lay}{f t:Nat}{M:Mg}{rest:List Mg}(hO:bG w1.heap.size w2 d L)(hS:ak w1 w2)(r:eF d)(hf:f < d.ah.length)(ht:t < d.ah.length)(hE:aJ d f t=M::rest)(T U:TypeId) :
  ∃bl ol lc,L (8,f,t)=⟨some ⟨bl,ol,none⟩,lc⟩/\∀w3 w4,w2.alloc (.cells #[.slice (L (0,0,0)).a d.au.length (L (0,0,0)).cap,.slice (L (1,0,0)).a d.ah.length (L (1,0,0)).cap,.slice (L (2,0,0)).a d.aB.length (L (2,0,0)).cap] T)=w3 ->
   w3.alloc (.cells #[.int .i64 M.fr,.int .i64 M.gr,.int .i64 M.st,.bool M.nul,.string M.body] U)=w4->∃bw ow cw br oR cr,Rm w1 w3 w4 w2.heap.size d L f t M rest bw ow cw br oR cr bl ol lc:=by
 obtain⟨row,hr,hrl⟩:=row_of r hf;have wN:okI d (8,f,t):=⟨by rw[r.1];exact hf,by rw[dP hr];omega⟩;have h8:Row w2 w1.heap.size 5 (L (8,f,t)) (aJ d f t).length (flat (aJ d f t)):=hO.row (8,f,t) wN;rw[hE]at h8;obtain⟨bl,ol,e8,hll,hbl,hcl,hxl⟩:=h8.body (by have:=h8.cap;simp at this;omega);have hL8:L (8,f,t)=⟨some ⟨bl,ol,none⟩,(L (8,f,t)).cap⟩:=by rw[<-e8]
 refine⟨bl,ol,(L (8,f,t)).cap,hL8,fun w3 w4 h3 h4=>?_⟩;have hS3:=aF h3;have hl3:w2.heap.size < w3.heap.size:=by rw[<-h3];simp
 have hS4:=aF h4
 have hM3:dF w1.heap.size w3 w2.heap.size d L:=by
  refine⟨hO.ay hS3, ?_,fun hb=>?_⟩
  ·rw[<-h3];constructor <;> simp[go_sem]
  ·have:=(hO.blk hb).2;omega
 obtain⟨bw,ow,cw,br,oR,cr,hH⟩:=hM3.qy r hf ht;rw[hE]at hH;refine⟨bw,ow,cw,br,oR,cr,hH, ?_,hM3.ay hS4,hH.ay hS4, ?_, ?_,fun hb=>?_,(hS.trans hS3).trans hS4, ?_⟩
 ·have:=dM hxl 0 M rfl;simp only[Nat.zero_mul,Nat.add_zero]at this;exact aN this hbl hS3
 ·rw[<-h4];constructor <;> simp[go_sem]
 ·rw[<-h4];simp
 ·have:=(hM3.own.blk hb).2;omega
 ·have:=h8.ay (hS3.trans hS4);rw[hL8]at this;exact this
theorem K7{w:World}{lo bl ol lc:Nat}{M:Mg}{rest:List Mg}(h:Row w lo 5 ⟨some ⟨bl,ol,none⟩,lc⟩ (rest.length+1) (flat (M::rest))) :
  ∃(sa:Option Addr) (sc:Nat),((lc=1/\rest.length=0/\sa=some ⟨bl,ol,none⟩/\sc=0)\/(1 < lc/\sa=some ⟨bl,ol+5,none⟩/\sc=lc - 1))/\Row w lo 5 ⟨sa,sc⟩ rest.length (flat rest)/\∀b,Sl.blk ⟨sa,sc⟩=some b->Sl.blk ⟨some ⟨bl,ol,none⟩,lc⟩=some b:=by
 have hc:=h.cap;dsimp only at hc;by_cases h1:lc=1
 ·have hr:rest.length=0:=by omega
  have hr':rest=[]:=zQ6 hr;subst hr';refine⟨_,_,.inl ⟨h1,rfl,rfl,rfl⟩,⟨rfl,Nat.le_refl _,Nat.zero_le _,fun _=>.inr ⟨_,_,rfl⟩,fun hp=>absurd hp (by simp)⟩,fun b e=>?_⟩;unfold Sl.blk at e;simp at e
 ·have hd:=h.drop 1 (by omega) (by omega);refine⟨_,_,.inr ⟨by omega,rfl,rfl⟩, ?_,fun b e=>?_⟩
  ·have e:(flat (M::rest)).drop (1*5)=flat rest:=by
    show(M.cells++flat rest).drop 5=flat rest;rw[List.drop_append_of_le_length (by simp[Mg.cells])];simp[Mg.cells]
   rw[e]at hd;simpa using hd
  ·unfold Sl.blk at e ⊢;rw[if_neg (by show ¬ lc - 1=0;omega)]at e;rw[if_neg (by show ¬ lc=0;omega)];exact e
theorem nS{P:Program}{o:Oper}{a:Act}{S:World->Prop}{K:Act->Prop}{v:Value}(h:o.quiet P a S (fun a'=>a'=a.put o.dst v))(hK:K (a.put o.dst v)):o.quiet P a S K:=by
 obtain⟨v',hv,e⟩:=h;exact⟨v',hv,by rw[e];exact hK⟩
theorem E9(x:WV)(d:Wd)(f t:Nat)(hf:f < d.ah.length)(ht:t < d.ah.length)(w:World)(hW:WAt w x d)(R:aL d)(hE:aJ d f t=[]) :
  Calls prog 67 #[.agg #[.slice x.ga x.gl x.gc,.slice x.na x.nl x.nc,.slice x.wa x.wl x.wc],.int .i64 f,.int .i64 t] w fun e w' =>
   e=.returned (.tuple #[.agg #[.slice none 0 0,.slice none 0 0,.slice none 0 0],.int .i64 7])/\ak w w':=by
 obtain⟨ga,gl,gc,na,nl,nc,wa,wl,wc⟩:=x;have hgl:=hW.g.bq;have hnl:=hW.n.bq;have hwl:=hW.r.bq;dsimp only at hgl hnl hwl ⊢;subst hgl hnl hwl;obtain⟨wp,hwp⟩:∃wp,w.alloc (.cells #[.slice ga d.au.length gc,.slice na d.ah.length nc,.slice wa d.aB.length wc] 31)=wp:=⟨_,rfl⟩;have hPp:aP wp w.heap.size ⟨ga,d.au.length,gc,na,d.ah.length,nc,wa,d.aB.length,wc⟩:=by rw[<-hwp];exact aP.new w ⟨ga,d.au.length,gc,na,d.ah.length,nc,wa,d.aB.length,wc⟩ _
 have hSp:=aF hwp;obtain⟨w1,hw1⟩:∃w1,wp.alloc (.cells #[.slice none 0 0,.slice none 0 0,.slice none 0 0] 31)=w1:=⟨_,rfl⟩;have hNB:aU w1 wp.heap.size:=by rw[<-hw1];exact aU.new wp _
 have dZ:=aF hw1;have hP1:=hPp.ay dZ;have hS1:=hSp.trans dZ;have hR1:=(hW.ay hS1).r;dsimp only at hR1;have p2:=hP1.c2;dsimp only at p2;obtain⟨row,hr,hrl⟩:=row_of R.rows hf;have hwn:(f:Int) < (d.aB.length:Int):=by have:=R.yu;omega
 have htn:(t:Int) < (row.length:Int):=by omega
 obtain⟨bw,ow,rfl,hbw,hcw⟩:=hR1.cells (by have:=R.yu;omega);obtain⟨v,k1,ra,rc,rfl,hrc,hRo⟩:=hcw f row hr;obtain⟨br,oR,rfl,hbr,hcr⟩:=hRo.cells (by omega);obtain⟨l,hl⟩:∃l,row[t]? = some l:=⟨_,zQ1 (by omega)⟩;obtain⟨v2,k2,la,lc,rfl,hlc,hLo⟩:=hcr t l hl;have hl0:l=[]:=by rw[pO hr hl]at hE;exact hE
 subst hl0;dsimp only[List.length_nil]at k2;obtain⟨lt,r0,r1,r2,r3,r4,r5⟩:=hNB
 go_enter func67,ntmps67
 go_wp2
 refine bodyPost_ret (v:=.tuple #[.agg #[.slice none 0 0,.slice none 0 0,.slice none 0 0],.int .i64 7]) ?_ rfl ⟨rfl,cu hSp.size hS1⟩;simp[results,results67,go_sem,r0,r1,r2]
def uJ(x:Nd)(m:Mg):Nd:={ x with aK:=max x.aK m.st }
theorem Ic(x:WV)(d:Wd)(f t:Nat)(hf:f < d.ah.length)(ht:t < d.ah.length)(w:World)(hW:WAt w x d)(R:aL d)(M:Mg)(rest:List Mg)(hE:aJ d f t=M::rest)(Post:Ending->World->Prop)
  (jv:∀er,fI d f t=.error er->∀w',ak w w'->Post (.returned (.tuple #[.agg #[.slice none 0 0,.slice none 0 0,.slice none 0 0],.int .i64 er])) w')
  (hOk:∀d',fI d f t=.ok d'->∀w' L,bG w.heap.size w' d' L->ak w w'->Post (.returned (.tuple #[bF L d',.int .i64 0])) w') :
  Calls prog 67 #[.agg #[.slice x.ga x.gl x.gc,.slice x.na x.nl x.nc,.slice x.wa x.wl x.wc],.int .i64 f,.int .i64 t] w fun e w'=>Hid (Post e w'):=by
 obtain⟨ga,gl,gc,na,nl,nc,wa,wl,wc⟩:=x;have hgl:=hW.g.bq;have hnl:=hW.n.bq;have hwl:=hW.r.bq;dsimp only at hgl hnl hwl ⊢;subst hgl hnl hwl;obtain⟨sn1,sn4,sg1,sg3⟩:=rQ R.chk;have hsm:=jW R;have hmv:fI d f t=(eD (nC d f t M rest) t M).bind fun d3=>(eZ d3 t).bind fun p=>.ok p.1:=by unfold fI;rw[hE]
 -- the node,its Last
 obtain⟨nd,hnd⟩:∃nd,d.ah[t]? = some nd:=⟨_,zQ1 ht⟩;have D5:=R.sK f t M (by rw[hE];simp);obtain⟨hc1,hc2⟩:=qV.1 D5.1;obtain⟨_,⟨hg0,hg1⟩,_,_⟩:=qW hc1;obtain⟨gg,hgg⟩:=Int.eq_ofNat_of_zero_le hg0;have Rn:gg < d.au.length:=by omega
 obtain⟨lW,uK⟩:∃r,nd.last[gg]? = some r:=⟨_,zQ1 (by rw[R.llen t nd hnd];exact Rn)⟩;have OG:=R.lW t nd gg lW hnd uK;obtain⟨lv,hlv⟩:∃v,lW[f]? = some v:=⟨_,zQ1 (by omega)⟩;obtain⟨X2,hX2⟩:∃y,oz nd M f=y:=⟨_,rfl⟩;have Ie:nC d f t M rest=aD (bK d f t rest) t X2:=by unfold nC;rw[hnd];show aD (bK d f t rest) t (oz nd M f)=_;rw[hX2]
 have OH:X2={ uJ nd M with last:=(uJ nd M).last.set gg (lW.set f (max lv M.st)) }:=by
  rw[<-hX2];unfold oz uJ;rw[hgg,Int.toNat_natCast];simp only[uK,Option.getD_some];have:eX nd.last gg f=lv:=uf uK hlv;rw[this]
 -- the boxes
 obtain⟨wp,hwp⟩:∃wp,w.alloc (.cells #[.slice ga d.au.length gc,.slice na d.ah.length nc,.slice wa d.aB.length wc] 31)=wp:=⟨_,rfl⟩;have hPp:aP wp w.heap.size ⟨ga,d.au.length,gc,na,d.ah.length,nc,wa,d.aB.length,wc⟩:=by rw[<-hwp];exact aP.new w ⟨ga,d.au.length,gc,na,d.ah.length,nc,wa,d.aB.length,wc⟩ _
 have hSp:=aF hwp;obtain⟨w1,hw1⟩:∃w1,wp.alloc (.cells #[.slice none 0 0,.slice none 0 0,.slice none 0 0] 31)=w1:=⟨_,rfl⟩;have hNB:aU w1 wp.heap.size:=by rw[<-hw1];exact aU.new wp _
 have dZ:=aF hw1;have hP1:=hPp.ay dZ;have hS1:=hSp.trans dZ;have hW1:=hW.ay hS1;have hR1:=hW1.r;dsimp only at hR1;have p0:=hP1.c0;have p1:=hP1.c1;have p2:=hP1.c2;dsimp only at p0 p1 p2;obtain⟨row,hr,hrl⟩:=row_of R.rows hf;have hwn:(f:Int) < (d.aB.length:Int):=by have:=R.yu;omega
 have htn:(t:Int) < (d.ah.length:Int):=by omega
 obtain⟨bw,ow,rfl,hbw,hcw⟩:=hR1.cells (by have:=R.yu;omega);obtain⟨v,k1,ra,rc,rfl,hrc,hRo⟩:=hcw f row hr;obtain⟨br,oR,rfl,hbr,hcr⟩:=hRo.cells (by omega);obtain⟨l,hl⟩:∃l,row[t]? = some l:=⟨_,zQ1 (by omega)⟩;obtain⟨v2,k2,la,lc,rfl,hlc,hLo⟩:=hcr t l hl;have hl0:l=M::rest:=by rw[pO hr hl]at hE;exact hE
 subst hl0;rw[hrl]at k1;dsimp only[List.length_cons]at k2;have hrn:rest.length+1<=40:=by have:=R.pK f t;rw[hE]at this;simpa using this
 have hr0:¬ (((rest.length+1:Nat):Int)=0):=by omega
 have HGG:Hid (M.gr=gg):=hgg;have HLR:=(show Hid _ from OG);clear hgg D5 hc1 hc2 hg0 hg1 OG;have jB:=(show Hid _ from jv);have HOK:=(show Hid _ from hOk);have HR:Hid (aL d):=R;have HMV:=(show Hid _ from hmv);have HCO:=(show Hid _ from Ie);have HX:=(show Hid _ from OH);have HEE:=(show Hid _ from hE);clear jv hOk hmv Ie OH hX2 hE hcw hcr
 go_enter func67,ntmps67
 go_wp2_with (go_at_call 85;refine(nM ⟨ga,d.au.length,gc,na,d.ah.length,nc,some ⟨bw,ow,none⟩,d.aB.length,wc⟩ d w1 hW1 hsm).mono ?_;rintro e w2 ⟨L,rfl,hO2,dO⟩;simp only[bF];obtain⟨bl,ol,lcc,hL8,H9⟩:=MQ hO2 dO R.rows hf ht HEE.out 31 95;obtain⟨w3,hw3⟩:∃y,w2.alloc (.cells #[.slice (L (0,0,0)).a d.au.length (L (0,0,0)).cap,.slice (L (1,0,0)).a d.ah.length (L (1,0,0)).cap,.slice (L (2,0,0)).a d.aB.length (L (2,0,0)).cap] 31)=y:=⟨_,rfl⟩;obtain⟨w4,hw4⟩:∃y,w3.alloc (.cells #[.int .i64 M.fr,.int .i64 M.gr,.int .i64 M.st,.bool M.nul,.string M.body] 95)=y:=⟨_,rfl⟩;obtain⟨bw2,ow2,cw2,br2,oR2,cr2,hIn⟩:=H9 w3 w4 hw3 hw4;have s2:=hIn.OD.top;have s3:=hIn.OD.row;have s4:=hIn.OD.cell;rw[hL8]at s4;dsimp only[Sl.v,List.length_cons]at s4;obtain⟨g0,g1,g2,g3,g4⟩:=hIn.Vg)
 clear hw3 hw4 H9 hwp hw1 s2 s3 s4 g0 g1 g2 g3 g4 p0 p1 p2 k1 k2;obtain⟨bn,on,cn,hL1,_,hbn,hbk,hcn⟩:=hIn.made.own.lies (ix:=(1,0,0)) ⟨rfl,rfl⟩ (by show 0 < d.ah.length;omega);obtain⟨sa,sc,hsl,hRs,hbs⟩:=K7 hIn.row;obtain⟨W0,hW0⟩:∃y,w4.drew=y:=⟨_,rfl⟩;have hs0:=aY hW0;obtain⟨S0,hS0⟩:∃S0:World->Prop,∀w',S0 w'↔ak w4 w':=⟨_,fun _=>Iff.rfl⟩;have c1:∀y:aA S0,y.w.cell? ⟨w2.heap.size,2,none⟩=some (.slice (some ⟨bw2,ow2,none⟩) d.aB.length cw2):=fun y=>(hIn.D7.ay ((hS0 _).1 y.h)).top;have c2:∀y:aA S0,y.w.cell? ⟨bw2,ow2+f,none⟩=some (.slice (some ⟨br2,oR2,none⟩) d.ah.length cr2):=fun y=>(hIn.D7.ay ((hS0 _).1 y.h)).row;have c3:∀y:aA S0,y.w.cell? ⟨br2,oR2+t,none⟩=some (.slice (some ⟨bl,ol,none⟩) (rest.length+1) lcc):=fun y=>by have:=(hIn.D7.ay ((hS0 _).1 y.h)).cell;rw[hL8]at this;exact this
 have aC:=(hS0 W0).2 hs0;have hne:Nonempty (aA S0):=⟨⟨_,aC⟩⟩;have y3:=(hIn.D7.ay hs0).cell;have z3:=(hIn.D7.ay hs0).free;rw[hL8]at y3;dsimp only[Sl.v,List.length_cons]at y3;have hcut:=hIn.made.K8 R.rows hf ht hIn.D7.lay hs0 (rest:=rest) (by omega) (s:=⟨sa,sc⟩) (hRs.ay hs0) (by rw[hL8];exact hbs);obtain⟨W5,hW5⟩:∃y,W0.setCell ⟨br2,oR2+t,none⟩ (.slice sa rest.length sc)=y:=⟨_,rfl⟩;have JY:W0.setCell ⟨br2,oR2+t,none⟩ (Sl.v ⟨sa,sc⟩ rest.length)=W5:=hW5;rw[JY]at hcut;have Vh:(rest.length:Int)+1<=(lcc:Int):=by have:=hIn.row.cap;dsimp only at this;omega
 have HW5:=(show Hid _ from JY);clear JY;refine uq (fun w'=>∃x:aA S0,w'=x.w) (by kernel_rfl) ?_;rw[hW0];clear hW0;refine tL 0 rfl (aj aC) ?_;go_big_quiet_op;refine tL 1 rfl (aj aC) ?_;go_big_quiet_op;refine tL 2 rfl (aj aC) ?_;go_big_quiet_op;refine tL 3 rfl (aj aC) ?_;go_big_quiet_op;refine tL 4 rfl (aj aC) ?_;go_big_quiet_op;refine tL 5 rfl (aj aC) ?_;go_big_quiet_op;refine tL 6 rfl (aj aC) ?_;go_big_quiet_op;refine tL 7 rfl (aj aC) ?_;go_big_quiet_op;refine tL 8 rfl (aj aC) ?_;go_big_quiet_op;refine tL 9 rfl (aj aC) ?_;go_big_quiet_op;refine tL 10 rfl (aj aC) ?_;go_big_quiet_op;refine tL 11 rfl (aj aC) ?_;go_big_quiet_op;refine tL 12 rfl (aj aC) ?_;go_big_quiet_op;refine tL 13 rfl (aj aC) ?_;go_big_quiet_op;refine tL 14 rfl (aj aC) ?_;refine nS (v:=.slice sa rest.length sc) ?_ ?_
 ·rcases hsl with ⟨h1,h2,h3,h4⟩ | ⟨h1,h3,h4⟩
  ·subst h1 h3 h4;have hr:rest=[]:=zQ6 h2;subst hr;go_big_quiet_op;simp[Act.put,hL1]
  ·subst h3 h4;have h1':(1:Int) < (lcc:Int):=by omega
   go_big_quiet_op;simp[Act.put,hL1]
 simp only[Act.put,zQ7,zQ8,zQ9];refine tL 15 rfl (aj aC) ?_;go_big_quiet_op;refine kY 16 rfl (by kernel_rfl) ?_;intro K hK;go_simp;refine hK _ _ (fun h=>absurd h (by decide +kernel)) ?_;clear hK K;refine vP (by kernel_rfl) ?_;obtain⟨hM5,wO⟩:=hcut;obtain⟨hq5,JZ⟩:=wO.beside hIn.lt hIn.off;have OI:=bS hIn.msg hq5;have EY:=zQ4 hIn.lt wO.fr.size;have hS5:ak w1 W5:=wO.fr.aI hIn.ay (fun i hi hb=>by have:=(hIn.made.own.blk hb).1;omega);have BH:(L.upd (8,f,t) ⟨sa,sc⟩) (1,0,0)=⟨some ⟨bn,on,none⟩,cn⟩:=hL1;obtain⟨L5,hL5⟩:∃y,L.upd (8,f,t) ⟨sa,sc⟩=y:=⟨_,rfl⟩;obtain⟨D1,hD1⟩:∃y,bK d f t rest=y:=⟨_,rfl⟩;have J2:D1.ah[t]? = some nd:=by rw[<-hD1];exact hnd
 have hN1:D1.ah.length=d.ah.length:=by rw[<-hD1];rfl
 rw[hL5]at BH hM5 JZ;rw[hD1]at hM5 JZ;have HD1:=(show Hid _ from hD1);have HN1:=(show Hid _ from hN1);have b1:=hM5.box.c1;rw[BH,hN1]at b1;dsimp only at b1;obtain⟨q0,q1,_,_,qz⟩:=hM5.own.cells J2 BH;have hb5:bn < W5.heap.size:=zQ4 hbn wO.fr.size;clear hN1 hD1 hL5 c1 c2 c3 hne y3 z3 hW5
 go_wp2_with fail
 obtain⟨W6,hW6⟩:∃y,W5.drew=y:=⟨_,rfl⟩;have hs6:=aY hW6;obtain⟨S7,hS7⟩:∃S0:World->Prop,∀w',S0 w'↔ak W5 w':=⟨_,fun _=>Iff.rfl⟩;have c1:∀y:aA S7,y.w.cell? ⟨bn,on+t*4,none⟩=some (.int .i64 nd.aK):=fun y=>(((hS7 _).1 y.h).av hb5 _).trans q0;have c2:∀y:aA S7,y.w.cell? ⟨w3.heap.size,2,none⟩=some (.int .i64 M.st):=fun y=>(((hS7 _).1 y.h).av EY _).trans OI.c2;have qN:=(hS7 W6).2 hs6;have Vi:Nonempty (aA S7):=⟨⟨_,qN⟩⟩;have e6:=(hs6.av hb5 _).trans q0;have z6:=(hs6.below.frozen (p:=⟨bn,on+t*4,none⟩) hb5).trans (by have:=qz 0 (by omega);simpa using this);obtain⟨W7,hW7⟩:∃y,W6.setCell ⟨bn,on+t*4,none⟩ (.int .i64 (max nd.aK M.st))=y:=⟨_,rfl⟩;obtain⟨hM7,rT⟩:=hM5.uL J2 BH hs6 (max nd.aK M.st);rw[hW7]at hM7 rT;refine uq (fun w'=>∃x:aA S7,w'=x.w) (by kernel_rfl) ?_;rw[hW6];clear hW6;refine tL 0 rfl (aj qN) ?_;go_big_quiet_op;refine tL 1 rfl (aj qN) ?_;go_big_quiet_op;refine tL 2 rfl (aj qN) ?_;go_big_quiet_op;refine tL 3 rfl (aj qN) ?_;go_big_quiet_op;refine tL 4 rfl (aj qN) ?_;go_big_quiet_op;refine tL 5 rfl (aj qN) ?_;go_big_quiet_op;refine tL 6 rfl (aj qN) ?_;go_big_quiet_op;refine tL 7 rfl (aj qN) ?_;refine nS (v:=.int .i64 (max nd.aK M.st)) ?_ ?_
 ·go_big_quiet_op
  all_goals
   simp[Act.put,hL1]
   try omega
 simp only[Act.put,zQ7,zQ8,zQ9];refine tL 8 rfl (aj qN) ?_;go_big_quiet_op;refine tL 9 rfl (aj qN) ?_;go_big_quiet_op;refine kY 10 rfl (by kernel_rfl) ?_;intro K hK;go_simp;refine hK _ _ (fun h=>absurd h (by decide +kernel)) ?_;clear hK K;refine vP (by kernel_rfl) ?_
 obtain⟨X1,hX1⟩:∃y,({ nd with aK:=max nd.aK M.st }:Nd)=y:=⟨_,rfl⟩
 have OJ:uJ nd M=X1:=hX1;rw[hX1]at hM7 rT;have hla:X1.last=nd.last:=by rw[<-hX1]
 have Fa:(aD D1 t X1).ah[t]? = some X1:=by rw[dI _ J2,if_pos rfl]
 obtain⟨D2,hD2⟩:∃y,aD D1 t X1=y:=⟨_,rfl⟩;rw[hD2]at hM7 rT Fa;obtain⟨hq7,Ro⟩:=rT.beside EY JZ;have J3:=bS OI hq7;have J4:=zQ4 EY rT.fr.size;have Vj:ak w1 W7:=rT.fr.aI hS5 (fun i hi hb=>by have:=(hM5.own.blk hb).1;omega);have Ig:X1.last[gg]? = some lW:=by rw[hla];exact uK
 have hpl:0 < lW.length:=by rw[HLR.out];omega
 obtain⟨u0,u1,_,_,uz⟩:=hM7.own.cells Fa BH;obtain⟨b3,o3,cc3,b4,o4,cc4,hL3,hL4,hb3,hb4,v1,v2,v3⟩:=hM7.own.D8 Fa Ig hpl;rw[hL3,hla]at u1;dsimp only[Sl.v]at u1;have HX1:=(show Hid _ from OJ);have HLA:=(show Hid _ from hla);have HD2:=(show Hid _ from hD2);have m1':=J3.c1;rw[HGG.out]at m1';have Vk:(gg:Int) < (nd.last.length:Int):=by have:=(zQ2.1 uK).1;omega
 have Vl:(f:Int) < (lW.length:Int):=by rw[HLR.out];omega
 have v4:=v2 f lv hlv;have v5:=v3 f (by omega);have hb7:bn < W7.heap.size:=zQ4 hb5 rT.fr.size;clear hX1 OJ hla hD2 hW7 c1 c2 Vi e6 z6 q0 q1 b1
 go_wp2_with fail
 obtain⟨W8,hW8⟩:∃y,W7.drew=y:=⟨_,rfl⟩;have hs8:=aY hW8;obtain⟨S8,hS8⟩:∃S0:World->Prop,∀w',S0 w'↔ak W7 w':=⟨_,fun _=>Iff.rfl⟩;have c1:∀y:aA S8,y.w.cell? ⟨bn,on+t*4+1,none⟩=some (.slice (some ⟨b3,o3,none⟩) nd.last.length cc3):=fun y=>(((hS8 _).1 y.h).av hb7 _).trans u1;have c2:∀y:aA S8,y.w.cell? ⟨w3.heap.size,1,none⟩=some (.int .i64 gg):=fun y=>(((hS8 _).1 y.h).av J4 _).trans m1';have c3:∀y:aA S8,y.w.cell? ⟨b3,o3+gg,none⟩=some (.slice (some ⟨b4,o4,none⟩) lW.length cc4):=fun y=>(((hS8 _).1 y.h).av hb3 _).trans v1;have c4:∀y:aA S8,y.w.cell? ⟨b4,o4+f,none⟩=some (.int .i64 lv):=fun y=>(((hS8 _).1 y.h).av hb4 _).trans v4;have c5:∀y:aA S8,y.w.cell? ⟨w3.heap.size,2,none⟩=some (.int .i64 M.st):=fun y=>(((hS8 _).1 y.h).av J4 _).trans J3.c2;have jF:=(hS8 W8).2 hs8;have PN:Nonempty (aA S8):=⟨⟨_,jF⟩⟩;have e8:=(hs8.av hb4 _).trans v4;have z8:=(hs8.below.frozen (p:=⟨b4,o4+f,none⟩) hb4).trans v5;obtain⟨W9,hW9⟩:∃y,W8.setCell ⟨b4,o4+f,none⟩ (.int .i64 (max lv M.st))=y:=⟨_,rfl⟩;obtain⟨hM9,Db⟩:=hM7.OL (k:=f) Fa Ig (by omega) hL4 hs8 (max lv M.st);rw[hW9]at hM9 Db;refine uq (fun w'=>∃x:aA S8,w'=x.w) (by kernel_rfl) ?_;rw[hW8];clear hW8;refine tL 0 rfl (aj jF) ?_;go_big_quiet_op;refine tL 1 rfl (aj jF) ?_;go_big_quiet_op;refine tL 2 rfl (aj jF) ?_;go_big_quiet_op;refine tL 3 rfl (aj jF) ?_;go_big_quiet_op;refine tL 4 rfl (aj jF) ?_;go_big_quiet_op;refine tL 5 rfl (aj jF) ?_;go_big_quiet_op;refine tL 6 rfl (aj jF) ?_;go_big_quiet_op;refine tL 7 rfl (aj jF) ?_;go_big_quiet_op;refine tL 8 rfl (aj jF) ?_;go_big_quiet_op;refine tL 9 rfl (aj jF) ?_;go_big_quiet_op;refine tL 10 rfl (aj jF) ?_;go_big_quiet_op;refine tL 11 rfl (aj jF) ?_;go_big_quiet_op;refine tL 12 rfl (aj jF) ?_;go_big_quiet_op;refine tL 13 rfl (aj jF) ?_;go_big_quiet_op;refine tL 14 rfl (aj jF) ?_;go_big_quiet_op;refine tL 15 rfl (aj jF) ?_;go_big_quiet_op;refine tL 16 rfl (aj jF) ?_;go_big_quiet_op;refine tL 17 rfl (aj jF) ?_;go_big_quiet_op;refine tL 18 rfl (aj jF) ?_;go_big_quiet_op;refine tL 19 rfl (aj jF) ?_;go_big_quiet_op;refine tL 20 rfl (aj jF) ?_;go_big_quiet_op;refine tL 21 rfl (aj jF) ?_;go_big_quiet_op;refine tL 22 rfl (aj jF) ?_;refine nS (v:=.int .i64 (max lv M.st)) ?_ ?_
 ·go_big_quiet_op
  all_goals
   simp[Act.put,hL1]
   try omega
 simp only[Act.put,zQ7,zQ8,zQ9];refine tL 23 rfl (aj jF) ?_;go_big_quiet_op;refine kY 24 rfl (by kernel_rfl) ?_;intro K hK;go_simp;refine hK _ _ (fun h=>absurd h (by decide +kernel)) ?_;clear hK K;refine vP (by kernel_rfl) ?_;obtain⟨dk,hdk⟩:∃y,nC d f t M rest=y:=⟨_,rfl⟩
 have hDc:aD D2 t { X1 with last:=X1.last.set gg (lW.set f (max lv M.st)) }=dk:=by
  rw[<-hdk,HCO.out,HX.out,HX1.out,<-HD2.out,<-HD1.out];unfold aD;simp[List.set_set]
 rw[hDc]at hM9 Db
 have hxk:dk.ah[t]? = some X2:=by
  rw[<-hdk,HCO.out];have h1:(bK d f t rest).ah[t]? = some nd:=hnd;rw[dI _ h1,if_pos rfl]
 have hGk:dk.au=d.au:=by rw[<-hdk,HCO.out];rfl
 have hNk:dk.ah.length=d.ah.length:=by rw[<-hdk,HCO.out];simp[aD,bK]
 have Tq:X2.held=nd.held:=by rw[HX.out];rfl
 have Rp:X2.last=nd.last.set gg (lW.set f (max lv M.st)):=by rw[HX.out];rfl
 have E8:j5 dk X2:=by
  have h2:=rE HR.out hnd;refine⟨by rw[Rp,hGk,List.length_set];exact h2.len,fun g2 r2 hr2=>?_⟩;rw[Rp,List.getElem?_set]at hr2;rw[hNk];split at hr2
  ·split at hr2
   ·have:=Option.some.inj hr2;rw[<-this,List.length_set];exact HLR.out
   ·cases hr2
  ·exact h2.rows g2 r2 hr2
 have JV:X2.held.length<=40:=by rw[Tq];have:=HR.out.nW t;rw[(dU hnd).2.1]at this;exact this
 obtain⟨hq9,Vm⟩:=Db.beside J4 Ro;have J5:=bS J3 hq9;have hSr:ak w1 W9:=Db.fr.aI Vj (fun i hi hb=>by have:=(hM7.own.blk hb).1;omega);have m0:=J5.c0;have m1:=J5.c1;have m2:=J5.c2;have m3:=J5.c3;have m4:=J5.c4;have HMC:Hid (fI d f t=(eD dk t M).bind fun d3=>(eZ d3 t).bind fun p=>.ok p.1):=by unfold Hid;rw[HMV.out,hdk]
 clear hDc hGk hNk Tq Rp hdk c1 c2 c3 c4 c5 PN e8 z8 hW9 u0 u1 v1 v4 v5 m1';cases hmn:M.nul
 ·rw[hmn]at m3;cases hP:(dV M X2.held != 0)
  ·have HP:Hid (dV M X2.held=0):=by unfold Hid;simpa using hP
   obtain⟨X3,hX3⟩:∃y,({ X2 with held:=gK M X2.held }:Nd)=y:=⟨_,rfl⟩
   obtain⟨D3,hD3⟩:∃y,aD dk t X3=y:=⟨_,rfl⟩;have nD:=pW w1.heap.size w2.heap.size t M dk L5 X2 W9 hM9 hxk hSr.size;rw[hX3,hD3,hmn]at nD;have hx3:D3.ah[t]? = some X3:=by rw[<-hD3,dI _ hxk,if_pos rfl]
   have Oz:j5 D3 X3:=by rw[<-hD3,<-hX3];exact⟨E8.len,fun gg row hr=>by have:=E8.rows gg row hr;simpa[aD] using this⟩
   have OA:X3.held.length<=40:=by
    rw[<-hX3];show(gK M X2.held).length<=40;rw[lH M X2.held HP.out]
    have:¬ 40<=X2.held.length:=fun h=>by have:=HP.out;unfold dV at this;split at this <;> simp_all
    omega
   have HCB:Hid (fI d f t=(eZ D3 t).bind fun p=>.ok p.1):=by
    unfold Hid;rw[HMC.out];unfold eD sJ;rw[hmn,hxk];simp only[HP.out,if_true,Bool.false_eq_true,if_false];rw[hX3,hD3];rfl
   have HTD:=(show Hid _ from yx hx3);clear hX3 hD3 hmn hxk;cases hT:(iG D3 t X3 != 0)
   ·have HT:Hid (iG D3 t X3=0):=by unfold Hid;simpa using hT
    go_wp2_with (first
     | (go_at_call 86;refine nD.mono ?_;rintro e w6 ⟨rfl,hh1,hh2⟩;obtain⟨L3,hM3,JW⟩:=hh2 HP.out;have BG:=JW.fr.aI hSr (fun i hi hb=>by have:=(hM9.own.blk hb).1;omega))
     | (go_at_call 87;refine(iW w1.heap.size w2.heap.size t D3 L3 X3 w6 hM3 hx3 BG.size Oz OA).mono ?_;rintro e w9 ⟨rfl,hT1,hT2⟩;obtain⟨L4,hM4,zJ⟩:=hT2 HT.out;have lT:=zJ.fr.aI BG (fun i hi hb=>by have:=(hM3.own.blk hb).1;omega);obtain⟨lt,r0,r1,r2,r3,r4,r5⟩:=hNB.ay lT;have b0:=hM4.box.c0;have b1:=hM4.box.c1;have b2:=hM4.box.c2))
    obtain⟨hO,hSf⟩:=hM4.own.result (w0:=w) (p:=wp.heap.size) hNB.lt hSp.size (hS1.trans lT) hS1.size;refine bodyPost_ret (v:=.tuple #[bF L4 (aD D3 t (uG D3 t X3)),.int .i64 0]) ?_ rfl (HOK.out _ (by rw[HCB.out,HTD.out,if_pos HT.out];rfl) _ L4 hO hSf);simp[results,results67,go_sem,r0,r1,r2,bF]
   ·have HT:Hid (iG D3 t X3≠0):=by unfold Hid;simpa using hT
    go_wp2_with (first
     | (go_at_call 86;refine nD.mono ?_;rintro e w6 ⟨rfl,hh1,hh2⟩;obtain⟨L3,hM3,JW⟩:=hh2 HP.out;have BG:=JW.fr.aI hSr (fun i hi hb=>by have:=(hM9.own.blk hb).1;omega))
     | (go_at_call 87;refine(iW w1.heap.size w2.heap.size t D3 L3 X3 w6 hM3 hx3 BG.size Oz OA).mono ?_;rintro e w9 ⟨rfl,hT1,hT2⟩;have lT:=BG.trans (hT1 HT.out);obtain⟨lt,r0,r1,r2,r3,r4,r5⟩:=hNB.ay lT))
    refine bodyPost_ret (v:=.tuple #[.agg #[.slice none 0 0,.slice none 0 0,.slice none 0 0],.int .i64 (iG D3 t X3)]) ?_ rfl (jB.out _ (by rw[HCB.out,HTD.out,if_neg HT.out];rfl) _ (cu hSp.size (hS1.trans lT)));simp[results,results67,go_sem,r0,r1,r2,bF]
  ·have HP:Hid (dV M X2.held≠0):=by unfold Hid;simpa using hP
   have nD:=pW w1.heap.size w2.heap.size t M dk L5 X2 W9 hM9 hxk hSr.size;rw[hmn]at nD
   have HCB:Hid (fI d f t=.error (dV M X2.held)):=by
    unfold Hid;rw[HMC.out];unfold eD sJ;rw[hmn,hxk];simp only[HP.out,Bool.false_eq_true,if_false];rfl
   clear hmn
   go_wp2_with (go_at_call 86;refine nD.mono ?_;rintro e w6 ⟨rfl,hh1,hh2⟩;have lT:=hSr.trans (hh1 HP.out);obtain⟨lt,r0,r1,r2,r3,r4,r5⟩:=hNB.ay lT)
   refine bodyPost_ret (v:=.tuple #[.agg #[.slice none 0 0,.slice none 0 0,.slice none 0 0],.int .i64 (dV M X2.held)]) ?_ rfl (jB.out _ HCB.out _ (cu hSp.size (hS1.trans lT)));simp[results,results67,go_sem,r0,r1,r2,bF]
 ·rw[hmn]at m3
  have HCB:Hid (fI d f t=(eZ dk t).bind fun p=>.ok p.1):=by
   unfold Hid;rw[HMC.out];unfold eD;rw[hmn];rfl
  have HTD:=(show Hid _ from yx hxk);clear hmn;cases hT:(iG dk t X2 != 0)
  ·have HT:Hid (iG dk t X2=0):=by unfold Hid;simpa using hT
   go_wp2_with (go_at_call 87;refine(iW w1.heap.size w2.heap.size t dk L5 X2 W9 hM9 hxk hSr.size E8 JV).mono ?_;rintro e w9 ⟨rfl,hT1,hT2⟩;obtain⟨L4,hM4,zJ⟩:=hT2 HT.out;have lT:=zJ.fr.aI hSr (fun i hi hb=>by have:=(hM9.own.blk hb).1;omega);obtain⟨lt,r0,r1,r2,r3,r4,r5⟩:=hNB.ay lT;have b0:=hM4.box.c0;have b1:=hM4.box.c1;have b2:=hM4.box.c2)
   obtain⟨hO,hSf⟩:=hM4.own.result (w0:=w) (p:=wp.heap.size) hNB.lt hSp.size (hS1.trans lT) hS1.size;refine bodyPost_ret (v:=.tuple #[bF L4 (aD dk t (uG dk t X2)),.int .i64 0]) ?_ rfl (HOK.out _ (by rw[HCB.out,HTD.out,if_pos HT.out];rfl) _ L4 hO hSf);simp[results,results67,go_sem,r0,r1,r2,bF]
  ·have HT:Hid (iG dk t X2≠0):=by unfold Hid;simpa using hT
   go_wp2_with (go_at_call 87;refine(iW w1.heap.size w2.heap.size t dk L5 X2 W9 hM9 hxk hSr.size E8 JV).mono ?_;rintro e w9 ⟨rfl,hT1,hT2⟩;have lT:=hSr.trans (hT1 HT.out);obtain⟨lt,r0,r1,r2,r3,r4,r5⟩:=hNB.ay lT)
   refine bodyPost_ret (v:=.tuple #[.agg #[.slice none 0 0,.slice none 0 0,.slice none 0 0],.int .i64 (iG dk t X2)]) ?_ rfl (jB.out _ (by rw[HCB.out,HTD.out,if_neg HT.out];rfl) _ (cu hSp.size (hS1.trans lT)));simp[results,results67,go_sem,r0,r1,r2,bF]
theorem uE(x:WV)(d:Wd)(f t:Nat)(hf:f < d.ah.length)(ht:t < d.ah.length)(w:World)(hW:WAt w x d)(R:aL d) :
  Calls prog 67 #[.agg #[.slice x.ga x.gl x.gc,.slice x.na x.nl x.nc,.slice x.wa x.wl x.wc],.int .i64 f,.int .i64 t] w fun e w'=>vW w (fI d f t) e w':=by
 cases hE:aJ d f t with
 | nil =>
  refine(E9 x d f t hf ht w hW R hE).mono ?_;rintro e w' ⟨rfl,hS⟩;have h:fI d f t=.error 7:=by unfold fI;rw[hE]
  rw[h];exact iU hS
 | cons M rest =>
  refine Ic x d f t hf ht w hW R M rest hE _ (fun er h w' hS=>?_) (fun d' h w' L hO hS=>?_)
  ·rw[h];exact iU hS
  ·rw[h];exact mH hO hS
def jX(d:Wd)(f t:Int):Int:=if aM d f≠0 then aM d f else aM d t
theorem qA(x:WV)(d:Wd)(f t:Int)(w:World)(hW:WAt w x d) :
  Calls prog 66 #[.agg #[.slice x.ga x.gl x.gc,.slice x.na x.nl x.nc,.slice x.wa x.wl x.wc],.int .i64 f,.int .i64 t] w fun e w'=>e=.returned (.int .i64 (jX d f t))/\ak w w':=by
 obtain⟨ga,gl,gc,na,nl,nc,wa,wl,wc⟩:=x;dsimp only;obtain⟨w1,hw1⟩:∃wp,w.alloc (.cells #[.slice ga gl gc,.slice na nl nc,.slice wa wl wc] 31)=wp:=⟨_,rfl⟩;have hP1:aP w1 w.heap.size ⟨ga,gl,gc,na,nl,nc,wa,wl,wc⟩:=by rw[<-hw1];exact aP.new w ⟨ga,gl,gc,na,nl,nc,wa,wl,wc⟩ _
 have hS1:=aF hw1;have hW1:=hW.ay hS1;have p0:=hP1.c0;have p1:=hP1.c1;have p2:=hP1.c2;dsimp only at p0 p1 p2;have PF:Hid (∀y,ak w1 y->aP y w.heap.size ⟨ga,gl,gc,na,nl,nc,wa,wl,wc⟩):=fun y hy=>hP1.ay hy;cases hE:(aM d f != 0)
 ·have HE:Hid (jX d f t=aM d t):=by
   have:aM d f=0:=by simpa using hE
   unfold Hid jX;rw[this];simp
  go_enter func66,ntmps66
  go_wp2_with (first
   | (go_at_call_of 43 (Value.int IntKind.i64 f);refine(iJ ⟨ga,gl,gc,na,nl,nc,wa,wl,wc⟩ d f w1 hW1).mono ?_;rintro e w2 ⟨rfl,hS2⟩;obtain⟨lt2,f0,f1,f2⟩:=PF.out _ hS2;dsimp only at f0 f1 f2)
   | (go_at_call 43;refine(iJ ⟨ga,gl,gc,na,nl,nc,wa,wl,wc⟩ d t w2 (hW1.ay hS2)).mono ?_;rintro e w3 ⟨rfl,hS3⟩))
  go_ret
  exact⟨by rw[HE.out];rfl,hS1.trans (hS2.trans (by assumption))⟩
 ·have HE:Hid (jX d f t=aM d f):=by
   have:¬ aM d f=0:=by simpa using hE
   unfold Hid jX;rw[if_pos this]
  go_enter func66,ntmps66
  go_wp2_with (go_at_call 43;refine(iJ ⟨ga,gl,gc,na,nl,nc,wa,wl,wc⟩ d f w1 hW1).mono ?_;rintro e w2 ⟨rfl,hS2⟩)
  go_ret
  exact⟨by rw[HE.out];rfl,hS1.trans hS2⟩
theorem vI(x:WV)(d:Wd)(n g:Int)(w:World)(hW:WAt w x d) :
  Calls prog 42 #[.agg #[.slice x.ga x.gl x.gc,.slice x.na x.nl x.nc,.slice x.wa x.wl x.wc],.int .i64 n,.int .i64 g] w fun e w'=>Hid (vW w (fC d n g) e w'):=by
 obtain⟨ga,gl,gc,na,nl,nc,wa,wl,wc⟩:=x;dsimp only;obtain⟨wp,hwp⟩:∃wp,w.alloc (.cells #[.slice ga gl gc,.slice na nl nc,.slice wa wl wc] 31)=wp:=⟨_,rfl⟩;have hPp:aP wp w.heap.size ⟨ga,gl,gc,na,nl,nc,wa,wl,wc⟩:=by rw[<-hwp];exact aP.new w ⟨ga,gl,gc,na,nl,nc,wa,wl,wc⟩ _
 have hSp:=aF hwp;obtain⟨w1,hw1⟩:∃w1,wp.alloc (.cells #[.slice none 0 0,.slice none 0 0,.slice none 0 0] 31)=w1:=⟨_,rfl⟩;have hNB:aU w1 wp.heap.size:=by rw[<-hw1];exact aU.new wp _
 have dZ:=aF hw1;have hP1:=hPp.ay dZ;have hS1:=hSp.trans dZ;have hW1:=hW.ay hS1;have p0:=hP1.c0;have p1:=hP1.c1;have p2:=hP1.c2;dsimp only at p0 p1 p2;have PF:Hid (∀y,ak w1 y->aP y w.heap.size ⟨ga,gl,gc,na,nl,nc,wa,wl,wc⟩):=fun y hy=>hP1.ay hy;cases hE:(jX d n g != 0)
 ·have hz:jX d n g=0:=by simpa using hE
  have h0:aM d n=0/\aM d g=0:=by
   unfold jX at hz;by_cases h:aM d n=0
   ·rw[if_neg (by simpa using h)]at hz;exact⟨h,hz⟩
   ·rw[if_pos h]at hz;exact⟨hz,absurd hz h⟩
  have hw0:aZ d=0:=by
   by_cases h:aZ d=0
   ·exact h
   ·have:=h0.1;unfold aM at this;rw[if_neg h]at this;exact this
  have hin:∀k:Int,aM d k=0->inB k 0 ((d.ah.length:Int) - 1)=true:=by
   intro k hk;unfold aM at hk;rw[if_pos hw0]at hk;cases hb:inB k 0 ((d.ah.length:Int) - 1)
   ·rw[hb]at hk;simp at hk
   ·rfl
  have hn:=hin n h0.1;have hg:=hin g h0.2;have hMO:fC d n g=fI d n.toNat g.toNat:=by unfold fC;rw[if_pos hw0,hn,hg];rfl
  have hR:aL d:=(cZ d).1 hw0;unfold inB at hn hg;simp only[decide_eq_true_eq]at hn hg;obtain⟨f,rfl⟩:=Int.eq_ofNat_of_zero_le hn.1;obtain⟨t,rfl⟩:=Int.eq_ofNat_of_zero_le hg.1;rw[hMO];rw[Int.toNat_natCast,Int.toNat_natCast];have hf:f < d.ah.length:=by omega
  have ht:t < d.ah.length:=by omega
  clear hn hg hMO hw0 h0 hin hz;obtain⟨r,hr⟩:∃r,fI d f t=r:=⟨_,rfl⟩;rw[hr];have HRR:=(show Hid _ from hr);clear hr
  cases r with
  | error er =>
   go_enter func42,ntmps42
   go_wp2_with (first
    | (go_at_call 66;refine(qA ⟨ga,gl,gc,na,nl,nc,wa,wl,wc⟩ d f t w1 hW1).mono ?_;rintro e w2 ⟨rfl,hS2⟩;obtain⟨lt2,f0,f1,f2⟩:=PF.out _ hS2;dsimp only at f0 f1 f2)
    | (go_at_call 67;refine(uE ⟨ga,gl,gc,na,nl,nc,wa,wl,wc⟩ d f t hf ht w2 (hW1.ay hS2) hR).mono ?_;rintro e w3 ⟨hR3,_⟩;obtain⟨rfl,hS3⟩:=hR3 er HRR.out;have hSr:=hS2.trans hS3;obtain⟨lt,r0,r1,r2,r3,r4,r5⟩:=hNB.ay hSr))
   refine bodyPost_ret (v:=.tuple #[.agg #[.slice none 0 0,.slice none 0 0,.slice none 0 0],.int .i64 er]) ?_ rfl (iU (cu hSp.size (hS1.trans hSr)));simp[results,results42,go_sem,r0,r1,r2]
  | ok d' =>
   go_enter func42,ntmps42
   go_wp2_with (first
    | (go_at_call 66;refine(qA ⟨ga,gl,gc,na,nl,nc,wa,wl,wc⟩ d f t w1 hW1).mono ?_;rintro e w2 ⟨rfl,hS2⟩;obtain⟨lt2,f0,f1,f2⟩:=PF.out _ hS2;dsimp only at f0 f1 f2)
    | (go_at_call 67;refine(uE ⟨ga,gl,gc,na,nl,nc,wa,wl,wc⟩ d f t hf ht w2 (hW1.ay hS2) hR).mono ?_;rintro e w3 ⟨_,hR3⟩;obtain⟨L,rfl,hO,hS3⟩:=hR3 d' HRR.out;simp only[bF];have hSr:=hS2.trans hS3;obtain⟨lt,r0,r1,r2,r3,r4,r5⟩:=hNB.ay hSr))
   obtain⟨hO2,hSf⟩:=hO.result (w0:=w) (p:=wp.heap.size) (zQ4 hNB.lt hS2.size) hSp.size (hS1.trans hSr) (zQ5 hS1.size hS2.size);refine bodyPost_ret (v:=.tuple #[bF L d',.int .i64 0]) ?_ rfl (mH hO2 hSf);simp[results,results42,go_sem,r0,r1,r2,bF]
 ·have hne:jX d n g≠0:=by simpa using hE
  have HF:Hid (fC d n g=.error (jX d n g)):=by
   unfold Hid fC;by_cases hw0:aZ d=0
   ·rw[if_pos hw0];have hk:∀k:Int,aM d k=if inB k 0 ((d.ah.length:Int) - 1) then 0 else 4:=fun k=>by unfold aM;rw[if_pos hw0]
    unfold jX at hne ⊢;rw[hk n,hk g]at hne ⊢
    cases h1:inB n 0 ((d.ah.length:Int) - 1) <;> cases h2:inB g 0 ((d.ah.length:Int) - 1) <;> simp[h1,h2]at hne ⊢
   ·rw[if_neg hw0];have hk:∀k:Int,aM d k=aZ d:=fun k=>by unfold aM;rw[if_neg hw0]
    unfold jX;rw[hk n,if_pos hw0]
  clear hne
  go_enter func42,ntmps42
  go_wp2_with (go_at_call 66;refine(qA ⟨ga,gl,gc,na,nl,nc,wa,wl,wc⟩ d n g w1 hW1).mono ?_;rintro e w2 ⟨rfl,hS2⟩;obtain⟨lt,r0,r1,r2,r3,r4,r5⟩:=hNB.ay hS2)
  refine bodyPost_ret (v:=.tuple #[.agg #[.slice none 0 0,.slice none 0 0,.slice none 0 0],.int .i64 (jX d n g)]) ?_ rfl (by unfold Hid;rw[HF.out];exact iU (cu hSp.size (hS1.trans hS2)));simp[results,results42,go_sem,r0,r1,r2]
end Go.Proofs.YtediempflagfkaaGreatDoor
