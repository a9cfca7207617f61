/- Lemmas. -/
import Derived.Test.YtediempflagfkaaGreatDoorRegM
import Derived.Test.YtediempflagfkaaGreatDoorOwnX
set_option linter.unusedVariables false
set_option linter.unusedSimpArgs false
set_option linter.unnecessarySimpa false
set_option maxHeartbeats 2000000
namespace Go.Proofs.YtediempflagfkaaGreatDoor
open _root_.Go.Proofs.Tryz hiding checked
set_option maxRecDepth 8000
open Go.RowKit Go.Shelf
open Pu
theorem pW(lo p n:Nat)(m:Mg)(d:Wd)(L:Lay)(x:Nd)(w:World)(hM:dF lo w p d L)(hx:d.ah[n]? = some x)(hlo:lo<=w.heap.size) :
  Calls prog 86 #[.pointer (some ⟨p,0,none⟩),.int .i64 n,.agg #[.int .i64 m.fr,.int .i64 m.gr,.int .i64 m.st,.bool m.nul,.string m.body]] w fun e w' =>
   e=.returned (.int .i64 (dV m x.held))/\(dV m x.held≠0->ak w w')/\(dV m x.held=0->∃L',dF lo w' p (aD d n { x with held:=gK m x.held }) L'/\jD w w' d L (aD d n { x with held:=gK m x.held }) L'):=by
 have hn:=bT hx;have sm:d.ah.length<=1000:=hM.own.small (1,0,0) ⟨rfl,rfl⟩;obtain⟨bn,on,cn,hL1,_,hbn,hbk,hcn⟩:=hM.own.lies (ix:=(1,0,0)) ⟨rfl,rfl⟩ (by show 0 < d.ah.length;omega);obtain⟨k0,k1,k2,k3,kz⟩:=hM.own.cells hx hL1;obtain⟨ha,hc,e1,hcap,hH⟩:=hM.own.GN hx;obtain⟨sh,_⟩:=hM.own.EO hx;rw[e1]at k2;have b1:=hM.box.c1;rw[hL1]at b1;dsimp only at b1;obtain⟨w1,hw1⟩:∃y,w.alloc (.cells #[.int .i64 m.fr,.int .i64 m.gr,.int .i64 m.st,.bool m.nul,.string m.body] 95)=y:=⟨_,rfl⟩;have hS1:=aF hw1
 have hMb:cO w1 w.heap.size 0 m:=by rw[<-hw1];constructor <;> simp[go_sem]
 have hl1:w.heap.size < w1.heap.size:=by rw[<-hw1];simp
 have hpl:=hM.box.lt;obtain⟨S0,hS0⟩:∃S0:World->Prop,∀w',S0 w'↔ak w1 w':=⟨_,fun _=>Iff.rfl⟩;have c1:∀y:aA S0,y.w.cell? ⟨p,1,none⟩=some (.slice (some ⟨bn,on,none⟩) d.ah.length cn):=fun y=>(((hS1.trans ((hS0 _).1 y.h)).av hpl _)).trans b1;have c2:∀y:aA S0,y.w.cell? ⟨bn,on+n*4+2,none⟩=some (.slice ha x.held.length hc):=fun y=>((hS1.trans ((hS0 _).1 y.h)).av hbn _).trans k2;have m0:∀y:aA S0,y.w.cell? ⟨w.heap.size,0,none⟩=some (.int .i64 m.fr):=fun y=>(((hS0 _).1 y.h).av hl1 _).trans hMb.c0;have m1:∀y:aA S0,y.w.cell? ⟨w.heap.size,1,none⟩=some (.int .i64 m.gr):=fun y=>(((hS0 _).1 y.h).av hl1 _).trans hMb.c1;have m2:∀y:aA S0,y.w.cell? ⟨w.heap.size,2,none⟩=some (.int .i64 m.st):=fun y=>(((hS0 _).1 y.h).av hl1 _).trans hMb.c2;have m3:∀y:aA S0,y.w.cell? ⟨w.heap.size,3,none⟩=some (.bool m.nul):=fun y=>(((hS0 _).1 y.h).av hl1 _).trans hMb.c3;have m4:∀y:aA S0,y.w.cell? ⟨w.heap.size,4,none⟩=some (.string m.body):=fun y=>(((hS0 _).1 y.h).av hl1 _).trans hMb.c4;have n1:(n:Int) < (d.ah.length:Int):=by omega
 go_enter func86,ntmps86
 go_wp2_with fail
 obtain⟨W0,hW0⟩:∃y,w1.drew=y:=⟨_,rfl⟩;have hs0:=aY hW0;have aC:=(hS0 W0).2 hs0;have hne:Nonempty (aA S0):=⟨⟨_,aC⟩⟩;refine uq (fun w'=>∃x:aA S0,w'=x.w) (by kernel_rfl) ?_;rw[hW0];clear hW0 hw1;refine tL 0 rfl (aj aC) ?_;go_big_quiet_op;refine tL 1 rfl (aj aC) ?_;go_big_quiet_op;refine tL 2 rfl (aj aC) ?_;go_big_quiet_op;refine tL 3 rfl (aj aC) ?_;go_big_quiet_op;refine tL 4 rfl (aj aC) ?_;go_big_quiet_op;refine tL 5 rfl (aj aC) ?_;go_big_quiet_op;refine tL 6 rfl (aj aC) ?_;go_big_quiet_op;refine tL 7 rfl (aj aC) ?_;go_big_quiet_op;refine tL 8 rfl (aj aC) ?_;go_big_quiet_op;refine kY 9 rfl (by kernel_rfl) ?_;intro K hK;go_simp;refine(JL ha x.held.length hc x.held m W0 (hH.ay (hS1.trans hs0)) hcap).mono ?_;rintro e w2 ⟨a',len',cap',rfl,hMs,Rt,hS2⟩;dsimp only;have hs2:=hs0.trans hS2;have AL:=(hS0 _).2 hs2;refine hK _ _ (fun _ _=>aj AL) ?_;clear hK K;refine tL 10 rfl (aj AL) ?_;go_big_quiet_op;refine tL 11 rfl (aj AL) ?_;go_big_quiet_op;refine tL 12 rfl (aj AL) ?_;go_big_quiet_op;refine tL 13 rfl (aj AL) ?_;go_big_quiet_op;refine tL 14 rfl (aj AL) ?_;go_big_quiet_op;refine vP (by kernel_rfl) ?_;have ze:=hS1.trans hs2;have d1:=(ze.av hpl _).trans b1;have d2:=(ze.av hbn _).trans k2;have d3:=(ze.below.frozen (p:=⟨bn,on+n*4+2,none⟩) hbn).trans (kz 2 (by omega));cases hE:(dV m x.held != 0)
 ·have HE:Hid (dV m x.held=0):=by unfold Hid;simpa using hE
  clear c1 c2 m0 m1 m2 m3 m4 hne
  go_wp2
  go_ret
  refine⟨by rw[HE.out];rfl,fun h=>absurd HE.out h,fun _=>?_⟩;have bq:len'=(gK m x.held).length:=hMs.bq.symm;have nu:=AZ Rt bq;have hge:∀b,Sl.blk ⟨a',cap'⟩=some b->w.heap.size<=b:=fun b e=>zQ5 (hS1.trans hs0).size (nu.jf b e);have hO2:=hM.own.ay ze
  have sp:(gK m x.held).length<=1000:=by
   rw[lH m x.held HE.out]
   have:¬ 40<=x.held.length:=fun h=>by have:=HE.out;unfold dV at this;split at this <;> simp_all
   omega
  have hput:=hO2.zW hx hL1 (nu.mono (by have:=hS1.size;have:=hs0.size;omega)) sp (hM.own.fresh hge (5,n,0))
  have hst:=nQ (d':=aD d n { x with held:=gK m x.held }) (L:=L) ze (fV hx rfl) (5,n,0) ⟨a',cap'⟩ (fun b e=>.inr (hge b e)) (off:=on+n*4+2) (Sl.v ⟨a',cap'⟩ (gK m x.held).length) (d:=d) ⟨(1,0,0),⟨rfl,rfl⟩,hbk⟩
  rw[bq];exact⟨_,hM.step hput hst rfl rfl rfl rfl (by simp[aD]) rfl,hst⟩
 ·have HE:Hid (dV m x.held≠0):=by unfold Hid;simpa using hE
  clear c1 c2 m0 m1 m2 m3 m4 hne
  go_wp2
  go_ret
  exact⟨rfl,fun _=>ze,fun h=>absurd h HE.out⟩
def iG(d:Wd)(n:Nat)(x:Nd):Int:=if 40 < (x.aG++dD d n x).length then 2 else if bC (x.aG++dD d n x)=false then 1 else 0
def uG(d:Wd)(n:Nat)(x:Nd):Nd:={ x with held:=x.held.drop (dD d n x).length,aG:=x.aG++dD d n x }
theorem Ii(lo p n:Nat)(d:Wd)(L:Lay)(x:Nd)(R:List Mg)(hRd:dD d n x=R)(w:World)(hM:dF lo w p d L)(hx:d.ah[n]? = some x)(hlo:lo<=w.heap.size)(hLo:j5 d x)(hsh:x.held.length<=40)(Post:Ending->World->Prop)
  (hA:40 < x.aG.length+R.length->∀w',ak w w'->Post (.returned (.tuple #[.int .i64 0,.int .i64 2])) w')
  (hB:x.aG.length+R.length<=40->bC (x.aG++R)=false->∀w',ak w w'->Post (.returned (.tuple #[.int .i64 0,.int .i64 1])) w')
  (hC:x.aG.length+R.length<=40->bC (x.aG++R)=true->∀w' L',dF lo w' p (aD d n { x with held:=x.held.drop R.length,aG:=x.aG++R }) L'->jD w w' d L (aD d n { x with held:=x.held.drop R.length,aG:=x.aG++R }) L'->Post (.returned (.tuple #[.int .i64 R.length,.int .i64 0])) w') :
  Calls prog 87 #[.pointer (some ⟨p,0,none⟩),.int .i64 n] w fun e w'=>Hid (Post e w'):=by
 have hn:=bT hx;have sm:d.ah.length<=1000:=hM.own.small (1,0,0) ⟨rfl,rfl⟩;obtain⟨bn,on,cn,hL1,_,hbn,hbk,hcn⟩:=hM.own.lies (ix:=(1,0,0)) ⟨rfl,rfl⟩ (by show 0 < d.ah.length;omega);obtain⟨k0,k1,k2,k3,kz⟩:=hM.own.cells hx hL1;obtain⟨ha,hc,e1,hcap,hH⟩:=hM.own.GN hx;obtain⟨ta,tc,e2,Wy,hT⟩:=hM.own.Qq hx;obtain⟨_,st⟩:=hM.own.EO hx;rw[e1]at k2;rw[e2]at k3;have b0:=hM.box.c0;have b1:=hM.box.c1;have b2:=hM.box.c2;have hW:=hM.own.wat;unfold fE at hW;rw[hL1]at b1 hW;dsimp only at b1 hW;have hpl:=hM.box.lt;have n1:(n:Int) < (d.ah.length:Int):=by omega
 have hRl:R.length<=x.held.length:=by rw[<-hRd];unfold dD;exact List.length_filter_le _ _
 have RF:Hid (∀y,ak w y->y.cell? ⟨p,1,none⟩=some (.slice (some ⟨bn,on,none⟩) d.ah.length cn)/\y.cell? ⟨bn,on+n*4+2,none⟩=some (.slice ha x.held.length hc)/\y.cell? ⟨bn,on+n*4+3,none⟩=some (.slice ta x.aG.length tc)/\y.frozen? ⟨bn,on+n*4+2,none⟩=false/\y.frozen? ⟨bn,on+n*4+3,none⟩=false):=fun y hy =>
  ⟨(hy.av hpl _).trans b1,(hy.av hbn _).trans k2,(hy.av hbn _).trans k3,(hy.below.frozen (p:=⟨bn,on+n*4+2,none⟩) hbn).trans (kz 2 (by omega)),(hy.below.frozen (p:=⟨bn,on+n*4+3,none⟩) hbn).trans (kz 3 (by omega))⟩
 have HR:Hid (dD d n x=R):=hRd;have HA:=(show Hid _ from hA);have HB:=(show Hid _ from hB);have HC:=(show Hid _ from hC);clear hRd hA hB hC
 go_enter func87,ntmps87
 go_wp2_with (first
  | (go_at_call 116;refine(Ec _ d n x w hW hx hLo hsh).mono ?_;rintro e w1 ⟨v,rfl,hv,hS1⟩;rw[HR.out]at hv;obtain⟨ra,rc,rfl,hRR⟩:=oW hv;obtain⟨wA,hwA⟩:∃y,w1.alloc (.cells #[] 95)=y:=⟨_,rfl⟩;have hSA:ak w1 wA:=(by rw[<-hwA];exact(ak.refl w1).alloc _);have hRe:Row wA w1.heap.size 5 ⟨some ⟨w1.heap.size,0,none⟩,0⟩ 0 []:=(by rw[<-hwA];exact Row.empty w1 _ 5 _);obtain⟨f1,f2,f3,f4,f5⟩:=RF.out _ hS1;obtain⟨g1,g2,g3,g4,g5⟩:=RF.out _ (hS1.trans hSA))
  | (at_builtin;refine iK jo rfl _ _ 62 rfl rfl hRe rfl (jq (c:=tc) (hT.ay (hS1.trans hSA))) ?_ hSA.size ?_;omega;intro ua uc w2 hR2 hF2 hB2;simp only[Nat.zero_add,List.nil_append]at hR2;have hS2:ak wA w2:=hF2.ay (fun i _ e=>by unfold Sl.blk at e;simp at e);have Vt:∀b,Sl.blk ⟨ua,uc⟩=some b->w1.heap.size<=b:=hR2.jf)
  | (at_builtin;refine iK jo rfl _ _ 62 rfl rfl hR2 rfl (jq (c:=rc) (lI (hRR.ay (hSA.trans hS2)) ?_)) ?_ (hSA.trans hS2).size ?_;omega;omega;intro va vc w3 hR3 hF3 hB3;have hS3:ak w w3:=hF3.aI (hS1.trans (hSA.trans hS2)) (fun i hi e=>by have:=Vt i e;have:=hS1.size;omega)))
 ·rename_i hgt
  go_ret2
  exact HA.out (by omega) _ hS3
 ·have hM3:gD w3 va (x.aG.length+R.length) (x.aG++R):=by
   have hl:x.aG.length+R.length=(x.aG++R).length:=by simp
   rw[hl,<-fM]at hR3;have:=lI hR3 (by simp;omega);rw[<-hl]at this;exact this
  have hle:x.aG.length+R.length<=40:=by omega
  refine(iF va (x.aG.length+R.length) vc (x.aG++R) w3 hM3).mono ?_;rintro e w4 ⟨rfl,xW⟩;have hS4:=hS3.trans xW;obtain⟨q1,q2,q3,q4,q5⟩:=RF.out _ hS4;cases hr:bC (x.aG++R)
  ·go_wp2
   go_ret2
   exact HB.out hle hr _ hS4
  ·have hlT:x.aG.length+R.length=(x.aG++R).length:=by simp
   have HT:Hid (x.aG.length+R.length=(x.aG++R).length):=hlT
   have nu:Row w4 lo 5 ⟨va,vc⟩ (x.aG++R).length (flat (x.aG++R)):=by
    have:=hR3.ay xW;rw[hlT,<-fM]at this;exact this.mono (zQ5 hlo hS1.size)
   have TG:∀b,Sl.blk ⟨va,vc⟩=some b->w.heap.size<=b:=fun b e=>zQ5 hS1.size (hR3.jf b e);have hO4:=hM.own.ay hS4;have hO5:=hO4.KR hx hL1 nu (by simp;omega) (hM.own.fresh TG (6,n,0))
   have wO:=nQ (d:=d) (L:=L) (d':=aD d n { x with aG:=x.aG++R }) hS4 (fV hx rfl) (6,n,0) ⟨va,vc⟩ (fun b e=>.inr (TG b e)) (off:=on+n*4+3) (Sl.v ⟨va,vc⟩ (x.aG++R).length) ⟨(1,0,0),⟨rfl,rfl⟩,hbk⟩
   have hx5:(aD d n { x with aG:=x.aG++R }).ah[n]? = some { x with aG:=x.aG++R }:=by rw[dI _ hx,if_pos rfl]
   have hL5:L.upd (6,n,0) ⟨va,vc⟩ (1,0,0)=⟨some ⟨bn,on,none⟩,cn⟩:=hL1;obtain⟨_,_,y2,_,yz⟩:=hO5.cells hx5 hL5;obtain⟨ha5,hc5,e5,hcap5,hH5⟩:=hO5.GN hx5;have eh:(L.upd (6,n,0) ⟨va,vc⟩ (5,n,0)).v x.held.length=.slice ha x.held.length hc:=by rw[Lay.gG L _ (by simp),e1]
   have e6:ha5=ha/\hc5=hc:=by
    rw[eh]at e5;simp at e5;exact⟨e5.1.symm,e5.2.symm⟩
   obtain⟨rfl,rfl⟩:=e6;dsimp only at y2 hH5 hcap5;rw[eh]at y2;obtain⟨w5,hw5⟩:∃y,w4.setCell ⟨bn,on+n*4+3,none⟩ (.slice va (x.aG.length+R.length) vc)=y:=⟨_,rfl⟩;have Vu:w4.setCell ⟨bn,on+n*4+3,none⟩ (Sl.v ⟨va,vc⟩ (x.aG++R).length)=w5:=by rw[<-hw5,hlT];rfl
   rw[Vu]at hO5 wO y2 yz hH5;obtain⟨w6,hw6⟩:∃y,w5.alloc (.cells #[] 95)=y:=⟨_,rfl⟩;have BI:=aF hw6;have TH:Row w6 w.heap.size 5 ⟨some ⟨w5.heap.size,0,none⟩,0⟩ 0 []:=by rw[<-hw6];exact Row.empty w5 _ 5 _
   have hb5:bn < w5.heap.size:=by have:=wO.fr.size;omega
   have y6:=(BI.av hb5 _).trans y2;have z6:=(BI.below.frozen (p:=⟨bn,on+n*4+2,none⟩) hb5).trans (yz 2 (by omega));have TI:w.heap.size<=w6.heap.size:=zQ5 wO.fr.size BI.size;have hrl:(R.length:Int)<=(x.held.length:Int):=by omega
   have hrc:(x.held.length:Int)<=(hc5:Int):=by omega
   clear f1 f2 f3 f4 f5 g1 g2 g3 g4 g5 hlT
   have fin:∀(sa:Option Addr) (sc:Nat) (w7:World),Row w7 w.heap.size 5 ⟨sa,sc⟩ (x.held.length - R.length) (flat (x.held.drop R.length))->ak w6 w7->(∀b,Sl.blk ⟨sa,sc⟩=some b->w5.heap.size<=b) ->
     Post (.returned (.tuple #[.int .i64 R.length,.int .i64 0])) (w7.setCell ⟨bn,on+n*4+2,none⟩ (.slice sa (x.held.length - R.length) sc)):=by
    intro sa sc w7 hR7 Fb MR;have hdl:x.held.length - R.length=(x.held.drop R.length).length:=by rw[List.length_drop]
    rw[hdl]at hR7;have TJ:=BI.trans Fb;have hO7:=(hO5.ay TJ).zW hx5 hL5 (hR7.mono hlo) (by rw[List.length_drop];omega) (hO5.fresh MR (5,n,0))
    have rT:=nQ (d:=aD d n { x with aG:=x.aG++R }) (L:=L.upd (6,n,0) ⟨va,vc⟩) (d':=aD (aD d n { x with aG:=x.aG++R }) n { x with held:=x.held.drop R.length,aG:=x.aG++R }) TJ (fV hx5 rfl) (5,n,0) ⟨sa,sc⟩ (fun b e=>.inr (MR b e)) (off:=on+n*4+2) (Sl.v ⟨sa,sc⟩ (x.held.drop R.length).length)
     ⟨(1,0,0),⟨rfl,rfl⟩,by rw[hL5];rw[hL1]at hbk;exact hbk⟩
    have hset:aD (aD d n { x with aG:=x.aG++R }) n { x with held:=x.held.drop R.length,aG:=x.aG++R }=aD d n { x with held:=x.held.drop R.length,aG:=x.aG++R }:=by
     unfold aD;simp[List.set_set]
    dsimp only at hO7;rw[hset]at rT hO7;have hst:=wO.trans rT;rw[hdl];exact HC.out hle hr _ _ (hM.step hO7 hst rfl rfl rfl rfl (by simp[aD]) rfl) hst
   have LP:=(show Hid _ from fin);clear fin;have hfl:(flat (x.held.drop R.length)).length=(x.held.length - R.length)*5:=by rw[dA,List.length_drop]
   have hfo:∀u∈flat (x.held.drop R.length),u.oneCell'=true:=fun u hu=>dN u _ hu;by_cases hcp:hc5<=R.length
   ·have hs0:∀a,Src prog 5 62 (.slice a (x.held.length - R.length) 0) (x.held.length - R.length) (flat (x.held.drop R.length)) w6:=fun a=>AY jo.und hfl hfo (fun hp=>absurd hp (by omega))
    go_wp2_with (at_builtin;refine iK jo rfl _ _ 62 rfl rfl TH rfl (hs0 _) ?_ TI ?_;omega;intro sa sc w7 hR7 hF7 hB7;simp only[Nat.zero_add,List.nil_append]at hR7;have Fb:ak w6 w7:=hF7.ay (fun i _ e=>by unfold Sl.blk at e;simp at e);have y7:=((BI.trans Fb).av hb5 _).trans y2;have z7:=((BI.trans Fb).below.frozen (p:=⟨bn,on+n*4+2,none⟩) hb5).trans (yz 2 (by omega)))
    all_goals
     have MR:∀b,Sl.blk ⟨sa,sc⟩=some b->w5.heap.size<=b:=by
      intro b e;rcases hB7 with e2 | ⟨_,e2⟩
      ·rw[e2]at e;unfold Sl.blk at e;simp at e
      ·rw[e2]at e;cases e;exact BI.size
     go_ret2
     exact LP.out sa sc w7 hR7 Fb MR
   ·have hrow:Row w5 lo 5 ⟨ha5,hc5⟩ x.held.length (flat x.held):=by
     have h5:Row w5 lo 5 (L.upd (6,n,0) ⟨va,vc⟩ (5,n,0)) (bD (aD d n { x with aG:=x.aG++R }) n).held.length (flat (bD (aD d n { x with aG:=x.aG++R }) n).held):=hO5.row (5,n,0) ⟨by simpa[aD] using hn,rfl⟩
     rw[dh hx5,Lay.gG L _ (by simp)]at h5
     have e7:L (5,n,0)=⟨ha5,hc5⟩:=by
      have:=e1;unfold Sl.v at this;simp at this;obtain⟨t1,t2⟩:=this;cases hl:L (5,n,0);rw[hl]at t1 t2;simp at t1 t2;rw[t1,t2]
     rw[e7]at h5;exact h5
    obtain⟨bh,oh,eh2,hlh,hbh,hch,hxh⟩:=hrow.body (by show 0 < hc5;omega);dsimp only at eh2;subst eh2
    have hs1:Src prog 5 62 (.slice (some ⟨bh,oh+R.length*5,none⟩) (x.held.length - R.length) (hc5 - R.length)) (x.held.length - R.length) (flat (x.held.drop R.length)) w6 :=
     AY jo.und hfl hfo (fun hp=>⟨bh,oh+R.length*5,rfl,fun j u hj=>(BI.av hbh _).trans (by rw[Nat.add_assoc];exact hxh _ u (kE hRl hj))⟩)
    have Wz:(R.length:Int) < (hc5:Int):=by omega
    go_wp2_with (at_builtin;refine iK jo rfl _ _ 62 rfl rfl TH rfl hs1 ?_ TI ?_;omega;intro sa sc w7 hR7 hF7 hB7;simp only[Nat.zero_add,List.nil_append]at hR7;have Fb:ak w6 w7:=hF7.ay (fun i _ e=>by unfold Sl.blk at e;simp at e);have y7:=((BI.trans Fb).av hb5 _).trans y2;have z7:=((BI.trans Fb).below.frozen (p:=⟨bn,on+n*4+2,none⟩) hb5).trans (yz 2 (by omega)))
    have MR:∀b,Sl.blk ⟨sa,sc⟩=some b->w5.heap.size<=b:=by
     intro b e;rcases hB7 with e2 | ⟨_,e2⟩
     ·rw[e2]at e;unfold Sl.blk at e;simp at e
     ·rw[e2]at e;cases e;exact BI.size
    go_ret2
    exact LP.out sa sc w7 hR7 Fb MR
theorem iW(lo p n:Nat)(d:Wd)(L:Lay)(x:Nd)(w:World)(hM:dF lo w p d L)(hx:d.ah[n]? = some x)(hlo:lo<=w.heap.size)(hLo:j5 d x)(hsh:x.held.length<=40) :
  Calls prog 87 #[.pointer (some ⟨p,0,none⟩),.int .i64 n] w fun e w' =>
   e=.returned (.tuple #[.int .i64 (if iG d n x=0 then ((dD d n x).length:Int) else 0),.int .i64 (iG d n x)])/\(iG d n x≠0->ak w w')/\(iG d n x=0->∃L',dF lo w' p (aD d n (uG d n x)) L'/\jD w w' d L (aD d n (uG d n x)) L'):=by
 refine Ii lo p n d L x _ rfl w hM hx hlo hLo hsh _ (fun h w' hS=>?_) (fun h hr w' hS=>?_) (fun h hr w' L' hm st=>?_)
 ·have e:iG d n x=2:=by unfold iG;rw[if_pos (by simpa using h)]
  rw[e];exact⟨rfl,fun _=>hS,fun h=>by cases h⟩
 ·have e:iG d n x=1:=by unfold iG;rw[if_neg (by simp;omega),if_pos hr]
  rw[e];exact⟨rfl,fun _=>hS,fun h=>by cases h⟩
 ·have e:iG d n x=0:=by unfold iG;rw[if_neg (by simp;omega),if_neg (by rw[hr];simp)]
  rw[e];exact⟨rfl,fun h=>absurd rfl h,fun _=>⟨L',hm,st⟩⟩
theorem rQ{n:Nat}{xs:List Int}(h:dS n xs=0):1<=n/\n<=4/\1<=xs.length/\xs.length<=3:=by
 unfold dS at h;split at h
 ·cases h
 ·split at h
  ·cases h
  ·omega
theorem jW{d:Wd}(R:aL d):JG d:=by
 obtain⟨_,n4,_,g3⟩:=rQ R.chk;rintro⟨u,i,j⟩ hok
 match u with
 | 0=>show d.au.length<=100;omega
 | 1=>show d.ah.length<=100;omega
 | 2=>show d.aB.length<=100;rw[R.yu];omega
 | 3 =>
  obtain⟨x,hx⟩:∃x,d.ah[i]? = some x:=⟨_,zQ1 hok.1⟩;show(bD d i).last.length<=100;rw[dh hx,R.llen i x hx];omega
 | 4 =>
  obtain⟨x,hx⟩:∃x,d.ah[i]? = some x:=⟨_,zQ1 hok.1⟩;have h2:j < (bD d i).last.length:=hok.2;rw[dh hx]at h2;obtain⟨r,hr⟩:∃r,x.last[j]? = some r:=⟨_,zQ1 h2⟩;show(fA d i j).length<=100;unfold fA;rw[dh hx,hr];show r.length<=100;rw[R.lW i x j r hx hr];omega
 | 5 =>
  obtain⟨x,hx⟩:∃x,d.ah[i]? = some x:=⟨_,zQ1 hok.1⟩;have:=R.nW i;show(bD d i).held.length<=100;rw[(dU hx).2.1]at this;rw[dh hx];omega
 | 6 =>
  obtain⟨x,hx⟩:∃x,d.ah[i]? = some x:=⟨_,zQ1 hok.1⟩;have:=R.vH i;show(bD d i).aG.length<=100;rw[(dU hx).2.2.1]at this;rw[dh hx];omega
 | 7 =>
  obtain⟨r,hr⟩:∃x,d.aB[i]? = some x:=⟨_,zQ1 hok.1⟩;show(rowAt d i).length<=100;rw[dP hr,R.rlen i r hr];omega
 | 8 =>
  have:=R.pK i j;show(gF d i j).length<=100;have e:gF d i j=aJ d i j:=rfl;rw[e];omega
 | _+9=>exact absurd hok (fun h=>h)
theorem rE{d:Wd}(R:aL d){n:Nat}{x:Nd}(hx:d.ah[n]? = some x):j5 d x:=⟨R.llen n x hx,fun g row hr=>R.lW n x g row hx hr⟩
theorem row_of{d:Wd}(r:eF d){f:Nat}(hf:f < d.ah.length):∃row,d.aB[f]? = some row/\row.length=d.ah.length :=
 ⟨_,zQ1 (by rw[r.1];exact hf),r.2 f _ (zQ1 (by rw[r.1];exact hf))⟩
structure lS (w:World) (p:Nat) (d:Wd) (L:Lay) (f t:Nat) (l:List Mg) (bw ow cw br oR cr:Nat):Prop where
 lt:p < w.heap.size
 top:w.cell? ⟨p,2,none⟩=some (.slice (some ⟨bw,ow,none⟩) d.aB.length cw)
 ltw:bw < w.heap.size
 row:w.cell? ⟨bw,ow+f,none⟩=some (.slice (some ⟨br,oR,none⟩) d.ah.length cr)
 ltr:br < w.heap.size
 cell:w.cell? ⟨br,oR+t,none⟩=some ((L (8,f,t)).v l.length)
 free:w.frozen? ⟨br,oR+t,none⟩=false
 lay:L (7,f,0)=⟨some ⟨br,oR,none⟩,cr⟩
 bkw:(L (2,0,0)).blk=some bw
 bkr:(L (7,f,0)).blk=some br
theorem dF.qy{lo:Nat}{w:World}{p:Nat}{d:Wd}{L:Lay}(h:dF lo w p d L)(r:eF d){f t:Nat}(hf:f < d.ah.length)(ht:t < d.ah.length):∃bw ow cw br oR cr,lS w p d L f t (aJ d f t) bw ow cw br oR cr:=by
 obtain⟨row,hr,hl⟩:=row_of r hf;have h2:=h.box.c2;have hRw:Row w lo 1 (L (2,0,0)) d.aB.length ((List.range d.aB.length).map fun i=>(L (7,i,0)).v (rowAt d i).length):=h.own.row (2,0,0) ⟨rfl,rfl⟩;have hRr:Row w lo 1 (L (7,f,0)) (rowAt d f).length ((List.range (rowAt d f).length).map fun k=>(L (8,f,k)).v (gF d f k).length):=h.own.row (7,f,0) ⟨by rw[r.1];exact hf,rfl⟩;rw[dP hr,hl]at hRr;obtain⟨bw,ow,e1,hlw,hbw,hcw,hxw⟩:=hRw.body (by have:=hRw.cap;have:=r.1;omega);obtain⟨br,oR,e2,hlr,hbr,hcr,hxr⟩:=hRr.body (by have:=hRr.cap;omega);have L2:L (2,0,0)=⟨some ⟨bw,ow,none⟩,(L (2,0,0)).cap⟩:=by rw[<-e1]
 have L7:L (7,f,0)=⟨some ⟨br,oR,none⟩,(L (7,f,0)).cap⟩:=by rw[<-e2]
 have hb2:(L (2,0,0)).blk=some bw:=by
  obtain⟨b,o,c,hL,_,_,hbk,_⟩:=h.own.lies (ix:=(2,0,0)) ⟨rfl,rfl⟩ (by show 0 < d.aB.length;have:=r.1;omega);rw[hL]at e1;simp at e1;rw[hL,<-e1.1];rw[hL]at hbk;exact hbk
 have hb7:(L (7,f,0)).blk=some br:=by
  obtain⟨b,o,c,hL,_,_,hbk,_⟩:=h.own.lies (ix:=(7,f,0)) ⟨by rw[r.1];exact hf,rfl⟩ (by show 0 < (rowAt d f).length;rw[dP hr];omega);rw[hL]at e2;simp at e2;rw[hL,<-e2.1];rw[hL]at hbk;exact hbk
 refine⟨bw,ow,(L (2,0,0)).cap,br,oR,(L (7,f,0)).cap,h.box.lt, ?_,hbw, ?_,hbr, ?_, ?_,L7,hb2,hb7⟩
 ·rw[h2,e1]
 ·have:=hxw f _ (range_map_get _ _ f (by rw[r.1];exact hf));rw[this,dP hr,hl];unfold Sl.v;rw[e2]
 ·exact hxr t _ (range_map_get _ _ t ht)
 ·have hcap:=hRr.cap;exact(hcr t (by omega)).2
theorem lS.ay{w w':World}{p:Nat}{d:Wd}{L:Lay}{f t:Nat}{l:List Mg}{bw ow cw br oR cr:Nat}(h:lS w p d L f t l bw ow cw br oR cr)(k:ak w w'):lS w' p d L f t l bw ow cw br oR cr :=
 ⟨zQ4 h.lt k.size,(k.av h.lt _).trans h.top,zQ4 h.ltw k.size,(k.av h.ltw _).trans h.row,zQ4 h.ltr k.size,(k.av h.ltr _).trans h.cell,(k.below.frozen (p:=⟨br,oR+t,none⟩) h.ltr).trans h.free,h.lay,h.bkw,h.bkr⟩
theorem lS.fr{lo:Nat}{w w':World}{p:Nat}{d:Wd}{L:Lay}{f t:Nat}{l:List Mg}{bw ow cw br oR cr:Nat}(h:lS w p d L f t l bw ow cw br oR cr)(hM:dF lo w p d L)(r:eF d)(hf:f < d.ah.length)(ht:t < d.ah.length)(k:Fr (fun i=>(L (8,f,t)).blk=some i) w w'):lS w' p d L f t l bw ow cw br oR cr:=by
 obtain⟨row,hr,hrl⟩:=row_of r hf;have wN:okI d (8,f,t):=⟨by rw[r.1];exact hf,by rw[dP hr];omega⟩;have J6:okI d (7,f,0):=⟨by rw[r.1];exact hf,rfl⟩;have np:¬ (L (8,f,t)).blk=some p:=fun e=>hM.off ⟨_,wN,e⟩;have nw:¬ (L (8,f,t)).blk=some bw:=fun e=>by have:=hM.own.inj (8,f,t) (2,0,0) bw wN ⟨rfl,rfl⟩ e h.bkw;cases this
 have nr:¬ (L (8,f,t)).blk=some br:=fun e=>by have:=hM.own.inj (8,f,t) (7,f,0) br wN J6 e h.bkr;cases this
 have hc:∀b,b < w.heap.size->¬ (L (8,f,t)).blk=some b->∀o,w'.cell? ⟨b,o,none⟩=w.cell? ⟨b,o,none⟩:=fun b hb hn o=>by unfold World.cell?;rw[k.block b hb hn]
 have hz:w'.frozen? ⟨br,oR+t,none⟩=w.frozen? ⟨br,oR+t,none⟩:=by unfold World.frozen?;rw[k.block br h.ltr nr]
 exact⟨zQ4 h.lt k.size,(hc _ h.lt np _).trans h.top,zQ4 h.ltw k.size,(hc _ h.ltw nw _).trans h.row,zQ4 h.ltr k.size,(hc _ h.ltr nr _).trans h.cell,hz.trans h.free,h.lay,h.bkw,h.bkr⟩
theorem dF.yA{lo:Nat}{w w1 w2:World}{p:Nat}{d:Wd}{L:Lay}(h:dF lo w p d L)(r:eF d){f t:Nat}(hf:f < d.ah.length)(ht:t < d.ah.length){m:Mg}{br oR cr:Nat}(he:L (7,f,0)=⟨some ⟨br,oR,none⟩,cr⟩)(hlo:lo<=w.heap.size)
  (hS:ak w w1) {a':Option Addr} {c':Nat} (hl:(aJ d f t).length+1<=1000) (hR:Row w2 lo 5 ⟨a',c'⟩ ((aJ d f t).length+1) (flat (aJ d f t)++flat [m])) (hF:Fr (fun k=>(L (8,f,t)).blk=some k) w1 w2)
  (hB:(⟨a',c'⟩:Sl)=L (8,f,t)\/(ak w1 w2/\Sl.blk ⟨a',c'⟩=some w1.heap.size)) :
  dF lo (w2.setCell ⟨br,oR+t,none⟩ (.slice a' ((aJ d f t).length+1) c')) p (bK d f t (aJ d f t++[m])) (L.upd (8,f,t) ⟨a',c'⟩)/\jD w (w2.setCell ⟨br,oR+t,none⟩ (.slice a' ((aJ d f t).length+1) c')) d L (bK d f t (aJ d f t++[m])) (L.upd (8,f,t) ⟨a',c'⟩):=by
 obtain⟨row,hr,hrl⟩:=row_of r hf;have htr:t < row.length:=by omega
 have wN:okI d (8,f,t):=⟨by rw[r.1];exact hf,by rw[dP hr];exact htr⟩;have J6:okI d (7,f,0):=⟨by rw[r.1];exact hf,rfl⟩;have hO1:=h.own.ay hS
 have hO2:bG lo w2 d L:=by
  refine hO1.grown wN (s':=⟨a',c'⟩) hR (by show(gF d f t).length<=_;show(aJ d f t).length<=_;omega) ?_ hF hB;show(flat (aJ d f t)++flat [m]).take ((aJ d f t).length*5)=flat (aJ d f t);rw[List.take_append_of_le_length (by rw[dA];omega),List.take_of_length_le (by rw[dA];omega)]
 have hls:(aJ d f t++[m]).length=(aJ d f t).length+1:=by simp
 have hb7:gT d L br:=by
  obtain⟨b,o,c,hL,_,_,hbk,_⟩:=h.own.lies (ix:=(7,f,0)) J6 (by show 0 < (rowAt d f).length;rw[dP hr];omega);rw[he]at hL;have:br=b:=by simp at hL;exact hL.1.1
  subst this;exact⟨(7,f,0),J6,hbk⟩
 have hge:∀b,Sl.blk ⟨a',c'⟩=some b->gT d L b\/w.heap.size<=b:=by
  intro b e;rcases hB with e2 | ⟨_,e2⟩
  ·rw[e2]at e;exact .inl ⟨(8,f,t),wN,e⟩
  ·rw[e2]at e;cases e;exact .inr hS.size
 have hput:=hO2.KT hr htr he (s:=⟨a',c'⟩) (l:=aJ d f t++[m]) (by rw[hls,fM];exact hR) (by omega) (by
  intro c hc;rintro⟨ix,hne,hok,e⟩;rcases hB with e2 | ⟨hS2,e2⟩
  ·rw[e2]at hc;exact hne (h.own.inj ix (8,f,t) c hok wN e hc)
  ·rw[e2]at hc;cases hc;have:=(hO1.blk ⟨ix,hok,e⟩).2;omega)
 have hv:Sl.v ⟨a',c'⟩ (aJ d f t++[m]).length=.slice a' ((aJ d f t).length+1) c':=by rw[hls];rfl
 rw[hv]at hput
 have hst:jD w (w2.setCell ⟨br,oR+t,none⟩ (.slice a' ((aJ d f t).length+1) c')) d L (bK d f t (aJ d f t++[m])) (L.upd (8,f,t) ⟨a',c'⟩):=by
  refine⟨?_,fun b hb=>?_⟩
  ·have hF1:Fr (gT d L) w w1:=hS.fr _;have hF2:Fr (gT d L) w1 w2:=hF.mono (fun i _ e=>⟨(8,f,t),wN,e⟩);exact(hF1.trans hF2 (fun _ _ x=>x) (fun _ _ x=>x)).setCell _ _ (fun _=>hb7)
  ·obtain⟨ix,hix,e⟩:=hb;by_cases hh:ix=(8,f,t)
   ·subst hh;rw[Lay.upd_same]at e;exact hge b e
   ·rw[Lay.gG L _ hh]at e;exact .inl ⟨ix,(zx _ hr ix).1 hix,e⟩
 exact⟨h.step hput hst rfl rfl rfl rfl rfl (by simp[bK]),hst⟩
theorem rR{m:Mg}{n:Nat}{d:Wd}{e:Int}:∀(j k:Nat),k<=j->fO m n d k=.error e->fO m n d j=.error e
 | 0,k,hk,h=>by obtain rfl:k=0:=by omega
                exact h
 | j+1,k,hk,h=>by
  by_cases hkj:k=j+1
  ·rw[<-hkj];exact h
  ·rw[jh,rR j k (by omega) h];rfl
theorem dF.K8{lo:Nat}{w w1:World}{p:Nat}{d:Wd}{L:Lay}(h:dF lo w p d L)(r:eF d){f t:Nat}(hf:f < d.ah.length)(ht:t < d.ah.length){rest:List Mg}{br oR cr:Nat}(he:L (7,f,0)=⟨some ⟨br,oR,none⟩,cr⟩)
  (hS:ak w w1) (hm:rest.length<=1000) {s:Sl} (hR:Row w1 lo 5 s rest.length (flat rest)) (hb:∀b,s.blk=some b->(L (8,f,t)).blk=some b) :
  dF lo (w1.setCell ⟨br,oR+t,none⟩ (s.v rest.length)) p (bK d f t rest) (L.upd (8,f,t) s)/\jD w (w1.setCell ⟨br,oR+t,none⟩ (s.v rest.length)) d L (bK d f t rest) (L.upd (8,f,t) s):=by
 obtain⟨row,hr,hrl⟩:=row_of r hf;have htr:t < row.length:=by omega
 have wN:okI d (8,f,t):=⟨by rw[r.1];exact hf,by rw[dP hr];exact htr⟩;have J6:okI d (7,f,0):=⟨by rw[r.1];exact hf,rfl⟩
 have hb7:gT d L br:=by
  obtain⟨b,o,c,hL,_,_,hbk,_⟩:=h.own.lies (ix:=(7,f,0)) J6 (by show 0 < (rowAt d f).length;rw[dP hr];omega);rw[he]at hL;have:br=b:=by simp at hL;exact hL.1.1
  subst this;exact⟨(7,f,0),J6,hbk⟩
 have hput:=(h.own.ay hS).KT hr htr he (s:=s) (l:=rest) hR hm (fun c hc=>by
  rintro⟨ix,hne,hok,e⟩;exact hne (h.own.inj ix (8,f,t) c hok wN e (hb c hc)))
 have hst:=nQ (d:=d) (L:=L) (d':=bK d f t rest) hS (zx rest hr) (8,f,t) s (fun b e=>.inl ⟨(8,f,t),wN,hb b e⟩) (off:=oR+t) (s.v rest.length) hb7;exact⟨h.step hput hst rfl rfl rfl rfl rfl (by simp[bK]),hst⟩
theorem dF.uL{lo:Nat}{w w1:World}{p:Nat}{d:Wd}{L:Lay}(h:dF lo w p d L){n:Nat}{x:Nd}(hx:d.ah[n]? = some x){b off cap:Nat}(he:L (1,0,0)=⟨some ⟨b,off,none⟩,cap⟩)(hS:ak w w1)(c:Int) :
  dF lo (w1.setCell ⟨b,off+n*4,none⟩ (.int .i64 c)) p (aD d n { x with aK:=c }) L/\jD w (w1.setCell ⟨b,off+n*4,none⟩ (.int .i64 c)) d L (aD d n { x with aK:=c }) L:=by
 have hn:=bT hx;obtain⟨b',o,c',hL,_,_,hbk,_⟩:=h.own.lies (ix:=(1,0,0)) ⟨rfl,rfl⟩ (by show 0 < d.ah.length;omega);rw[he]at hL;have e1:b=b':=by simp at hL;exact hL.1.1
 subst e1;have hput:=(h.own.ay hS).GQ hx he c
 have hst:=wh (d:=d) (L:=L) (d':=aD d n { x with aK:=c }) hS (fV hx rfl) (off:=off+n*4) (.int .i64 c) ⟨(1,0,0),⟨rfl,rfl⟩,hbk⟩
 exact⟨h.step hput hst rfl rfl rfl rfl (by simp[aD]) rfl,hst⟩
theorem dF.OL{lo:Nat}{w w1:World}{p:Nat}{d:Wd}{L:Lay}(h:dF lo w p d L){n g k:Nat}{x:Nd}{row:List Int}(hx:d.ah[n]? = some x)(hrow:x.last[g]? = some row)(hk:k < row.length){b off cap:Nat}(he:L (4,n,g)=⟨some ⟨b,off,none⟩,cap⟩)(hS:ak w w1)(c:Int) :
  dF lo (w1.setCell ⟨b,off+k,none⟩ (.int .i64 c)) p (aD d n { x with last:=x.last.set g (row.set k c) }) L/\jD w (w1.setCell ⟨b,off+k,none⟩ (.int .i64 c)) d L (aD d n { x with last:=x.last.set g (row.set k c) }) L:=by
 have hn:=bT hx;have hok:okI d (4,n,g):=⟨hn,by rw[dh hx];exact(zQ2.1 hrow).1⟩;obtain⟨b',o,c',hL,_,_,hbk,_⟩:=h.own.lies (ix:=(4,n,g)) hok (by show 0 < (fA d n g).length;unfold fA;rw[dh hx,hrow];show 0 < row.length;omega);rw[he]at hL;have e1:b=b':=by simp at hL;exact hL.1.1
 subst e1;have hput:=(h.own.ay hS).PL hx hrow hk he c
 have hst:=wh (d:=d) (L:=L) (d':=aD d n { x with last:=x.last.set g (row.set k c) }) hS (fV hx (by simp)) (off:=off+k) (.int .i64 c) ⟨(4,n,g),hok,hbk⟩
 exact⟨h.step hput hst rfl rfl rfl rfl (by simp[aD]) rfl,hst⟩
theorem bG.D8{lo:Nat}{w:World}{d:Wd}{L:Lay}(h:bG lo w d L){n g:Nat}{x:Nd}{row:List Int}(hx:d.ah[n]? = some x)(hrow:x.last[g]? = some row)(hp:0 < row.length) :
  ∃b3 o3 c3 b4 o4 c4,L (3,n,0)=⟨some ⟨b3,o3,none⟩,c3⟩/\L (4,n,g)=⟨some ⟨b4,o4,none⟩,c4⟩/\b3 < w.heap.size/\b4 < w.heap.size/\w.cell? ⟨b3,o3+g,none⟩=some (.slice (some ⟨b4,o4,none⟩) row.length c4) /\
   (∀k v,row[k]? = some v->w.cell? ⟨b4,o4+k,none⟩=some (.int .i64 v))/\(∀k,k < row.length->w.frozen? ⟨b4,o4+k,none⟩=false):=by
 have hn:=bT hx;have hg:=(zQ2.1 hrow).1;have hlr:fA d n g=row:=by unfold fA;rw[dh hx,hrow];rfl
 have hR3:Row w lo 1 (L (3,n,0)) (bD d n).last.length ((List.range (bD d n).last.length).map fun k=>(L (4,n,k)).v (fA d n k).length):=h.row (3,n,0) ⟨hn,rfl⟩;have hR4:Row w lo 1 (L (4,n,g)) (fA d n g).length ((fA d n g).map j6):=h.row (4,n,g) ⟨hn,by rw[dh hx];exact hg⟩;rw[dh hx]at hR3;rw[hlr]at hR4;obtain⟨b3,o3,e3,_,h3,_,x3⟩:=hR3.body (by have:=hR3.cap;omega);obtain⟨b4,o4,e4,_,h4,z4,x4⟩:=hR4.body (by have:=hR4.cap;omega);refine⟨b3,o3,(L (3,n,0)).cap,b4,o4,(L (4,n,g)).cap,by rw[<-e3],by rw[<-e4],h3,h4, ?_,fun k v hv=>?_,fun k hk=>?_⟩
 ·have:=x3 g _ (range_map_get _ _ g hg);rw[this,hlr];unfold Sl.v;rw[e4]
 ·exact x4 k _ (by simp[j6,hv])
 ·exact(z4 k (by have:=hR4.cap;omega)).2
end Go.Proofs.YtediempflagfkaaGreatDoor
