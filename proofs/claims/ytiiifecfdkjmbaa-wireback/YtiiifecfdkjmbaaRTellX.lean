/- Lemmas. -/
import Derived.Test.YtiiifecfdkjmbaaRegK
import Derived.Test.YtiiifecfdkjmbaaOwnX
set_option maxHeartbeats 2000000
namespace Go.Proofs.Ytiiifecfdkjmbaa
open _root_.Go.Proofs.Try hiding checked
set_option maxRecDepth 8000
open Go.RowKit Go.Shelf
open Pu
set_option linter.unusedVariables false
set_option linter.unusedSimpArgs false
theorem jT (lo p n:Nat) (m:Mg) (d:Wd) (L:Lay) (x:Nd) (w:World) (hM:bD lo w p d L) (hx:d.nodes[n]? = some x) (hlo:lo<=w.heap.size) :
  Calls prog 172 #[.pointer (some ⟨p,0,none⟩),.int .i64 n,.agg #[.int .i64 m.fr,.int .i64 m.gr,.int .i64 m.st,.bool m.nul,.string m.body]] w fun e w' =>
   e=.returned (.int .i64 (bV m x.held))/\(bV m x.held≠0->Since w w')/\(bV m x.held=0->∃ L',bD lo w' p (setNode d n { x with held:=eU m x.held }) L'/\iF w w' d L (setNode d n { x with held:=eU m x.held }) L'):=by
 have hn:=dH hx
 have sm:d.nodes.length<=1000:=hM.own.small (1,0,0) ⟨rfl,rfl⟩
 obtain ⟨bn,on,cn,hL1,_,hbn,hbk,hcn⟩:=hM.own.lies (ix:=(1,0,0)) ⟨rfl,rfl⟩ (by show 0 < d.nodes.length;omega)
 obtain ⟨k0,k1,k2,k3,kz⟩:=hM.own.cells hx hL1
 obtain ⟨ha,hc,e1,hcap,hH⟩:=hM.own.y9 hx
 obtain ⟨sh,_⟩:=hM.own.zk hx
 rw [e1] at k2
 have b1:=hM.box.c1
 rw [hL1] at b1
 dsimp only at b1
 obtain ⟨w1,hw1⟩:∃ y,w.alloc (.cells #[.int .i64 m.fr,.int .i64 m.gr,.int .i64 m.st,.bool m.nul,.string m.body] 48)=y:=⟨_,rfl⟩
 have hS1:=au hw1
 have hMb:dR w1 w.heap.size 0 m:=by rw [<-hw1];constructor <;> simp [go_sem]
 have hl1:w.heap.size < w1.heap.size:=by rw [<-hw1];simp
 have hpl:=hM.box.lt
 obtain ⟨S0,hS0⟩:∃ S0:World->Prop,∀ w',S0 w'↔Since w1 w':=⟨_,fun _=>Iff.rfl⟩
 have c1:∀ y:aB S0,y.w.cell? ⟨p,1,none⟩=some (.slice (some ⟨bn,on,none⟩) d.nodes.length cn):=fun y=>(((hS1.trans ((hS0 _).1 y.h)).cellAt hpl _)).trans b1
 have c2:∀ y:aB S0,y.w.cell? ⟨bn,on+n*4+2,none⟩=some (.slice ha x.held.length hc):=fun y=>((hS1.trans ((hS0 _).1 y.h)).cellAt hbn _).trans k2
 have m0:∀ y:aB S0,y.w.cell? ⟨w.heap.size,0,none⟩=some (.int .i64 m.fr):=fun y=>(((hS0 _).1 y.h).cellAt hl1 _).trans hMb.c0
 have m1:∀ y:aB S0,y.w.cell? ⟨w.heap.size,1,none⟩=some (.int .i64 m.gr):=fun y=>(((hS0 _).1 y.h).cellAt hl1 _).trans hMb.c1
 have m2:∀ y:aB S0,y.w.cell? ⟨w.heap.size,2,none⟩=some (.int .i64 m.st):=fun y=>(((hS0 _).1 y.h).cellAt hl1 _).trans hMb.c2
 have m3:∀ y:aB S0,y.w.cell? ⟨w.heap.size,3,none⟩=some (.bool m.nul):=fun y=>(((hS0 _).1 y.h).cellAt hl1 _).trans hMb.c3
 have m4:∀ y:aB S0,y.w.cell? ⟨w.heap.size,4,none⟩=some (.string m.body):=fun y=>(((hS0 _).1 y.h).cellAt hl1 _).trans hMb.c4
 have n1:(n:Int) < (d.nodes.length:Int):=by omega
 go_enter func172,ntmps172
 go_wp2_with fail
 obtain ⟨W0,hW0⟩:∃ y,w1.drew=y:=⟨_,rfl⟩
 have hs0:=iW hW0
 have aN:=(hS0 W0).2 hs0
 have hne:Nonempty (aB S0):=⟨⟨_,aN⟩⟩
 refine kM (fun w'=>∃ x:aB S0,w'=x.w) (by kernel_rfl) ?_
 rw [hW0]
 clear hW0 hw1
 refine tL 0 rfl (ah aN) ?_;go_big_quiet_op
 refine tL 1 rfl (ah aN) ?_;go_big_quiet_op
 refine tL 2 rfl (ah aN) ?_;go_big_quiet_op
 refine tL 3 rfl (ah aN) ?_;go_big_quiet_op
 refine tL 4 rfl (ah aN) ?_;go_big_quiet_op
 refine tL 5 rfl (ah aN) ?_;go_big_quiet_op
 refine tL 6 rfl (ah aN) ?_;go_big_quiet_op
 refine tL 7 rfl (ah aN) ?_;go_big_quiet_op
 refine tL 8 rfl (ah aN) ?_;go_big_quiet_op
 refine eO 9 rfl (by kernel_rfl) ?_
 intro K hK
 go_simp
 refine (yh ha x.held.length hc x.held m W0 (hH.since (hS1.trans hs0)) hcap).mono ?_
 rintro e w2 ⟨a',len',cap',rfl,hMs,IV,hS2⟩
 dsimp only
 have hs2:=hs0.trans hS2
 have Am:=(hS0 _).2 hs2
 refine hK _ _ (fun _ _=>ah Am) ?_
 clear hK K
 refine tL 10 rfl (ah Am) ?_;go_big_quiet_op
 refine tL 11 rfl (ah Am) ?_;go_big_quiet_op
 refine tL 12 rfl (ah Am) ?_;go_big_quiet_op
 refine tL 13 rfl (ah Am) ?_;go_big_quiet_op
 refine tL 14 rfl (ah Am) ?_;go_big_quiet_op
 refine jS (by kernel_rfl) ?_
 have Ao:=hS1.trans hs2
 have d1:=(Ao.cellAt hpl _).trans b1
 have d2:=(Ao.cellAt hbn _).trans k2
 have d3:=(Ao.below.frozen (p:=⟨bn,on+n*4+2,none⟩) hbn).trans (kz 2 (by omega))
 cases hE:(bV m x.held != 0)
 ·have HE:Hid (bV m x.held=0):=by unfold Hid;simpa using hE
  clear c1 c2 m0 m1 m2 m3 m4 hne
  go_wp2
  go_ret
  refine ⟨by rw [HE.out];rfl,fun h=>absurd HE.out h,fun _=>?_⟩
  have hlen:len'=(eU m x.held).length:=hMs.hlen.symm
  have qI:=xV IV hlen
  have hge:∀ b,Sl.blk ⟨a',cap'⟩=some b->w.heap.size<=b:=fun b e=>zQ5 (hS1.trans hs0).size (qI.xW b e)
  have hO2:=hM.own.since Ao
  have sp:(eU m x.held).length<=1000:=by
   rw [kg m x.held HE.out]
   have:¬ 40<=x.held.length:=fun h=>by have:=HE.out;unfold bV at this;split at this <;> simp_all
   omega
  have hput:=hO2.zf hx hL1 (qI.mono (by have:=hS1.size;have:=hs0.size;omega)) sp (hM.own.fresh hge (5,n,0))
  have hst:=mh (d':=setNode d n { x with held:=eU m x.held }) (L:=L) Ao (dZ hx rfl) (5,n,0) ⟨a',cap'⟩ (fun b e=>.inr (hge b e)) (off:=on+n*4+2) (Sl.v ⟨a',cap'⟩ (eU m x.held).length) (d:=d) ⟨(1,0,0),⟨rfl,rfl⟩,hbk⟩
  rw [hlen]
  exact ⟨_,hM.step hput hst rfl rfl rfl rfl (by simp [setNode]) rfl,hst⟩
 ·have HE:Hid (bV m x.held≠0):=by unfold Hid;simpa using hE
  clear c1 c2 m0 m1 m2 m3 m4 hne
  go_wp2
  go_ret
  exact ⟨rfl,fun _=>Ao,fun h=>absurd h HE.out⟩
def dL (d:Wd) (n:Nat) (x:Nd):Int:=if 40 < (x.told++dU d n x).length then 2 else if aM (x.told++dU d n x)=false then 1 else 0
def lS (d:Wd) (n:Nat) (x:Nd):Nd:={ x with held:=x.held.drop (dU d n x).length,told:=x.told++dU d n x }
theorem wO (lo p n:Nat) (d:Wd) (L:Lay) (x:Nd) (R:List Mg) (hRd:dU d n x=R) (w:World) (hM:bD lo w p d L) (hx:d.nodes[n]? = some x) (hlo:lo<=w.heap.size) (hLo:jA d x) (hsh:x.held.length<=40) (Post:Ending->World->Prop)
  (hA:40 < x.told.length+R.length->∀ w',Since w w'->Post (.returned (.tuple #[.int .i64 0,.int .i64 2])) w')
  (hB:x.told.length+R.length<=40->aM (x.told++R)=false->∀ w',Since w w'->Post (.returned (.tuple #[.int .i64 0,.int .i64 1])) w')
  (hC:x.told.length+R.length<=40->aM (x.told++R)=true->∀ w' L',bD lo w' p (setNode d n { x with held:=x.held.drop R.length,told:=x.told++R }) L'->iF w w' d L (setNode d n { x with held:=x.held.drop R.length,told:=x.told++R }) L'->Post (.returned (.tuple #[.int .i64 R.length,.int .i64 0])) w') :
  Calls prog 63 #[.pointer (some ⟨p,0,none⟩),.int .i64 n] w fun e w'=>Hid (Post e w'):=by
 have hn:=dH hx
 have sm:d.nodes.length<=1000:=hM.own.small (1,0,0) ⟨rfl,rfl⟩
 obtain ⟨bn,on,cn,hL1,_,hbn,hbk,hcn⟩:=hM.own.lies (ix:=(1,0,0)) ⟨rfl,rfl⟩ (by show 0 < d.nodes.length;omega)
 obtain ⟨k0,k1,k2,k3,kz⟩:=hM.own.cells hx hL1
 obtain ⟨ha,hc,e1,hcap,hH⟩:=hM.own.y9 hx
 obtain ⟨ta,tc,e2,JJ,hT⟩:=hM.own.Dy hx
 obtain ⟨_,st⟩:=hM.own.zk hx
 rw [e1] at k2
 rw [e2] at k3
 have b0:=hM.box.c0
 have b1:=hM.box.c1
 have b2:=hM.box.c2
 have hW:=hM.own.wat
 unfold rF at hW
 rw [hL1] at b1 hW
 dsimp only at b1 hW
 have hpl:=hM.box.lt
 have n1:(n:Int) < (d.nodes.length:Int):=by omega
 have hRl:R.length<=x.held.length:=by rw [<-hRd];unfold dU;exact List.length_filter_le _ _
 have RF:Hid (∀ y,Since w y->y.cell? ⟨p,1,none⟩=some (.slice (some ⟨bn,on,none⟩) d.nodes.length cn)/\y.cell? ⟨bn,on+n*4+2,none⟩=some (.slice ha x.held.length hc)/\y.cell? ⟨bn,on+n*4+3,none⟩=some (.slice ta x.told.length tc)/\y.frozen? ⟨bn,on+n*4+2,none⟩=false/\y.frozen? ⟨bn,on+n*4+3,none⟩=false):=fun y hy =>
  ⟨(hy.cellAt hpl _).trans b1,(hy.cellAt hbn _).trans k2,(hy.cellAt hbn _).trans k3,(hy.below.frozen (p:=⟨bn,on+n*4+2,none⟩) hbn).trans (kz 2 (by omega)),(hy.below.frozen (p:=⟨bn,on+n*4+3,none⟩) hbn).trans (kz 3 (by omega))⟩
 have HR:Hid (dU d n x=R):=hRd
 have HA:=(show Hid _ from hA)
 have HB:=(show Hid _ from hB)
 have HC:=(show Hid _ from hC)
 clear hRd hA hB hC
 go_enter func63,ntmps63
 go_wp2_with (first
  | (go_at_call 55;refine (tF _ d n x w hW hx hLo hsh).mono ?_;rintro e w1 ⟨v,rfl,hv,hS1⟩;rw [HR.out] at hv;obtain ⟨ra,rc,rfl,hRR⟩:=oO hv;obtain ⟨wA,hwA⟩:∃ y,w1.alloc (.cells #[] 48)=y:=⟨_,rfl⟩;have hSA:Since w1 wA:=(by rw [<-hwA];exact (Since.refl w1).alloc _);have hRe:Row wA w1.heap.size 5 ⟨some ⟨w1.heap.size,0,none⟩,0⟩ 0 []:=(by rw [<-hwA];exact Row.empty w1 _ 5 _);obtain ⟨f1,f2,f3,f4,f5⟩:=RF.out _ hS1;obtain ⟨g1,g2,g3,g4,g5⟩:=RF.out _ (hS1.trans hSA))
  | (at_builtin;refine dW gq rfl _ _ 39 rfl rfl hRe rfl (iy (c:=tc) (hT.since (hS1.trans hSA))) ?_ hSA.size ?_;omega;intro ua uc w2 hR2 hF2 hB2;simp only [Nat.zero_add,List.nil_append] at hR2;have hS2:Since wA w2:=hF2.since (fun i _ e=>by unfold Sl.blk at e;simp at e);have IW:∀ b,Sl.blk ⟨ua,uc⟩=some b->w1.heap.size<=b:=hR2.xW)
  | (at_builtin;refine dW gq rfl _ _ 39 rfl rfl hR2 rfl (iy (c:=rc) (lG (hRR.since (hSA.trans hS2)) ?_)) ?_ (hSA.trans hS2).size ?_;omega;omega;intro va vc w3 hR3 hF3 hB3;have hS3:Since w w3:=hF3.aC (hS1.trans (hSA.trans hS2)) (fun i hi e=>by have:=IW i e;have:=hS1.size;omega)))
 ·rename_i hgt
  go_ret2
  exact HA.out (by omega) _ hS3
 ·have hM3:dn w3 va (x.told.length+R.length) (x.told++R):=by
   have hl:x.told.length+R.length=(x.told++R).length:=by simp
   rw [hl,<-dD] at hR3
   have:=lG hR3 (by simp;omega)
   rw [<-hl] at this;exact this
  have hle:x.told.length+R.length<=40:=by omega
  refine (dG va (x.told.length+R.length) vc (x.told++R) w3 hM3).mono ?_
  rintro e w4 ⟨rfl,rM⟩
  have hS4:=hS3.trans rM
  obtain ⟨q1,q2,q3,q4,q5⟩:=RF.out _ hS4
  cases hr:aM (x.told++R)
  ·go_wp2
   go_ret2
   exact HB.out hle hr _ hS4
  ·have hlT:x.told.length+R.length=(x.told++R).length:=by simp
   have HT:Hid (x.told.length+R.length=(x.told++R).length):=hlT
   have qI:Row w4 lo 5 ⟨va,vc⟩ (x.told++R).length (flat (x.told++R)):=by
    have:=hR3.since rM
    rw [hlT,<-dD] at this
    exact this.mono (zQ5 hlo hS1.size)
   have Gw:∀ b,Sl.blk ⟨va,vc⟩=some b->w.heap.size<=b:=fun b e=>zQ5 hS1.size (hR3.xW b e)
   have hO4:=hM.own.since hS4
   have hO5:=hO4.CQ hx hL1 qI (by simp;omega) (hM.own.fresh Gw (6,n,0))
   have uE:=mh (d:=d) (L:=L) (d':=setNode d n { x with told:=x.told++R }) hS4 (dZ hx rfl) (6,n,0) ⟨va,vc⟩ (fun b e=>.inr (Gw b e)) (off:=on+n*4+3) (Sl.v ⟨va,vc⟩ (x.told++R).length) ⟨(1,0,0),⟨rfl,rfl⟩,hbk⟩
   have hx5:(setNode d n { x with told:=x.told++R }).nodes[n]? = some { x with told:=x.told++R }:=by rw [fM _ hx,if_pos rfl]
   have hL5:L.upd (6,n,0) ⟨va,vc⟩ (1,0,0)=⟨some ⟨bn,on,none⟩,cn⟩:=hL1
   obtain ⟨_,_,y2,_,yz⟩:=hO5.cells hx5 hL5
   obtain ⟨ha5,hc5,e5,hcap5,hH5⟩:=hO5.y9 hx5
   have eh:(L.upd (6,n,0) ⟨va,vc⟩ (5,n,0)).v x.held.length=.slice ha x.held.length hc:=by rw [Lay.dV L _ (by simp),e1]
   have e6:ha5=ha/\hc5=hc:=by
    rw [eh] at e5
    simp at e5
    exact ⟨e5.1.symm,e5.2.symm⟩
   obtain ⟨rfl,rfl⟩:=e6
   dsimp only at y2 hH5 hcap5
   rw [eh] at y2
   obtain ⟨w5,hw5⟩:∃ y,w4.setCell ⟨bn,on+n*4+3,none⟩ (.slice va (x.told.length+R.length) vc)=y:=⟨_,rfl⟩
   have IX:w4.setCell ⟨bn,on+n*4+3,none⟩ (Sl.v ⟨va,vc⟩ (x.told++R).length)=w5:=by rw [<-hw5,hlT];rfl
   rw [IX] at hO5 uE y2 yz hH5
   obtain ⟨w6,hw6⟩:∃ y,w5.alloc (.cells #[] 48)=y:=⟨_,rfl⟩
   have qK:=au hw6
   have Gx:Row w6 w.heap.size 5 ⟨some ⟨w5.heap.size,0,none⟩,0⟩ 0 []:=by rw [<-hw6];exact Row.empty w5 _ 5 _
   have hb5:bn < w5.heap.size:=by have:=uE.fr.size;omega
   have y6:=(qK.cellAt hb5 _).trans y2
   have z6:=(qK.below.frozen (p:=⟨bn,on+n*4+2,none⟩) hb5).trans (yz 2 (by omega))
   have Gy:w.heap.size<=w6.heap.size:=zQ5 uE.fr.size qK.size
   have hrl:(R.length:Int)<=(x.held.length:Int):=by omega
   have hrc:(x.held.length:Int)<=(hc5:Int):=by omega
   clear f1 f2 f3 f4 f5 g1 g2 g3 g4 g5 hlT
   have fin:∀ (sa:Option Addr) (sc:Nat) (w7:World),Row w7 w.heap.size 5 ⟨sa,sc⟩ (x.held.length - R.length) (flat (x.held.drop R.length))->Since w6 w7->(∀ b,Sl.blk ⟨sa,sc⟩=some b->w5.heap.size<=b) ->
     Post (.returned (.tuple #[.int .i64 R.length,.int .i64 0])) (w7.setCell ⟨bn,on+n*4+2,none⟩ (.slice sa (x.held.length - R.length) sc)):=by
    intro sa sc w7 hR7 uF Ap
    have hdl:x.held.length - R.length=(x.held.drop R.length).length:=by rw [List.length_drop]
    rw [hdl] at hR7
    have Gz:=qK.trans uF
    have hO7:=(hO5.since Gz).zf hx5 hL5 (hR7.mono hlo) (by rw [List.length_drop];omega) (hO5.fresh Ap (5,n,0))
    have rQ:=mh (d:=setNode d n { x with told:=x.told++R }) (L:=L.upd (6,n,0) ⟨va,vc⟩) (d':=setNode (setNode d n { x with told:=x.told++R }) n { x with held:=x.held.drop R.length,told:=x.told++R }) Gz (dZ hx5 rfl) (5,n,0) ⟨sa,sc⟩ (fun b e=>.inr (Ap b e)) (off:=on+n*4+2) (Sl.v ⟨sa,sc⟩ (x.held.drop R.length).length)
     ⟨(1,0,0),⟨rfl,rfl⟩,by rw [hL5];rw [hL1] at hbk;exact hbk⟩
    have hset:setNode (setNode d n { x with told:=x.told++R }) n { x with held:=x.held.drop R.length,told:=x.told++R }=setNode d n { x with held:=x.held.drop R.length,told:=x.told++R }:=by
     unfold setNode;simp [List.set_set]
    dsimp only at hO7
    rw [hset] at rQ hO7
    have hst:=uE.trans rQ
    rw [hdl]
    exact HC.out hle hr _ _ (hM.step hO7 hst rfl rfl rfl rfl (by simp [setNode]) rfl) hst
   have GA:=(show Hid _ from fin)
   clear fin
   have hfl:(flat (x.held.drop R.length)).length=(x.held.length - R.length)*5:=by rw [aU,List.length_drop]
   have hfo:∀ u∈flat (x.held.drop R.length),u.oneCell'=true:=fun u hu=>aW u _ hu
   by_cases hcp:hc5<=R.length
   ·have hs0:∀ a,Src prog 5 39 (.slice a (x.held.length - R.length) 0) (x.held.length - R.length) (flat (x.held.drop R.length)) w6:=fun a=>ug gq.und hfl hfo (fun hp=>absurd hp (by omega))
    go_wp2_with (at_builtin;refine dW gq rfl _ _ 39 rfl rfl Gx rfl (hs0 _) ?_ Gy ?_;omega;intro sa sc w7 hR7 hF7 hB7;simp only [Nat.zero_add,List.nil_append] at hR7;have uF:Since w6 w7:=hF7.since (fun i _ e=>by unfold Sl.blk at e;simp at e);have y7:=((qK.trans uF).cellAt hb5 _).trans y2;have z7:=((qK.trans uF).below.frozen (p:=⟨bn,on+n*4+2,none⟩) hb5).trans (yz 2 (by omega)))
    all_goals
     have Ap:∀ b,Sl.blk ⟨sa,sc⟩=some b->w5.heap.size<=b:=by
      intro b e
      rcases hB7 with e2 | ⟨_,e2⟩
      ·rw [e2] at e;unfold Sl.blk at e;simp at e
      ·rw [e2] at e;cases e;exact qK.size
     go_ret2
     exact GA.out sa sc w7 hR7 uF Ap
   ·have hrow:Row w5 lo 5 ⟨ha5,hc5⟩ x.held.length (flat x.held):=by
     have h5:Row w5 lo 5 (L.upd (6,n,0) ⟨va,vc⟩ (5,n,0)) (aF (setNode d n { x with told:=x.told++R }) n).held.length (flat (aF (setNode d n { x with told:=x.told++R }) n).held):=hO5.row (5,n,0) ⟨by simpa [setNode] using hn,rfl⟩
     rw [aS hx5,Lay.dV L _ (by simp)] at h5
     have e7:L (5,n,0)=⟨ha5,hc5⟩:=by
      have:=e1;unfold Sl.v at this;simp at this
      obtain ⟨t1,t2⟩:=this
      cases hl:L (5,n,0);rw [hl] at t1 t2;simp at t1 t2;rw [t1,t2]
     rw [e7] at h5;exact h5
    obtain ⟨bh,oh,eh2,hlh,hbh,hch,hxh⟩:=hrow.body (by show 0 < hc5;omega)
    dsimp only at eh2
    subst eh2
    have hs1:Src prog 5 39 (.slice (some ⟨bh,oh+R.length*5,none⟩) (x.held.length - R.length) (hc5 - R.length)) (x.held.length - R.length) (flat (x.held.drop R.length)) w6 :=
     ug gq.und hfl hfo (fun hp=>⟨bh,oh+R.length*5,rfl,fun j u hj=>(qK.cellAt hbh _).trans (by rw [Nat.add_assoc];exact hxh _ u (fZ hRl hj))⟩)
    have JK:(R.length:Int) < (hc5:Int):=by omega
    go_wp2_with (at_builtin;refine dW gq rfl _ _ 39 rfl rfl Gx rfl hs1 ?_ Gy ?_;omega;intro sa sc w7 hR7 hF7 hB7;simp only [Nat.zero_add,List.nil_append] at hR7;have uF:Since w6 w7:=hF7.since (fun i _ e=>by unfold Sl.blk at e;simp at e);have y7:=((qK.trans uF).cellAt hb5 _).trans y2;have z7:=((qK.trans uF).below.frozen (p:=⟨bn,on+n*4+2,none⟩) hb5).trans (yz 2 (by omega)))
    have Ap:∀ b,Sl.blk ⟨sa,sc⟩=some b->w5.heap.size<=b:=by
     intro b e
     rcases hB7 with e2 | ⟨_,e2⟩
     ·rw [e2] at e;unfold Sl.blk at e;simp at e
     ·rw [e2] at e;cases e;exact qK.size
    go_ret2
    exact GA.out sa sc w7 hR7 uF Ap
theorem eu (lo p n:Nat) (d:Wd) (L:Lay) (x:Nd) (w:World) (hM:bD lo w p d L) (hx:d.nodes[n]? = some x) (hlo:lo<=w.heap.size) (hLo:jA d x) (hsh:x.held.length<=40) :
  Calls prog 63 #[.pointer (some ⟨p,0,none⟩),.int .i64 n] w fun e w' =>
   e=.returned (.tuple #[.int .i64 (if dL d n x=0 then ((dU d n x).length:Int) else 0),.int .i64 (dL d n x)])/\(dL d n x≠0->Since w w')/\(dL d n x=0->∃ L',bD lo w' p (setNode d n (lS d n x)) L'/\iF w w' d L (setNode d n (lS d n x)) L'):=by
 refine wO lo p n d L x _ rfl w hM hx hlo hLo hsh _ (fun h w' hS=>?_) (fun h hr w' hS=>?_) (fun h hr w' L' hm st=>?_)
 ·have e:dL d n x=2:=by unfold dL;rw [if_pos (by simpa using h)]
  rw [e];exact ⟨rfl,fun _=>hS,fun h=>by cases h⟩
 ·have e:dL d n x=1:=by unfold dL;rw [if_neg (by simp;omega),if_pos hr]
  rw [e];exact ⟨rfl,fun _=>hS,fun h=>by cases h⟩
 ·have e:dL d n x=0:=by unfold dL;rw [if_neg (by simp;omega),if_neg (by rw [hr];simp)]
  rw [e];exact ⟨rfl,fun h=>absurd rfl h,fun _=>⟨L',hm,st⟩⟩
theorem nu {n:Nat} {xs:List Int} (h:bP n xs=0):1<=n/\n<=4/\1<=xs.length/\xs.length<=3:=by
 unfold bP at h
 split at h
 ·cases h
 ·split at h
  ·cases h
  ·omega
theorem nO {d:Wd} (R:Right d):Bl d:=by
 obtain ⟨_,n4,_,g3⟩:=nu R.chk
 rintro ⟨u,i,j⟩ hok
 match u with
 | 0=>show d.groups.length<=100;omega
 | 1=>show d.nodes.length<=100;omega
 | 2=>show d.wires.length<=100;rw [R.vX];omega
 | 3 =>
  obtain ⟨x,hx⟩:∃ x,d.nodes[i]? = some x:=⟨_,zQ1 hok.1⟩
  show (aF d i).last.length<=100
  rw [aS hx,R.llen i x hx];omega
 | 4 =>
  obtain ⟨x,hx⟩:∃ x,d.nodes[i]? = some x:=⟨_,zQ1 hok.1⟩
  have h2:j < (aF d i).last.length:=hok.2
  rw [aS hx] at h2
  obtain ⟨r,hr⟩:∃ r,x.last[j]? = some r:=⟨_,zQ1 h2⟩
  show (bN d i j).length<=100
  unfold bN;rw [aS hx,hr]
  show r.length<=100
  rw [R.mZ i x j r hx hr];omega
 | 5 =>
  obtain ⟨x,hx⟩:∃ x,d.nodes[i]? = some x:=⟨_,zQ1 hok.1⟩
  have:=R.vY i
  show (aF d i).held.length<=100
  rw [(jl hx).2.1] at this
  rw [aS hx];omega
 | 6 =>
  obtain ⟨x,hx⟩:∃ x,d.nodes[i]? = some x:=⟨_,zQ1 hok.1⟩
  have:=R.Bq i
  show (aF d i).told.length<=100
  rw [(jl hx).2.2.1] at this
  rw [aS hx];omega
 | 7 =>
  obtain ⟨r,hr⟩:∃ x,d.wires[i]? = some x:=⟨_,zQ1 hok.1⟩
  show (rowAt d i).length<=100
  rw [aZ hr,R.rlen i r hr];omega
 | 8 =>
  have:=R.vZ i j
  show (cZ d i j).length<=100
  have e:cZ d i j=aG d i j:=rfl
  rw [e];omega
 | _+9=>exact absurd hok (fun h=>h)
theorem nP {d:Wd} (R:Right d) {n:Nat} {x:Nd} (hx:d.nodes[n]? = some x):jA d x:=⟨R.llen n x hx,fun g row hr=>R.mZ n x g row hx hr⟩
theorem row_of {d:Wd} (r:fu d) {f:Nat} (hf:f < d.nodes.length):∃ row,d.wires[f]? = some row/\row.length=d.nodes.length :=
 ⟨_,zQ1 (by rw [r.1];exact hf),r.2 f _ (zQ1 (by rw [r.1];exact hf))⟩
structure jJ (w:World) (p:Nat) (d:Wd) (L:Lay) (f t:Nat) (l:List Mg) (bw ow cw br oR cr:Nat):Prop where
 lt:p < w.heap.size
 top:w.cell? ⟨p,2,none⟩=some (.slice (some ⟨bw,ow,none⟩) d.wires.length cw)
 ltw:bw < w.heap.size
 row:w.cell? ⟨bw,ow+f,none⟩=some (.slice (some ⟨br,oR,none⟩) d.nodes.length cr)
 ltr:br < w.heap.size
 cell:w.cell? ⟨br,oR+t,none⟩=some ((L (8,f,t)).v l.length)
 free:w.frozen? ⟨br,oR+t,none⟩=false
 lay:L (7,f,0)=⟨some ⟨br,oR,none⟩,cr⟩
 bkw:(L (2,0,0)).blk=some bw
 bkr:(L (7,f,0)).blk=some br
theorem bD.BK {lo:Nat} {w:World} {p:Nat} {d:Wd} {L:Lay} (h:bD lo w p d L) (r:fu d) {f t:Nat} (hf:f < d.nodes.length) (ht:t < d.nodes.length):∃ bw ow cw br oR cr,jJ w p d L f t (aG d f t) bw ow cw br oR cr:=by
 obtain ⟨row,hr,hl⟩:=row_of r hf
 have h2:=h.box.c2
 have hRw:Row w lo 1 (L (2,0,0)) d.wires.length ((List.range d.wires.length).map fun i=>(L (7,i,0)).v (rowAt d i).length):=h.own.row (2,0,0) ⟨rfl,rfl⟩
 have hRr:Row w lo 1 (L (7,f,0)) (rowAt d f).length ((List.range (rowAt d f).length).map fun k=>(L (8,f,k)).v (cZ d f k).length):=h.own.row (7,f,0) ⟨by rw [r.1];exact hf,rfl⟩
 rw [aZ hr,hl] at hRr
 obtain ⟨bw,ow,e1,hlw,hbw,hcw,hxw⟩:=hRw.body (by have:=hRw.cap;have:=r.1;omega)
 obtain ⟨br,oR,e2,hlr,hbr,hcr,hxr⟩:=hRr.body (by have:=hRr.cap;omega)
 have L2:L (2,0,0)=⟨some ⟨bw,ow,none⟩,(L (2,0,0)).cap⟩:=by rw [<-e1]
 have L7:L (7,f,0)=⟨some ⟨br,oR,none⟩,(L (7,f,0)).cap⟩:=by rw [<-e2]
 have hb2:(L (2,0,0)).blk=some bw:=by
  obtain ⟨b,o,c,hL,_,_,hbk,_⟩:=h.own.lies (ix:=(2,0,0)) ⟨rfl,rfl⟩ (by show 0 < d.wires.length;have:=r.1;omega)
  rw [hL] at e1;simp at e1;rw [hL,<-e1.1];rw [hL] at hbk;exact hbk
 have hb7:(L (7,f,0)).blk=some br:=by
  obtain ⟨b,o,c,hL,_,_,hbk,_⟩:=h.own.lies (ix:=(7,f,0)) ⟨by rw [r.1];exact hf,rfl⟩ (by show 0 < (rowAt d f).length;rw [aZ hr];omega)
  rw [hL] at e2;simp at e2;rw [hL,<-e2.1];rw [hL] at hbk;exact hbk
 refine ⟨bw,ow,(L (2,0,0)).cap,br,oR,(L (7,f,0)).cap,h.box.lt, ?_,hbw, ?_,hbr, ?_, ?_,L7,hb2,hb7⟩
 ·rw [h2,e1]
 ·have:=hxw f _ (range_map_get _ _ f (by rw [r.1];exact hf))
  rw [this,aZ hr,hl];unfold Sl.v;rw [e2]
 ·exact hxr t _ (range_map_get _ _ t ht)
 ·have hcap:=hRr.cap
  exact (hcr t (by omega)).2
theorem jJ.since {w w':World} {p:Nat} {d:Wd} {L:Lay} {f t:Nat} {l:List Mg} {bw ow cw br oR cr:Nat} (h:jJ w p d L f t l bw ow cw br oR cr) (k:Since w w'):jJ w' p d L f t l bw ow cw br oR cr :=
 ⟨zQ4 h.lt k.size,(k.cellAt h.lt _).trans h.top,zQ4 h.ltw k.size,(k.cellAt h.ltw _).trans h.row,zQ4 h.ltr k.size,(k.cellAt h.ltr _).trans h.cell,(k.below.frozen (p:=⟨br,oR+t,none⟩) h.ltr).trans h.free,h.lay,h.bkw,h.bkr⟩
theorem jJ.fr {lo:Nat} {w w':World} {p:Nat} {d:Wd} {L:Lay} {f t:Nat} {l:List Mg} {bw ow cw br oR cr:Nat} (h:jJ w p d L f t l bw ow cw br oR cr) (hM:bD lo w p d L) (r:fu d) (hf:f < d.nodes.length) (ht:t < d.nodes.length) (k:Fr (fun i=>(L (8,f,t)).blk=some i) w w'):jJ w' p d L f t l bw ow cw br oR cr:=by
 obtain ⟨row,hr,hrl⟩:=row_of r hf
 have oD:okI d (8,f,t):=⟨by rw [r.1];exact hf,by rw [aZ hr];omega⟩
 have yw:okI d (7,f,0):=⟨by rw [r.1];exact hf,rfl⟩
 have np:¬ (L (8,f,t)).blk=some p:=fun e=>hM.off ⟨_,oD,e⟩
 have nw:¬ (L (8,f,t)).blk=some bw:=fun e=>by have:=hM.own.inj (8,f,t) (2,0,0) bw oD ⟨rfl,rfl⟩ e h.bkw;cases this
 have nr:¬ (L (8,f,t)).blk=some br:=fun e=>by have:=hM.own.inj (8,f,t) (7,f,0) br oD yw e h.bkr;cases this
 have hc:∀ b,b < w.heap.size->¬ (L (8,f,t)).blk=some b->∀ o,w'.cell? ⟨b,o,none⟩=w.cell? ⟨b,o,none⟩:=fun b hb hn o=>by unfold World.cell?;rw [k.block b hb hn]
 have hz:w'.frozen? ⟨br,oR+t,none⟩=w.frozen? ⟨br,oR+t,none⟩:=by unfold World.frozen?;rw [k.block br h.ltr nr]
 exact ⟨zQ4 h.lt k.size,(hc _ h.lt np _).trans h.top,zQ4 h.ltw k.size,(hc _ h.ltw nw _).trans h.row,zQ4 h.ltr k.size,(hc _ h.ltr nr _).trans h.cell,hz.trans h.free,h.lay,h.bkw,h.bkr⟩
theorem bD.wH {lo:Nat} {w w1 w2:World} {p:Nat} {d:Wd} {L:Lay} (h:bD lo w p d L) (r:fu d) {f t:Nat} (hf:f < d.nodes.length) (ht:t < d.nodes.length) {m:Mg} {br oR cr:Nat} (he:L (7,f,0)=⟨some ⟨br,oR,none⟩,cr⟩) (hlo:lo<=w.heap.size)
  (hS:Since w w1) {a':Option Addr} {c':Nat} (hl:(aG d f t).length+1<=1000) (hR:Row w2 lo 5 ⟨a',c'⟩ ((aG d f t).length+1) (flat (aG d f t)++flat [m])) (hF:Fr (fun k=>(L (8,f,t)).blk=some k) w1 w2)
  (hB:(⟨a',c'⟩:Sl)=L (8,f,t)\/(Since w1 w2/\Sl.blk ⟨a',c'⟩=some w1.heap.size)) :
  bD lo (w2.setCell ⟨br,oR+t,none⟩ (.slice a' ((aG d f t).length+1) c')) p (aQ d f t (aG d f t++[m])) (L.upd (8,f,t) ⟨a',c'⟩)/\iF w (w2.setCell ⟨br,oR+t,none⟩ (.slice a' ((aG d f t).length+1) c')) d L (aQ d f t (aG d f t++[m])) (L.upd (8,f,t) ⟨a',c'⟩):=by
 obtain ⟨row,hr,hrl⟩:=row_of r hf
 have htr:t < row.length:=by omega
 have oD:okI d (8,f,t):=⟨by rw [r.1];exact hf,by rw [aZ hr];exact htr⟩
 have yw:okI d (7,f,0):=⟨by rw [r.1];exact hf,rfl⟩
 have hO1:=h.own.since hS
 have hO2:aP lo w2 d L:=by
  refine hO1.grown oD (s':=⟨a',c'⟩) hR (by show (cZ d f t).length<=_;show (aG d f t).length<=_;omega) ?_ hF hB
  show (flat (aG d f t)++flat [m]).take ((aG d f t).length*5)=flat (aG d f t)
  rw [List.take_append_of_le_length (by rw [aU];omega),List.take_of_length_le (by rw [aU];omega)]
 have hls:(aG d f t++[m]).length=(aG d f t).length+1:=by simp
 have hb7:gJ d L br:=by
  obtain ⟨b,o,c,hL,_,_,hbk,_⟩:=h.own.lies (ix:=(7,f,0)) yw (by show 0 < (rowAt d f).length;rw [aZ hr];omega)
  rw [he] at hL
  have:br=b:=by simp at hL;exact hL.1.1
  subst this
  exact ⟨(7,f,0),yw,hbk⟩
 have hge:∀ b,Sl.blk ⟨a',c'⟩=some b->gJ d L b\/w.heap.size<=b:=by
  intro b e
  rcases hB with e2 | ⟨_,e2⟩
  ·rw [e2] at e;exact .inl ⟨(8,f,t),oD,e⟩
  ·rw [e2] at e;cases e;exact .inr hS.size
 have hput:=hO2.zh hr htr he (s:=⟨a',c'⟩) (l:=aG d f t++[m]) (by rw [hls,dD];exact hR) (by omega) (by
  intro c hc
  rintro ⟨ix,hne,hok,e⟩
  rcases hB with e2 | ⟨hS2,e2⟩
  ·rw [e2] at hc;exact hne (h.own.inj ix (8,f,t) c hok oD e hc)
  ·rw [e2] at hc;cases hc
   have:=(hO1.blk ⟨ix,hok,e⟩).2;omega)
 have hv:Sl.v ⟨a',c'⟩ (aG d f t++[m]).length=.slice a' ((aG d f t).length+1) c':=by rw [hls];rfl
 rw [hv] at hput
 have hst:iF w (w2.setCell ⟨br,oR+t,none⟩ (.slice a' ((aG d f t).length+1) c')) d L (aQ d f t (aG d f t++[m])) (L.upd (8,f,t) ⟨a',c'⟩):=by
  refine ⟨?_,fun b hb=>?_⟩
  ·have hF1:Fr (gJ d L) w w1:=hS.fr _
   have hF2:Fr (gJ d L) w1 w2:=hF.mono (fun i _ e=>⟨(8,f,t),oD,e⟩)
   exact (hF1.trans hF2 (fun _ _ x=>x) (fun _ _ x=>x)).setCell _ _ (fun _=>hb7)
  ·obtain ⟨ix,hix,e⟩:=hb
   by_cases hh:ix=(8,f,t)
   ·subst hh;rw [Lay.upd_same] at e;exact hge b e
   ·rw [Lay.dV L _ hh] at e;exact .inl ⟨ix,(oP _ hr ix).1 hix,e⟩
 exact ⟨h.step hput hst rfl rfl rfl rfl rfl (by simp [aQ]),hst⟩
theorem qH {m:Mg} {n:Nat} {d:Wd} {e:Int}:∀ (j k:Nat),k<=j->jg m n d k=.error e->jg m n d j=.error e
 | 0,k,hk,h=>by obtain rfl:k=0:=by omega
                exact h
 | j+1,k,hk,h=>by
  by_cases hkj:k=j+1
  ·rw [<-hkj];exact h
  ·rw [fA,qH j k (by omega) h];rfl
theorem bD.Dc {lo:Nat} {w w1:World} {p:Nat} {d:Wd} {L:Lay} (h:bD lo w p d L) (r:fu d) {f t:Nat} (hf:f < d.nodes.length) (ht:t < d.nodes.length) {rest:List Mg} {br oR cr:Nat} (he:L (7,f,0)=⟨some ⟨br,oR,none⟩,cr⟩)
  (hS:Since w w1) (hm:rest.length<=1000) {s:Sl} (hR:Row w1 lo 5 s rest.length (flat rest)) (hb:∀ b,s.blk=some b->(L (8,f,t)).blk=some b) :
  bD lo (w1.setCell ⟨br,oR+t,none⟩ (s.v rest.length)) p (aQ d f t rest) (L.upd (8,f,t) s)/\iF w (w1.setCell ⟨br,oR+t,none⟩ (s.v rest.length)) d L (aQ d f t rest) (L.upd (8,f,t) s):=by
 obtain ⟨row,hr,hrl⟩:=row_of r hf
 have htr:t < row.length:=by omega
 have oD:okI d (8,f,t):=⟨by rw [r.1];exact hf,by rw [aZ hr];exact htr⟩
 have yw:okI d (7,f,0):=⟨by rw [r.1];exact hf,rfl⟩
 have hb7:gJ d L br:=by
  obtain ⟨b,o,c,hL,_,_,hbk,_⟩:=h.own.lies (ix:=(7,f,0)) yw (by show 0 < (rowAt d f).length;rw [aZ hr];omega)
  rw [he] at hL
  have:br=b:=by simp at hL;exact hL.1.1
  subst this
  exact ⟨(7,f,0),yw,hbk⟩
 have hput:=(h.own.since hS).zh hr htr he (s:=s) (l:=rest) hR hm (fun c hc=>by
  rintro ⟨ix,hne,hok,e⟩
  exact hne (h.own.inj ix (8,f,t) c hok oD e (hb c hc)))
 have hst:=mh (d:=d) (L:=L) (d':=aQ d f t rest) hS (oP rest hr) (8,f,t) s (fun b e=>.inl ⟨(8,f,t),oD,hb b e⟩) (off:=oR+t) (s.v rest.length) hb7
 exact ⟨h.step hput hst rfl rfl rfl rfl rfl (by simp [aQ]),hst⟩
theorem bD.EF {lo:Nat} {w w1:World} {p:Nat} {d:Wd} {L:Lay} (h:bD lo w p d L) {n:Nat} {x:Nd} (hx:d.nodes[n]? = some x) {b off cap:Nat} (he:L (1,0,0)=⟨some ⟨b,off,none⟩,cap⟩) (hS:Since w w1) (c:Int) :
  bD lo (w1.setCell ⟨b,off+n*4,none⟩ (.int .i64 c)) p (setNode d n { x with clock:=c }) L/\iF w (w1.setCell ⟨b,off+n*4,none⟩ (.int .i64 c)) d L (setNode d n { x with clock:=c }) L:=by
 have hn:=dH hx
 obtain ⟨b',o,c',hL,_,_,hbk,_⟩:=h.own.lies (ix:=(1,0,0)) ⟨rfl,rfl⟩ (by show 0 < d.nodes.length;omega)
 rw [he] at hL
 have e1:b=b':=by simp at hL;exact hL.1.1
 subst e1
 have hput:=(h.own.since hS).vS hx he c
 have hst:=mX (d:=d) (L:=L) (d':=setNode d n { x with clock:=c }) hS (dZ hx rfl) (off:=off+n*4) (.int .i64 c) ⟨(1,0,0),⟨rfl,rfl⟩,hbk⟩
 exact ⟨h.step hput hst rfl rfl rfl rfl (by simp [setNode]) rfl,hst⟩
theorem bD.EI {lo:Nat} {w w1:World} {p:Nat} {d:Wd} {L:Lay} (h:bD lo w p d L) {n g k:Nat} {x:Nd} {row:List Int} (hx:d.nodes[n]? = some x) (hrow:x.last[g]? = some row) (hk:k < row.length) {b off cap:Nat} (he:L (4,n,g)=⟨some ⟨b,off,none⟩,cap⟩) (hS:Since w w1) (c:Int) :
  bD lo (w1.setCell ⟨b,off+k,none⟩ (.int .i64 c)) p (setNode d n { x with last:=x.last.set g (row.set k c) }) L/\iF w (w1.setCell ⟨b,off+k,none⟩ (.int .i64 c)) d L (setNode d n { x with last:=x.last.set g (row.set k c) }) L:=by
 have hn:=dH hx
 have hok:okI d (4,n,g):=⟨hn,by rw [aS hx];exact (zQ2.1 hrow).1⟩
 obtain ⟨b',o,c',hL,_,_,hbk,_⟩:=h.own.lies (ix:=(4,n,g)) hok (by show 0 < (bN d n g).length;unfold bN;rw [aS hx,hrow];show 0 < row.length;omega)
 rw [he] at hL
 have e1:b=b':=by simp at hL;exact hL.1.1
 subst e1
 have hput:=(h.own.since hS).CS hx hrow hk he c
 have hst:=mX (d:=d) (L:=L) (d':=setNode d n { x with last:=x.last.set g (row.set k c) }) hS (dZ hx (by simp)) (off:=off+k) (.int .i64 c) ⟨(4,n,g),hok,hbk⟩
 exact ⟨h.step hput hst rfl rfl rfl rfl (by simp [setNode]) rfl,hst⟩
theorem aP.Al {lo:Nat} {w:World} {d:Wd} {L:Lay} (h:aP lo w d L) {n g:Nat} {x:Nd} {row:List Int} (hx:d.nodes[n]? = some x) (hrow:x.last[g]? = some row) (hp:0 < row.length) :
  ∃ b3 o3 c3 b4 o4 c4,L (3,n,0)=⟨some ⟨b3,o3,none⟩,c3⟩/\L (4,n,g)=⟨some ⟨b4,o4,none⟩,c4⟩/\b3 < w.heap.size/\b4 < w.heap.size/\w.cell? ⟨b3,o3+g,none⟩=some (.slice (some ⟨b4,o4,none⟩) row.length c4) /\
   (∀ k v,row[k]? = some v->w.cell? ⟨b4,o4+k,none⟩=some (.int .i64 v))/\(∀ k,k < row.length->w.frozen? ⟨b4,o4+k,none⟩=false):=by
 have hn:=dH hx
 have hg:=(zQ2.1 hrow).1
 have hlr:bN d n g=row:=by unfold bN;rw [aS hx,hrow];rfl
 have hR3:Row w lo 1 (L (3,n,0)) (aF d n).last.length ((List.range (aF d n).last.length).map fun k=>(L (4,n,k)).v (bN d n k).length):=h.row (3,n,0) ⟨hn,rfl⟩
 have hR4:Row w lo 1 (L (4,n,g)) (bN d n g).length ((bN d n g).map iY):=h.row (4,n,g) ⟨hn,by rw [aS hx];exact hg⟩
 rw [aS hx] at hR3
 rw [hlr] at hR4
 obtain ⟨b3,o3,e3,_,h3,_,x3⟩:=hR3.body (by have:=hR3.cap;omega)
 obtain ⟨b4,o4,e4,_,h4,z4,x4⟩:=hR4.body (by have:=hR4.cap;omega)
 refine ⟨b3,o3,(L (3,n,0)).cap,b4,o4,(L (4,n,g)).cap,by rw [<-e3],by rw [<-e4],h3,h4, ?_,fun k v hv=>?_,fun k hk=>?_⟩
 ·have:=x3 g _ (range_map_get _ _ g hg)
  rw [this,hlr];unfold Sl.v;rw [e4]
 ·exact x4 k _ (by simp [iY,hv])
 ·exact (z4 k (by have:=hR4.cap;omega)).2
end Go.Proofs.Ytiiifecfdkjmbaa
