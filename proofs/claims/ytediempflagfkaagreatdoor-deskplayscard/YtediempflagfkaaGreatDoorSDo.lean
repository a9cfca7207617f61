/- Lemmas. Lemmas. -/
import Derived.Deep.DeepCutAuto
import Derived.Test.YtediempflagfkaaGreatDoorRegM
import Derived.Test.YtediempflagfkaaGreatDoorSSea
import Derived.Test.YtediempflagfkaaGreatDoorRCastX
set_option linter.unusedVariables false
set_option linter.unusedSimpArgs false
set_option linter.unnecessarySimpa false
set_option maxHeartbeats 1000000
namespace Go.Proofs.YtediempflagfkaaGreatDoor
open _root_.Go.Proofs.Tryz hiding checked
set_option maxRecDepth 8000
open Go.RowKit Go.Shelf
open Pu
def FB(gsl nsl:Sl):Lay:=fun ix=>if ix=(0,0,0) then gsl else if ix=(1,0,0) then nsl else ⟨none,0⟩
theorem wS{lo:Nat}{W:World}{p:Nat}{gs:List Int}{ns:List Nd}{H:Nat->Hd}{gsl nsl:Sl}(hB:aU W p)(hG:Row W lo 1 gsl gs.length (gs.map j6))(hN:Row W lo 4 nsl ns.length (gy ns H))(hg:gs.length<=1000)
  (hgp:gsl.blk≠some p) (hnp:nsl.blk≠some p) (hgn:∀b,gsl.blk=some b->nsl.blk≠some b) :
  uQ lo (((W.setCell ⟨p,0,none⟩ (gsl.v gs.length)).setCell ⟨p,1,none⟩ (nsl.v ns.length)).setCell ⟨p,2,none⟩ (.slice none 0 0)) p gs ns H nsl 0 (FB gsl nsl):=by
 obtain⟨lt,c0,c1,c2,z0,z1,z2⟩:=hB;obtain⟨W',hW'⟩:∃W',((W.setCell ⟨p,0,none⟩ (gsl.v gs.length)).setCell ⟨p,1,none⟩ (nsl.v ns.length)).setCell ⟨p,2,none⟩ (.slice none 0 0)=W':=⟨_,rfl⟩
 have hF:Fr (fun i=>i=p) W W':=by
  rw[<-hW'];exact aS W p _ _ _
 have hG':=hG.fr hF (fun b hb e=>hgp (e ▸ hb));have hN':=hN.fr hF (fun b hb e=>hnp (e ▸ hb));have hO:bG lo W' ⟨gs,[],[]⟩ (FB gsl nsl):=bG.RO hG' hg (by simpa using hN'.take 0 (Nat.zero_le _)) hgn;have e0:FB gsl nsl (0,0,0)=gsl:=rfl;have e1:FB gsl nsl (1,0,0)=nsl:=rfl;rw[hW'];refine⟨by rw[List.take_zero];exact hO,e1,rfl, ?_,zQ4 lt hF.size, ?_, ?_, ?_, ?_, ?_, ?_, ?_⟩
 ·rw[Nat.zero_mul,List.drop_zero,List.take_zero];exact hN'
 ·rw[e0,<-hW'];exact uw c0
 ·rw[<-hW'];exact uy c1
 ·rw[<-hW'];exact uD c2
 ·rw[<-hW'];exact(iC _ _ _ _ _ _).trans z0
 ·rw[<-hW'];exact(iC _ _ _ _ _ _).trans z1
 ·rw[<-hW'];exact(iC _ _ _ _ _ _).trans z2
 ·rw[List.take_zero];rintro⟨⟨t,i,j⟩,hok,hb⟩;unfold FB at hb;split at hb
  ·exact hgp hb
  ·split at hb
   ·exact hnp hb
   ·cases hb
theorem uQ.made{lo:Nat}{w:World}{p:Nat}{gs:List Int}{ns:List Nd}{H:Nat->Hd}{nsl:Sl}{L:Lay}(h:uQ lo w p gs ns H nsl ns.length L):dF lo w p ⟨gs,ns,[]⟩ L:=by
 have ho:=h.own;have hf:=h.off;rw[List.take_length]at ho hf;exact⟨ho,⟨h.lt,h.c0,by rw[h.l1];exact h.c1,by rw[h.l2];exact h.c2,h.z0,h.z1,h.z2⟩,hf⟩
theorem wU{w1 W:World}{p:Nat}(hS:ak w1 W)(hp:w1.heap.size<=p)(a b c:Value):ak w1 (((W.setCell ⟨p,0,none⟩ a).setCell ⟨p,1,none⟩ b).setCell ⟨p,2,none⟩ c):=by
 exact(aS W p a b c).aI hS (fun i hi e=>by omega)
theorem Kk(x:WV)(d:Wd)(w:World)(hW:WAt w x d)(hs:JG d) :
  Calls prog 130 #[.agg #[.slice x.ga x.gl x.gc,.slice x.na x.nl x.nc,.slice x.wa x.wl x.wc]] w fun e w'=>∃L,e=.returned (bF L d)/\bG w.heap.size w' d L/\ak w w':=by
 have s0:d.au.length<=100:=hs (0,0,0) ⟨rfl,rfl⟩;have s1:d.ah.length<=100:=hs (1,0,0) ⟨rfl,rfl⟩;have s2:d.aB.length<=100:=hs (2,0,0) ⟨rfl,rfl⟩;obtain⟨ga,gl,gc,na,nl,nc,wa,wl,wc⟩:=x;have hgl:=hW.g.bq;have hnl:=hW.n.bq;have hwl:=hW.r.bq;dsimp only at hgl hnl hwl ⊢;subst hgl hnl hwl;obtain⟨wp,hwp⟩:∃wp,w.alloc (.cells #[.slice ga d.au.length gc,.slice na d.ah.length nc,.slice wa d.aB.length wc] 31)=wp:=⟨_,rfl⟩;have hPp:aP wp w.heap.size ⟨ga,d.au.length,gc,na,d.ah.length,nc,wa,d.aB.length,wc⟩:=by rw[<-hwp];exact aP.new w ⟨ga,d.au.length,gc,na,d.ah.length,nc,wa,d.aB.length,wc⟩ _
 have hSp:=aF hwp;obtain⟨w1,hw1⟩:∃w1,wp.alloc (.cells #[.slice none 0 0,.slice none 0 0,.slice none 0 0] 31)=w1:=⟨_,rfl⟩;have hNB:aU w1 wp.heap.size:=by rw[<-hw1];exact aU.new wp _
 have dZ:=aF hw1;have hP1:=hPp.ay dZ;have hS1:=hSp.trans dZ;have hW1:=hW.ay hS1;have PF:Hid (∀y,ak w1 y->aP y w.heap.size ⟨ga,d.au.length,gc,na,d.ah.length,nc,wa,d.aB.length,wc⟩):=fun y hy=>hP1.ay hy;have hG1:=hW1.g;have hR1:=hW1.r;obtain⟨H,hH,hraw⟩:=M9 hW1.n;dsimp only at hG1 hR1 hraw;have Uk:Hid (0 < d.ah.length->∃b off,na=some ⟨b,off,none⟩/\b < w1.heap.size/\∀j u,(gy d.ah H)[j]? = some u->w1.cell? ⟨b,off+j,none⟩=some u):=hraw;clear hraw hW
 have hCN:Hid (∀y,ak w1 y->Calls prog 154 #[.slice na d.ah.length nc] y fun e w'=>∃s:Sl,e=.returned (s.v d.ah.length)/\Row w' y.heap.size 4 s d.ah.length (gy d.ah H)/\ak y w'):=fun y hy =>
  Ce na d.ah.length nc d.ah H y rfl (by omega) (hH.ay hy) (fun h=>by
   obtain⟨b,off,e,hb,hc⟩:=Uk.out h;exact⟨b,off,e,zQ4 hb hy.size,fun j u hj=>(hy.av hb _).trans (hc j u hj)⟩)
 have hCG:Hid (∀y,ak w1 y->Calls prog 21 #[.slice ga d.au.length gc] y fun e w'=>∃s:Sl,e=.returned (s.v d.au.length)/\Row w' y.heap.size 1 s d.au.length (d.au.map j6)/\ak y w'):=fun y hy =>
  ql ga d.au.length gc d.au y (hG1.ay hy) (by omega)
 have p0:=hP1.c0;have p1:=hP1.c1;have p2:=hP1.c2;dsimp only at p0 p1 p2
 go_enter func130,ntmps130
 go_upto_region 1 with fail
 go_cut [3] (fun s3 wx=>∃(p:Nat) (gsl nsl:Sl),s3=.pointer (some ⟨p,0,none⟩)/\w1.heap.size<=p/\uQ w1.heap.size wx p d.au d.ah H nsl 0 (FB gsl nsl)/\ak w1 wx)
 case first =>
  clear hw1 hwp;obtain⟨S0,hS0⟩:∃S0:World->Prop,∀w',S0 w'↔ak w1 w':=⟨_,fun _=>Iff.rfl⟩;have cB:=aO w;have x0:∀y:aA S0,y.w.cell? ⟨w.heap.size,0,none⟩=some (.slice ga d.au.length gc):=fun y=>(PF.out _ ((hS0 _).1 y.h)).c0;have x1:∀y:aA S0,y.w.cell? ⟨w.heap.size,1,none⟩=some (.slice na d.ah.length nc):=fun y=>(PF.out _ ((hS0 _).1 y.h)).c1;obtain⟨W0,hW0⟩:∃y,w1.drew=y:=⟨_,rfl⟩;have hs0:=aY hW0;have aC:=(hS0 W0).2 hs0;have hne:Nonempty (aA S0):=⟨⟨_,aC⟩⟩;refine aW (fun w'=>∃x:aA S0,w'=x.w) (by kernel_rfl) ?_;rw[hW0];clear hW0;refine tW 0 rfl ?_;go_big_quiet_op;refine tM 1 rfl (aj aC) ?_;go_big_quiet_op;refine tW 3 rfl ?_;go_big_quiet_op;refine tM 4 rfl (aj aC) ?_;go_big_quiet_op;refine qM 2 7 rfl rfl (by kernel_rfl) ?_ ?_
  ·intro K hK;go_simp;refine(hCG.out W0 hs0).mono ?_;rintro e wA ⟨gsl,rfl,hRg,hSA⟩;obtain⟨ga',gc'⟩:=gsl;dsimp only[Sl.v];have hsA:=hs0.trans hSA;have EZ:=(hS0 _).2 hsA;refine hK _ _ (fun _ _=>aj EZ) ?_;clear hK K;obtain⟨wT,hwT⟩:∃y,wA.alloc (.cells #[.slice none 0 0,.slice none 0 0,.slice none 0 0] 31)=y:=⟨_,rfl⟩;have hST:=aF hwT;have hBT:aU wT wA.heap.size:=by rw[<-hwT];exact aU.new wA _
   refine qM 5 7 rfl rfl (by kernel_rfl) ?_ ?_
   ·intro K hK;go_simp;refine(hCN.out wA hsA).mono ?_;rintro e wB ⟨nsl,rfl,hRn,hSB⟩;obtain⟨na',nc'⟩:=nsl;dsimp only[Sl.v];have hsB:=hsA.trans hSB;refine hK _ _ (fun _ _=>aj ((hS0 _).2 hsB)) ?_;clear hK K hwT hST hBT wT;obtain⟨wC,hwC⟩:∃y,wB.alloc (.cells #[.slice none 0 0,.slice none 0 0,.slice none 0 0] 31)=y:=⟨_,rfl⟩;have hSC:=aF hwC;have hBC:aU wC wB.heap.size:=by rw[<-hwC];exact aU.new wB _
    refine tW 6 rfl ?_;go_big_quiet_op;refine aV 7 rfl (by kernel_rfl) ?_;intro K hK;go_simp;refine hK _ _ (fun _ _=>aj ((hS0 _).2 (hsB.trans hSC))) ?_;clear hK K;have hps:=wS (gsl:=⟨ga',gc'⟩) (nsl:=⟨na',nc'⟩) (H:=H) (gs:=d.au) (ns:=d.ah) (lo:=w1.heap.size) hBC (((hRg.ay hSB).ay hSC).mono hs0.size) ((hRn.ay hSC).mono hsA.size) (by omega) (fun e=>by have:=(hRg.gW e).2.2.1;have:=hSB.size;omega) (fun e=>by have:=(hRn.gW e).2.2.1;omega) (fun b e e2=>by have:=(hRg.gW e).2.2.1;have:=hRn.jf b e2;omega);have hss:=wU (hsB.trans hSC) hsB.size (.slice ga' d.au.length gc') (.slice na' d.ah.length nc') (.slice none 0 0);dsimp only[Sl.v]at hps;have Iu:Hid (uQ w1.heap.size _ wB.heap.size d.au d.ah H ⟨na',nc'⟩ 0 (FB ⟨ga',gc'⟩ ⟨na',nc'⟩)/\ak w1 _):=⟨hps,hss⟩;clear hps hss;obtain⟨lt,c0,c1,c2,z0,z1,z2⟩:=hBC;refine aV 8 rfl (by kernel_rfl) ?_;intro K hK;go_simp;refine hK _ _ (fun h=>absurd h (by decide +kernel)) ?_;clear hK K;refine bE (by kernel_rfl) ?_;clear x0 x1 hne cB
    go_wp2_with fail
    go_meet
    case rel =>
     exact⟨wB.heap.size,⟨ga',gc'⟩,⟨na',nc'⟩,rfl,hsB.size,Iu.out.1,Iu.out.2⟩
   ·intro K hK;go_simp;have hsT:=hsA.trans hST;refine hK _ _ (fun _ _=>aj ((hS0 _).2 hsT)) ?_;clear hK K;refine aV 5 rfl (by kernel_rfl) ?_;intro K hK;go_simp;refine(hCN.out wT hsT).mono ?_;rintro e wB ⟨nsl,rfl,hRn,hSB⟩;obtain⟨na',nc'⟩:=nsl;dsimp only[Sl.v];have hsB:=hsT.trans hSB;refine hK _ _ (fun _ _=>aj ((hS0 _).2 hsB)) ?_;clear hK K;refine tW 6 rfl ?_;go_big_quiet_op;have hps:=wS (gsl:=⟨ga',gc'⟩) (nsl:=⟨na',nc'⟩) (H:=H) (gs:=d.au) (ns:=d.ah) (lo:=w1.heap.size) (hBT.ay hSB) (((hRg.ay hST).ay hSB).mono hs0.size) (hRn.mono hsT.size) (by omega) (fun e=>by have:=(hRg.gW e).2.2.1;omega) (fun e=>by have:=hRn.jf _ e;have:=hBT.lt;omega) (fun b e e2=>by have:=(hRg.gW e).2.2.1;have:=hRn.jf b e2;have:=hST.size;omega);have hss:=wU hsB hsA.size (.slice ga' d.au.length gc') (.slice na' d.ah.length nc') (.slice none 0 0);dsimp only[Sl.v]at hps;have Iu:Hid (uQ w1.heap.size _ wA.heap.size d.au d.ah H ⟨na',nc'⟩ 0 (FB ⟨ga',gc'⟩ ⟨na',nc'⟩)/\ak w1 _):=⟨hps,hss⟩;clear hps hss;obtain⟨lt,c0,c1,c2,z0,z1,z2⟩:=hBT.ay hSB;refine aV 8 rfl (by kernel_rfl) ?_;intro K hK;go_simp;refine hK _ _ (fun h=>absurd h (by decide +kernel)) ?_;clear hK K;refine bE (by kernel_rfl) ?_;clear x0 x1 hne cB
    go_wp2_with fail
    go_meet
    case rel =>
     exact⟨wA.heap.size,⟨ga',gc'⟩,⟨na',nc'⟩,rfl,hsA.size,Iu.out.1,Iu.out.2⟩
  ·obtain⟨wT,hwT⟩:∃y,W0.alloc (.cells #[.slice none 0 0,.slice none 0 0,.slice none 0 0] 31)=y:=⟨_,rfl⟩;have hST:=aF hwT;have hBT:aU wT W0.heap.size:=by rw[<-hwT];exact aU.new W0 _
   intro K hK;go_simp;have hsT:=hs0.trans hST;refine hK _ _ (fun _ _=>aj ((hS0 _).2 hsT)) ?_;clear hK K;refine aV 2 rfl (by kernel_rfl) ?_;intro K hK;go_simp;refine(hCG.out wT hsT).mono ?_;rintro e wA ⟨gsl,rfl,hRg,hSA⟩;obtain⟨ga',gc'⟩:=gsl;dsimp only[Sl.v];have hsA:=hsT.trans hSA;refine hK _ _ (fun _ _=>aj ((hS0 _).2 hsA)) ?_;clear hK K;refine aV 5 rfl (by kernel_rfl) ?_;intro K hK;go_simp;refine(hCN.out wA hsA).mono ?_;rintro e wB ⟨nsl,rfl,hRn,hSB⟩;obtain⟨na',nc'⟩:=nsl;dsimp only[Sl.v];have hsB:=hsA.trans hSB;refine hK _ _ (fun _ _=>aj ((hS0 _).2 hsB)) ?_;clear hK K;refine tW 6 rfl ?_;go_big_quiet_op;have hps:=wS (gsl:=⟨ga',gc'⟩) (nsl:=⟨na',nc'⟩) (H:=H) (gs:=d.au) (ns:=d.ah) (lo:=w1.heap.size) (hBT.ay (hSA.trans hSB)) ((hRg.ay hSB).mono hsT.size) (hRn.mono hsA.size) (by omega) (fun e=>by have:=hRg.jf _ e;have:=hBT.lt;omega) (fun e=>by have:=hRn.jf _ e;have:=hBT.lt;have:=hSA.size;omega) (fun b e e2=>by have:=(hRg.gW e).2.2.1;have:=hRn.jf b e2;omega);have hss:=wU hsB hs0.size (.slice ga' d.au.length gc') (.slice na' d.ah.length nc') (.slice none 0 0);dsimp only[Sl.v]at hps;have Iu:Hid (uQ w1.heap.size _ W0.heap.size d.au d.ah H ⟨na',nc'⟩ 0 (FB ⟨ga',gc'⟩ ⟨na',nc'⟩)/\ak w1 _):=⟨hps,hss⟩;clear hps hss;obtain⟨lt,c0,c1,c2,z0,z1,z2⟩:=hBT.ay (hSA.trans hSB);refine aV 8 rfl (by kernel_rfl) ?_;intro K hK;go_simp;refine hK _ _ (fun h=>absurd h (by decide +kernel)) ?_;clear hK K;refine bE (by kernel_rfl) ?_;clear x0 x1 hne cB
   go_wp2_with fail
   go_meet
   case rel =>
    exact⟨W0.heap.size,⟨ga',gc'⟩,⟨na',nc'⟩,rfl,hs0.size,Iu.out.1,Iu.out.2⟩
 obtain⟨p,gsl,nsl,rfl,hp1,RP,hSc⟩:=hcut;obtain⟨na',nc'⟩:=nsl;clear hCG hCN Uk hw1 hwp p0 p1 p2;have hq1:=RP.c1;dsimp only at hq1
 go_wp2_with fail
 go_loopw [18] (fun i wr=>∃(k:Nat) (L:Lay),k<=d.ah.length/\i=.int .i64 k/\uQ w1.heap.size wr p d.au d.ah H ⟨na',nc'⟩ k L/\ak w1 wr) (fun i _=>d.ah.length - (intOf i).toNat)
 case atStart=>exact⟨0,_,Nat.zero_le _,rfl,RP,hSc⟩
 case round =>
  clear RP hSc hq1;obtain⟨wo,rfl⟩:∃wo,wo=wr:=⟨_,rfl⟩;obtain⟨k,L,hk,rfl,hPN,hSr⟩:=hrel;by_cases hlt:k < d.ah.length
  ·obtain⟨nd,hnd⟩:∃nd,d.ah[k]? = some nd:=⟨_,zQ1 hlt⟩;have hcap:=hPN.full.cap;dsimp only at hcap;obtain⟨b,off,e,hbl,hbs,hall,hcell⟩:=hPN.full.body (by show 0 < nc';omega);dsimp only at e hall;subst e;have q1:=hPN.c1;dsimp only at q1;have n1:(k:Int) < (d.ah.length:Int):=by omega
   obtain⟨hL,hHd,hTd⟩:=(hH.ay hSr) k nd hnd;obtain⟨la,lc,eL,hlc,hLs⟩:=hL;obtain⟨ha,hc,eH,hhc,hHs⟩:=hHd;obtain⟨ta,tc,eT,htc,hTs⟩:=hTd;obtain⟨A,hA⟩:∃A,dX ⟨d.au,d.ah.take k,[]⟩ L (1,0,0)=A:=⟨_,rfl⟩;have bq:(d.ah.take k).length=k:=by rw[List.length_take];omega
   have hAl:A.length=k*4:=by
    have:Row wo w1.heap.size 4 (L (1,0,0)) (d.ah.take k).length (dX ⟨d.au,d.ah.take k,[]⟩ L (1,0,0)):=hPN.own.row (1,0,0) ⟨rfl,rfl⟩;have:=this.len;rw[hA,bq]at this;exact this
   have hrd:∀j u,(iI d.ah H k)[j]? = some u->wo.cell? ⟨b,off+k*4+j,none⟩=some u:=by
    intro j u hj;have hj4:j < 4:=by have:=(zQ2.1 hj).1;simpa[iI] using this
    have:=hcell (k*4+j) u (by
     rw[hA,List.getElem?_append_right (by omega),hAl,show k*4+j - k*4=j from by omega,Iw hlt,List.getElem?_append_left (by simpa[iI] using hj4)];exact hj)
    rw[<-Nat.add_assoc]at this;exact this
   have j1:wo.cell? ⟨b,off+k*4+1,none⟩=some (.slice la nd.last.length lc):=hrd 1 _ (by unfold iI;rw[eL];rfl);have j2:wo.cell? ⟨b,off+k*4+2,none⟩=some (.slice ha nd.held.length hc):=hrd 2 _ (by unfold iI;rw[eH];rfl);have j3:wo.cell? ⟨b,off+k*4+3,none⟩=some (.slice ta nd.aG.length tc):=hrd 3 _ (by unfold iI;rw[eT];rfl)
   have hz:∀j,j < 4->wo.frozen? ⟨b,off+k*4+j,none⟩=false:=fun j hj=>by
    have:=(hall (k*4+j) (by omega)).2;rw[<-Nat.add_assoc]at this;exact this
   have sN:x9 nd:=by
    have l0:(bD d k).last.length<=100:=hs (3,k,0) ⟨hlt,rfl⟩;have h0:(bD d k).held.length<=100:=hs (5,k,0) ⟨hlt,rfl⟩;have t0:(bD d k).aG.length<=100:=hs (6,k,0) ⟨hlt,rfl⟩;rw[dh hnd]at l0 h0 t0;refine⟨by omega,fun i r hr=>?_,by omega,by omega⟩;have:(fA d k i).length<=100:=hs (4,k,i) ⟨hlt,by rw[dh hnd];exact(zQ2.1 hr).1⟩;unfold fA at this;rw[dh hnd,hr]at this;exact zQ5 this (by omega)
   have HND:Hid (d.ah[k]? = some nd):=hnd;clear hnd hA hAl bq hrd hcell hall eL eH eT
   go_upto_region 6 with fail
   obtain⟨S0,hS0⟩:∃S0:World->Prop,∀w',S0 w'↔ak wo w':=⟨_,fun _=>Iff.rfl⟩;have cB:=aO w;have x1:∀y:aA S0,y.w.cell? ⟨b,off+k*4+1,none⟩=some (.slice la nd.last.length lc):=fun y=>(((hS0 _).1 y.h).av hbs _).trans j1;have x2:∀y:aA S0,y.w.cell? ⟨b,off+k*4+2,none⟩=some (.slice ha nd.held.length hc):=fun y=>(((hS0 _).1 y.h).av hbs _).trans j2;have x3:∀y:aA S0,y.w.cell? ⟨b,off+k*4+3,none⟩=some (.slice ta nd.aG.length tc):=fun y=>(((hS0 _).1 y.h).av hbs _).trans j3;obtain⟨W0,hW0⟩:∃y,wo.drew=y:=⟨_,rfl⟩;have hs0:=aY hW0;have aC:=(hS0 W0).2 hs0;have hne:Nonempty (aA S0):=⟨⟨_,aC⟩⟩;refine aW (fun w'=>∃x:aA S0,w'=x.w) (by kernel_rfl) ?_;rw[hW0];clear hW0;refine tW 0 rfl ?_;go_big_quiet_op;refine tW 1 rfl ?_;go_big_quiet_op;refine tW 2 rfl ?_;go_big_quiet_op;refine tW 3 rfl ?_;go_big_quiet_op;refine tW 4 rfl ?_;go_big_quiet_op;refine tW 5 rfl ?_;go_big_quiet_op;refine tM 6 rfl (aj aC) ?_;go_big_quiet_op;refine tW 8 rfl ?_;go_big_quiet_op;refine tW 9 rfl ?_;go_big_quiet_op;refine tW 10 rfl ?_;go_big_quiet_op;refine tM 11 rfl (aj aC) ?_;go_big_quiet_op;refine tW 13 rfl ?_;go_big_quiet_op;refine tW 14 rfl ?_;go_big_quiet_op;refine tW 15 rfl ?_;go_big_quiet_op;refine tM 16 rfl (aj aC) ?_;go_big_quiet_op;refine aV 7 rfl (by kernel_rfl) ?_;intro K hK;go_simp;refine(Cg la lc nd.last W0 (hLs.ay lg hs0) sN.1 sN.2.1).mono ?_;rintro e wA ⟨⟨sa,sc⟩,rs,rfl,hLL,hSA⟩;dsimp only[Sl.v];have hsA:=hs0.trans hSA;refine hK _ _ (fun _ _=>aj ((hS0 _).2 hsA)) ?_;clear hK K;refine aV 12 rfl (by kernel_rfl) ?_;intro K hK;go_simp;refine(qF ha _ hc nd.held wA (hHs.ay hsA) sN.2.2.1).mono ?_;rintro e wB ⟨⟨hA',hC'⟩,rfl,hRh,hSB⟩;dsimp only[Sl.v];have hsB:=hsA.trans hSB;refine hK _ _ (fun _ _=>aj ((hS0 _).2 hsB)) ?_;clear hK K;refine aV 17 rfl (by kernel_rfl) ?_;intro K hK;go_simp;refine(qF ta _ tc nd.aG wB (hTs.ay hsB) sN.2.2.2).mono ?_;rintro e wC ⟨⟨tA',tC'⟩,rfl,hRt,hSC⟩;dsimp only[Sl.v];have hsC:=hsB.trans hSC;refine hK _ _ (fun h=>absurd h (by decide +kernel)) ?_;clear hK K;have y1:=(hsC.av hbs _).trans j1;have y2:=(hsC.av hbs _).trans j2;have y3:=(hsC.av hbs _).trans j3;have v1:=(hsC.below.frozen (p:=⟨b,off+k*4+1,none⟩) hbs).trans (hz 1 (by omega));have v2:=(hsC.below.frozen (p:=⟨b,off+k*4+2,none⟩) hbs).trans (hz 2 (by omega));have v3:=(hsC.below.frozen (p:=⟨b,off+k*4+3,none⟩) hbs).trans (hz 3 (by omega))
   have hNd:oo wo.heap.size wC nd ⟨sa,sc⟩ rs ⟨hA',hC'⟩ ⟨tA',tC'⟩ :=
    ⟨((hLL.ay hSB).ay hSC).mono hs0.size,(hRh.ay hSC).mono hsA.size,hRt.mono hsB.size,fun b e=>⟨fun hb=>by have:=hRh.jf b e;have:=(hLL.blk hb).2;omega,fun e2=>by have:=(hRh.gW e).2.2.1;have:=hRt.jf b e2;omega⟩,fun b e hb=>by have:=hRt.jf b e;have:=(hLL.blk hb).2;have:=hSB.size;omega⟩
   have hstep:=hPN.step HND.out hsC hNd hSr.size sN (by omega) rfl;dsimp only[Sl.v]at hstep
   have hSf:ak w1 (((wC.setCell ⟨b,off+k*4+1,none⟩ (.slice sa nd.last.length sc)).setCell ⟨b,off+k*4+2,none⟩ (.slice hA' nd.held.length hC')).setCell ⟨b,off+k*4+3,none⟩ (.slice tA' nd.aG.length tC')):=by
    have hF:Fr (fun i=>i=b) wC (((wC.setCell ⟨b,off+k*4+1,none⟩ (.slice sa nd.last.length sc)).setCell ⟨b,off+k*4+2,none⟩ (.slice hA' nd.held.length hC')).setCell ⟨b,off+k*4+3,none⟩ (.slice tA' nd.aG.length tC')):=(((Fr.refl (fun i=>i=b) wC).setCell ⟨b,off+k*4+1,none⟩ _ (fun _=>rfl)).setCell ⟨b,off+k*4+2,none⟩ _ (fun _=>rfl)).setCell ⟨b,off+k*4+3,none⟩ _ (fun _=>rfl);exact hF.aI (hSr.trans hsC) (fun i hi e=>by omega)
   clear x1 x2 x3 hne;refine tW 18 rfl ?_;go_big_quiet_op;refine tW 19 rfl ?_;go_big_quiet_op;refine aV 20 rfl (by kernel_rfl) ?_;intro K hK;go_simp;refine hK _ _ (fun h=>absurd h (by decide +kernel)) ?_;clear hK K;refine tW 21 rfl ?_;go_big_quiet_op;refine tW 22 rfl ?_;go_big_quiet_op;refine aV 23 rfl (by kernel_rfl) ?_;intro K hK;go_simp;refine hK _ _ (fun h=>absurd h (by decide +kernel)) ?_;clear hK K;refine tW 24 rfl ?_;go_big_quiet_op;refine tW 25 rfl ?_;go_big_quiet_op;refine aV 26 rfl (by kernel_rfl) ?_;intro K hK;go_simp;refine hK _ _ (fun h=>absurd h (by decide +kernel)) ?_;clear hK K;refine bE (by kernel_rfl) ?_;clear cB
   go_wp2
   go_roundw
   case rel=>exact⟨k+1,_,by omega,by go_num,hstep,hSf⟩
   case measure=>simp[intOf];omega
  ·obtain rfl:k=d.ah.length:=by omega
   have hM:=hPN.made;have p2:=(PF.out _ hSr).c2;dsimp only at p2;clear hPN
   go_wp2_with fail
   go_loopw [53] (fun i wr=>∃(k:Nat) (L:Lay),k<=d.aB.length/\i=.int .i64 k/\dF w1.heap.size wr p ⟨d.au,d.ah,d.aB.take k⟩ L/\ak w1 wr) (fun i _=>d.aB.length - (intOf i).toNat)
   case atStart=>exact⟨0,_,Nat.zero_le _,rfl,by simpa using hM,hSr⟩
   case round =>
    clear hM hSr p2;obtain⟨wq,rfl⟩:∃wq,wq=wr:=⟨_,rfl⟩;obtain⟨k,L,hk,rfl,hM,hSr⟩:=hrel;by_cases hlt:k < d.aB.length
    ·obtain⟨rw0,hrw⟩:∃r,d.aB[k]? = some r:=⟨_,zQ1 hlt⟩;obtain⟨bw,ow,rfl,hbw,hcw⟩:=hR1.cells (by omega);obtain⟨v1,k1,ra,rc,rfl,hrc,hRR⟩:=hcw k rw0 hrw;have j1:=(hSr.av hbw _).trans k1;have n1:(k:Int) < (d.aB.length:Int):=by omega
     have sR:rw0.length<=100:=by have:(rowAt d k).length<=100:=hs (7,k,0) ⟨hlt,rfl⟩;rw[dP hrw]at this;exact this
     have sW:∀(i:Nat) (r:List Mg),rw0[i]? = some r->r.length<=1000:=fun i r hr=>by
      have:(gF d k i).length<=100:=hs (8,k,i) ⟨hlt,by rw[dP hrw];exact(zQ2.1 hr).1⟩;rw[EI hrw hr]at this;omega
     have HRW:Hid (d.aB[k]? = some rw0):=hrw;have mX:(d.aB.take k).length=k:=by rw[List.length_take];omega
     obtain⟨na3,nc3,hL1⟩:∃na nc,L (2,0,0)=⟨na,nc⟩:=⟨_,_,rfl⟩;have b1:wq.cell? ⟨p,2,none⟩=some (.slice na3 k nc3):=by have:=hM.box.c2;rw[hL1]at this;dsimp only at this;rw[mX]at this;exact this
     have hpi:=hM.box.lt
     have hRn:Row wq w1.heap.size 1 ⟨na3,nc3⟩ k (dX ⟨d.au,d.ah,d.aB.take k⟩ L (2,0,0)):=by
      have:Row wq w1.heap.size 1 (L (2,0,0)) (d.aB.take k).length (dX ⟨d.au,d.ah,d.aB.take k⟩ L (2,0,0)):=hM.own.row (2,0,0) ⟨rfl,rfl⟩;rw[hL1,mX]at this;exact this
     clear hcw k1 hrw
     go_upto_region 11 with fail
     obtain⟨S0,hS0⟩:∃S0:World->Prop,∀w',S0 w'↔ak wq w':=⟨_,fun _=>Iff.rfl⟩;have cB:=aO w;have x1:∀y:aA S0,y.w.cell? ⟨p,2,none⟩=some (.slice na3 k nc3):=fun y=>(((hS0 _).1 y.h).av hpi _).trans b1;obtain⟨W0,hW0⟩:∃y,wq.drew=y:=⟨_,rfl⟩;have hs0:=aY hW0;have aC:=(hS0 W0).2 hs0;have hne:Nonempty (aA S0):=⟨⟨_,aC⟩⟩;refine aW (fun w'=>∃x:aA S0,w'=x.w) (by kernel_rfl) ?_;rw[hW0];clear hW0;refine tW 0 rfl ?_;go_big_quiet_op;refine tM 1 rfl (aj aC) ?_;go_big_quiet_op;refine tW 2 rfl ?_;go_big_quiet_op;refine aV 3 rfl (by kernel_rfl) ?_;intro K hK;go_simp;refine(Ch ra rc rw0 W0 (hRR.ay j4 (hSr.trans hs0)) (by omega) sW).mono ?_;rintro e wA ⟨⟨sa,sc⟩,rs,rfl,hLL,hSA⟩;dsimp only[Sl.v];have hsA:=hs0.trans hSA;refine hK _ _ (fun _ _=>aj ((hS0 _).2 hsA)) ?_;clear hK K;obtain⟨V,hV⟩:∃y,wA.alloc (.cells #[.slice sa rw0.length sc] 65)=y:=⟨_,rfl⟩;have hSV:=aF hV;have hsrc:=iy (size:=1) (T:=65) (w:=wA) pE.und [.slice sa rw0.length sc] rfl (fun u hu=>by simp at hu;subst hu;rfl) 1;rw[show(wA.alloc (.cells [Value.slice sa rw0.length sc].toArray 65))=V from hV]at hsrc;refine aV 4 rfl (by kernel_rfl) ?_;intro K hK;go_simp;refine hK _ _ (fun _ _=>aj ((hS0 _).2 (hsA.trans hSV))) ?_;clear hK K hV;have hqV:=hsA.trans hSV;refine aV 5 rfl (by kernel_rfl) ?_;intro K hK;refine fU pE (by rfl) _ _ 29 (by rfl) (by rfl) (hRn.ay hqV) (by rfl) hsrc (by omega) (zQ5 hSr.size hqV.size) ?_;intro na2 nc2 Y hRY hFY hBY;have hbY:=(hM.box.ay hqV).fr hFY (fun e=>hM.off ⟨(2,0,0),⟨rfl,rfl⟩,by rw[hL1];exact e⟩);have q1:=hbY.c2;have q2:=hbY.z2;have hMY:=hM.yR (a':=na2) (c':=nc2) (w':=Y) (x:=rw0) hqV ((hLL.mono hs0.size).ay hSV) hSr.size ⟨by omega,sW⟩ (by rw[mX];omega) (by rw[mX];exact hRY) (by rw[hL1];exact hFY) (by rw[hL1];exact hBY);rw[mX]at hMY
     have hSY:ak w1 (Y.setCell ⟨p,2,none⟩ (.slice na2 (k+1) nc2)):=by
      refine Fr.aI (B:=fun i=>¬ i < w1.heap.size) ((hFY.mono (fun i _ e=>?_)).setCell _ _ ?_) (hSr.trans hqV) (fun i hi h=>h hi)
      ·have:=(hM.own.blk ⟨(2,0,0),⟨rfl,rfl⟩,by rw[hL1];exact e⟩).1;omega
      ·intro _;show ¬ p < _;omega
     refine hK _ _ (fun h=>absurd h (by decide +kernel)) ?_;clear hK K x1 hne;simp only[Act.put,zQ7,zQ8,zQ9];refine tW 6 rfl ?_;go_big_quiet_op;refine aV 7 rfl (by kernel_rfl) ?_;intro K hK;go_simp;refine hK _ _ (fun h=>absurd h (by decide +kernel)) ?_;clear hK K cB;refine bE (by kernel_rfl) ?_
     go_wp2
     refine⟨⟨k+1,kg L k ⟨na2,nc2⟩ ⟨sa,sc⟩ rs,by omega,by go_num, ?_,hSY⟩,by simp[intOf];omega⟩;rw[List.take_add_one,HRW.out];exact hMY
    ·obtain rfl:k=d.aB.length:=by omega
     rw[List.take_length]at hM;obtain⟨lt,r0,r1,r2,r3,r4,r5⟩:=hNB.ay hSr;have b0:=hM.box.c0;have b1:=hM.box.c1;have b2:=hM.box.c2;obtain⟨hO,hSf⟩:=hM.own.result (w0:=w) (p:=wp.heap.size) hNB.lt hSp.size (hS1.trans hSr) hS1.size
     go_wp2
     refine bodyPost_ret (v:=bF L d) ?_ rfl ⟨L,rfl,hO,hSf⟩;simp[results,results130,go_sem,r0,r1,r2,bF]
end Go.Proofs.YtediempflagfkaaGreatDoor
set_option maxHeartbeats 1000000
namespace Go.Proofs.YtediempflagfkaaGreatDoor
open _root_.Go.Proofs.Tryz hiding checked
set_option maxRecDepth 8000
open Go.RowKit Go.Shelf
open Pu
set_option maxRecDepth 20000 in
theorem Io(p:Addr)(x e:Int)(w:World)(hc:w.cell? p=some (.int .i64 x))(hz:w.frozen? p=false) :
  CallsDIn Fence.wide 0 prog 127 #[.pointer (some p)] (.panicking (pan e)) w fun r u' w' =>
   r=.returned (.tuple #[])/\u'=.panicking [{ v:=.iface 23 (.int .i64 e),recovered:=true }]/\w'=w.setCell p (.int .i64 e):=by
 have hta:=rD e;refine callsDIn_of_wpSIn func127 rfl trivial fun c₀ cs hu=>?_;apply wpSIn_seq;apply wpSIn_region;simp[wpOpsSIn,go_sem,recoverD,hu,ntmps127,Exit.thenS];refine wpSIn_of_wpIn rfl ((wpIn_wide (n:=0)).2 ?_);simp only[Array.replicate_succ,Array.replicate_zero,List.push_toArray,List.append_toArray,List.nil_append,List.cons_append,zQ7,zQ9,zQ8]
 go_wp2
 exact⟨rfl,_,rfl,_,results_none rfl _ _ _,rfl,rfl,rfl⟩
theorem Fw(p:Addr)(w:World) :
  CallsDIn Fence.wide 0 prog 127 #[.pointer (some p)] .returning w fun r u' w'=>r=.returned (.tuple #[])/\u'=.returning/\w'=w:=by
 refine callsDIn_of_wpSIn func127 rfl trivial fun c₀ cs hu=>?_;apply wpSIn_seq;apply wpSIn_region;simp[wpOpsSIn,go_sem,recoverD,hu,ntmps127,Exit.thenS];refine wpSIn_of_wpIn rfl ((wpIn_wide (n:=0)).2 ?_);simp only[Array.replicate_succ,Array.replicate_zero,List.push_toArray,List.append_toArray,List.nil_append,List.cons_append,zQ7,zQ9,zQ8]
 go_wp2
 obtain⟨c1,c2,c3,c4,c5,c6,c7⟩:=c₀;subst hu;exact⟨rfl,_,rfl,_,results_none rfl _ _ _,rfl,rfl,rfl⟩
theorem yF(y:World)(bo be:Nat)(tmps:Array Value)(h4:tmps[4]? = some (.pointer (some ⟨bo,0,none⟩)))(h5:tmps[5]? = some (.int .i64 0))(h6:tmps[6]? = some (.pointer (some ⟨be,0,none⟩)))(x e:Int)
  (c0:y.cell? ⟨bo,0,none⟩=some (.slice none 0 0)) (c1:y.cell? ⟨bo,1,none⟩=some (.slice none 0 0)) (c2:y.cell? ⟨bo,2,none⟩=some (.slice none 0 0)) (hne:be≠bo) (hc:y.cell? ⟨be,0,none⟩=some (.int .i64 x)) (hz:y.frozen? ⟨be,0,none⟩=false)
  (R:Ending->World->Prop) (hR:R (.returned (.tuple #[.agg #[.slice none 0 0,.slice none 0 0,.slice none 0 0],.int .i64 0,.int .i64 e])) (y.setCell ⟨be,0,none⟩ (.int .i64 e))) :
  LeavesInM Fence.wide 0 prog Tryz.f96 tmps R [{ target:=.fn (.func 127) #[.pointer (some ⟨be,0,none⟩)],args:=#[] }] (.panicking (pan e)) y:=by
 refine⟨by simp,.inr ⟨fun h=>(by cases h),_,_,127,#[.pointer (some ⟨be,0,none⟩)],rfl,by simp[go_sem,invoke],fun _ _=>trivial, ?_⟩⟩;refine(Io ⟨be,0,none⟩ x e y hc hz).mono ?_;rintro r u' w'' ⟨rfl,rfl,rfl⟩;refine⟨_, ?_,hR⟩;have hc':(y.setCell ⟨be,0,none⟩ (.int .i64 e)).cell? ⟨be,0,none⟩=some (.int .i64 e):=World.cell?_setCell_same' _ _ _ (by rw[hc];rfl);have hF:Fr (fun i=>i=be) y (y.setCell ⟨be,0,none⟩ (.int .i64 e)):=(Fr.refl (fun i=>i=be) y).setCell ⟨be,0,none⟩ _ (fun _=>rfl);have d0:(y.setCell ⟨be,0,none⟩ (.int .i64 e)).cell? ⟨bo,0,none⟩=some (.slice none 0 0):=(World.cell?_setCell_far y ⟨be,0,none⟩ ⟨bo,0,none⟩ _ hne).trans c0;have d1:(y.setCell ⟨be,0,none⟩ (.int .i64 e)).cell? ⟨bo,1,none⟩=some (.slice none 0 0):=(World.cell?_setCell_far y ⟨be,0,none⟩ ⟨bo,1,none⟩ _ hne).trans c1;have d2:(y.setCell ⟨be,0,none⟩ (.int .i64 e)).cell? ⟨bo,2,none⟩=some (.slice none 0 0):=(World.cell?_setCell_far y ⟨be,0,none⟩ ⟨bo,2,none⟩ _ hne).trans c2;simp[results,Tryz.f96,go_sem,h4,h5,h6,hc',d0,d1,d2]
theorem Fx(y:World)(bo be:Nat)(tmps:Array Value)(m:Int)(a b c:Value)(s0:a.oneCell'=true)(s1:b.oneCell'=true)(s2:c.oneCell'=true)(h4:tmps[4]? = some (.pointer (some ⟨bo,0,none⟩)))(h5:tmps[5]? = some (.int .i64 m))(h6:tmps[6]? = some (.pointer (some ⟨be,0,none⟩)))
  (c0:y.cell? ⟨bo,0,none⟩=some a) (c1:y.cell? ⟨bo,1,none⟩=some b) (c2:y.cell? ⟨bo,2,none⟩=some c) (hc:y.cell? ⟨be,0,none⟩=some (.int .i64 0))
  (R:Ending->World->Prop) (hR:R (.returned (.tuple #[.agg #[a,b,c],.int .i64 m,.int .i64 0])) y) :
  LeavesInM Fence.wide 0 prog Tryz.f96 tmps R [{ target:=.fn (.func 127) #[.pointer (some ⟨be,0,none⟩)],args:=#[] }] .returning y:=by
 refine⟨by simp,.inr ⟨fun h=>(by cases h),_,_,127,#[.pointer (some ⟨be,0,none⟩)],rfl,by simp[go_sem,invoke],fun _ _=>trivial, ?_⟩⟩;refine(Fw ⟨be,0,none⟩ y).mono ?_;rintro r u' w'' ⟨rfl,rfl,rfl⟩;refine⟨_, ?_,hR⟩;simp[results,Tryz.f96,go_sem,h4,h5,h6,hc,c0,c1,c2]
def QE(X:Nat->Prop)(w:World)(r:Except Int (Wd × Int))(e:Ending)(w':World):Prop :=
 (∀er,r=.error er->e=.returned (.tuple #[.agg #[.slice none 0 0,.slice none 0 0,.slice none 0 0],.int .i64 0,.int .i64 er])/\Fr X w w') /\
 (∀d' m,r=.ok (d',m)->∃L,e=.returned (.tuple #[bF L d',.int .i64 m,.int .i64 0])/\bG w.heap.size w' d' L/\Fr X w w')
theorem M0{P:Program}{Q:Exit->Act->World->Prop}{c:Code}{a:Act}{w:World}(h:c.wp P (fun e a' w'=>e=.normal/\Q .normal a' w') a w):c.wp P Q a w :=
 wp_mono h (fun e a w h=>by obtain⟨rfl,h⟩:=h;exact h)
attribute [local go_sem] Oper.semAt_some
theorem mD(x:WV)(d:Wd)(K:Nat)(caps:Array Value)(X:Nat->Prop)(w:World)(hW:WAt w x d)(hX:∀i,X i->i < w.heap.size)(r:Except Int (Wd × Int))
  (heg:∀args w,(callFunc K args).run prog w=.ok (.enter K args) w)
  (QG:aZ d=0->∀(lo p:Nat) (L:Lay) (w1:World),w.heap.size<=lo->ak w w1->dG lo w1 p d L 0->Calls prog K (#[.pointer (some ⟨p,0,none⟩)]++caps) w1 fun e w'=>Hid (vE lo X p w1 r e w')) :
  Calls prog 96 #[.agg #[.slice x.ga x.gl x.gc,.slice x.na x.nl x.nc,.slice x.wa x.wl x.wc],.func (.func K) #[] caps] w fun e w'=>Hid (QE X w (checked d r) e w'):=by
 obtain⟨ga,gl,gc,na,nl,nc,wa,wl,wc⟩:=x;dsimp only;obtain⟨wp,hwp⟩:∃wp,w.alloc (.cells #[.slice ga gl gc,.slice na nl nc,.slice wa wl wc] 31)=wp:=⟨_,rfl⟩;have hPp:aP wp w.heap.size ⟨ga,gl,gc,na,nl,nc,wa,wl,wc⟩:=by rw[<-hwp];exact aP.new w ⟨ga,gl,gc,na,nl,nc,wa,wl,wc⟩ _
 have hSp:=aF hwp;obtain⟨wn,hwn⟩:∃w1,wp.alloc (.cells #[.slice none 0 0,.slice none 0 0,.slice none 0 0] 31)=w1:=⟨_,rfl⟩;have Ue:aU wn wp.heap.size:=by rw[<-hwn];exact aU.new wp _
 have VG:=aF hwn;obtain⟨w1,hw1⟩:∃w1,wn.alloc (.cells #[.int .i64 0] 23)=w1:=⟨_,rfl⟩;have Uf:=aF hw1;have hNB:=Ue.ay Uf;have dZ:=VG.trans Uf;have hP1:=hPp.ay dZ;have hS1:=hSp.trans dZ;have hW1:=hW.ay hS1;have q0:w1.cell? ⟨wn.heap.size,0,none⟩=some (.int .i64 0):=by rw[<-hw1];simp[go_sem]
 have q1:w1.frozen? ⟨wn.heap.size,0,none⟩=false:=by rw[<-hw1];simp[go_sem]
 have hql:wn.heap.size < w1.heap.size:=by rw[<-hw1];simp
 have hnl:wp.heap.size < wn.heap.size:=Ue.lt;have hwl:w.heap.size<=wp.heap.size:=hSp.size;have p0:=hP1.c0;have p1:=hP1.c1;have p2:=hP1.c2;dsimp only at p0 p1 p2;have PF:Hid (∀y,ak w1 y->aP y w.heap.size ⟨ga,gl,gc,na,nl,nc,wa,wl,wc⟩):=fun y hy=>hP1.ay hy
 have QF:Hid (∀y,ak w1 y->y.cell? ⟨wn.heap.size,0,none⟩=some (.int .i64 0)/\y.frozen? ⟨wn.heap.size,0,none⟩=false/\aU y wp.heap.size):=fun y hy =>
  ⟨(hy.av hql _).trans q0,(hy.below.frozen (p:=⟨wn.heap.size,0,none⟩) hql).trans q1,hNB.ay hy⟩
 have hmf:∀(fn:Fn) (first cap:Array Value) (w:World),(Instr.makeFunc fn first cap).run prog w=.ok (.func fn first cap) w:=fun _ _ _ _=>rfl
 clear hW;refine iY func96 rfl ?_;simp only[ntmps96,List.size_toArray,List.length_cons,List.length_nil,Nat.reduceAdd,Nat.reduceSub,Array.replicate_succ,Array.replicate_zero,List.push_toArray,List.append_toArray,List.nil_append,List.cons_append];refine dw ?_;cases hE:(aZ d == 0)
 ·have HF:Hid (checked d r=.error (aZ d)):=by
   have:¬ aZ d=0:=by simpa using hE
   unfold Hid checked;rw[if_neg this]
  go_wp2_with (first
   | (go_at_call 129;refine(nV ⟨ga,gl,gc,na,nl,nc,wa,wl,wc⟩ d w1 hW1).mono ?_;rintro e w2 ⟨rfl,hS2⟩)
   | (go_at_call 128;refine(vw _ hE _).mono ?_;rintro e w3 ⟨rfl,hw3⟩;obtain rfl:=hw3.symm))
  obtain⟨e0,e1,e2⟩:=QF.out _ hS2;refine yF w2 wp.heap.size wn.heap.size _ rfl rfl rfl 0 (aZ d) e2.c0 e2.c1 e2.c2 (by omega) e0 e1 _ ?_;unfold Hid;rw[HF.out];exact⟨fun er h=>(by cases h;exact⟨rfl,((hS1.trans hS2).fr X).setCell ⟨wn.heap.size,0,none⟩ _ (fun h=>by have h:wn.heap.size < w.heap.size:=h;omega)⟩),fun _ _ h=>(by cases h)⟩
 ·have HE:Hid (aZ d=0):=by unfold Hid;simpa using hE
  go_wp2_with (first
   | (go_at_call 129;refine(nV ⟨ga,gl,gc,na,nl,nc,wa,wl,wc⟩ d w1 hW1).mono ?_;rw[HE.out];rintro e w2 ⟨rfl,hS2⟩;obtain⟨lt2,f0,f1,f2⟩:=PF.out _ hS2;dsimp only at f0 f1 f2)
   | (go_at_call 128;refine(vB _).mono ?_;rintro e w3 ⟨rfl,hw3⟩;obtain rfl:=hw3.symm)
   | (go_at_call 130;refine(Kk ⟨ga,gl,gc,na,nl,nc,wa,wl,wc⟩ d w2 (hW1.ay hS2) (jW ((cZ d).1 HE.out))).mono ?_;rintro e w3 ⟨L,rfl,hO,hS3⟩;dsimp only[bF]))
  obtain⟨w4,hw4⟩:∃y,w3.alloc (.cells #[.slice (L (0,0,0)).a d.au.length (L (0,0,0)).cap,.slice (L (1,0,0)).a d.ah.length (L (1,0,0)).cap,.slice (L (2,0,0)).a d.aB.length (L (2,0,0)).cap,.int .i64 0] 133)=y:=⟨_,rfl⟩;rw[hw4];have hS4:=aF hw4
  have hB4:dG w2.heap.size w4 w3.heap.size d L 0:=by
   refine⟨⟨hO.ay hS4, ?_,fun hb=>by have:=(hO.blk hb).2;omega⟩,hS3.size, ?_, ?_⟩
   ·rw[<-hw4];constructor <;> simp[go_sem]
   ·rw[<-hw4];simp[go_sem]
   ·rw[<-hw4];simp[go_sem]
  have Bw:=(hS2.trans hS3).trans hS4;have h12:=hS2.size;have hww:=zQ5 hS1.size h12;clear hw4 hw1 hwp hwn p0 p1 p2 f0 f1 f2;have HC:=QG HE.out w2.heap.size w3.heap.size L w4 hww (hS1.trans Bw) hB4;obtain⟨e0,e1,e2⟩:=QF.out _ Bw;have hlq:wn.heap.size < w4.heap.size:=zQ4 hql Bw.size;have hlp:wp.heap.size < w4.heap.size:=by omega
  have hUq:¬ Up w2.heap.size X wn.heap.size:=by rintro(h | h);omega;(have:=hX _ h;omega)
  have hUp:¬ Up w2.heap.size X wp.heap.size:=by rintro(h | h);omega;(have:=hX _ h;omega)
  have FX:Hid (∀y,Fr (Up w2.heap.size X) w4 y->Fr X w y):=fun y hy=>((hS1.trans Bw).fr X).trans hy (fun _ _ h=>h) (fun i hi h=>by
   rcases h with h | h
   ·omega
   ·exact h)
  have KF:Hid (∀y,Fr (Up w2.heap.size X) w4 y->y.cell? ⟨wn.heap.size,0,none⟩=some (.int .i64 0)/\y.frozen? ⟨wn.heap.size,0,none⟩=false/\(y.cell? ⟨wp.heap.size,0,none⟩=some (.slice none 0 0)/\y.cell? ⟨wp.heap.size,1,none⟩=some (.slice none 0 0)/\y.cell? ⟨wp.heap.size,2,none⟩=some (.slice none 0 0))/\(y.frozen? ⟨wp.heap.size,0,none⟩=false/\y.frozen? ⟨wp.heap.size,1,none⟩=false/\y.frozen? ⟨wp.heap.size,2,none⟩=false)):=fun y hy =>
   ⟨(hy.cell (p:=⟨wn.heap.size,0,none⟩) hlq hUq).trans e0,(hy.frozen (p:=⟨wn.heap.size,0,none⟩) hlq hUq).trans e1,⟨(hy.cell (p:=⟨wp.heap.size,0,none⟩) hlp hUp).trans e2.c0,(hy.cell (p:=⟨wp.heap.size,1,none⟩) hlp hUp).trans e2.c1,(hy.cell (p:=⟨wp.heap.size,2,none⟩) hlp hUp).trans e2.c2⟩,
    ⟨(hy.frozen (p:=⟨wp.heap.size,0,none⟩) hlp hUp).trans e2.z0,(hy.frozen (p:=⟨wp.heap.size,1,none⟩) hlp hUp).trans e2.z1,(hy.frozen (p:=⟨wp.heap.size,2,none⟩) hlp hUp).trans e2.z2⟩⟩
  clear e0 e1 e2 q0 q1;have HCH:Hid (checked d r=r):=by unfold Hid checked;rw[if_pos HE.out]
  refine HC.mono ?_;clear HC QG;rintro e w5 hR
  cases r with
  | error er =>
   obtain⟨rfl,hF5⟩:=hR.out.1 er rfl;obtain⟨k0,k1,⟨k2,k3,k4⟩,_⟩:=KF.out _ hF5;refine yF w5 wp.heap.size wn.heap.size _ rfl rfl rfl 0 er k2 k3 k4 (by omega) k0 k1 _ ?_;unfold Hid;rw[HCH.out];exact⟨fun er' h=>(by cases h;exact⟨rfl,(FX.out _ hF5).setCell ⟨wn.heap.size,0,none⟩ _ (fun h=>by have h:wn.heap.size < w.heap.size:=h;omega)⟩),fun _ _ h=>(by cases h)⟩
  | ok dm =>
   obtain⟨d',m⟩:=dm;obtain⟨rfl,hF5,L',hB5⟩:=hR.out.2 d' m rfl;clear hR;dsimp only
   go_wp2_with fail
   obtain⟨W0,hW0⟩:∃y,w5.drew=y:=⟨_,rfl⟩;have hs0:=aY hW0;have hF0:Fr (Up w2.heap.size X) w4 W0:=hF5.aT (hs0.up _ _);have hB0:=hB5.ay hs0;obtain⟨k0,k1,⟨k2,k3,k4⟩,⟨y0,y1,y2⟩⟩:=KF.out _ hF0;have b:=hB0.made.box;obtain⟨S0,hS0⟩:∃S0:World->Prop,∀w',S0 w'↔w'.heap[w3.heap.size]? = W0.heap[w3.heap.size]?:=⟨_,fun _=>Iff.rfl⟩;have cB:=aO w;have x0:∀y:aA S0,y.w.cell? ⟨w3.heap.size,0,none⟩=some (.slice (L' (0,0,0)).a d'.au.length (L' (0,0,0)).cap):=fun y=>(World.cell?_of_block (a:=⟨w3.heap.size,0,none⟩) ((hS0 _).1 y.h)).trans b.c0;have x1:∀y:aA S0,y.w.cell? ⟨w3.heap.size,1,none⟩=some (.slice (L' (1,0,0)).a d'.ah.length (L' (1,0,0)).cap):=fun y=>(World.cell?_of_block (a:=⟨w3.heap.size,1,none⟩) ((hS0 _).1 y.h)).trans b.c1;have x2:∀y:aA S0,y.w.cell? ⟨w3.heap.size,2,none⟩=some (.slice (L' (2,0,0)).a d'.aB.length (L' (2,0,0)).cap):=fun y=>(World.cell?_of_block (a:=⟨w3.heap.size,2,none⟩) ((hS0 _).1 y.h)).trans b.c2;have x3:∀y:aA S0,y.w.cell? ⟨w3.heap.size,3,none⟩=some (.int .i64 m):=fun y=>(World.cell?_of_block (a:=⟨w3.heap.size,3,none⟩) ((hS0 _).1 y.h)).trans hB0.cm;have aC:=(hS0 W0).2 rfl;have hne:Nonempty (aA S0):=⟨⟨_,aC⟩⟩;have WE:w2.heap.size<=w3.heap.size:=hS3.size;obtain⟨W1,P6⟩:∃y,((W0.setCell ⟨wp.heap.size,0,none⟩ (.slice (L' (0,0,0)).a d'.au.length (L' (0,0,0)).cap)).setCell ⟨wp.heap.size,1,none⟩ (.slice (L' (1,0,0)).a d'.ah.length (L' (1,0,0)).cap)).setCell ⟨wp.heap.size,2,none⟩ (.slice (L' (2,0,0)).a d'.aB.length (L' (2,0,0)).cap)=y:=⟨_,rfl⟩;have M4:Fr (fun i=>i=wp.heap.size) W0 W1:=by rw[<-P6];exact aS W0 wp.heap.size _ _ _
   have hl0:wn.heap.size < W0.heap.size:=by have:=hF0.size;omega
   have hl3:w3.heap.size < W0.heap.size:=b.lt;have xX:S0 W1:=(hS0 W1).2 (M4.block w3.heap.size hl3 (by omega));have m0:W1.cell? ⟨wp.heap.size,0,none⟩=some (.slice (L' (0,0,0)).a d'.au.length (L' (0,0,0)).cap):=by rw[<-P6];exact uw k2
   have m1:W1.cell? ⟨wp.heap.size,1,none⟩=some (.slice (L' (1,0,0)).a d'.ah.length (L' (1,0,0)).cap):=by rw[<-P6];exact uy k3
   have m2:W1.cell? ⟨wp.heap.size,2,none⟩=some (.slice (L' (2,0,0)).a d'.aB.length (L' (2,0,0)).cap):=by rw[<-P6];exact uD k4
   have m3:W1.cell? ⟨wn.heap.size,0,none⟩=some (.int .i64 0):=(M4.cell (p:=⟨wn.heap.size,0,none⟩) hl0 (by show ¬ wn.heap.size=_;omega)).trans k0;have m4:W1.frozen? ⟨wn.heap.size,0,none⟩=false:=(M4.frozen (p:=⟨wn.heap.size,0,none⟩) hl0 (by show ¬ wn.heap.size=_;omega)).trans k1;obtain⟨W2,Ug⟩:∃y,W1.setCell ⟨wn.heap.size,0,none⟩ (.int .i64 0)=y:=⟨_,rfl⟩;have OZ:Fr (fun i=>i=wn.heap.size) W1 W2:=by rw[<-Ug];exact(Fr.refl (fun i=>i=wn.heap.size) W1).setCell ⟨wn.heap.size,0,none⟩ _ (fun _=>rfl)
   have RG:wp.heap.size < W1.heap.size:=by have:=M4.size;omega
   have n0:=(OZ.cell (p:=⟨wp.heap.size,0,none⟩) RG (by show ¬ wp.heap.size=_;omega)).trans m0;have n1:=(OZ.cell (p:=⟨wp.heap.size,1,none⟩) RG (by show ¬ wp.heap.size=_;omega)).trans m1;have n2:=(OZ.cell (p:=⟨wp.heap.size,2,none⟩) RG (by show ¬ wp.heap.size=_;omega)).trans m2;have n3:W2.cell? ⟨wn.heap.size,0,none⟩=some (.int .i64 0):=by rw[<-Ug];exact gN _ _ _ _ m3
   have hOf:bG w.heap.size W2 d' L':=by
    have h0:=hB0.made.own.fr M4 (fun i hi e=>by have:=(hB0.made.own.blk hi).1;omega);have h1:=h0.fr OZ (fun i hi e=>by have:=(h0.blk hi).1;omega);exact h1.mono hww
   have hFf:Fr X w W2:=by
    have h0:=FX.out _ hF0;have h1:=h0.trans M4 (fun _ _ h=>h) (D:=X) (fun i hi e=>by have e:i=wp.heap.size:=e;omega);exact h1.trans OZ (fun _ _ h=>h) (fun i hi e=>by have e:i=wn.heap.size:=e;omega)
   refine M0 ?_;refine aW (fun w'=>∃x:aA S0,w'=x.w) (by kernel_rfl) ?_;rw[hW0];clear hW0;refine sS 0 rfl (by kernel_rfl) (fun _ _ _ _ h=>nomatch h.1) (by rfl) rfl ?_;go_big_quiet_op;refine sS 1 rfl (by kernel_rfl) (fun _ _ _ _ h=>nomatch h.1) (by rfl) rfl ?_;go_big_quiet_op;refine sS 2 rfl (by kernel_rfl) (fun _ _ _ _ h=>nomatch h.1) (by rfl) rfl ?_;go_big_quiet_op;refine FN 3 rfl (by kernel_rfl) (aj aC) (fun _ _ _ _ h=>nomatch h.1) (by rfl) rfl ?_;go_big_quiet_op;refine sS 4 rfl (by kernel_rfl) (fun _ _ _ _ h=>nomatch h.1) (by rfl) rfl ?_;go_big_quiet_op;refine sS 5 rfl (by kernel_rfl) (fun _ _ _ _ h=>nomatch h.1) (by rfl) rfl ?_;go_big_quiet_op;refine sS 6 rfl (by kernel_rfl) (fun _ _ _ _ h=>nomatch h.1) (by rfl) rfl ?_;go_big_quiet_op;refine FN 7 rfl (by kernel_rfl) (aj aC) (fun _ _ _ _ h=>nomatch h.1) (by rfl) rfl ?_;go_big_quiet_op;refine aV 8 rfl (by kernel_rfl) ?_;intro K hK;go_simp;refine hK _ _ (fun _ _=>aj xX) ?_;clear hK K;refine sS 9 rfl (by kernel_rfl) (fun _ _ _ _ h=>nomatch h.1) (by rfl) rfl ?_;go_big_quiet_op;refine aV 10 rfl (by kernel_rfl) ?_;intro K hK;go_simp;refine hK _ _ (fun h=>absurd h (by decide +kernel)) ?_;clear hK K;refine bE (by kernel_rfl) ⟨rfl, ?_⟩;clear x0 x1 x2 x3 hne cB
   go_wp2_with fail
   refine Fx W2 wp.heap.size wn.heap.size _ m _ _ _ rfl rfl rfl rfl rfl rfl n0 n1 n2 n3 _ ?_;unfold Hid;rw[HCH.out];exact⟨fun _ h=>(by cases h),fun _ _ h=>(by cases h;exact⟨L',rfl,hOf,hFf⟩)⟩
end Go.Proofs.YtediempflagfkaaGreatDoor
