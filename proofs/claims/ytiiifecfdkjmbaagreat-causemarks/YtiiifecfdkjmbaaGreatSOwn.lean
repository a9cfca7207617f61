/- Lemmas. -/
import Derived.Deep.DeepCutAuto
import Derived.Test.YtiiifecfdkjmbaaGreatRegM
import Derived.Test.YtiiifecfdkjmbaaGreatSOwnX
set_option maxHeartbeats 1000000
namespace Go.Proofs.YtiiifecfdkjmbaaGreat
open _root_.Go.Proofs.Tryz hiding checked
set_option maxRecDepth 8000
open Go.RowKit Go.Shelf
open Pu
set_option linter.unusedVariables false
set_option linter.unusedSimpArgs false
def Ew (gsl nsl:Sl):Lay:=fun ix=>if ix=(0,0,0) then gsl else if ix=(1,0,0) then nsl else ⟨none,0⟩
theorem vV {lo:Nat} {W:World} {p:Nat} {gs:List Int} {ns:List Nd} {H:Nat->Hd} {gsl nsl:Sl} (hB:aD W p) (hG:Row W lo 1 gsl gs.length (gs.map kR)) (hN:Row W lo 4 nsl ns.length (gy ns H)) (hg:gs.length<=1000)
  (hgp:gsl.blk≠some p) (hnp:nsl.blk≠some p) (hgn:∀ b,gsl.blk=some b->nsl.blk≠some b) :
  tY lo (((W.setCell ⟨p,0,none⟩ (gsl.v gs.length)).setCell ⟨p,1,none⟩ (nsl.v ns.length)).setCell ⟨p,2,none⟩ (.slice none 0 0)) p gs ns H nsl 0 (Ew gsl nsl):=by
 obtain ⟨lt,c0,c1,c2,z0,z1,z2⟩:=hB;obtain ⟨W',hW'⟩:∃ W',((W.setCell ⟨p,0,none⟩ (gsl.v gs.length)).setCell ⟨p,1,none⟩ (nsl.v ns.length)).setCell ⟨p,2,none⟩ (.slice none 0 0)=W':=⟨_,rfl⟩
 have hF:Fr (fun i=>i=p) W W':=by
  rw [<-hW'];exact dN W p _ _ _
 have hG':=hG.fr hF (fun b hb e=>hgp (e ▸ hb));have hN':=hN.fr hF (fun b hb e=>hnp (e ▸ hb));have hO:bE lo W' ⟨gs,[],[]⟩ (Ew gsl nsl):=bE.R7 hG' hg (by simpa using hN'.take 0 (Nat.zero_le _)) hgn;have e0:Ew gsl nsl (0,0,0)=gsl:=rfl;have e1:Ew gsl nsl (1,0,0)=nsl:=rfl;rw [hW'];refine ⟨by rw [List.take_zero];exact hO,e1,rfl, ?_,zQ4 lt hF.size, ?_, ?_, ?_, ?_, ?_, ?_, ?_⟩
 ·rw [Nat.zero_mul,List.drop_zero,List.take_zero];exact hN'
 ·rw [e0,<-hW'];exact pI c0
 ·rw [<-hW'];exact pJ c1
 ·rw [<-hW'];exact pK c2
 ·rw [<-hW'];exact (gT _ _ _ _ _ _).trans z0
 ·rw [<-hW'];exact (gT _ _ _ _ _ _).trans z1
 ·rw [<-hW'];exact (gT _ _ _ _ _ _).trans z2
 ·rw [List.take_zero];rintro ⟨⟨t,i,j⟩,hok,hb⟩;unfold Ew at hb;split at hb
  ·exact hgp hb
  ·split at hb
   ·exact hnp hb
   ·cases hb
theorem tY.made {lo:Nat} {w:World} {p:Nat} {gs:List Int} {ns:List Nd} {H:Nat->Hd} {nsl:Sl} {L:Lay} (h:tY lo w p gs ns H nsl ns.length L):cu lo w p ⟨gs,ns,[]⟩ L:=by
 have ho:=h.own;have hf:=h.off;rw [List.take_length] at ho hf;exact ⟨ho,⟨h.lt,h.c0,by rw [h.l1];exact h.c1,by rw [h.l2];exact h.c2,h.z0,h.z1,h.z2⟩,hf⟩
theorem vW {w1 W:World} {p:Nat} (hS:Since w1 W) (hp:w1.heap.size<=p) (a b c:Value):Since w1 (((W.setCell ⟨p,0,none⟩ a).setCell ⟨p,1,none⟩ b).setCell ⟨p,2,none⟩ c):=by
 exact (dN W p a b c).aC hS (fun i hi e=>by omega)
theorem Jr (x:WV) (d:Wd) (w:World) (hW:WAt w x d) (hs:Iz d) :
  Calls prog 150 #[.agg #[.slice x.ga x.gl x.gc,.slice x.na x.nl x.nc,.slice x.wa x.wl x.wc]] w fun e w'=>∃ L,e=.returned (aS L d)/\bE w.heap.size w' d L/\Since w w':=by
 have s0:d.groups.length<=100:=hs (0,0,0) ⟨rfl,rfl⟩;have s1:d.nodes.length<=100:=hs (1,0,0) ⟨rfl,rfl⟩;have s2:d.wires.length<=100:=hs (2,0,0) ⟨rfl,rfl⟩;obtain ⟨ga,gl,gc,na,nl,nc,wa,wl,wc⟩:=x;have hgl:=hW.g.hlen;have hnl:=hW.n.hlen;have hwl:=hW.r.hlen;dsimp only at hgl hnl hwl ⊢;subst hgl hnl hwl;obtain ⟨wp,hwp⟩:∃ wp,w.alloc (.cells #[.slice ga d.groups.length gc,.slice na d.nodes.length nc,.slice wa d.wires.length wc] 26)=wp:=⟨_,rfl⟩;have hPp:aO wp w.heap.size ⟨ga,d.groups.length,gc,na,d.nodes.length,nc,wa,d.wires.length,wc⟩:=by rw [<-hwp];exact aO.new w ⟨ga,d.groups.length,gc,na,d.nodes.length,nc,wa,d.wires.length,wc⟩ _
 have hSp:=ay hwp;obtain ⟨w1,hw1⟩:∃ w1,wp.alloc (.cells #[.slice none 0 0,.slice none 0 0,.slice none 0 0] 26)=w1:=⟨_,rfl⟩;have hNB:aD w1 wp.heap.size:=by rw [<-hw1];exact aD.new wp _
 have cO:=ay hw1;have hP1:=hPp.since cO;have hS1:=hSp.trans cO;have hW1:=hW.since hS1;have PF:Hid (∀ y,Since w1 y->aO y w.heap.size ⟨ga,d.groups.length,gc,na,d.nodes.length,nc,wa,d.wires.length,wc⟩):=fun y hy=>hP1.since hy;have hG1:=hW1.g;have hR1:=hW1.r;obtain ⟨H,hH,hraw⟩:=LU hW1.n;dsimp only at hG1 hR1 hraw;have UF:Hid (0 < d.nodes.length->∃ b off,na=some ⟨b,off,none⟩/\b < w1.heap.size/\∀ j u,(gy d.nodes H)[j]? = some u->w1.cell? ⟨b,off+j,none⟩=some u):=hraw;clear hraw hW
 have hCN:Hid (∀ y,Since w1 y->Calls prog 188 #[.slice na d.nodes.length nc] y fun e w'=>∃ s:Sl,e=.returned (s.v d.nodes.length)/\Row w' y.heap.size 4 s d.nodes.length (gy d.nodes H)/\Since y w'):=fun y hy =>
  Bt na d.nodes.length nc d.nodes H y rfl (by omega) (hH.since hy) (fun h=>by
   obtain ⟨b,off,e,hb,hc⟩:=UF.out h;exact ⟨b,off,e,zQ4 hb hy.size,fun j u hj=>(hy.cellAt hb _).trans (hc j u hj)⟩)
 have hCG:Hid (∀ y,Since w1 y->Calls prog 164 #[.slice ga d.groups.length gc] y fun e w'=>∃ s:Sl,e=.returned (s.v d.groups.length)/\Row w' y.heap.size 1 s d.groups.length (d.groups.map kR)/\Since y w'):=fun y hy =>
  pO ga d.groups.length gc d.groups y (hG1.since hy) (by omega)
 have p0:=hP1.c0;have p1:=hP1.c1;have p2:=hP1.c2;dsimp only at p0 p1 p2
 go_enter func150,ntmps150
 go_upto_region 1 with fail
 go_cut [3] (fun s3 wx=>∃ (p:Nat) (gsl nsl:Sl),s3=.pointer (some ⟨p,0,none⟩)/\w1.heap.size<=p/\tY w1.heap.size wx p d.groups d.nodes H nsl 0 (Ew gsl nsl)/\Since w1 wx)
 case first =>
  clear hw1 hwp;obtain ⟨S0,hS0⟩:∃ S0:World->Prop,∀ w',S0 w'↔Since w1 w':=⟨_,fun _=>Iff.rfl⟩;have dH:=aI w;have x0:∀ y:ak S0,y.w.cell? ⟨w.heap.size,0,none⟩=some (.slice ga d.groups.length gc):=fun y=>(PF.out _ ((hS0 _).1 y.h)).c0;have x1:∀ y:ak S0,y.w.cell? ⟨w.heap.size,1,none⟩=some (.slice na d.nodes.length nc):=fun y=>(PF.out _ ((hS0 _).1 y.h)).c1;obtain ⟨W0,hW0⟩:∃ y,w1.drew=y:=⟨_,rfl⟩;have hs0:=aQ hW0;have au:=(hS0 W0).2 hs0;have hne:Nonempty (ak S0):=⟨⟨_,au⟩⟩;refine aK (fun w'=>∃ x:ak S0,w'=x.w) (by kernel_rfl) ?_;rw [hW0];clear hW0;refine tW 0 rfl ?_;go_big_quiet_op;refine tM 1 rfl (aj au) ?_;go_big_quiet_op;refine tW 3 rfl ?_;go_big_quiet_op;refine tM 4 rfl (aj au) ?_;go_big_quiet_op;refine rP 2 7 rfl rfl (by kernel_rfl) ?_ ?_
  ·intro K hK;go_simp;refine (hCG.out W0 hs0).mono ?_;rintro e wA ⟨gsl,rfl,hRg,hSA⟩;obtain ⟨ga',gc'⟩:=gsl;dsimp only [Sl.v];have hsA:=hs0.trans hSA;have D7:=(hS0 _).2 hsA;refine hK _ _ (fun _ _=>aj D7) ?_;clear hK K;obtain ⟨wT,hwT⟩:∃ y,wA.alloc (.cells #[.slice none 0 0,.slice none 0 0,.slice none 0 0] 26)=y:=⟨_,rfl⟩;have hST:=ay hwT;have hBT:aD wT wA.heap.size:=by rw [<-hwT];exact aD.new wA _
   refine rP 5 7 rfl rfl (by kernel_rfl) ?_ ?_
   ·intro K hK;go_simp;refine (hCN.out wA hsA).mono ?_;rintro e wB ⟨nsl,rfl,hRn,hSB⟩;obtain ⟨na',nc'⟩:=nsl;dsimp only [Sl.v];have hsB:=hsA.trans hSB;refine hK _ _ (fun _ _=>aj ((hS0 _).2 hsB)) ?_;clear hK K hwT hST hBT wT;obtain ⟨wC,hwC⟩:∃ y,wB.alloc (.cells #[.slice none 0 0,.slice none 0 0,.slice none 0 0] 26)=y:=⟨_,rfl⟩;have hSC:=ay hwC;have hBC:aD wC wB.heap.size:=by rw [<-hwC];exact aD.new wB _
    refine tW 6 rfl ?_;go_big_quiet_op;refine aR 7 rfl (by kernel_rfl) ?_;intro K hK;go_simp;refine hK _ _ (fun _ _=>aj ((hS0 _).2 (hsB.trans hSC))) ?_;clear hK K;have hps:=vV (gsl:=⟨ga',gc'⟩) (nsl:=⟨na',nc'⟩) (H:=H) (gs:=d.groups) (ns:=d.nodes) (lo:=w1.heap.size) hBC (((hRg.since hSB).since hSC).mono hs0.size) ((hRn.since hSC).mono hsA.size) (by omega) (fun e=>by have:=(hRg.dJ e).2.2.1;have:=hSB.size;omega) (fun e=>by have:=(hRn.dJ e).2.2.1;omega) (fun b e e2=>by have:=(hRg.dJ e).2.2.1;have:=hRn.iX b e2;omega);have hss:=vW (hsB.trans hSC) hsB.size (.slice ga' d.groups.length gc') (.slice na' d.nodes.length nc') (.slice none 0 0);dsimp only [Sl.v] at hps;have oo:Hid (tY w1.heap.size _ wB.heap.size d.groups d.nodes H ⟨na',nc'⟩ 0 (Ew ⟨ga',gc'⟩ ⟨na',nc'⟩)/\Since w1 _):=⟨hps,hss⟩;clear hps hss;obtain ⟨lt,c0,c1,c2,z0,z1,z2⟩:=hBC;refine aR 8 rfl (by kernel_rfl) ?_;intro K hK;go_simp;refine hK _ _ (fun h=>absurd h (by decide +kernel)) ?_;clear hK K;refine bH (by kernel_rfl) ?_;clear x0 x1 hne dH
    go_wp2_with fail
    go_meet
    case rel =>
     exact ⟨wB.heap.size,⟨ga',gc'⟩,⟨na',nc'⟩,rfl,hsB.size,oo.out.1,oo.out.2⟩
   ·intro K hK;go_simp;have hsT:=hsA.trans hST;refine hK _ _ (fun _ _=>aj ((hS0 _).2 hsT)) ?_;clear hK K;refine aR 5 rfl (by kernel_rfl) ?_;intro K hK;go_simp;refine (hCN.out wT hsT).mono ?_;rintro e wB ⟨nsl,rfl,hRn,hSB⟩;obtain ⟨na',nc'⟩:=nsl;dsimp only [Sl.v];have hsB:=hsT.trans hSB;refine hK _ _ (fun _ _=>aj ((hS0 _).2 hsB)) ?_;clear hK K;refine tW 6 rfl ?_;go_big_quiet_op;have hps:=vV (gsl:=⟨ga',gc'⟩) (nsl:=⟨na',nc'⟩) (H:=H) (gs:=d.groups) (ns:=d.nodes) (lo:=w1.heap.size) (hBT.since hSB) (((hRg.since hST).since hSB).mono hs0.size) (hRn.mono hsT.size) (by omega) (fun e=>by have:=(hRg.dJ e).2.2.1;omega) (fun e=>by have:=hRn.iX _ e;have:=hBT.lt;omega) (fun b e e2=>by have:=(hRg.dJ e).2.2.1;have:=hRn.iX b e2;have:=hST.size;omega);have hss:=vW hsB hsA.size (.slice ga' d.groups.length gc') (.slice na' d.nodes.length nc') (.slice none 0 0);dsimp only [Sl.v] at hps;have oo:Hid (tY w1.heap.size _ wA.heap.size d.groups d.nodes H ⟨na',nc'⟩ 0 (Ew ⟨ga',gc'⟩ ⟨na',nc'⟩)/\Since w1 _):=⟨hps,hss⟩;clear hps hss;obtain ⟨lt,c0,c1,c2,z0,z1,z2⟩:=hBT.since hSB;refine aR 8 rfl (by kernel_rfl) ?_;intro K hK;go_simp;refine hK _ _ (fun h=>absurd h (by decide +kernel)) ?_;clear hK K;refine bH (by kernel_rfl) ?_;clear x0 x1 hne dH
    go_wp2_with fail
    go_meet
    case rel =>
     exact ⟨wA.heap.size,⟨ga',gc'⟩,⟨na',nc'⟩,rfl,hsA.size,oo.out.1,oo.out.2⟩
  ·obtain ⟨wT,hwT⟩:∃ y,W0.alloc (.cells #[.slice none 0 0,.slice none 0 0,.slice none 0 0] 26)=y:=⟨_,rfl⟩;have hST:=ay hwT;have hBT:aD wT W0.heap.size:=by rw [<-hwT];exact aD.new W0 _
   intro K hK;go_simp;have hsT:=hs0.trans hST;refine hK _ _ (fun _ _=>aj ((hS0 _).2 hsT)) ?_;clear hK K;refine aR 2 rfl (by kernel_rfl) ?_;intro K hK;go_simp;refine (hCG.out wT hsT).mono ?_;rintro e wA ⟨gsl,rfl,hRg,hSA⟩;obtain ⟨ga',gc'⟩:=gsl;dsimp only [Sl.v];have hsA:=hsT.trans hSA;refine hK _ _ (fun _ _=>aj ((hS0 _).2 hsA)) ?_;clear hK K;refine aR 5 rfl (by kernel_rfl) ?_;intro K hK;go_simp;refine (hCN.out wA hsA).mono ?_;rintro e wB ⟨nsl,rfl,hRn,hSB⟩;obtain ⟨na',nc'⟩:=nsl;dsimp only [Sl.v];have hsB:=hsA.trans hSB;refine hK _ _ (fun _ _=>aj ((hS0 _).2 hsB)) ?_;clear hK K;refine tW 6 rfl ?_;go_big_quiet_op;have hps:=vV (gsl:=⟨ga',gc'⟩) (nsl:=⟨na',nc'⟩) (H:=H) (gs:=d.groups) (ns:=d.nodes) (lo:=w1.heap.size) (hBT.since (hSA.trans hSB)) ((hRg.since hSB).mono hsT.size) (hRn.mono hsA.size) (by omega) (fun e=>by have:=hRg.iX _ e;have:=hBT.lt;omega) (fun e=>by have:=hRn.iX _ e;have:=hBT.lt;have:=hSA.size;omega) (fun b e e2=>by have:=(hRg.dJ e).2.2.1;have:=hRn.iX b e2;omega);have hss:=vW hsB hs0.size (.slice ga' d.groups.length gc') (.slice na' d.nodes.length nc') (.slice none 0 0);dsimp only [Sl.v] at hps;have oo:Hid (tY w1.heap.size _ W0.heap.size d.groups d.nodes H ⟨na',nc'⟩ 0 (Ew ⟨ga',gc'⟩ ⟨na',nc'⟩)/\Since w1 _):=⟨hps,hss⟩;clear hps hss;obtain ⟨lt,c0,c1,c2,z0,z1,z2⟩:=hBT.since (hSA.trans hSB);refine aR 8 rfl (by kernel_rfl) ?_;intro K hK;go_simp;refine hK _ _ (fun h=>absurd h (by decide +kernel)) ?_;clear hK K;refine bH (by kernel_rfl) ?_;clear x0 x1 hne dH
   go_wp2_with fail
   go_meet
   case rel =>
    exact ⟨W0.heap.size,⟨ga',gc'⟩,⟨na',nc'⟩,rfl,hs0.size,oo.out.1,oo.out.2⟩
 obtain ⟨p,gsl,nsl,rfl,hp1,R8,hSc⟩:=hcut;obtain ⟨na',nc'⟩:=nsl;clear hCG hCN UF hw1 hwp p0 p1 p2;have hq1:=R8.c1;dsimp only at hq1
 go_wp2_with fail
 go_loopw [18] (fun i wr=>∃ (k:Nat) (L:Lay),k<=d.nodes.length/\i=.int .i64 k/\tY w1.heap.size wr p d.groups d.nodes H ⟨na',nc'⟩ k L/\Since w1 wr) (fun i _=>d.nodes.length - (intOf i).toNat)
 case atStart=>exact ⟨0,_,Nat.zero_le _,rfl,R8,hSc⟩
 case round =>
  clear R8 hSc hq1;obtain ⟨wo,rfl⟩:∃ wo,wo=wr:=⟨_,rfl⟩;obtain ⟨k,L,hk,rfl,hPN,hSr⟩:=hrel;by_cases hlt:k < d.nodes.length
  ·obtain ⟨nd,hnd⟩:∃ nd,d.nodes[k]? = some nd:=⟨_,zQ1 hlt⟩;have hcap:=hPN.full.cap;dsimp only at hcap;obtain ⟨b,off,e,hbl,hbs,hall,hcell⟩:=hPN.full.body (by show 0 < nc';omega);dsimp only at e hall;subst e;have q1:=hPN.c1;dsimp only at q1;have n1:(k:Int) < (d.nodes.length:Int):=by omega
   obtain ⟨hL,hHd,hTd⟩:=(hH.since hSr) k nd hnd;obtain ⟨la,lc,eL,hlc,hLs⟩:=hL;obtain ⟨ha,hc,eH,hhc,hHs⟩:=hHd;obtain ⟨ta,tc,eT,htc,hTs⟩:=hTd;obtain ⟨A,hA⟩:∃ A,dM ⟨d.groups,d.nodes.take k,[]⟩ L (1,0,0)=A:=⟨_,rfl⟩;have hlen:(d.nodes.take k).length=k:=by rw [List.length_take];omega
   have hAl:A.length=k*4:=by
    have:Row wo w1.heap.size 4 (L (1,0,0)) (d.nodes.take k).length (dM ⟨d.groups,d.nodes.take k,[]⟩ L (1,0,0)):=hPN.own.row (1,0,0) ⟨rfl,rfl⟩;have:=this.len;rw [hA,hlen] at this;exact this
   have hrd:∀ j u,(iJ d.nodes H k)[j]? = some u->wo.cell? ⟨b,off+k*4+j,none⟩=some u:=by
    intro j u hj;have hj4:j < 4:=by have:=(zQ2.1 hj).1;simpa [iJ] using this
    have:=hcell (k*4+j) u (by
     rw [hA,List.getElem?_append_right (by omega),hAl,show k*4+j - k*4=j from by omega,GX hlt,List.getElem?_append_left (by simpa [iJ] using hj4)];exact hj)
    rw [<-Nat.add_assoc] at this;exact this
   have j1:wo.cell? ⟨b,off+k*4+1,none⟩=some (.slice la nd.last.length lc):=hrd 1 _ (by unfold iJ;rw [eL];rfl);have j2:wo.cell? ⟨b,off+k*4+2,none⟩=some (.slice ha nd.held.length hc):=hrd 2 _ (by unfold iJ;rw [eH];rfl);have j3:wo.cell? ⟨b,off+k*4+3,none⟩=some (.slice ta nd.told.length tc):=hrd 3 _ (by unfold iJ;rw [eT];rfl)
   have hz:∀ j,j < 4->wo.frozen? ⟨b,off+k*4+j,none⟩=false:=fun j hj=>by
    have:=(hall (k*4+j) (by omega)).2;rw [<-Nat.add_assoc] at this;exact this
   have sN:xq nd:=by
    have l0:(aT d k).last.length<=100:=hs (3,k,0) ⟨hlt,rfl⟩;have h0:(aT d k).held.length<=100:=hs (5,k,0) ⟨hlt,rfl⟩;have t0:(aT d k).told.length<=100:=hs (6,k,0) ⟨hlt,rfl⟩;rw [bK hnd] at l0 h0 t0;refine ⟨by omega,fun i r hr=>?_,by omega,by omega⟩;have:(eZ d k i).length<=100:=hs (4,k,i) ⟨hlt,by rw [bK hnd];exact (zQ2.1 hr).1⟩;unfold eZ at this;rw [bK hnd,hr] at this;exact zQ5 this (by omega)
   have HND:Hid (d.nodes[k]? = some nd):=hnd;clear hnd hA hAl hlen hrd hcell hall eL eH eT
   go_upto_region 6 with fail
   obtain ⟨S0,hS0⟩:∃ S0:World->Prop,∀ w',S0 w'↔Since wo w':=⟨_,fun _=>Iff.rfl⟩;have dH:=aI w;have x1:∀ y:ak S0,y.w.cell? ⟨b,off+k*4+1,none⟩=some (.slice la nd.last.length lc):=fun y=>(((hS0 _).1 y.h).cellAt hbs _).trans j1;have x2:∀ y:ak S0,y.w.cell? ⟨b,off+k*4+2,none⟩=some (.slice ha nd.held.length hc):=fun y=>(((hS0 _).1 y.h).cellAt hbs _).trans j2;have x3:∀ y:ak S0,y.w.cell? ⟨b,off+k*4+3,none⟩=some (.slice ta nd.told.length tc):=fun y=>(((hS0 _).1 y.h).cellAt hbs _).trans j3;obtain ⟨W0,hW0⟩:∃ y,wo.drew=y:=⟨_,rfl⟩;have hs0:=aQ hW0;have au:=(hS0 W0).2 hs0;have hne:Nonempty (ak S0):=⟨⟨_,au⟩⟩;refine aK (fun w'=>∃ x:ak S0,w'=x.w) (by kernel_rfl) ?_;rw [hW0];clear hW0;refine tW 0 rfl ?_;go_big_quiet_op;refine tW 1 rfl ?_;go_big_quiet_op;refine tW 2 rfl ?_;go_big_quiet_op;refine tW 3 rfl ?_;go_big_quiet_op;refine tW 4 rfl ?_;go_big_quiet_op;refine tW 5 rfl ?_;go_big_quiet_op;refine tM 6 rfl (aj au) ?_;go_big_quiet_op;refine tW 8 rfl ?_;go_big_quiet_op;refine tW 9 rfl ?_;go_big_quiet_op;refine tW 10 rfl ?_;go_big_quiet_op;refine tM 11 rfl (aj au) ?_;go_big_quiet_op;refine tW 13 rfl ?_;go_big_quiet_op;refine tW 14 rfl ?_;go_big_quiet_op;refine tW 15 rfl ?_;go_big_quiet_op;refine tM 16 rfl (aj au) ?_;go_big_quiet_op;refine aR 7 rfl (by kernel_rfl) ?_;intro K hK;go_simp;refine (Bu la lc nd.last W0 (hLs.since kW hs0) sN.1 sN.2.1).mono ?_;rintro e wA ⟨⟨sa,sc⟩,rs,rfl,hLL,hSA⟩;dsimp only [Sl.v];have hsA:=hs0.trans hSA;refine hK _ _ (fun _ _=>aj ((hS0 _).2 hsA)) ?_;clear hK K;refine aR 12 rfl (by kernel_rfl) ?_;intro K hK;go_simp;refine (qd ha _ hc nd.held wA (hHs.since hsA) sN.2.2.1).mono ?_;rintro e wB ⟨⟨hA',hC'⟩,rfl,hRh,hSB⟩;dsimp only [Sl.v];have hsB:=hsA.trans hSB;refine hK _ _ (fun _ _=>aj ((hS0 _).2 hsB)) ?_;clear hK K;refine aR 17 rfl (by kernel_rfl) ?_;intro K hK;go_simp;refine (qd ta _ tc nd.told wB (hTs.since hsB) sN.2.2.2).mono ?_;rintro e wC ⟨⟨tA',tC'⟩,rfl,hRt,hSC⟩;dsimp only [Sl.v];have hsC:=hsB.trans hSC;refine hK _ _ (fun h=>absurd h (by decide +kernel)) ?_;clear hK K;have y1:=(hsC.cellAt hbs _).trans j1;have y2:=(hsC.cellAt hbs _).trans j2;have y3:=(hsC.cellAt hbs _).trans j3;have v1:=(hsC.below.frozen (p:=⟨b,off+k*4+1,none⟩) hbs).trans (hz 1 (by omega));have v2:=(hsC.below.frozen (p:=⟨b,off+k*4+2,none⟩) hbs).trans (hz 2 (by omega));have v3:=(hsC.below.frozen (p:=⟨b,off+k*4+3,none⟩) hbs).trans (hz 3 (by omega))
   have hNd:nN wo.heap.size wC nd ⟨sa,sc⟩ rs ⟨hA',hC'⟩ ⟨tA',tC'⟩ :=
    ⟨((hLL.since hSB).since hSC).mono hs0.size,(hRh.since hSC).mono hsA.size,hRt.mono hsB.size,fun b e=>⟨fun hb=>by have:=hRh.iX b e;have:=(hLL.blk hb).2;omega,fun e2=>by have:=(hRh.dJ e).2.2.1;have:=hRt.iX b e2;omega⟩,fun b e hb=>by have:=hRt.iX b e;have:=(hLL.blk hb).2;have:=hSB.size;omega⟩
   have hstep:=hPN.step HND.out hsC hNd hSr.size sN (by omega) rfl;dsimp only [Sl.v] at hstep
   have hSf:Since w1 (((wC.setCell ⟨b,off+k*4+1,none⟩ (.slice sa nd.last.length sc)).setCell ⟨b,off+k*4+2,none⟩ (.slice hA' nd.held.length hC')).setCell ⟨b,off+k*4+3,none⟩ (.slice tA' nd.told.length tC')):=by
    have hF:Fr (fun i=>i=b) wC (((wC.setCell ⟨b,off+k*4+1,none⟩ (.slice sa nd.last.length sc)).setCell ⟨b,off+k*4+2,none⟩ (.slice hA' nd.held.length hC')).setCell ⟨b,off+k*4+3,none⟩ (.slice tA' nd.told.length tC')):=(((Fr.refl (fun i=>i=b) wC).setCell ⟨b,off+k*4+1,none⟩ _ (fun _=>rfl)).setCell ⟨b,off+k*4+2,none⟩ _ (fun _=>rfl)).setCell ⟨b,off+k*4+3,none⟩ _ (fun _=>rfl);exact hF.aC (hSr.trans hsC) (fun i hi e=>by omega)
   clear x1 x2 x3 hne;refine tW 18 rfl ?_;go_big_quiet_op;refine tW 19 rfl ?_;go_big_quiet_op;refine aR 20 rfl (by kernel_rfl) ?_;intro K hK;go_simp;refine hK _ _ (fun h=>absurd h (by decide +kernel)) ?_;clear hK K;refine tW 21 rfl ?_;go_big_quiet_op;refine tW 22 rfl ?_;go_big_quiet_op;refine aR 23 rfl (by kernel_rfl) ?_;intro K hK;go_simp;refine hK _ _ (fun h=>absurd h (by decide +kernel)) ?_;clear hK K;refine tW 24 rfl ?_;go_big_quiet_op;refine tW 25 rfl ?_;go_big_quiet_op;refine aR 26 rfl (by kernel_rfl) ?_;intro K hK;go_simp;refine hK _ _ (fun h=>absurd h (by decide +kernel)) ?_;clear hK K;refine bH (by kernel_rfl) ?_;clear dH
   go_wp2
   go_roundw
   case rel=>exact ⟨k+1,_,by omega,by go_num,hstep,hSf⟩
   case measure=>simp [intOf];omega
  ·obtain rfl:k=d.nodes.length:=by omega
   have hM:=hPN.made;have p2:=(PF.out _ hSr).c2;dsimp only at p2;clear hPN
   go_wp2_with fail
   go_loopw [53] (fun i wr=>∃ (k:Nat) (L:Lay),k<=d.wires.length/\i=.int .i64 k/\cu w1.heap.size wr p ⟨d.groups,d.nodes,d.wires.take k⟩ L/\Since w1 wr) (fun i _=>d.wires.length - (intOf i).toNat)
   case atStart=>exact ⟨0,_,Nat.zero_le _,rfl,by simpa using hM,hSr⟩
   case round =>
    clear hM hSr p2;obtain ⟨wq,rfl⟩:∃ wq,wq=wr:=⟨_,rfl⟩;obtain ⟨k,L,hk,rfl,hM,hSr⟩:=hrel;by_cases hlt:k < d.wires.length
    ·obtain ⟨rw0,hrw⟩:∃ r,d.wires[k]? = some r:=⟨_,zQ1 hlt⟩;obtain ⟨bw,ow,rfl,hbw,hcw⟩:=hR1.cells (by omega);obtain ⟨v1,k1,ra,rc,rfl,hrc,hRR⟩:=hcw k rw0 hrw;have j1:=(hSr.cellAt hbw _).trans k1;have n1:(k:Int) < (d.wires.length:Int):=by omega
     have sR:rw0.length<=100:=by have:(rowAt d k).length<=100:=hs (7,k,0) ⟨hlt,rfl⟩;rw [dI hrw] at this;exact this
     have sW:∀ (i:Nat) (r:List Mg),rw0[i]? = some r->r.length<=1000:=fun i r hr=>by
      have:(gD d k i).length<=100:=hs (8,k,i) ⟨hlt,by rw [dI hrw];exact (zQ2.1 hr).1⟩;rw [DI hrw hr] at this;omega
     have HRW:Hid (d.wires[k]? = some rw0):=hrw;have mG:(d.wires.take k).length=k:=by rw [List.length_take];omega
     obtain ⟨na3,nc3,hL1⟩:∃ na nc,L (2,0,0)=⟨na,nc⟩:=⟨_,_,rfl⟩;have b1:wq.cell? ⟨p,2,none⟩=some (.slice na3 k nc3):=by have:=hM.box.c2;rw [hL1] at this;dsimp only at this;rw [mG] at this;exact this
     have hpi:=hM.box.lt
     have hRn:Row wq w1.heap.size 1 ⟨na3,nc3⟩ k (dM ⟨d.groups,d.nodes,d.wires.take k⟩ L (2,0,0)):=by
      have:Row wq w1.heap.size 1 (L (2,0,0)) (d.wires.take k).length (dM ⟨d.groups,d.nodes,d.wires.take k⟩ L (2,0,0)):=hM.own.row (2,0,0) ⟨rfl,rfl⟩;rw [hL1,mG] at this;exact this
     clear hcw k1 hrw
     go_upto_region 11 with fail
     obtain ⟨S0,hS0⟩:∃ S0:World->Prop,∀ w',S0 w'↔Since wq w':=⟨_,fun _=>Iff.rfl⟩;have dH:=aI w;have x1:∀ y:ak S0,y.w.cell? ⟨p,2,none⟩=some (.slice na3 k nc3):=fun y=>(((hS0 _).1 y.h).cellAt hpi _).trans b1;obtain ⟨W0,hW0⟩:∃ y,wq.drew=y:=⟨_,rfl⟩;have hs0:=aQ hW0;have au:=(hS0 W0).2 hs0;have hne:Nonempty (ak S0):=⟨⟨_,au⟩⟩;refine aK (fun w'=>∃ x:ak S0,w'=x.w) (by kernel_rfl) ?_;rw [hW0];clear hW0;refine tW 0 rfl ?_;go_big_quiet_op;refine tM 1 rfl (aj au) ?_;go_big_quiet_op;refine tW 2 rfl ?_;go_big_quiet_op;refine aR 3 rfl (by kernel_rfl) ?_;intro K hK;go_simp;refine (Bv ra rc rw0 W0 (hRR.since jT (hSr.trans hs0)) (by omega) sW).mono ?_;rintro e wA ⟨⟨sa,sc⟩,rs,rfl,hLL,hSA⟩;dsimp only [Sl.v];have hsA:=hs0.trans hSA;refine hK _ _ (fun _ _=>aj ((hS0 _).2 hsA)) ?_;clear hK K;obtain ⟨V,hV⟩:∃ y,wA.alloc (.cells #[.slice sa rw0.length sc] 40)=y:=⟨_,rfl⟩;have hSV:=ay hV;have hsrc:=fM (size:=1) (T:=40) (w:=wA) oF.und [.slice sa rw0.length sc] rfl (fun u hu=>by simp at hu;subst hu;rfl) 1;rw [show (wA.alloc (.cells [Value.slice sa rw0.length sc].toArray 40))=V from hV] at hsrc;refine aR 4 rfl (by kernel_rfl) ?_;intro K hK;go_simp;refine hK _ _ (fun _ _=>aj ((hS0 _).2 (hsA.trans hSV))) ?_;clear hK K hV;have hqV:=hsA.trans hSV;refine aR 5 rfl (by kernel_rfl) ?_;intro K hK;refine fF oF (by rfl) _ _ 24 (by rfl) (by rfl) (hRn.since hqV) (by rfl) hsrc (by omega) (zQ5 hSr.size hqV.size) ?_;intro na2 nc2 Y hRY hFY hBY;have hbY:=(hM.box.since hqV).fr hFY (fun e=>hM.off ⟨(2,0,0),⟨rfl,rfl⟩,by rw [hL1];exact e⟩);have q1:=hbY.c2;have q2:=hbY.z2;have hMY:=hM.yc (a':=na2) (c':=nc2) (w':=Y) (x:=rw0) hqV ((hLL.mono hs0.size).since hSV) hSr.size ⟨by omega,sW⟩ (by rw [mG];omega) (by rw [mG];exact hRY) (by rw [hL1];exact hFY) (by rw [hL1];exact hBY);rw [mG] at hMY
     have hSY:Since w1 (Y.setCell ⟨p,2,none⟩ (.slice na2 (k+1) nc2)):=by
      refine Fr.aC (B:=fun i=>¬ i < w1.heap.size) ((hFY.mono (fun i _ e=>?_)).setCell _ _ ?_) (hSr.trans hqV) (fun i hi h=>h hi)
      ·have:=(hM.own.blk ⟨(2,0,0),⟨rfl,rfl⟩,by rw [hL1];exact e⟩).1;omega
      ·intro _;show ¬ p < _;omega
     refine hK _ _ (fun h=>absurd h (by decide +kernel)) ?_;clear hK K x1 hne;simp only [Act.put,zQ7,zQ8,zQ9];refine tW 6 rfl ?_;go_big_quiet_op;refine aR 7 rfl (by kernel_rfl) ?_;intro K hK;go_simp;refine hK _ _ (fun h=>absurd h (by decide +kernel)) ?_;clear hK K dH;refine bH (by kernel_rfl) ?_
     go_wp2
     refine ⟨⟨k+1,jU L k ⟨na2,nc2⟩ ⟨sa,sc⟩ rs,by omega,by go_num, ?_,hSY⟩,by simp [intOf];omega⟩;rw [List.take_add_one,HRW.out];exact hMY
    ·obtain rfl:k=d.wires.length:=by omega
     rw [List.take_length] at hM;obtain ⟨lt,r0,r1,r2,r3,r4,r5⟩:=hNB.since hSr;have b0:=hM.box.c0;have b1:=hM.box.c1;have b2:=hM.box.c2;obtain ⟨hO,hSf⟩:=hM.own.result (w0:=w) (p:=wp.heap.size) hNB.lt hSp.size (hS1.trans hSr) hS1.size
     go_wp2
     refine bodyPost_ret (v:=aS L d) ?_ rfl ⟨L,rfl,hO,hSf⟩;simp [results,results150,go_sem,r0,r1,r2,aS]
end Go.Proofs.YtiiifecfdkjmbaaGreat
