/- Lemmas. -/
import Derived.Test.YtediempflagfkaaGreatDoorSCalmX
set_option linter.unusedVariables false
set_option linter.unusedSimpArgs false
set_option linter.unnecessarySimpa false
set_option maxHeartbeats 2000000
namespace Go.Proofs.YtediempflagfkaaGreatDoor
open _root_.Go.Proofs.Tryz hiding checked
set_option maxRecDepth 8000
open Go.RowKit Go.Shelf
open Pu
theorem K6{w:World}{p:Nat}{d:Wd}{L:Lay}{a b c:Value}(lt:p < w.heap.size)(c0:w.cell? ⟨p,0,none⟩=some a)(c1:w.cell? ⟨p,1,none⟩=some b)(c2:w.cell? ⟨p,2,none⟩=some c)(z0:w.frozen? ⟨p,0,none⟩=false)(z1:w.frozen? ⟨p,1,none⟩=false)(z2:w.frozen? ⟨p,2,none⟩=false) :
  kF (((w.setCell ⟨p,0,none⟩ (.slice (L (0,0,0)).a d.au.length (L (0,0,0)).cap)).setCell ⟨p,1,none⟩ (.slice (L (1,0,0)).a d.ah.length (L (1,0,0)).cap)).setCell ⟨p,2,none⟩ (.slice (L (2,0,0)).a d.aB.length (L (2,0,0)).cap)) p L d :=
 ⟨zQ4 lt (aS w p _ _ _).size,uw c0,uy c1,uD c2,(iC _ _ _ _ _ _).trans z0,(iC _ _ _ _ _ _).trans z1,(iC _ _ _ _ _ _).trans z2⟩
theorem aU.fr{B:Nat->Prop}{w w':World}{p:Nat}(h:aU w p)(k:Fr B w w')(hp:¬ B p):aU w' p :=
 ⟨zQ4 h.lt k.size,(k.cell (p:=⟨p,0,none⟩) h.lt hp).trans h.c0,(k.cell (p:=⟨p,1,none⟩) h.lt hp).trans h.c1,(k.cell (p:=⟨p,2,none⟩) h.lt hp).trans h.c2,(k.frozen (p:=⟨p,0,none⟩) h.lt hp).trans h.z0,(k.frozen (p:=⟨p,1,none⟩) h.lt hp).trans h.z1,(k.frozen (p:=⟨p,2,none⟩) h.lt hp).trans h.z2⟩
theorem Hw(x:WV)(d:Wd)(f t:Nat)(hf:f < d.ah.length)(ht:t < d.ah.length)(w:World)(hW:WAt w x d)(R:aL d)(N:Nat)(hN:(aJ d f t).length=N)(Post:Ending->World->Prop)
  (jv:∀er,eO f t N d=.error er->∀w',ak w w'->Post (.returned (.tuple #[.agg #[.slice none 0 0,.slice none 0 0,.slice none 0 0],.int .i64 0,.int .i64 er])) w')
  (hOk:∀d' L' w',eO f t N d=.ok d'->bG w.heap.size w' d' L'->ak w w'->Post (.returned (.tuple #[bF L' d',.int .i64 N,.int .i64 0])) w') :
  Calls prog 111 #[.agg #[.slice x.ga x.gl x.gc,.slice x.na x.nl x.nc,.slice x.wa x.wl x.wc],.int .i64 f,.int .i64 t] w fun e w'=>Hid (Post e w'):=by
 obtain⟨ga,gl,gc,na,nl,nc,wa,wl,wc⟩:=x;dsimp only;have jB:=(show Hid _ from jv);have HOK:=(show Hid _ from hOk);have HN:Hid ((aJ d f t).length=N):=hN;have Rj:Hid (N<=40):=by unfold Hid;rw[<-hN];exact R.pK f t
 have HR:Hid (aL d):=R;have hsm:=jW R;clear jv hOk hN R;obtain⟨wp,hwp⟩:∃wp,w.alloc (.cells #[.slice ga gl gc,.slice na nl nc,.slice wa wl wc] 31)=wp:=⟨_,rfl⟩;have hPp:aP wp w.heap.size ⟨ga,gl,gc,na,nl,nc,wa,wl,wc⟩:=by rw[<-hwp];exact aP.new w ⟨ga,gl,gc,na,nl,nc,wa,wl,wc⟩ _
 have hPz:wp.frozen? ⟨w.heap.size,0,none⟩=false/\wp.frozen? ⟨w.heap.size,1,none⟩=false/\wp.frozen? ⟨w.heap.size,2,none⟩=false:=by rw[<-hwp];simp[go_sem]
 have hSp:=aF hwp;obtain⟨w1,hw1⟩:∃w1,wp.alloc (.cells #[.slice none 0 0,.slice none 0 0,.slice none 0 0] 31)=w1:=⟨_,rfl⟩;have hNB:aU w1 wp.heap.size:=by rw[<-hw1];exact aU.new wp _
 have dZ:=aF hw1;have hP1:=hPp.ay dZ;have hS1:=hSp.trans dZ;have hW1:=hW.ay hS1;have hlt:w.heap.size < wp.heap.size:=hPp.lt;have p0:=hP1.c0;have p1:=hP1.c1;have p2:=hP1.c2;dsimp only at p0 p1 p2
 have PF:Hid (∀y,ak w1 y->aP y w.heap.size ⟨ga,gl,gc,na,nl,nc,wa,wl,wc⟩/\y.frozen? ⟨w.heap.size,0,none⟩=false/\y.frozen? ⟨w.heap.size,1,none⟩=false/\y.frozen? ⟨w.heap.size,2,none⟩=false):=fun y hy =>
  ⟨hP1.ay hy,((dZ.trans hy).below.frozen (p:=⟨w.heap.size,0,none⟩) hPp.lt).trans hPz.1,((dZ.trans hy).below.frozen (p:=⟨w.heap.size,1,none⟩) hPp.lt).trans hPz.2.1,((dZ.trans hy).below.frozen (p:=⟨w.heap.size,2,none⟩) hPp.lt).trans hPz.2.2⟩
 go_enter func111,ntmps111
 go_wp2_with fail
 refine(nM ⟨ga,gl,gc,na,nl,nc,wa,wl,wc⟩ d w1 hW1 hsm).mono ?_;rintro e w2 ⟨L,rfl,hO2,dO⟩;simp only[bF];obtain⟨hP2,y0,y1,y2⟩:=PF.out _ dO;obtain⟨lt2,f0,f1,f2⟩:=hP2;dsimp only at f0 f1 f2;obtain⟨w3,hw3⟩:∃y,((w2.setCell ⟨w.heap.size,0,none⟩ (.slice (L (0,0,0)).a d.au.length (L (0,0,0)).cap)).setCell ⟨w.heap.size,1,none⟩ (.slice (L (1,0,0)).a d.ah.length (L (1,0,0)).cap)).setCell ⟨w.heap.size,2,none⟩ (.slice (L (2,0,0)).a d.aB.length (L (2,0,0)).cap)=y:=⟨_,rfl⟩;have hB3:kF w3 w.heap.size L d:=by rw[<-hw3];exact K6 lt2 f0 f1 f2 y0 y1 y2
 have hF3:Fr (fun i=>i=w.heap.size) w2 w3:=by rw[<-hw3];exact aS w2 w.heap.size _ _ _
 have hlt1:wp.heap.size < w1.heap.size:=hNB.lt;have hM3:dF w1.heap.size w3 w.heap.size d L:=⟨hO2.fr hF3 (fun b hb e=>by have:=(hO2.blk hb).1;have e:b=w.heap.size:=e;omega),hB3,fun hb=>by have:=(hO2.blk hb).1;omega⟩;have hU3:Fr (Up w1.heap.size fun i=>i=w.heap.size) w1 w3:=(dO.up _ _).aT (hF3.mono (fun i _ e=>.inr e));clear hw1 hwp hO2 hB3 hF3 p0 p1 p2
 go_wp2_with fail
 clear hw3 f0 f1 f2 y0 y1 y2
 go_loopw [9] (fun i wr=>∃(k:Nat) (dk:Wd) (Lk:Lay),k<=N/\i=.int .i64 k/\eO f t k d=.ok dk/\dF w1.heap.size wr w.heap.size dk Lk/\Fr (Up w1.heap.size fun i=>i=w.heap.size) w1 wr) (fun i _=>N - (intOf i).toNat)
 case atStart=>exact⟨0,d,L,Nat.zero_le _,rfl,rfl,hM3,hU3⟩
 case round =>
  clear hM3 hU3;obtain⟨wo,rfl⟩:∃wo,wo=wr:=⟨_,rfl⟩;obtain⟨k,dk,Lk,hk,rfl,hmv,hM,hUp⟩:=hrel;have HMV:Hid (eO f t k d=.ok dk):=hmv;have hms:=tZ k d dk HR.out hf ht (by rw[HN.out];exact hk) hmv;have HRK:Hid (aL dk/\dk.ah.length=d.ah.length):=⟨hms.right,hms.grow.alike.n⟩;obtain⟨nn,hnn⟩:∃nn,(aJ dk f t).length=nn:=⟨_,rfl⟩;have HNK:Hid (nn=N - k):=by unfold Hid;rw[<-hnn,hms.here,List.length_drop,HN.out]
  have hfk:f < dk.ah.length:=by rw[HRK.out.2];exact hf
  have htk:t < dk.ah.length:=by rw[HRK.out.2];exact ht
  have hwn:(f:Int) < (dk.aB.length:Int):=by have:=HRK.out.1.yu;omega
  have htn:(t:Int) < (dk.ah.length:Int):=by omega
  obtain⟨bw2,ow2,cw2,br2,oR2,cr2,hH⟩:=hM.qy HRK.out.1.rows hfk htk;obtain⟨la,lcc,hL8⟩:∃la lcc,Lk (8,f,t)=⟨la,lcc⟩:=⟨_,_,rfl⟩;have s4:=hH.cell;rw[hL8,hnn]at s4;dsimp only[Sl.v]at s4;have s2:=hH.top;have s3:=hH.row
  have hL2:Lk (2,0,0)=⟨some ⟨bw2,ow2,none⟩,cw2⟩:=by
   have e2:=Option.some.inj (hM.box.c2.symm.trans hH.top)
   generalize Lk (2,0,0)=s at e2 ⊢
   obtain⟨sa,sc⟩:=s;simp at e2;simp[e2]
  have HL2:=(show Hid _ from hL2);have HK:Hid (k<=N):=hk
  have hSo:ak w wo:=hUp.aI hS1 (fun i hi h=>by rcases h with h | h;have:=hS1.size;omega;omega)
  have hNo:aU wo wp.heap.size:=hNB.fr hUp (by rintro(h | h);exact h hlt1;omega);clear hmv hms hnn hL8 hk hL2;by_cases hl:k < N
  ·have hp:(0:Int) < (nn:Int):=by have:=HNK.out;omega
   have HLT:Hid (k < N):=hl;have b0:=hM.box.c0;have b1:=hM.box.c1;have hMv:=uE (fE Lk dk) dk f t hfk htk wo hM.own.wat HRK.out.1;unfold fE at hMv;dsimp only at hMv;rw[HL2.out]at hMv;dsimp only at hMv;have HM1:Hid (eO f t (k+1) d=fI dk f t):=by unfold Hid;rw[rP,HMV.out];rfl
   obtain⟨r,hr⟩:∃r,fI dk f t=r:=⟨_,rfl⟩;rw[hr]at hMv;have HRR:Hid (eO f t (k+1) d=r):=by unfold Hid;rw[HM1.out,hr]
   have HNZ:Hid (∀e,r=.error e->(e != 0)=true):=fun e h=>by rw[h]at hr;have:=Bz hr;simpa using this
   clear hr hl
   cases r with
   | error er =>
    have her:=HNZ.out er rfl
    go_wp2_with fail
    refine hMv.mono ?_;rintro e w4 ⟨hR4,_⟩;obtain⟨rfl,hS4⟩:=hR4 er rfl;clear s2 s3 s4 b0 b1 hMv hR4;obtain⟨w5,hw5⟩:∃y,w4.alloc (.cells #[.slice none 0 0,.slice none 0 0,.slice none 0 0] 31)=y:=⟨_,rfl⟩;have lN:=aF hw5;have hN5:aU w5 w4.heap.size:=by rw[<-hw5];exact aU.new w4 _
    obtain⟨w6,hw6⟩:∃y,((w5.setCell ⟨w4.heap.size,0,none⟩ (.slice none 0 0)).setCell ⟨w4.heap.size,1,none⟩ (.slice none 0 0)).setCell ⟨w4.heap.size,2,none⟩ (.slice none 0 0)=y:=⟨_,rfl⟩;have hS5:ak w4 w6:=by rw[<-hw6];exact(aS w5 w4.heap.size _ _ _).aI lN (fun i hi e=>by omega)
    obtain⟨_,z0,z1,z2,z3,z4,z5⟩:=hN5;obtain⟨_,r0,r1,r2,r3,r4,r5⟩:=hNo.ay (hS4.trans hS5)
    go_wp2_with fail
    refine bodyPost_ret (v:=.tuple #[.agg #[.slice none 0 0,.slice none 0 0,.slice none 0 0],.int .i64 0,.int .i64 er]) ?_ rfl (jB.out er (by have:=wJ HRR.out (N - (k+1));rwa[show k+1+(N - (k+1))=N from by have:=HLT.out;omega]at this) _ (cu hSp.size (hSo.trans (hS4.trans hS5))));simp[results,results111,go_sem,r0,r1,r2]
   | ok d2 =>
    go_wp2_with fail
    refine hMv.mono ?_;rintro e w4 ⟨_,hR4⟩;obtain⟨L4,rfl,hO4,hS4⟩:=hR4 d2 rfl;simp only[bF];clear s2 s3 s4 b0 b1 hMv hR4;obtain⟨w5,hw5⟩:∃y,w4.alloc (.cells #[.slice (L4 (0,0,0)).a d2.au.length (L4 (0,0,0)).cap,.slice (L4 (1,0,0)).a d2.ah.length (L4 (1,0,0)).cap,.slice (L4 (2,0,0)).a d2.aB.length (L4 (2,0,0)).cap] 31)=y:=⟨_,rfl⟩;have hS5:=aF hw5
    have hB5:kF w5 w4.heap.size L4 d2:=by rw[<-hw5];constructor <;> simp[go_sem]
    have hMo:=hM.ay (hS4.trans hS5);obtain⟨w6,hw6⟩:∃y,((w5.setCell ⟨w.heap.size,0,none⟩ (.slice (L4 (0,0,0)).a d2.au.length (L4 (0,0,0)).cap)).setCell ⟨w.heap.size,1,none⟩ (.slice (L4 (1,0,0)).a d2.ah.length (L4 (1,0,0)).cap)).setCell ⟨w.heap.size,2,none⟩ (.slice (L4 (2,0,0)).a d2.aB.length (L4 (2,0,0)).cap)=y:=⟨_,rfl⟩;have hlo1:w1.heap.size<=wo.heap.size:=hUp.size;have hM6:=Ox (lo:=w1.heap.size) (hO4.ay hS5) hMo.box hlo1 (by omega);rw[hw6]at hM6;have hU6:Fr (Up w1.heap.size fun i=>i=w.heap.size) w1 w6:=by rw[<-hw6];exact hUp.aT (((hS4.trans hS5).up _ _).aT ((aS w5 w.heap.size _ _ _).mono (fun i _ e=>.inr e)))
    obtain⟨_,x0,x1,x2,x3,x4,x5⟩:=hMo.box;rw[HL2.out]at x2;dsimp only at x2;obtain⟨_,v0,v1,v2,_,_,_⟩:=hB5;have hk1:IntKind.i64.wrap ((k:Int)+1)=(k:Int)+1:=IntWalk.i64_in _ (by have:=HLT.out;have:=Rj.out;omega)
    go_wp2
    go_roundw
    case rel=>exact⟨k+1,d2,L4,HLT.out,by go_num,HRR.out,hM6,hU6⟩
    case measure=>have:=HLT.out;simp[intOf];omega
  ·have HE:Hid (N=k):=by unfold Hid;have:=HK.out;omega
   have hp:¬ (0:Int) < (nn:Int):=by have:=HNK.out;omega
   have b0:=hM.box.c0;have b1:=hM.box.c1;obtain⟨_,r0,r1,r2,r3,r4,r5⟩:=hNo;obtain⟨hO9,hSf⟩:=hM.own.result (w0:=w) (p:=wp.heap.size) hlt1 hSp.size hSo hS1.size;rw[HL2.out]at hO9 hSf;dsimp only at hO9 hSf;clear hl
   go_wp2_with fail
   refine bodyPost_ret (v:=.tuple #[bF Lk dk,.int .i64 k,.int .i64 0]) ?_ rfl (by have h:=HOK.out dk Lk _ (by rw[HE.out];exact HMV.out) hO9 hSf;rwa[HE.out]at h);simp[results,results111,go_sem,r0,r1,r2,bF,HL2.out]
theorem Hy(x:WV)(d:Wd)(f t:Nat)(hf:f < d.ah.length)(ht:t < d.ah.length)(w:World)(hW:WAt w x d)(R:aL d) :
  Calls prog 111 #[.agg #[.slice x.ga x.gl x.gc,.slice x.na x.nl x.nc,.slice x.wa x.wl x.wc],.int .i64 f,.int .i64 t] w fun e w'=>Hid (y8 w ((pJ d f t).bind fun r=>.ok (r.1,(r.2:Int))) e w'):=by
 have e:((pJ d f t).bind fun r=>.ok (r.1,(r.2:Int)):Except Int (Wd × Int))=(eO f t (aJ d f t).length d).bind fun d'=>.ok (d',((aJ d f t).length:Int)):=by
  show((eO f t (aJ d f t).length d).bind _).bind _=_
  cases eO f t (aJ d f t).length d <;> rfl
 rw[e]
 exact Hw x d f t hf ht w hW R _ rfl (fun e w'=>y8 w ((eO f t (aJ d f t).length d).bind fun d'=>.ok (d',((aJ d f t).length:Int))) e w')
  (fun er h w' hS=>by rw[h];exact lQ hS) (fun d' L' w' h hO hS=>by rw[h];exact pV hO hS)
theorem EU(x:WV)(d:Wd)(w:World)(hW:WAt w x d)(R:aL d)(N:Nat)(hN:d.ah.length=N)(Post:Ending->World->Prop)
  (jv:∀er,(pairs N N).foldlM dB (d,0)=.error er->∀w',ak w w'->Post (.returned (.tuple #[.agg #[.slice none 0 0,.slice none 0 0,.slice none 0 0],.int .i64 0,.int .i64 er])) w')
  (hOk:∀d' (m:Nat) L' w',(pairs N N).foldlM dB (d,0)=.ok (d',m)->bG w.heap.size w' d' L'->ak w w'->Post (.returned (.tuple #[bF L' d',.int .i64 m,.int .i64 0])) w') :
  Calls prog 82 #[.agg #[.slice x.ga x.gl x.gc,.slice x.na x.nl x.nc,.slice x.wa x.wl x.wc]] w fun e w'=>Hid (Post e w'):=by
 obtain⟨ga,gl,gc,na,nl,nc,wa,wl,wc⟩:=x;dsimp only;have jB:=(show Hid _ from jv);have HOK:=(show Hid _ from hOk);have HN4:Hid (N<=4):=by unfold Hid;rw[<-hN];exact(small R).1
 have HR0:Hid (aL d/\d.ah.length=N):=⟨R,hN⟩;have hsm:=jW R;clear jv hOk hN R;obtain⟨wp,hwp⟩:∃wp,w.alloc (.cells #[.slice ga gl gc,.slice na nl nc,.slice wa wl wc] 31)=wp:=⟨_,rfl⟩;have hPp:aP wp w.heap.size ⟨ga,gl,gc,na,nl,nc,wa,wl,wc⟩:=by rw[<-hwp];exact aP.new w ⟨ga,gl,gc,na,nl,nc,wa,wl,wc⟩ _
 have hPz:wp.frozen? ⟨w.heap.size,0,none⟩=false/\wp.frozen? ⟨w.heap.size,1,none⟩=false/\wp.frozen? ⟨w.heap.size,2,none⟩=false:=by rw[<-hwp];simp[go_sem]
 have hSp:=aF hwp;obtain⟨w1,hw1⟩:∃w1,wp.alloc (.cells #[.slice none 0 0,.slice none 0 0,.slice none 0 0] 31)=w1:=⟨_,rfl⟩;have hNB:aU w1 wp.heap.size:=by rw[<-hw1];exact aU.new wp _
 have dZ:=aF hw1;have hP1:=hPp.ay dZ;have hS1:=hSp.trans dZ;have hW1:=hW.ay hS1;have hlt:w.heap.size < wp.heap.size:=hPp.lt;have p0:=hP1.c0;have p1:=hP1.c1;have p2:=hP1.c2;dsimp only at p0 p1 p2
 have PF:Hid (∀y,ak w1 y->aP y w.heap.size ⟨ga,gl,gc,na,nl,nc,wa,wl,wc⟩/\y.frozen? ⟨w.heap.size,0,none⟩=false/\y.frozen? ⟨w.heap.size,1,none⟩=false/\y.frozen? ⟨w.heap.size,2,none⟩=false):=fun y hy =>
  ⟨hP1.ay hy,((dZ.trans hy).below.frozen (p:=⟨w.heap.size,0,none⟩) hPp.lt).trans hPz.1,((dZ.trans hy).below.frozen (p:=⟨w.heap.size,1,none⟩) hPp.lt).trans hPz.2.1,((dZ.trans hy).below.frozen (p:=⟨w.heap.size,2,none⟩) hPp.lt).trans hPz.2.2⟩
 go_enter func82,ntmps82
 go_wp2_with fail
 refine(nM ⟨ga,gl,gc,na,nl,nc,wa,wl,wc⟩ d w1 hW1 hsm).mono ?_;rintro e w2 ⟨L,rfl,hO2,dO⟩;simp only[bF];obtain⟨hP2,y0,y1,y2⟩:=PF.out _ dO;obtain⟨lt2,f0,f1,f2⟩:=hP2;dsimp only at f0 f1 f2;obtain⟨w3,hw3⟩:∃y,((w2.setCell ⟨w.heap.size,0,none⟩ (.slice (L (0,0,0)).a d.au.length (L (0,0,0)).cap)).setCell ⟨w.heap.size,1,none⟩ (.slice (L (1,0,0)).a d.ah.length (L (1,0,0)).cap)).setCell ⟨w.heap.size,2,none⟩ (.slice (L (2,0,0)).a d.aB.length (L (2,0,0)).cap)=y:=⟨_,rfl⟩;have hB3:kF w3 w.heap.size L d:=by rw[<-hw3];exact K6 lt2 f0 f1 f2 y0 y1 y2
 have hF3:Fr (fun i=>i=w.heap.size) w2 w3:=by rw[<-hw3];exact aS w2 w.heap.size _ _ _
 have hlt1:wp.heap.size < w1.heap.size:=hNB.lt;have hM3:dF w1.heap.size w3 w.heap.size d L:=⟨hO2.fr hF3 (fun b hb e=>by have:=(hO2.blk hb).1;have e:b=w.heap.size:=e;omega),hB3,fun hb=>by have:=(hO2.blk hb).1;omega⟩;have hU3:Fr (Up w1.heap.size fun i=>i=w.heap.size) w1 w3:=(dO.up _ _).aT (hF3.mono (fun i _ e=>.inr e));clear hw1 hwp hO2 hB3 hF3 p0 p1 p2
 go_wp2_with fail
 clear hw3 f0 f1 f2 y0 y1 y2
 go_loopw [5,6] (fun c i wr=>∃(a:Nat) (dk:Wd) (m:Nat) (Lk:Lay),a<=N/\c=.int .i64 (m:Int)/\i=.int .i64 a/\((pairs N N).take (a*N)).foldlM dB (d,0)=.ok (dk,m)/\Hid (aL dk/\dk.ah.length=N)/\m<=40*(a*N)/\dF w1.heap.size wr w.heap.size dk Lk/\Fr (Up w1.heap.size fun i=>i=w.heap.size) w1 wr) (fun _ i _=>N - (intOf i).toNat)
 case atStart=>exact⟨0,d,0,L,Nat.zero_le _,rfl,rfl,by simp;rfl,HR0,by simp,hM3,hU3⟩
 case round =>
  clear hM3 hU3 HR0;obtain⟨wo,rfl⟩:∃wo,wo=wr:=⟨_,rfl⟩;obtain⟨a,dk,m,Lk,ha,rfl,rfl,hfo,HRK,hm,hM,hUp⟩:=hrel;have HF:Hid (((pairs N N).take (a*N)).foldlM dB (d,0)=.ok (dk,m)):=hfo;have HM:Hid (m<=40*(a*N)):=hm;have HA:Hid (a<=N):=ha;have b1:=hM.box.c1;rw[HRK.out.2]at b1;clear hfo hm;by_cases hlt':a < N
  ·have h1:(a:Int) < (N:Int):=by omega
   go_wp2_with fail
   clear b1
   go_loopw [5,7] (fun c i wr=>∃(b:Nat) (dk:Wd) (m:Nat) (Lk:Lay),b<=N/\c=.int .i64 (m:Int)/\i=.int .i64 b/\((pairs N N).take (a*N+b)).foldlM dB (d,0)=.ok (dk,m)/\Hid (aL dk/\dk.ah.length=N)/\m<=40*(a*N+b)/\dF w1.heap.size wr w.heap.size dk Lk/\Fr (Up w1.heap.size fun i=>i=w.heap.size) w1 wr) (fun _ i _=>N - (intOf i).toNat)
   case atStart=>exact⟨0,dk,m,Lk,Nat.zero_le _,rfl,rfl,HF.out,HRK,HM.out,hM,hUp⟩
   case round =>
    clear hM hUp HF HM HRK;obtain⟨wu,rfl⟩:∃wo,wo=wr:=⟨_,rfl⟩;obtain⟨b,dj,mj,Lj,hb,rfl,rfl,hfo,HRJ,hm,hM,hUp⟩:=hrel;have HF:Hid (((pairs N N).take (a*N+b)).foldlM dB (d,0)=.ok (dj,mj)):=hfo;have HM:Hid (mj<=40*(a*N+b)):=hm;have HB:Hid (b<=N):=hb
    have hSo:ak w wu:=hUp.aI hS1 (fun i hi h=>by rcases h with h | h;have:=hS1.size;omega;omega)
    have hNo:aU wu wp.heap.size:=hNB.fr hUp (by rintro(h | h);exact h hlt1;omega);have c1:=hM.box.c1;rw[HRJ.out.2]at c1;clear hfo hm;by_cases hlb:b < N
    ·have h2:(b:Int) < (N:Int):=by omega
     have HLB:Hid (b < N):=hlb;have HLT:Hid (a < N):=hlt';have hak:a < dj.ah.length:=by rw[HRJ.out.2];exact hlt'
     have hbk:b < dj.ah.length:=by rw[HRJ.out.2];exact hlb
     have c0:=hM.box.c0;have c2:=hM.box.c2;have hWr:=Hy (fE Lj dj) dj a b hak hbk wu hM.own.wat HRJ.out.1;unfold fE at hWr;dsimp only at hWr;rw[HRJ.out.2]at hWr
     have HS:Hid (((pairs N N).take (a*N+(b+1))).foldlM dB (d,0)=(pJ dj a b).bind fun r=>.ok (r.1,mj+r.2)):=by
      unfold Hid;have:=fold_succ dB (pairs N N) (d,0) (lq hlt' hlb);rw[HF.out]at this;exact this
     obtain⟨r,hr⟩:∃r,pJ dj a b=r:=⟨_,rfl⟩;have HNZ:Hid (∀e,r=.error e->(e != 0)=true):=fun e h=>by rw[h]at hr;have:=BA hr;simpa using this
     have JM:Hid (∀d' q,r=.ok (d',q)->aL d'/\d'.ah.length=N/\q<=40):=fun d' q h=>by rw[h]at hr;have:=wK HRJ.out.1 hak hbk hr;exact⟨this.1,this.2.1.trans HRJ.out.2,this.2.2⟩
     rw[hr]at hWr;have HS2:Hid (((pairs N N).take (a*N+(b+1))).foldlM dB (d,0)=r.bind fun r=>.ok (r.1,mj+r.2)):=by unfold Hid;rw[HS.out,hr]
     clear hr HS hlb
     cases r with
     | error er =>
      have her:=HNZ.out er rfl
      go_wp2_with fail
      refine hWr.mono ?_;rintro e w4 hR4;obtain⟨rfl,hF4⟩:=hR4.out.1 er rfl;have hS4:=hF4.none;clear c0 c1 c2 hWr hR4;obtain⟨w5,hw5⟩:∃y,w4.alloc (.cells #[.slice none 0 0,.slice none 0 0,.slice none 0 0] 31)=y:=⟨_,rfl⟩;have lN:=aF hw5;have hN5:aU w5 w4.heap.size:=by rw[<-hw5];exact aU.new w4 _
      obtain⟨w6,hw6⟩:∃y,((w5.setCell ⟨w4.heap.size,0,none⟩ (.slice none 0 0)).setCell ⟨w4.heap.size,1,none⟩ (.slice none 0 0)).setCell ⟨w4.heap.size,2,none⟩ (.slice none 0 0)=y:=⟨_,rfl⟩;have hS5:ak w4 w6:=by rw[<-hw6];exact(aS w5 w4.heap.size _ _ _).aI lN (fun i hi e=>by omega)
      obtain⟨_,z0,z1,z2,z3,z4,z5⟩:=hN5;obtain⟨_,r0,r1,r2,r3,r4,r5⟩:=hNo.ay (hS4.trans hS5)
      go_wp2_with fail
      refine bodyPost_ret (v:=.tuple #[.agg #[.slice none 0 0,.slice none 0 0,.slice none 0 0],.int .i64 0,.int .i64 er]) ?_ rfl (jB.out er (qZ dB (pairs N N) (d,0) HS2.out) _ (cu hSp.size (hSo.trans (hS4.trans hS5))));simp[results,results82,go_sem,r0,r1,r2]
     | ok dq =>
      obtain⟨d2,q⟩:=dq;obtain⟨R2,n2,q40⟩:=JM.out d2 q rfl;have HQ:Hid (aL d2/\d2.ah.length=N):=⟨R2,n2⟩;clear R2 n2;have Rk:mj<=640:=by have h1:=HM.out;have h2:=HN4.out;have h3:=HLT.out;have h4:=HB.out;have:a*N<=3*4:=Nat.mul_le_mul (by omega) h2;omega
      go_wp2_with fail
      refine hWr.mono ?_;rintro e w4 hR4;obtain⟨L4,rfl,hO4,hF4⟩:=hR4.out.2 d2 q rfl;have hS4:=hF4.none;simp only[bF];clear c0 c1 c2 hWr hR4;obtain⟨w5,hw5⟩:∃y,w4.alloc (.cells #[.slice (L4 (0,0,0)).a d2.au.length (L4 (0,0,0)).cap,.slice (L4 (1,0,0)).a d2.ah.length (L4 (1,0,0)).cap,.slice (L4 (2,0,0)).a d2.aB.length (L4 (2,0,0)).cap] 31)=y:=⟨_,rfl⟩;have hS5:=aF hw5
      have hB5:kF w5 w4.heap.size L4 d2:=by rw[<-hw5];constructor <;> simp[go_sem]
      have hMo:=hM.ay (hS4.trans hS5);obtain⟨w6,hw6⟩:∃y,((w5.setCell ⟨w.heap.size,0,none⟩ (.slice (L4 (0,0,0)).a d2.au.length (L4 (0,0,0)).cap)).setCell ⟨w.heap.size,1,none⟩ (.slice (L4 (1,0,0)).a d2.ah.length (L4 (1,0,0)).cap)).setCell ⟨w.heap.size,2,none⟩ (.slice (L4 (2,0,0)).a d2.aB.length (L4 (2,0,0)).cap)=y:=⟨_,rfl⟩;have hlo1:w1.heap.size<=wu.heap.size:=hUp.size;have hM6:=Ox (lo:=w1.heap.size) (hO4.ay hS5) hMo.box hlo1 (by omega);rw[hw6]at hM6;have hU6:Fr (Up w1.heap.size fun i=>i=w.heap.size) w1 w6:=by rw[<-hw6];exact hUp.aT (((hS4.trans hS5).up _ _).aT ((aS w5 w.heap.size _ _ _).mono (fun i _ e=>.inr e)))
      obtain⟨_,x0,x1,x2,x3,x4,x5⟩:=hMo.box;obtain⟨_,v0,v1,v2,_,_,_⟩:=hB5;have hadd:IntKind.i64.wrap ((mj:Int)+(q:Int))=((mj+q:Nat):Int):=by rw[Int.natCast_add];exact IntWalk.i64_in _ (by omega)
      have HMQ:Hid (mj+q<=40*(a*N+(b+1))):=by have:=HM.out;show _<=_;omega
      have hb4:b < 4:=by have:=HN4.out;have:=HLB.out;omega
      clear Rk q40
      go_wp2
      go_roundw
      case rel=>exact⟨b+1,d2,mj+q,L4,HLB.out,rfl,by go_num,HS2.out,HQ,HMQ.out,hM6,hU6⟩
      case measure=>have:=HLB.out;simp[intOf];omega
    ·have HE:Hid (b=N):=by unfold Hid;have:=HB.out;omega
     have h2:¬ (b:Int) < (N:Int):=by omega
     have HLT:Hid (a < N):=hlt';have e1:a*N+b=(a+1)*N:=by rw[HE.out,Nat.add_mul,Nat.one_mul]
     have HF2:Hid (((pairs N N).take ((a+1)*N)).foldlM dB (d,0)=.ok (dj,mj)):=by unfold Hid;rw[<-e1];exact HF.out
     have HM2:Hid (mj<=40*((a+1)*N)):=by unfold Hid;rw[<-e1];exact HM.out
     clear hlb e1;have ha4:a < 4:=by have:=HN4.out;have:=HLT.out;omega
     go_wp2
     go_roundw
     case rel=>exact⟨a+1,dj,mj,Lj,HLT.out,rfl,by go_num,HF2.out,HRJ,HM2.out,hM,hUp⟩
     case measure=>have:=HLT.out;simp[intOf];omega
  ·have HE:Hid (a=N):=by unfold Hid;have:=HA.out;omega
   have h1:¬ (a:Int) < (N:Int):=by omega
   clear hlt'
   have hSo:ak w wo:=hUp.aI hS1 (fun i hi h=>by rcases h with h | h;have:=hS1.size;omega;omega)
   have hNo:aU wo wp.heap.size:=hNB.fr hUp (by rintro(h | h);exact h hlt1;omega);have b0:=hM.box.c0;have b2:=hM.box.c2;obtain⟨_,r0,r1,r2,r3,r4,r5⟩:=hNo;obtain⟨hO9,hSf⟩:=hM.own.result (w0:=w) (p:=wp.heap.size) hlt1 hSp.size hSo hS1.size;rw[HRK.out.2]at hO9 hSf
   go_wp2_with fail
   refine bodyPost_ret (v:=.tuple #[bF Lk dk,.int .i64 m,.int .i64 0]) ?_ rfl (HOK.out dk m Lk _ (by have h:=HF.out;rwa[HE.out,<-jg,List.take_length]at h) hO9 hSf);simp[results,results82,go_sem,r0,r1,r2,bF,HRK.out.2]
theorem yw(x:WV)(d:Wd)(w:World)(hW:WAt w x d)(R:aL d) :
  Calls prog 82 #[.agg #[.slice x.ga x.gl x.gc,.slice x.na x.nl x.nc,.slice x.wa x.wl x.wc]] w fun e w'=>Hid (y8 w (fq d) e w') :=
 EU x d w hW R _ rfl (fun e w'=>y8 w (fq d) e w')
  (fun er h w' hS=>by unfold fq gY;rw[h];exact lQ hS) (fun d' m L' w' h hO hS=>by unfold fq gY;rw[h];exact pV hO hS)
structure C8 (w:World) (p:Nat) (x:WV) (d:Wd):Prop where
 par:aP w p x
 z0:w.frozen? ⟨p,0,none⟩=false
 z1:w.frozen? ⟨p,1,none⟩=false
 z2:w.frozen? ⟨p,2,none⟩=false
 at_:WAt w x d
theorem C8.ay{w w':World}{p:Nat}{x:WV}{d:Wd}(h:C8 w p x d)(k:ak w w'):C8 w' p x d :=
 ⟨h.par.ay k,(k.below.frozen (p:=⟨p,0,none⟩) h.par.lt).trans h.z0,(k.below.frozen (p:=⟨p,1,none⟩) h.par.lt).trans h.z1,(k.below.frozen (p:=⟨p,2,none⟩) h.par.lt).trans h.z2,h.at_.ay k⟩
theorem C8.put{w:World}{p:Nat}{x:WV}{d d':Wd}(h:C8 w p x d){lo:Nat}{L:Lay}(hO:bG lo w d' L)(hp:p < lo):C8 (((w.setCell ⟨p,0,none⟩ (.slice (L (0,0,0)).a d'.au.length (L (0,0,0)).cap)).setCell ⟨p,1,none⟩ (.slice (L (1,0,0)).a d'.ah.length (L (1,0,0)).cap)).setCell ⟨p,2,none⟩ (.slice (L (2,0,0)).a d'.aB.length (L (2,0,0)).cap)) p (fE L d') d' :=
 ⟨⟨zQ4 h.par.lt (aS w p _ _ _).size,uw h.par.c0,uy h.par.c1,uD h.par.c2⟩,(iC _ _ _ _ _ _).trans h.z0,(iC _ _ _ _ _ _).trans h.z1,(iC _ _ _ _ _ _).trans h.z2,(hO.fr (aS w p _ _ _) (fun b hb e=>by have:=(hO.blk hb).1;have e:b=p:=e;omega)).wat⟩
theorem EW(x:WV)(d:Wd)(w:World)(hW:WAt w x d)(R:aL d)(N G:Nat)(hN:d.ah.length=N)(hG:d.au.length=G)(Post:Ending->World->Prop)
  (jv:∀er,fJ d=.error er->∀w',ak w w'->Post (.returned (.tuple #[.agg #[.slice none 0 0,.slice none 0 0,.slice none 0 0],.int .i64 0,.int .i64 er])) w')
  (hOk:∀d' (m:Nat) L' w',fJ d=.ok (d',m)->bG w.heap.size w' d' L'->ak w w'->Post (.returned (.tuple #[bF L' d',.int .i64 m,.int .i64 0])) w') :
  Calls prog 63 #[.agg #[.slice x.ga x.gl x.gc,.slice x.na x.nl x.nc,.slice x.wa x.wl x.wc]] w fun e w'=>Hid (Post e w'):=by
 obtain⟨ga,gl,gc,na,nl,nc,wa,wl,wc⟩:=x;dsimp only;have jB:=(show Hid _ from jv);have HOK:=(show Hid _ from hOk);have HN4:Hid (N<=4/\G<=3):=by unfold Hid;rw[<-hN,<-hG];exact⟨(small R).1,(small R).2.2.1⟩
 have HRD:Hid (fJ d=((pairs N G).foldlM dH d).bind gY):=by unfold Hid fJ yU;rw[hN,hG]
 have HR0:Hid (aL d/\d.ah.length=N/\d.au.length=G):=⟨R,hN,hG⟩;clear jv hOk hN hG R;obtain⟨wp,hwp⟩:∃wp,w.alloc (.cells #[.slice ga gl gc,.slice na nl nc,.slice wa wl wc] 31)=wp:=⟨_,rfl⟩;have hPp:aP wp w.heap.size ⟨ga,gl,gc,na,nl,nc,wa,wl,wc⟩:=by rw[<-hwp];exact aP.new w ⟨ga,gl,gc,na,nl,nc,wa,wl,wc⟩ _
 have hPz:wp.frozen? ⟨w.heap.size,0,none⟩=false/\wp.frozen? ⟨w.heap.size,1,none⟩=false/\wp.frozen? ⟨w.heap.size,2,none⟩=false:=by rw[<-hwp];simp[go_sem]
 have hSp:=aF hwp;obtain⟨w1,hw1⟩:∃w1,wp.alloc (.cells #[.slice none 0 0,.slice none 0 0,.slice none 0 0] 31)=w1:=⟨_,rfl⟩;have hNB:aU w1 wp.heap.size:=by rw[<-hw1];exact aU.new wp _
 have dZ:=aF hw1;have hP1:=hPp.ay dZ;have hS1:=hSp.trans dZ;have hW1:=hW.ay hS1;have hlt:w.heap.size < wp.heap.size:=hPp.lt;have p0:=hP1.c0;have p1:=hP1.c1;have p2:=hP1.c2;dsimp only at p0 p1 p2
 have PF:Hid (∀y,ak w1 y->aP y w.heap.size ⟨ga,gl,gc,na,nl,nc,wa,wl,wc⟩/\y.frozen? ⟨w.heap.size,0,none⟩=false/\y.frozen? ⟨w.heap.size,1,none⟩=false/\y.frozen? ⟨w.heap.size,2,none⟩=false):=fun y hy =>
  ⟨hP1.ay hy,((dZ.trans hy).below.frozen (p:=⟨w.heap.size,0,none⟩) hPp.lt).trans hPz.1,((dZ.trans hy).below.frozen (p:=⟨w.heap.size,1,none⟩) hPp.lt).trans hPz.2.1,((dZ.trans hy).below.frozen (p:=⟨w.heap.size,2,none⟩) hPp.lt).trans hPz.2.2⟩
 have hlt1:wp.heap.size < w1.heap.size:=hNB.lt;obtain⟨hP2,y0,y1,y2⟩:=PF.out _ (ak.refl w1);have HB1:Hid (C8 w1 w.heap.size ⟨ga,gl,gc,na,nl,nc,wa,wl,wc⟩ d):=⟨hP2,y0,y1,y2,hW1⟩;clear hP2 y0 y1 y2
 go_enter func63,ntmps63
 go_wp2_with fail
 clear hwp hw1 p0 p1 p2
 go_loopw [5] (fun i wr=>∃(a:Nat) (dk:Wd) (xk:WV),a<=N/\i=.int .i64 a/\((pairs N G).take (a*G)).foldlM dH d=.ok dk/\Hid (aL dk/\dk.ah.length=N/\dk.au.length=G)/\Hid (C8 wr w.heap.size xk dk)/\Fr (Up w1.heap.size fun i=>i=w.heap.size) w1 wr) (fun i _=>N - (intOf i).toNat)
 case atStart=>exact⟨0,d,⟨ga,gl,gc,na,nl,nc,wa,wl,wc⟩,Nat.zero_le _,rfl,by simp;rfl,HR0,HB1,Fr.refl _ _⟩
 case round =>
  clear HR0 HB1;obtain⟨wo,rfl⟩:∃wo,wo=wr:=⟨_,rfl⟩;obtain⟨a,dk,xk,ha,rfl,hfo,HRK,HBK,hUp⟩:=hrel;have HF:Hid (((pairs N G).take (a*G)).foldlM dH d=.ok dk):=hfo;have HA:Hid (a<=N):=ha;have hnl:xk.nl=N:=HBK.out.at_.n.bq.symm.trans HRK.out.2.1;have b1:=HBK.out.par.c1;rw[hnl]at b1;clear hfo hnl;by_cases hlt':a < N
  ·have h1:(a:Int) < (N:Int):=by omega
   go_wp2_with fail
   clear b1
   go_loopw [6] (fun i wr=>∃(g:Nat) (dk:Wd) (xk:WV),g<=G/\i=.int .i64 g/\((pairs N G).take (a*G+g)).foldlM dH d=.ok dk/\Hid (aL dk/\dk.ah.length=N/\dk.au.length=G)/\Hid (C8 wr w.heap.size xk dk)/\Fr (Up w1.heap.size fun i=>i=w.heap.size) w1 wr) (fun i _=>G - (intOf i).toNat)
   case atStart=>exact⟨0,dk,xk,Nat.zero_le _,rfl,HF.out,HRK,HBK,hUp⟩
   case round =>
    clear hUp HF HRK HBK;obtain⟨wu,rfl⟩:∃wo,wo=wr:=⟨_,rfl⟩;obtain⟨g,dj,xj,hg,rfl,hfo,HRJ,HBJ,hUp⟩:=hrel;have HF:Hid (((pairs N G).take (a*G+g)).foldlM dH d=.ok dj):=hfo;have HG:Hid (g<=G):=hg
    have hSo:ak w wu:=hUp.aI hS1 (fun i hi h=>by rcases h with h | h;have:=hS1.size;omega;omega)
    have hNo:aU wu wp.heap.size:=hNB.fr hUp (by rintro(h | h);exact h hlt1;omega);have hgl:xj.gl=G:=HBJ.out.at_.g.bq.symm.trans HRJ.out.2.2;have c0:=HBJ.out.par.c0;rw[hgl]at c0;have HGL:Hid (xj.gl=G):=hgl;clear hfo hgl;by_cases hlg:g < G
    ·have h2:(g:Int) < (G:Int):=by omega
     have HLG:Hid (g < G):=hlg;have HLT:Hid (a < N):=hlt';have hI:Ints wu xj.ga G dj.au:=by have:=HBJ.out.at_.g;rwa[HGL.out]at this
     have Hz:=eu xj.ga G xj.gc dj.au (g:Int) (a:Int) wu hI
     have HS:Hid (((pairs N G).take (a*G+(g+1))).foldlM dH d=dH dj (a,g)):=by
      unfold Hid;have:=fold_succ dH (pairs N G) d (lq hlt' hlg);rw[HF.out]at this;exact this
     have hg3:g < 3:=by have:=HN4.out.2;omega
     cases hh:hasB dj.au (g:Int) (a:Int) with
     | false =>
      rw[hh]at Hz
      have HS2:Hid (((pairs N G).take (a*G+(g+1))).foldlM dH d=.ok dj):=by
       unfold Hid;rw[HS.out];unfold dH;rw[if_neg (by rw[hh];simp)]
      clear hh HS hlg
      go_wp2_with fail
      refine Hz.mono ?_;rintro e w' ⟨rfl,hw'⟩;obtain rfl:=hw'.symm;clear c0 Hz
      go_wp2
      go_roundw
      case rel=>exact⟨g+1,dj,xj,HLG.out,by go_num,HS2.out,HRJ,HBJ,hUp⟩
      case measure=>have:=HLG.out;simp[intOf];omega
     | true =>
      rw[hh]at Hz;have hCa:=uF xj dj (a:Int) (g:Int) true ByteArray.empty wu HBJ.out.at_ HRJ.out.1;rw[HGL.out]at hCa;obtain⟨r,hr⟩:∃r,dR dj (a:Int) (g:Int) true ByteArray.empty=r:=⟨_,rfl⟩
      have HS2:Hid (((pairs N G).take (a*G+(g+1))).foldlM dH d=r):=by
       unfold Hid;rw[HS.out,<-hr];unfold dH;rw[if_pos hh]
      have HNZ:Hid (∀e,r=.error e->(e != 0)=true):=fun e h=>by rw[h]at hr;have:=BD hr;simpa using this
      have JM:Hid (∀d',r=.ok d'->aL d'/\d'.ah.length=N/\d'.au.length=G):=fun d' h=>by
       rw[h]at hr;obtain⟨x1,x2,x3⟩:=wL (a:=a) (g:=g) HRJ.out.1 hr;exact⟨x1,x3.trans HRJ.out.2.1,by rw[x2];exact HRJ.out.2.2⟩
      rw[hr]at hCa;have c1:=HBJ.out.par.c1;have c2:=HBJ.out.par.c2;clear hh HS hlg hr
      cases r with
      | error er =>
       have her:=HNZ.out er rfl
       go_wp2_with fail
       refine Hz.mono ?_;rintro e w' ⟨rfl,hw'⟩;obtain rfl:=hw'.symm
       go_wp2_with fail
       refine hCa.mono ?_;rintro e w4 ⟨hR4,_⟩;obtain⟨rfl,hS4⟩:=hR4 er rfl;clear c0 c1 c2 hCa hR4 Hz;obtain⟨w5,hw5⟩:∃y,w4.alloc (.cells #[.slice none 0 0,.slice none 0 0,.slice none 0 0] 31)=y:=⟨_,rfl⟩;have lN:=aF hw5;have hN5:aU w5 w4.heap.size:=by rw[<-hw5];exact aU.new w4 _
       obtain⟨w6,hw6⟩:∃y,((w5.setCell ⟨w4.heap.size,0,none⟩ (.slice none 0 0)).setCell ⟨w4.heap.size,1,none⟩ (.slice none 0 0)).setCell ⟨w4.heap.size,2,none⟩ (.slice none 0 0)=y:=⟨_,rfl⟩;have hS5:ak w4 w6:=by rw[<-hw6];exact(aS w5 w4.heap.size _ _ _).aI lN (fun i hi e=>by omega)
       obtain⟨_,z0,z1,z2,z3,z4,z5⟩:=hN5;obtain⟨_,r0,r1,r2,r3,r4,r5⟩:=hNo.ay (hS4.trans hS5)
       go_wp2_with fail
       refine bodyPost_ret (v:=.tuple #[.agg #[.slice none 0 0,.slice none 0 0,.slice none 0 0],.int .i64 0,.int .i64 er]) ?_ rfl (jB.out er (by rw[HRD.out,qZ dH (pairs N G) d HS2.out];rfl) _ (cu hSp.size (hSo.trans (hS4.trans hS5))));simp[results,results63,go_sem,r0,r1,r2]
      | ok d2 =>
       have HQ:Hid (aL d2/\d2.ah.length=N/\d2.au.length=G):=JM.out d2 rfl
       go_wp2_with fail
       refine Hz.mono ?_;rintro e w' ⟨rfl,hw'⟩;obtain rfl:=hw'.symm
       go_wp2_with fail
       refine hCa.mono ?_;rintro e w4 ⟨_,hR4⟩;obtain⟨L4,rfl,hO4,hS4⟩:=hR4 d2 rfl;simp only[bF];clear c0 c1 c2 hCa hR4 Hz;obtain⟨w5,hw5⟩:∃y,w4.alloc (.cells #[.slice (L4 (0,0,0)).a d2.au.length (L4 (0,0,0)).cap,.slice (L4 (1,0,0)).a d2.ah.length (L4 (1,0,0)).cap,.slice (L4 (2,0,0)).a d2.aB.length (L4 (2,0,0)).cap] 31)=y:=⟨_,rfl⟩;have hS5:=aF hw5
       have hB5:kF w5 w4.heap.size L4 d2:=by rw[<-hw5];constructor <;> simp[go_sem]
       have HBo:=HBJ.out.ay (hS4.trans hS5);obtain⟨w6,hw6⟩:∃y,((w5.setCell ⟨w.heap.size,0,none⟩ (.slice (L4 (0,0,0)).a d2.au.length (L4 (0,0,0)).cap)).setCell ⟨w.heap.size,1,none⟩ (.slice (L4 (1,0,0)).a d2.ah.length (L4 (1,0,0)).cap)).setCell ⟨w.heap.size,2,none⟩ (.slice (L4 (2,0,0)).a d2.aB.length (L4 (2,0,0)).cap)=y:=⟨_,rfl⟩;have hlo1:w1.heap.size<=wu.heap.size:=hUp.size;have HB6:Hid (C8 w6 w.heap.size (fE L4 d2) d2):=by rw[<-hw6];exact HBo.put (hO4.ay hS5) (by omega)
       have hU6:Fr (Up w1.heap.size fun i=>i=w.heap.size) w1 w6:=by rw[<-hw6];exact hUp.aT (((hS4.trans hS5).up _ _).aT ((aS w5 w.heap.size _ _ _).mono (fun i _ e=>.inr e)))
       obtain⟨⟨_,x0,x1,x2⟩,x3,x4,x5,_⟩:=HBo;obtain⟨_,v0,v1,v2,_,_,_⟩:=hB5
       go_wp2
       go_roundw
       case rel=>exact⟨g+1,d2,fE L4 d2,HLG.out,by go_num,HS2.out,HQ,HB6,hU6⟩
       case measure=>have:=HLG.out;simp[intOf];omega
    ·have HE:Hid (g=G):=by unfold Hid;have:=HG.out;omega
     have h2:¬ (g:Int) < (G:Int):=by omega
     have HLT:Hid (a < N):=hlt';have e1:a*G+g=(a+1)*G:=by rw[HE.out,Nat.add_mul,Nat.one_mul]
     have HF2:Hid (((pairs N G).take ((a+1)*G)).foldlM dH d=.ok dj):=by unfold Hid;rw[<-e1];exact HF.out
     clear hlg e1;have ha4:a < 4:=by have:=HN4.out.1;have:=HLT.out;omega
     go_wp2
     go_roundw
     case rel=>exact⟨a+1,dj,xj,HLT.out,by go_num,HF2.out,HRJ,HBJ,hUp⟩
     case measure=>have:=HLT.out;simp[intOf];omega
  ·have HE:Hid (a=N):=by unfold Hid;have:=HA.out;omega
   have h1:¬ (a:Int) < (N:Int):=by omega
   clear hlt'
   have hSo:ak w wo:=hUp.aI hS1 (fun i hi h=>by rcases h with h | h;have:=hS1.size;omega;omega)
   have hNo:aU wo wp.heap.size:=hNB.fr hUp (by rintro(h | h);exact h hlt1;omega);have HF2:Hid (fJ d=gY dk):=by unfold Hid;rw[HRD.out];have h:=HF.out;rw[HE.out,<-jg,List.take_length]at h;rw[h];rfl
   have b0:=HBK.out.par.c0;have b2:=HBK.out.par.c2;have hDr:=yw xk dk wo HBK.out.at_ HRK.out.1;rw[show xk.nl=N from HBK.out.at_.n.bq.symm.trans HRK.out.2.1]at hDr;unfold fq at hDr;obtain⟨r,hr⟩:∃r,gY dk=r:=⟨_,rfl⟩;have HRR:Hid (fJ d=r):=by unfold Hid;rw[HF2.out,hr]
   rw[hr]at hDr;clear hr;have hlo1:w1.heap.size<=wo.heap.size:=hUp.size
   cases r with
   | error er =>
    go_wp2_with fail
    refine hDr.mono ?_;rintro e w4 hR4;obtain⟨rfl,hF4⟩:=hR4.out.1 er rfl;have hS4:=hF4.none;obtain⟨_,r0,r1,r2,r3,r4,r5⟩:=hNo.ay hS4;clear b0 b1 b2 hDr
    go_wp2_with fail
    refine bodyPost_ret (v:=.tuple #[.agg #[.slice none 0 0,.slice none 0 0,.slice none 0 0],.int .i64 0,.int .i64 er]) ?_ rfl (jB.out er HRR.out _ (cu hSp.size (hSo.trans hS4)));simp[results,results63,go_sem,r0,r1,r2]
   | ok dm =>
    obtain⟨d2,m⟩:=dm
    go_wp2_with fail
    refine hDr.mono ?_;rintro e w4 hR4;obtain⟨L4,rfl,hO4,hF4⟩:=hR4.out.2 d2 m rfl;have hS4:=hF4.none;simp only[bF];obtain⟨_,r0,r1,r2,r3,r4,r5⟩:=hNo.ay hS4;clear b0 b1 b2 hDr;obtain⟨hO9,hSf⟩:=hO4.result (w0:=w) (p:=wp.heap.size) (by omega) hSp.size (hSo.trans hS4) (by have:=hS1.size;omega)
    go_wp2_with fail
    refine bodyPost_ret (v:=.tuple #[bF L4 d2,.int .i64 m,.int .i64 0]) ?_ rfl (HOK.out d2 m L4 _ HRR.out hO9 hSf);simp[results,results63,go_sem,r0,r1,r2,bF]
theorem EX(x:WV)(d:Wd)(w:World)(hW:WAt w x d)(R:aL d) :
  Calls prog 63 #[.agg #[.slice x.ga x.gl x.gc,.slice x.na x.nl x.nc,.slice x.wa x.wl x.wc]] w fun e w'=>Hid (y8 w (ji d) e w') :=
 EW x d w hW R _ _ rfl rfl (fun e w'=>y8 w (ji d) e w')
  (fun er h w' hS=>by unfold ji;rw[h];exact lQ hS) (fun d' m L' w' h hO hS=>by unfold ji;rw[h];exact pV hO hS)
theorem BF(x:WV)(d:Wd)(w:World)(hW:WAt w x d) :
  Calls prog 62 #[.agg #[.slice x.ga x.gl x.gc,.slice x.na x.nl x.nc,.slice x.wa x.wl x.wc]] w fun e w'=>Hid (y8 w (checked d (fq d)) e w'):=by
 obtain⟨ga,gl,gc,na,nl,nc,wa,wl,wc⟩:=x;dsimp only;obtain⟨wp,hwp⟩:∃wp,w.alloc (.cells #[.slice ga gl gc,.slice na nl nc,.slice wa wl wc] 31)=wp:=⟨_,rfl⟩;have hPp:aP wp w.heap.size ⟨ga,gl,gc,na,nl,nc,wa,wl,wc⟩:=by rw[<-hwp];exact aP.new w ⟨ga,gl,gc,na,nl,nc,wa,wl,wc⟩ _
 have hSp:=aF hwp;obtain⟨w1,hw1⟩:∃w1,wp.alloc (.cells #[.slice none 0 0,.slice none 0 0,.slice none 0 0] 31)=w1:=⟨_,rfl⟩;have hNB:aU w1 wp.heap.size:=by rw[<-hw1];exact aU.new wp _
 have dZ:=aF hw1;have hP1:=hPp.ay dZ;have hS1:=hSp.trans dZ;have hW1:=hW.ay hS1;have p0:=hP1.c0;have p1:=hP1.c1;have p2:=hP1.c2;dsimp only at p0 p1 p2;have PF:Hid (∀y,ak w1 y->aP y w.heap.size ⟨ga,gl,gc,na,nl,nc,wa,wl,wc⟩):=fun y hy=>hP1.ay hy;have hEr:=sO ⟨ga,gl,gc,na,nl,nc,wa,wl,wc⟩ d w1 hW1;dsimp only at hEr;cases hE:(aZ d != 0)
 ·have hz:aZ d=0:=by simpa using hE
  have HR:Hid (aL d):=(cZ d).1 hz;rw[show checked d (fq d)=fq d from by unfold checked;rw[if_pos hz]];rw[hz]at hEr;obtain⟨r,hr⟩:∃r,fq d=r:=⟨_,rfl⟩;have hCa:=fun (y:World) (hy:ak w1 y)=>yw ⟨ga,gl,gc,na,nl,nc,wa,wl,wc⟩ d y (hW1.ay hy) HR.out;rw[hr]at hCa ⊢;dsimp only at hCa;clear hr hz hE
  go_enter func62,ntmps62
  go_wp2_with fail
  refine hEr.mono ?_;rintro e w2 ⟨rfl,hS2⟩;obtain⟨_,f0,f1,f2⟩:=PF.out _ hS2;dsimp only at f0 f1 f2;clear hEr hw1 hwp
  go_wp2_with fail
  refine(hCa w2 hS2).mono ?_;rintro e w3 hR3
  cases r with
  | error er =>
   obtain⟨rfl,hF3⟩:=hR3.out.1 er rfl;have hS3:=hF3.none;obtain⟨_,r0,r1,r2,r3,r4,r5⟩:=hNB.ay (hS2.trans hS3);clear hR3 f0 f1 f2 p0 p1 p2
   go_wp2_with fail
   refine bodyPost_ret (v:=.tuple #[.agg #[.slice none 0 0,.slice none 0 0,.slice none 0 0],.int .i64 0,.int .i64 er]) ?_ rfl (show Hid _ from lQ (cu hSp.size (hS1.trans (hS2.trans hS3))));simp[results,results62,go_sem,r0,r1,r2]
  | ok dm =>
   obtain⟨d',m⟩:=dm;obtain⟨L,rfl,hO,hF3⟩:=hR3.out.2 d' m rfl;have hS3:=hF3.none;simp only[bF];obtain⟨_,r0,r1,r2,r3,r4,r5⟩:=hNB.ay (hS2.trans hS3);clear hR3 f0 f1 f2 p0 p1 p2;obtain⟨hO2,hSf⟩:=hO.result (w0:=w) (p:=wp.heap.size) (zQ4 hNB.lt hS2.size) hSp.size (hS1.trans (hS2.trans hS3)) (zQ5 hS1.size hS2.size)
   go_wp2_with fail
   refine bodyPost_ret (v:=.tuple #[bF L d',.int .i64 m,.int .i64 0]) ?_ rfl (show Hid _ from pV hO2 hSf);simp[results,results62,go_sem,r0,r1,r2,bF]
 ·have hne:aZ d≠0:=by simpa using hE
  rw[show checked d (fq d)=.error (aZ d) from by unfold checked;rw[if_neg hne]];clear hne
  go_enter func62,ntmps62
  go_wp2_with (go_at_call 64;refine hEr.mono ?_;rintro e w2 ⟨rfl,hS2⟩;obtain⟨_,r0,r1,r2,r3,r4,r5⟩:=hNB.ay hS2)
  refine bodyPost_ret (v:=.tuple #[.agg #[.slice none 0 0,.slice none 0 0,.slice none 0 0],.int .i64 0,.int .i64 (aZ d)]) ?_ rfl (show Hid _ from lQ (cu hSp.size (hS1.trans hS2)));simp[results,results62,go_sem,r0,r1,r2]
end Go.Proofs.YtediempflagfkaaGreatDoor
