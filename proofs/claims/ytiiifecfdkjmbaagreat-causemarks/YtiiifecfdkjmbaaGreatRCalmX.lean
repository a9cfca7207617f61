/- Lemmas. -/
import Derived.Test.YtiiifecfdkjmbaaGreatSCalmX
set_option maxHeartbeats 2000000
namespace Go.Proofs.YtiiifecfdkjmbaaGreat
open _root_.Go.Proofs.Tryz hiding checked
set_option maxRecDepth 8000
open Go.RowKit Go.Shelf
open Pu
set_option linter.unusedVariables false
set_option linter.unusedSimpArgs false
theorem JZ {w:World} {p:Nat} {d:Wd} {L:Lay} {a b c:Value} (lt:p < w.heap.size) (c0:w.cell? ⟨p,0,none⟩=some a) (c1:w.cell? ⟨p,1,none⟩=some b) (c2:w.cell? ⟨p,2,none⟩=some c) (z0:w.frozen? ⟨p,0,none⟩=false) (z1:w.frozen? ⟨p,1,none⟩=false) (z2:w.frozen? ⟨p,2,none⟩=false) :
  jV (((w.setCell ⟨p,0,none⟩ (.slice (L (0,0,0)).a d.groups.length (L (0,0,0)).cap)).setCell ⟨p,1,none⟩ (.slice (L (1,0,0)).a d.nodes.length (L (1,0,0)).cap)).setCell ⟨p,2,none⟩ (.slice (L (2,0,0)).a d.wires.length (L (2,0,0)).cap)) p L d :=
 ⟨zQ4 lt (dN w p _ _ _).size,pI c0,pJ c1,pK c2,(gT _ _ _ _ _ _).trans z0,(gT _ _ _ _ _ _).trans z1,(gT _ _ _ _ _ _).trans z2⟩
theorem aD.fr {B:Nat->Prop} {w w':World} {p:Nat} (h:aD w p) (k:Fr B w w') (hp:¬ B p):aD w' p :=
 ⟨zQ4 h.lt k.size,(k.cell (p:=⟨p,0,none⟩) h.lt hp).trans h.c0,(k.cell (p:=⟨p,1,none⟩) h.lt hp).trans h.c1,(k.cell (p:=⟨p,2,none⟩) h.lt hp).trans h.c2,(k.frozen (p:=⟨p,0,none⟩) h.lt hp).trans h.z0,(k.frozen (p:=⟨p,1,none⟩) h.lt hp).trans h.z1,(k.frozen (p:=⟨p,2,none⟩) h.lt hp).trans h.z2⟩
theorem Gn (x:WV) (d:Wd) (f t:Nat) (hf:f < d.nodes.length) (ht:t < d.nodes.length) (w:World) (hW:WAt w x d) (R:Right d) (N:Nat) (hN:(aA d f t).length=N) (Post:Ending->World->Prop)
  (jl:∀ er,dY f t N d=.error er->∀ w',Since w w'->Post (.returned (.tuple #[.agg #[.slice none 0 0,.slice none 0 0,.slice none 0 0],.int .i64 0,.int .i64 er])) w')
  (hOk:∀ d' L' w',dY f t N d=.ok d'->bE w.heap.size w' d' L'->Since w w'->Post (.returned (.tuple #[aS L' d',.int .i64 N,.int .i64 0])) w') :
  Calls prog 97 #[.agg #[.slice x.ga x.gl x.gc,.slice x.na x.nl x.nc,.slice x.wa x.wl x.wc],.int .i64 f,.int .i64 t] w fun e w'=>Hid (Post e w'):=by
 obtain ⟨ga,gl,gc,na,nl,nc,wa,wl,wc⟩:=x;dsimp only;have jo:=(show Hid _ from jl);have HOK:=(show Hid _ from hOk);have HN:Hid ((aA d f t).length=N):=hN;have Rl:Hid (N<=40):=by unfold Hid;rw [<-hN];exact R.oM f t
 have HR:Hid (Right d):=R;have hsm:=jP R;clear jl hOk hN R;obtain ⟨wp,hwp⟩:∃ wp,w.alloc (.cells #[.slice ga gl gc,.slice na nl nc,.slice wa wl wc] 26)=wp:=⟨_,rfl⟩;have hPp:aO wp w.heap.size ⟨ga,gl,gc,na,nl,nc,wa,wl,wc⟩:=by rw [<-hwp];exact aO.new w ⟨ga,gl,gc,na,nl,nc,wa,wl,wc⟩ _
 have hPz:wp.frozen? ⟨w.heap.size,0,none⟩=false/\wp.frozen? ⟨w.heap.size,1,none⟩=false/\wp.frozen? ⟨w.heap.size,2,none⟩=false:=by rw [<-hwp];simp [go_sem]
 have hSp:=ay hwp;obtain ⟨w1,hw1⟩:∃ w1,wp.alloc (.cells #[.slice none 0 0,.slice none 0 0,.slice none 0 0] 26)=w1:=⟨_,rfl⟩;have hNB:aD w1 wp.heap.size:=by rw [<-hw1];exact aD.new wp _
 have cO:=ay hw1;have hP1:=hPp.since cO;have hS1:=hSp.trans cO;have hW1:=hW.since hS1;have hlt:w.heap.size < wp.heap.size:=hPp.lt;have p0:=hP1.c0;have p1:=hP1.c1;have p2:=hP1.c2;dsimp only at p0 p1 p2
 have PF:Hid (∀ y,Since w1 y->aO y w.heap.size ⟨ga,gl,gc,na,nl,nc,wa,wl,wc⟩/\y.frozen? ⟨w.heap.size,0,none⟩=false/\y.frozen? ⟨w.heap.size,1,none⟩=false/\y.frozen? ⟨w.heap.size,2,none⟩=false):=fun y hy =>
  ⟨hP1.since hy,((cO.trans hy).below.frozen (p:=⟨w.heap.size,0,none⟩) hPp.lt).trans hPz.1,((cO.trans hy).below.frozen (p:=⟨w.heap.size,1,none⟩) hPp.lt).trans hPz.2.1,((cO.trans hy).below.frozen (p:=⟨w.heap.size,2,none⟩) hPp.lt).trans hPz.2.2⟩
 go_enter func97,ntmps97
 go_wp2_with fail
 refine (nA ⟨ga,gl,gc,na,nl,nc,wa,wl,wc⟩ d w1 hW1 hsm).mono ?_;rintro e w2 ⟨L,rfl,hO2,dn⟩;simp only [aS];obtain ⟨hP2,y0,y1,y2⟩:=PF.out _ dn;obtain ⟨lt2,f0,f1,f2⟩:=hP2;dsimp only at f0 f1 f2;obtain ⟨w3,hw3⟩:∃ y,((w2.setCell ⟨w.heap.size,0,none⟩ (.slice (L (0,0,0)).a d.groups.length (L (0,0,0)).cap)).setCell ⟨w.heap.size,1,none⟩ (.slice (L (1,0,0)).a d.nodes.length (L (1,0,0)).cap)).setCell ⟨w.heap.size,2,none⟩ (.slice (L (2,0,0)).a d.wires.length (L (2,0,0)).cap)=y:=⟨_,rfl⟩;have hB3:jV w3 w.heap.size L d:=by rw [<-hw3];exact JZ lt2 f0 f1 f2 y0 y1 y2
 have hF3:Fr (fun i=>i=w.heap.size) w2 w3:=by rw [<-hw3];exact dN w2 w.heap.size _ _ _
 have hlt1:wp.heap.size < w1.heap.size:=hNB.lt;have hM3:cu w1.heap.size w3 w.heap.size d L:=⟨hO2.fr hF3 (fun b hb e=>by have:=(hO2.blk hb).1;have e:b=w.heap.size:=e;omega),hB3,fun hb=>by have:=(hO2.blk hb).1;omega⟩;have hU3:Fr (Up w1.heap.size fun i=>i=w.heap.size) w1 w3:=(dn.up _ _).aF (hF3.mono (fun i _ e=>.inr e));clear hw1 hwp hO2 hB3 hF3 p0 p1 p2
 go_wp2_with fail
 clear hw3 f0 f1 f2 y0 y1 y2
 go_loopw [9] (fun i wr=>∃ (k:Nat) (dk:Wd) (Lk:Lay),k<=N/\i=.int .i64 k/\dY f t k d=.ok dk/\cu w1.heap.size wr w.heap.size dk Lk/\Fr (Up w1.heap.size fun i=>i=w.heap.size) w1 wr) (fun i _=>N - (intOf i).toNat)
 case atStart=>exact ⟨0,d,L,Nat.zero_le _,rfl,rfl,hM3,hU3⟩
 case round =>
  clear hM3 hU3;obtain ⟨wo,rfl⟩:∃ wo,wo=wr:=⟨_,rfl⟩;obtain ⟨k,dk,Lk,hk,rfl,hmv,hM,hUp⟩:=hrel;have HMV:Hid (dY f t k d=.ok dk):=hmv;have hms:=sJ k d dk HR.out hf ht (by rw [HN.out];exact hk) hmv;have HRK:Hid (Right dk/\dk.nodes.length=d.nodes.length):=⟨hms.right,hms.grow.alike.n⟩;obtain ⟨nn,hnn⟩:∃ nn,(aA dk f t).length=nn:=⟨_,rfl⟩;have HNK:Hid (nn=N - k):=by unfold Hid;rw [<-hnn,hms.here,List.length_drop,HN.out]
  have hfk:f < dk.nodes.length:=by rw [HRK.out.2];exact hf
  have htk:t < dk.nodes.length:=by rw [HRK.out.2];exact ht
  have hwn:(f:Int) < (dk.wires.length:Int):=by have:=HRK.out.1.uF;omega
  have htn:(t:Int) < (dk.nodes.length:Int):=by omega
  obtain ⟨bw2,ow2,cw2,br2,oR2,cr2,hH⟩:=hM.pW HRK.out.1.rows hfk htk;obtain ⟨la,lcc,hL8⟩:∃ la lcc,Lk (8,f,t)=⟨la,lcc⟩:=⟨_,_,rfl⟩;have s4:=hH.cell;rw [hL8,hnn] at s4;dsimp only [Sl.v] at s4;have s2:=hH.top;have s3:=hH.row
  have hL2:Lk (2,0,0)=⟨some ⟨bw2,ow2,none⟩,cw2⟩:=by
   have e2:=Option.some.inj (hM.box.c2.symm.trans hH.top)
   generalize Lk (2,0,0)=s at e2 ⊢
   obtain ⟨sa,sc⟩:=s;simp at e2;simp [e2]
  have HL2:=(show Hid _ from hL2);have HK:Hid (k<=N):=hk
  have hSo:Since w wo:=hUp.aC hS1 (fun i hi h=>by rcases h with h | h;have:=hS1.size;omega;omega)
  have hNo:aD wo wp.heap.size:=hNB.fr hUp (by rintro (h | h);exact h hlt1;omega);clear hmv hms hnn hL8 hk hL2;by_cases hl:k < N
  ·have hp:(0:Int) < (nn:Int):=by have:=HNK.out;omega
   have HLT:Hid (k < N):=hl;have b0:=hM.box.c0;have b1:=hM.box.c1;have hMv:=sV (fV Lk dk) dk f t hfk htk wo hM.own.wat HRK.out.1;unfold fV at hMv;dsimp only at hMv;rw [HL2.out] at hMv;dsimp only at hMv;have HM1:Hid (dY f t (k+1) d=fO dk f t):=by unfold Hid;rw [qR,HMV.out];rfl
   obtain ⟨r,hr⟩:∃ r,fO dk f t=r:=⟨_,rfl⟩;rw [hr] at hMv;have HRR:Hid (dY f t (k+1) d=r):=by unfold Hid;rw [HM1.out,hr]
   have HNZ:Hid (∀ e,r=.error e->(e != 0)=true):=fun e h=>by rw [h] at hr;have:=xD hr;simpa using this
   clear hr hl
   cases r with
   | error er =>
    have her:=HNZ.out er rfl
    go_wp2_with fail
    refine hMv.mono ?_;rintro e w4 ⟨hR4,_⟩;obtain ⟨rfl,hS4⟩:=hR4 er rfl;clear s2 s3 s4 b0 b1 hMv hR4;obtain ⟨w5,hw5⟩:∃ y,w4.alloc (.cells #[.slice none 0 0,.slice none 0 0,.slice none 0 0] 26)=y:=⟨_,rfl⟩;have lF:=ay hw5;have hN5:aD w5 w4.heap.size:=by rw [<-hw5];exact aD.new w4 _
    obtain ⟨w6,hw6⟩:∃ y,((w5.setCell ⟨w4.heap.size,0,none⟩ (.slice none 0 0)).setCell ⟨w4.heap.size,1,none⟩ (.slice none 0 0)).setCell ⟨w4.heap.size,2,none⟩ (.slice none 0 0)=y:=⟨_,rfl⟩;have hS5:Since w4 w6:=by rw [<-hw6];exact (dN w5 w4.heap.size _ _ _).aC lF (fun i hi e=>by omega)
    obtain ⟨_,z0,z1,z2,z3,z4,z5⟩:=hN5;obtain ⟨_,r0,r1,r2,r3,r4,r5⟩:=hNo.since (hS4.trans hS5)
    go_wp2_with fail
    refine bodyPost_ret (v:=.tuple #[.agg #[.slice none 0 0,.slice none 0 0,.slice none 0 0],.int .i64 0,.int .i64 er]) ?_ rfl (jo.out er (by have:=vM HRR.out (N - (k+1));rwa [show k+1+(N - (k+1))=N from by have:=HLT.out;omega] at this) _ (aM hSp.size (hSo.trans (hS4.trans hS5))));simp [results,results97,go_sem,r0,r1,r2]
   | ok d2 =>
    go_wp2_with fail
    refine hMv.mono ?_;rintro e w4 ⟨_,hR4⟩;obtain ⟨L4,rfl,hO4,hS4⟩:=hR4 d2 rfl;simp only [aS];clear s2 s3 s4 b0 b1 hMv hR4;obtain ⟨w5,hw5⟩:∃ y,w4.alloc (.cells #[.slice (L4 (0,0,0)).a d2.groups.length (L4 (0,0,0)).cap,.slice (L4 (1,0,0)).a d2.nodes.length (L4 (1,0,0)).cap,.slice (L4 (2,0,0)).a d2.wires.length (L4 (2,0,0)).cap] 26)=y:=⟨_,rfl⟩;have hS5:=ay hw5
    have hB5:jV w5 w4.heap.size L4 d2:=by rw [<-hw5];constructor <;> simp [go_sem]
    have hMo:=hM.since (hS4.trans hS5);obtain ⟨w6,hw6⟩:∃ y,((w5.setCell ⟨w.heap.size,0,none⟩ (.slice (L4 (0,0,0)).a d2.groups.length (L4 (0,0,0)).cap)).setCell ⟨w.heap.size,1,none⟩ (.slice (L4 (1,0,0)).a d2.nodes.length (L4 (1,0,0)).cap)).setCell ⟨w.heap.size,2,none⟩ (.slice (L4 (2,0,0)).a d2.wires.length (L4 (2,0,0)).cap)=y:=⟨_,rfl⟩;have hlo1:w1.heap.size<=wo.heap.size:=hUp.size;have hM6:=Ns (lo:=w1.heap.size) (hO4.since hS5) hMo.box hlo1 (by omega);rw [hw6] at hM6;have hU6:Fr (Up w1.heap.size fun i=>i=w.heap.size) w1 w6:=by rw [<-hw6];exact hUp.aF (((hS4.trans hS5).up _ _).aF ((dN w5 w.heap.size _ _ _).mono (fun i _ e=>.inr e)))
    obtain ⟨_,x0,x1,x2,x3,x4,x5⟩:=hMo.box;rw [HL2.out] at x2;dsimp only at x2;obtain ⟨_,v0,v1,v2,_,_,_⟩:=hB5;have hk1:IntKind.i64.wrap ((k:Int)+1)=(k:Int)+1:=IntWalk.i64_in _ (by have:=HLT.out;have:=Rl.out;omega)
    go_wp2
    go_roundw
    case rel=>exact ⟨k+1,d2,L4,HLT.out,by go_num,HRR.out,hM6,hU6⟩
    case measure=>have:=HLT.out;simp [intOf];omega
  ·have HE:Hid (N=k):=by unfold Hid;have:=HK.out;omega
   have hp:¬ (0:Int) < (nn:Int):=by have:=HNK.out;omega
   have b0:=hM.box.c0;have b1:=hM.box.c1;obtain ⟨_,r0,r1,r2,r3,r4,r5⟩:=hNo;obtain ⟨hO9,hSf⟩:=hM.own.result (w0:=w) (p:=wp.heap.size) hlt1 hSp.size hSo hS1.size;rw [HL2.out] at hO9 hSf;dsimp only at hO9 hSf;clear hl
   go_wp2_with fail
   refine bodyPost_ret (v:=.tuple #[aS Lk dk,.int .i64 k,.int .i64 0]) ?_ rfl (by have h:=HOK.out dk Lk _ (by rw [HE.out];exact HMV.out) hO9 hSf;rwa [HE.out] at h);simp [results,results97,go_sem,r0,r1,r2,aS,HL2.out]
theorem Gp (x:WV) (d:Wd) (f t:Nat) (hf:f < d.nodes.length) (ht:t < d.nodes.length) (w:World) (hW:WAt w x d) (R:Right d) :
  Calls prog 97 #[.agg #[.slice x.ga x.gl x.gc,.slice x.na x.nl x.nc,.slice x.wa x.wl x.wc],.int .i64 f,.int .i64 t] w fun e w'=>Hid (yA w ((oK d f t).bind fun r=>.ok (r.1,(r.2:Int))) e w'):=by
 have e:((oK d f t).bind fun r=>.ok (r.1,(r.2:Int)):Except Int (Wd × Int))=(dY f t (aA d f t).length d).bind fun d'=>.ok (d',((aA d f t).length:Int)):=by
  show ((dY f t (aA d f t).length d).bind _).bind _=_
  cases dY f t (aA d f t).length d <;> rfl
 rw [e]
 exact Gn x d f t hf ht w hW R _ rfl (fun e w'=>yA w ((dY f t (aA d f t).length d).bind fun d'=>.ok (d',((aA d f t).length:Int))) e w')
  (fun er h w' hS=>by rw [h];exact lG hS) (fun d' L' w' h hO hS=>by rw [h];exact oU hO hS)
theorem DZ (x:WV) (d:Wd) (w:World) (hW:WAt w x d) (R:Right d) (N:Nat) (hN:d.nodes.length=N) (Post:Ending->World->Prop)
  (jl:∀ er,(pairs N N).foldlM bW (d,0)=.error er->∀ w',Since w w'->Post (.returned (.tuple #[.agg #[.slice none 0 0,.slice none 0 0,.slice none 0 0],.int .i64 0,.int .i64 er])) w')
  (hOk:∀ d' (m:Nat) L' w',(pairs N N).foldlM bW (d,0)=.ok (d',m)->bE w.heap.size w' d' L'->Since w w'->Post (.returned (.tuple #[aS L' d',.int .i64 m,.int .i64 0])) w') :
  Calls prog 104 #[.agg #[.slice x.ga x.gl x.gc,.slice x.na x.nl x.nc,.slice x.wa x.wl x.wc]] w fun e w'=>Hid (Post e w'):=by
 obtain ⟨ga,gl,gc,na,nl,nc,wa,wl,wc⟩:=x;dsimp only;have jo:=(show Hid _ from jl);have HOK:=(show Hid _ from hOk);have HN4:Hid (N<=4):=by unfold Hid;rw [<-hN];exact (small R).1
 have HR0:Hid (Right d/\d.nodes.length=N):=⟨R,hN⟩;have hsm:=jP R;clear jl hOk hN R;obtain ⟨wp,hwp⟩:∃ wp,w.alloc (.cells #[.slice ga gl gc,.slice na nl nc,.slice wa wl wc] 26)=wp:=⟨_,rfl⟩;have hPp:aO wp w.heap.size ⟨ga,gl,gc,na,nl,nc,wa,wl,wc⟩:=by rw [<-hwp];exact aO.new w ⟨ga,gl,gc,na,nl,nc,wa,wl,wc⟩ _
 have hPz:wp.frozen? ⟨w.heap.size,0,none⟩=false/\wp.frozen? ⟨w.heap.size,1,none⟩=false/\wp.frozen? ⟨w.heap.size,2,none⟩=false:=by rw [<-hwp];simp [go_sem]
 have hSp:=ay hwp;obtain ⟨w1,hw1⟩:∃ w1,wp.alloc (.cells #[.slice none 0 0,.slice none 0 0,.slice none 0 0] 26)=w1:=⟨_,rfl⟩;have hNB:aD w1 wp.heap.size:=by rw [<-hw1];exact aD.new wp _
 have cO:=ay hw1;have hP1:=hPp.since cO;have hS1:=hSp.trans cO;have hW1:=hW.since hS1;have hlt:w.heap.size < wp.heap.size:=hPp.lt;have p0:=hP1.c0;have p1:=hP1.c1;have p2:=hP1.c2;dsimp only at p0 p1 p2
 have PF:Hid (∀ y,Since w1 y->aO y w.heap.size ⟨ga,gl,gc,na,nl,nc,wa,wl,wc⟩/\y.frozen? ⟨w.heap.size,0,none⟩=false/\y.frozen? ⟨w.heap.size,1,none⟩=false/\y.frozen? ⟨w.heap.size,2,none⟩=false):=fun y hy =>
  ⟨hP1.since hy,((cO.trans hy).below.frozen (p:=⟨w.heap.size,0,none⟩) hPp.lt).trans hPz.1,((cO.trans hy).below.frozen (p:=⟨w.heap.size,1,none⟩) hPp.lt).trans hPz.2.1,((cO.trans hy).below.frozen (p:=⟨w.heap.size,2,none⟩) hPp.lt).trans hPz.2.2⟩
 go_enter func104,ntmps104
 go_wp2_with fail
 refine (nA ⟨ga,gl,gc,na,nl,nc,wa,wl,wc⟩ d w1 hW1 hsm).mono ?_;rintro e w2 ⟨L,rfl,hO2,dn⟩;simp only [aS];obtain ⟨hP2,y0,y1,y2⟩:=PF.out _ dn;obtain ⟨lt2,f0,f1,f2⟩:=hP2;dsimp only at f0 f1 f2;obtain ⟨w3,hw3⟩:∃ y,((w2.setCell ⟨w.heap.size,0,none⟩ (.slice (L (0,0,0)).a d.groups.length (L (0,0,0)).cap)).setCell ⟨w.heap.size,1,none⟩ (.slice (L (1,0,0)).a d.nodes.length (L (1,0,0)).cap)).setCell ⟨w.heap.size,2,none⟩ (.slice (L (2,0,0)).a d.wires.length (L (2,0,0)).cap)=y:=⟨_,rfl⟩;have hB3:jV w3 w.heap.size L d:=by rw [<-hw3];exact JZ lt2 f0 f1 f2 y0 y1 y2
 have hF3:Fr (fun i=>i=w.heap.size) w2 w3:=by rw [<-hw3];exact dN w2 w.heap.size _ _ _
 have hlt1:wp.heap.size < w1.heap.size:=hNB.lt;have hM3:cu w1.heap.size w3 w.heap.size d L:=⟨hO2.fr hF3 (fun b hb e=>by have:=(hO2.blk hb).1;have e:b=w.heap.size:=e;omega),hB3,fun hb=>by have:=(hO2.blk hb).1;omega⟩;have hU3:Fr (Up w1.heap.size fun i=>i=w.heap.size) w1 w3:=(dn.up _ _).aF (hF3.mono (fun i _ e=>.inr e));clear hw1 hwp hO2 hB3 hF3 p0 p1 p2
 go_wp2_with fail
 clear hw3 f0 f1 f2 y0 y1 y2
 go_loopw [5,6] (fun c i wr=>∃ (a:Nat) (dk:Wd) (m:Nat) (Lk:Lay),a<=N/\c=.int .i64 (m:Int)/\i=.int .i64 a/\((pairs N N).take (a*N)).foldlM bW (d,0)=.ok (dk,m)/\Hid (Right dk/\dk.nodes.length=N)/\m<=40*(a*N)/\cu w1.heap.size wr w.heap.size dk Lk/\Fr (Up w1.heap.size fun i=>i=w.heap.size) w1 wr) (fun _ i _=>N - (intOf i).toNat)
 case atStart=>exact ⟨0,d,0,L,Nat.zero_le _,rfl,rfl,by simp;rfl,HR0,by simp,hM3,hU3⟩
 case round =>
  clear hM3 hU3 HR0;obtain ⟨wo,rfl⟩:∃ wo,wo=wr:=⟨_,rfl⟩;obtain ⟨a,dk,m,Lk,ha,rfl,rfl,hfo,HRK,hm,hM,hUp⟩:=hrel;have HF:Hid (((pairs N N).take (a*N)).foldlM bW (d,0)=.ok (dk,m)):=hfo;have HM:Hid (m<=40*(a*N)):=hm;have HA:Hid (a<=N):=ha;have b1:=hM.box.c1;rw [HRK.out.2] at b1;clear hfo hm;by_cases hlt':a < N
  ·have h1:(a:Int) < (N:Int):=by omega
   go_wp2_with fail
   clear b1
   go_loopw [5,7] (fun c i wr=>∃ (b:Nat) (dk:Wd) (m:Nat) (Lk:Lay),b<=N/\c=.int .i64 (m:Int)/\i=.int .i64 b/\((pairs N N).take (a*N+b)).foldlM bW (d,0)=.ok (dk,m)/\Hid (Right dk/\dk.nodes.length=N)/\m<=40*(a*N+b)/\cu w1.heap.size wr w.heap.size dk Lk/\Fr (Up w1.heap.size fun i=>i=w.heap.size) w1 wr) (fun _ i _=>N - (intOf i).toNat)
   case atStart=>exact ⟨0,dk,m,Lk,Nat.zero_le _,rfl,rfl,HF.out,HRK,HM.out,hM,hUp⟩
   case round =>
    clear hM hUp HF HM HRK;obtain ⟨wu,rfl⟩:∃ wo,wo=wr:=⟨_,rfl⟩;obtain ⟨b,dj,mj,Lj,hb,rfl,rfl,hfo,HRJ,hm,hM,hUp⟩:=hrel;have HF:Hid (((pairs N N).take (a*N+b)).foldlM bW (d,0)=.ok (dj,mj)):=hfo;have HM:Hid (mj<=40*(a*N+b)):=hm;have HB:Hid (b<=N):=hb
    have hSo:Since w wu:=hUp.aC hS1 (fun i hi h=>by rcases h with h | h;have:=hS1.size;omega;omega)
    have hNo:aD wu wp.heap.size:=hNB.fr hUp (by rintro (h | h);exact h hlt1;omega);have c1:=hM.box.c1;rw [HRJ.out.2] at c1;clear hfo hm;by_cases hlb:b < N
    ·have h2:(b:Int) < (N:Int):=by omega
     have HLB:Hid (b < N):=hlb;have HLT:Hid (a < N):=hlt';have hak:a < dj.nodes.length:=by rw [HRJ.out.2];exact hlt'
     have hbk:b < dj.nodes.length:=by rw [HRJ.out.2];exact hlb
     have c0:=hM.box.c0;have c2:=hM.box.c2;have hWr:=Gp (fV Lj dj) dj a b hak hbk wu hM.own.wat HRJ.out.1;unfold fV at hWr;dsimp only at hWr;rw [HRJ.out.2] at hWr
     have HS:Hid (((pairs N N).take (a*N+(b+1))).foldlM bW (d,0)=(oK dj a b).bind fun r=>.ok (r.1,mj+r.2)):=by
      unfold Hid;have:=fold_succ bW (pairs N N) (d,0) (kX hlt' hlb);rw [HF.out] at this;exact this
     obtain ⟨r,hr⟩:∃ r,oK dj a b=r:=⟨_,rfl⟩;have HNZ:Hid (∀ e,r=.error e->(e != 0)=true):=fun e h=>by rw [h] at hr;have:=AA hr;simpa using this
     have IU:Hid (∀ d' q,r=.ok (d',q)->Right d'/\d'.nodes.length=N/\q<=40):=fun d' q h=>by rw [h] at hr;have:=vN HRJ.out.1 hak hbk hr;exact ⟨this.1,this.2.1.trans HRJ.out.2,this.2.2⟩
     rw [hr] at hWr;have HS2:Hid (((pairs N N).take (a*N+(b+1))).foldlM bW (d,0)=r.bind fun r=>.ok (r.1,mj+r.2)):=by unfold Hid;rw [HS.out,hr]
     clear hr HS hlb
     cases r with
     | error er =>
      have her:=HNZ.out er rfl
      go_wp2_with fail
      refine hWr.mono ?_;rintro e w4 hR4;obtain ⟨rfl,hF4⟩:=hR4.out.1 er rfl;have hS4:=hF4.none;clear c0 c1 c2 hWr hR4;obtain ⟨w5,hw5⟩:∃ y,w4.alloc (.cells #[.slice none 0 0,.slice none 0 0,.slice none 0 0] 26)=y:=⟨_,rfl⟩;have lF:=ay hw5;have hN5:aD w5 w4.heap.size:=by rw [<-hw5];exact aD.new w4 _
      obtain ⟨w6,hw6⟩:∃ y,((w5.setCell ⟨w4.heap.size,0,none⟩ (.slice none 0 0)).setCell ⟨w4.heap.size,1,none⟩ (.slice none 0 0)).setCell ⟨w4.heap.size,2,none⟩ (.slice none 0 0)=y:=⟨_,rfl⟩;have hS5:Since w4 w6:=by rw [<-hw6];exact (dN w5 w4.heap.size _ _ _).aC lF (fun i hi e=>by omega)
      obtain ⟨_,z0,z1,z2,z3,z4,z5⟩:=hN5;obtain ⟨_,r0,r1,r2,r3,r4,r5⟩:=hNo.since (hS4.trans hS5)
      go_wp2_with fail
      refine bodyPost_ret (v:=.tuple #[.agg #[.slice none 0 0,.slice none 0 0,.slice none 0 0],.int .i64 0,.int .i64 er]) ?_ rfl (jo.out er (qD bW (pairs N N) (d,0) HS2.out) _ (aM hSp.size (hSo.trans (hS4.trans hS5))));simp [results,results104,go_sem,r0,r1,r2]
     | ok dq =>
      obtain ⟨d2,q⟩:=dq;obtain ⟨R2,n2,q40⟩:=IU.out d2 q rfl;have HQ:Hid (Right d2/\d2.nodes.length=N):=⟨R2,n2⟩;clear R2 n2;have Rm:mj<=640:=by have h1:=HM.out;have h2:=HN4.out;have h3:=HLT.out;have h4:=HB.out;have:a*N<=3*4:=Nat.mul_le_mul (by omega) h2;omega
      go_wp2_with fail
      refine hWr.mono ?_;rintro e w4 hR4;obtain ⟨L4,rfl,hO4,hF4⟩:=hR4.out.2 d2 q rfl;have hS4:=hF4.none;simp only [aS];clear c0 c1 c2 hWr hR4;obtain ⟨w5,hw5⟩:∃ y,w4.alloc (.cells #[.slice (L4 (0,0,0)).a d2.groups.length (L4 (0,0,0)).cap,.slice (L4 (1,0,0)).a d2.nodes.length (L4 (1,0,0)).cap,.slice (L4 (2,0,0)).a d2.wires.length (L4 (2,0,0)).cap] 26)=y:=⟨_,rfl⟩;have hS5:=ay hw5
      have hB5:jV w5 w4.heap.size L4 d2:=by rw [<-hw5];constructor <;> simp [go_sem]
      have hMo:=hM.since (hS4.trans hS5);obtain ⟨w6,hw6⟩:∃ y,((w5.setCell ⟨w.heap.size,0,none⟩ (.slice (L4 (0,0,0)).a d2.groups.length (L4 (0,0,0)).cap)).setCell ⟨w.heap.size,1,none⟩ (.slice (L4 (1,0,0)).a d2.nodes.length (L4 (1,0,0)).cap)).setCell ⟨w.heap.size,2,none⟩ (.slice (L4 (2,0,0)).a d2.wires.length (L4 (2,0,0)).cap)=y:=⟨_,rfl⟩;have hlo1:w1.heap.size<=wu.heap.size:=hUp.size;have hM6:=Ns (lo:=w1.heap.size) (hO4.since hS5) hMo.box hlo1 (by omega);rw [hw6] at hM6;have hU6:Fr (Up w1.heap.size fun i=>i=w.heap.size) w1 w6:=by rw [<-hw6];exact hUp.aF (((hS4.trans hS5).up _ _).aF ((dN w5 w.heap.size _ _ _).mono (fun i _ e=>.inr e)))
      obtain ⟨_,x0,x1,x2,x3,x4,x5⟩:=hMo.box;obtain ⟨_,v0,v1,v2,_,_,_⟩:=hB5;have hadd:IntKind.i64.wrap ((mj:Int)+(q:Int))=((mj+q:Nat):Int):=by rw [Int.natCast_add];exact IntWalk.i64_in _ (by omega)
      have HMQ:Hid (mj+q<=40*(a*N+(b+1))):=by have:=HM.out;show _<=_;omega
      have hb4:b < 4:=by have:=HN4.out;have:=HLB.out;omega
      clear Rm q40
      go_wp2
      go_roundw
      case rel=>exact ⟨b+1,d2,mj+q,L4,HLB.out,rfl,by go_num,HS2.out,HQ,HMQ.out,hM6,hU6⟩
      case measure=>have:=HLB.out;simp [intOf];omega
    ·have HE:Hid (b=N):=by unfold Hid;have:=HB.out;omega
     have h2:¬ (b:Int) < (N:Int):=by omega
     have HLT:Hid (a < N):=hlt';have e1:a*N+b=(a+1)*N:=by rw [HE.out,Nat.add_mul,Nat.one_mul]
     have HF2:Hid (((pairs N N).take ((a+1)*N)).foldlM bW (d,0)=.ok (dj,mj)):=by unfold Hid;rw [<-e1];exact HF.out
     have HM2:Hid (mj<=40*((a+1)*N)):=by unfold Hid;rw [<-e1];exact HM.out
     clear hlb e1;have ha4:a < 4:=by have:=HN4.out;have:=HLT.out;omega
     go_wp2
     go_roundw
     case rel=>exact ⟨a+1,dj,mj,Lj,HLT.out,rfl,by go_num,HF2.out,HRJ,HM2.out,hM,hUp⟩
     case measure=>have:=HLT.out;simp [intOf];omega
  ·have HE:Hid (a=N):=by unfold Hid;have:=HA.out;omega
   have h1:¬ (a:Int) < (N:Int):=by omega
   clear hlt'
   have hSo:Since w wo:=hUp.aC hS1 (fun i hi h=>by rcases h with h | h;have:=hS1.size;omega;omega)
   have hNo:aD wo wp.heap.size:=hNB.fr hUp (by rintro (h | h);exact h hlt1;omega);have b0:=hM.box.c0;have b2:=hM.box.c2;obtain ⟨_,r0,r1,r2,r3,r4,r5⟩:=hNo;obtain ⟨hO9,hSf⟩:=hM.own.result (w0:=w) (p:=wp.heap.size) hlt1 hSp.size hSo hS1.size;rw [HRK.out.2] at hO9 hSf
   go_wp2_with fail
   refine bodyPost_ret (v:=.tuple #[aS Lk dk,.int .i64 m,.int .i64 0]) ?_ rfl (HOK.out dk m Lk _ (by have h:=HF.out;rwa [HE.out,<-iZ,List.take_length] at h) hO9 hSf);simp [results,results104,go_sem,r0,r1,r2,aS,HRK.out.2]
theorem xE (x:WV) (d:Wd) (w:World) (hW:WAt w x d) (R:Right d) :
  Calls prog 104 #[.agg #[.slice x.ga x.gl x.gc,.slice x.na x.nl x.nc,.slice x.wa x.wl x.wc]] w fun e w'=>Hid (yA w (d9 d) e w') :=
 DZ x d w hW R _ rfl (fun e w'=>yA w (d9 d) e w')
  (fun er h w' hS=>by unfold d9 iC;rw [h];exact lG hS) (fun d' m L' w' h hO hS=>by unfold d9 iC;rw [h];exact oU hO hS)
structure BP (w:World) (p:Nat) (x:WV) (d:Wd):Prop where
 par:aO w p x
 z0:w.frozen? ⟨p,0,none⟩=false
 z1:w.frozen? ⟨p,1,none⟩=false
 z2:w.frozen? ⟨p,2,none⟩=false
 at_:WAt w x d
theorem BP.since {w w':World} {p:Nat} {x:WV} {d:Wd} (h:BP w p x d) (k:Since w w'):BP w' p x d :=
 ⟨h.par.since k,(k.below.frozen (p:=⟨p,0,none⟩) h.par.lt).trans h.z0,(k.below.frozen (p:=⟨p,1,none⟩) h.par.lt).trans h.z1,(k.below.frozen (p:=⟨p,2,none⟩) h.par.lt).trans h.z2,h.at_.since k⟩
theorem BP.put {w:World} {p:Nat} {x:WV} {d d':Wd} (h:BP w p x d) {lo:Nat} {L:Lay} (hO:bE lo w d' L) (hp:p < lo):BP (((w.setCell ⟨p,0,none⟩ (.slice (L (0,0,0)).a d'.groups.length (L (0,0,0)).cap)).setCell ⟨p,1,none⟩ (.slice (L (1,0,0)).a d'.nodes.length (L (1,0,0)).cap)).setCell ⟨p,2,none⟩ (.slice (L (2,0,0)).a d'.wires.length (L (2,0,0)).cap)) p (fV L d') d' :=
 ⟨⟨zQ4 h.par.lt (dN w p _ _ _).size,pI h.par.c0,pJ h.par.c1,pK h.par.c2⟩,(gT _ _ _ _ _ _).trans h.z0,(gT _ _ _ _ _ _).trans h.z1,(gT _ _ _ _ _ _).trans h.z2,(hO.fr (dN w p _ _ _) (fun b hb e=>by have:=(hO.blk hb).1;have e:b=p:=e;omega)).wat⟩
theorem D5 (x:WV) (d:Wd) (w:World) (hW:WAt w x d) (R:Right d) (N G:Nat) (hN:d.nodes.length=N) (hG:d.groups.length=G) (Post:Ending->World->Prop)
  (jl:∀ er,fK d=.error er->∀ w',Since w w'->Post (.returned (.tuple #[.agg #[.slice none 0 0,.slice none 0 0,.slice none 0 0],.int .i64 0,.int .i64 er])) w')
  (hOk:∀ d' (m:Nat) L' w',fK d=.ok (d',m)->bE w.heap.size w' d' L'->Since w w'->Post (.returned (.tuple #[aS L' d',.int .i64 m,.int .i64 0])) w') :
  Calls prog 105 #[.agg #[.slice x.ga x.gl x.gc,.slice x.na x.nl x.nc,.slice x.wa x.wl x.wc]] w fun e w'=>Hid (Post e w'):=by
 obtain ⟨ga,gl,gc,na,nl,nc,wa,wl,wc⟩:=x;dsimp only;have jo:=(show Hid _ from jl);have HOK:=(show Hid _ from hOk);have HN4:Hid (N<=4/\G<=3):=by unfold Hid;rw [<-hN,<-hG];exact ⟨(small R).1,(small R).2.2.1⟩
 have HRD:Hid (fK d=((pairs N G).foldlM dA d).bind iC):=by unfold Hid fK Ao;rw [hN,hG]
 have HR0:Hid (Right d/\d.nodes.length=N/\d.groups.length=G):=⟨R,hN,hG⟩;clear jl hOk hN hG R;obtain ⟨wp,hwp⟩:∃ wp,w.alloc (.cells #[.slice ga gl gc,.slice na nl nc,.slice wa wl wc] 26)=wp:=⟨_,rfl⟩;have hPp:aO wp w.heap.size ⟨ga,gl,gc,na,nl,nc,wa,wl,wc⟩:=by rw [<-hwp];exact aO.new w ⟨ga,gl,gc,na,nl,nc,wa,wl,wc⟩ _
 have hPz:wp.frozen? ⟨w.heap.size,0,none⟩=false/\wp.frozen? ⟨w.heap.size,1,none⟩=false/\wp.frozen? ⟨w.heap.size,2,none⟩=false:=by rw [<-hwp];simp [go_sem]
 have hSp:=ay hwp;obtain ⟨w1,hw1⟩:∃ w1,wp.alloc (.cells #[.slice none 0 0,.slice none 0 0,.slice none 0 0] 26)=w1:=⟨_,rfl⟩;have hNB:aD w1 wp.heap.size:=by rw [<-hw1];exact aD.new wp _
 have cO:=ay hw1;have hP1:=hPp.since cO;have hS1:=hSp.trans cO;have hW1:=hW.since hS1;have hlt:w.heap.size < wp.heap.size:=hPp.lt;have p0:=hP1.c0;have p1:=hP1.c1;have p2:=hP1.c2;dsimp only at p0 p1 p2
 have PF:Hid (∀ y,Since w1 y->aO y w.heap.size ⟨ga,gl,gc,na,nl,nc,wa,wl,wc⟩/\y.frozen? ⟨w.heap.size,0,none⟩=false/\y.frozen? ⟨w.heap.size,1,none⟩=false/\y.frozen? ⟨w.heap.size,2,none⟩=false):=fun y hy =>
  ⟨hP1.since hy,((cO.trans hy).below.frozen (p:=⟨w.heap.size,0,none⟩) hPp.lt).trans hPz.1,((cO.trans hy).below.frozen (p:=⟨w.heap.size,1,none⟩) hPp.lt).trans hPz.2.1,((cO.trans hy).below.frozen (p:=⟨w.heap.size,2,none⟩) hPp.lt).trans hPz.2.2⟩
 have hlt1:wp.heap.size < w1.heap.size:=hNB.lt;obtain ⟨hP2,y0,y1,y2⟩:=PF.out _ (Since.refl w1);have HB1:Hid (BP w1 w.heap.size ⟨ga,gl,gc,na,nl,nc,wa,wl,wc⟩ d):=⟨hP2,y0,y1,y2,hW1⟩;clear hP2 y0 y1 y2
 go_enter func105,ntmps105
 go_wp2_with fail
 clear hwp hw1 p0 p1 p2
 go_loopw [5] (fun i wr=>∃ (a:Nat) (dk:Wd) (xk:WV),a<=N/\i=.int .i64 a/\((pairs N G).take (a*G)).foldlM dA d=.ok dk/\Hid (Right dk/\dk.nodes.length=N/\dk.groups.length=G)/\Hid (BP wr w.heap.size xk dk)/\Fr (Up w1.heap.size fun i=>i=w.heap.size) w1 wr) (fun i _=>N - (intOf i).toNat)
 case atStart=>exact ⟨0,d,⟨ga,gl,gc,na,nl,nc,wa,wl,wc⟩,Nat.zero_le _,rfl,by simp;rfl,HR0,HB1,Fr.refl _ _⟩
 case round =>
  clear HR0 HB1;obtain ⟨wo,rfl⟩:∃ wo,wo=wr:=⟨_,rfl⟩;obtain ⟨a,dk,xk,ha,rfl,hfo,HRK,HBK,hUp⟩:=hrel;have HF:Hid (((pairs N G).take (a*G)).foldlM dA d=.ok dk):=hfo;have HA:Hid (a<=N):=ha;have hnl:xk.nl=N:=HBK.out.at_.n.hlen.symm.trans HRK.out.2.1;have b1:=HBK.out.par.c1;rw [hnl] at b1;clear hfo hnl;by_cases hlt':a < N
  ·have h1:(a:Int) < (N:Int):=by omega
   go_wp2_with fail
   clear b1
   go_loopw [6] (fun i wr=>∃ (g:Nat) (dk:Wd) (xk:WV),g<=G/\i=.int .i64 g/\((pairs N G).take (a*G+g)).foldlM dA d=.ok dk/\Hid (Right dk/\dk.nodes.length=N/\dk.groups.length=G)/\Hid (BP wr w.heap.size xk dk)/\Fr (Up w1.heap.size fun i=>i=w.heap.size) w1 wr) (fun i _=>G - (intOf i).toNat)
   case atStart=>exact ⟨0,dk,xk,Nat.zero_le _,rfl,HF.out,HRK,HBK,hUp⟩
   case round =>
    clear hUp HF HRK HBK;obtain ⟨wu,rfl⟩:∃ wo,wo=wr:=⟨_,rfl⟩;obtain ⟨g,dj,xj,hg,rfl,hfo,HRJ,HBJ,hUp⟩:=hrel;have HF:Hid (((pairs N G).take (a*G+g)).foldlM dA d=.ok dj):=hfo;have HG:Hid (g<=G):=hg
    have hSo:Since w wu:=hUp.aC hS1 (fun i hi h=>by rcases h with h | h;have:=hS1.size;omega;omega)
    have hNo:aD wu wp.heap.size:=hNB.fr hUp (by rintro (h | h);exact h hlt1;omega);have hgl:xj.gl=G:=HBJ.out.at_.g.hlen.symm.trans HRJ.out.2.2;have c0:=HBJ.out.par.c0;rw [hgl] at c0;have HGL:Hid (xj.gl=G):=hgl;clear hfo hgl;by_cases hlg:g < G
    ·have h2:(g:Int) < (G:Int):=by omega
     have HLG:Hid (g < G):=hlg;have HLT:Hid (a < N):=hlt';have hI:Ints wu xj.ga G dj.groups:=by have:=HBJ.out.at_.g;rwa [HGL.out] at this
     have Gq:=dO xj.ga G xj.gc dj.groups (g:Int) (a:Int) wu hI
     have HS:Hid (((pairs N G).take (a*G+(g+1))).foldlM dA d=dA dj (a,g)):=by
      unfold Hid;have:=fold_succ dA (pairs N G) d (kX hlt' hlg);rw [HF.out] at this;exact this
     have hg3:g < 3:=by have:=HN4.out.2;omega
     cases hh:hasB dj.groups (g:Int) (a:Int) with
     | false =>
      rw [hh] at Gq
      have HS2:Hid (((pairs N G).take (a*G+(g+1))).foldlM dA d=.ok dj):=by
       unfold Hid;rw [HS.out];unfold dA;rw [if_neg (by rw [hh];simp)]
      clear hh HS hlg
      go_wp2_with fail
      refine Gq.mono ?_;rintro e w' ⟨rfl,hw'⟩;obtain rfl:=hw'.symm;clear c0 Gq
      go_wp2
      go_roundw
      case rel=>exact ⟨g+1,dj,xj,HLG.out,by go_num,HS2.out,HRJ,HBJ,hUp⟩
      case measure=>have:=HLG.out;simp [intOf];omega
     | true =>
      rw [hh] at Gq;have hCa:=sZ xj dj (a:Int) (g:Int) true ByteArray.empty wu HBJ.out.at_ HRJ.out.1;rw [HGL.out] at hCa;obtain ⟨r,hr⟩:∃ r,fH dj (a:Int) (g:Int) true ByteArray.empty=r:=⟨_,rfl⟩
      have HS2:Hid (((pairs N G).take (a*G+(g+1))).foldlM dA d=r):=by
       unfold Hid;rw [HS.out,<-hr];unfold dA;rw [if_pos hh]
      have HNZ:Hid (∀ e,r=.error e->(e != 0)=true):=fun e h=>by rw [h] at hr;have:=tq hr;simpa using this
      have IU:Hid (∀ d',r=.ok d'->Right d'/\d'.nodes.length=N/\d'.groups.length=G):=fun d' h=>by
       rw [h] at hr;obtain ⟨x1,x2,x3⟩:=vO (a:=a) (g:=g) HRJ.out.1 hr;exact ⟨x1,x3.trans HRJ.out.2.1,by rw [x2];exact HRJ.out.2.2⟩
      rw [hr] at hCa;have c1:=HBJ.out.par.c1;have c2:=HBJ.out.par.c2;clear hh HS hlg hr
      cases r with
      | error er =>
       have her:=HNZ.out er rfl
       go_wp2_with fail
       refine Gq.mono ?_;rintro e w' ⟨rfl,hw'⟩;obtain rfl:=hw'.symm
       go_wp2_with fail
       refine hCa.mono ?_;rintro e w4 ⟨hR4,_⟩;obtain ⟨rfl,hS4⟩:=hR4 er rfl;clear c0 c1 c2 hCa hR4 Gq;obtain ⟨w5,hw5⟩:∃ y,w4.alloc (.cells #[.slice none 0 0,.slice none 0 0,.slice none 0 0] 26)=y:=⟨_,rfl⟩;have lF:=ay hw5;have hN5:aD w5 w4.heap.size:=by rw [<-hw5];exact aD.new w4 _
       obtain ⟨w6,hw6⟩:∃ y,((w5.setCell ⟨w4.heap.size,0,none⟩ (.slice none 0 0)).setCell ⟨w4.heap.size,1,none⟩ (.slice none 0 0)).setCell ⟨w4.heap.size,2,none⟩ (.slice none 0 0)=y:=⟨_,rfl⟩;have hS5:Since w4 w6:=by rw [<-hw6];exact (dN w5 w4.heap.size _ _ _).aC lF (fun i hi e=>by omega)
       obtain ⟨_,z0,z1,z2,z3,z4,z5⟩:=hN5;obtain ⟨_,r0,r1,r2,r3,r4,r5⟩:=hNo.since (hS4.trans hS5)
       go_wp2_with fail
       refine bodyPost_ret (v:=.tuple #[.agg #[.slice none 0 0,.slice none 0 0,.slice none 0 0],.int .i64 0,.int .i64 er]) ?_ rfl (jo.out er (by rw [HRD.out,qD dA (pairs N G) d HS2.out];rfl) _ (aM hSp.size (hSo.trans (hS4.trans hS5))));simp [results,results105,go_sem,r0,r1,r2]
      | ok d2 =>
       have HQ:Hid (Right d2/\d2.nodes.length=N/\d2.groups.length=G):=IU.out d2 rfl
       go_wp2_with fail
       refine Gq.mono ?_;rintro e w' ⟨rfl,hw'⟩;obtain rfl:=hw'.symm
       go_wp2_with fail
       refine hCa.mono ?_;rintro e w4 ⟨_,hR4⟩;obtain ⟨L4,rfl,hO4,hS4⟩:=hR4 d2 rfl;simp only [aS];clear c0 c1 c2 hCa hR4 Gq;obtain ⟨w5,hw5⟩:∃ y,w4.alloc (.cells #[.slice (L4 (0,0,0)).a d2.groups.length (L4 (0,0,0)).cap,.slice (L4 (1,0,0)).a d2.nodes.length (L4 (1,0,0)).cap,.slice (L4 (2,0,0)).a d2.wires.length (L4 (2,0,0)).cap] 26)=y:=⟨_,rfl⟩;have hS5:=ay hw5
       have hB5:jV w5 w4.heap.size L4 d2:=by rw [<-hw5];constructor <;> simp [go_sem]
       have HBo:=HBJ.out.since (hS4.trans hS5);obtain ⟨w6,hw6⟩:∃ y,((w5.setCell ⟨w.heap.size,0,none⟩ (.slice (L4 (0,0,0)).a d2.groups.length (L4 (0,0,0)).cap)).setCell ⟨w.heap.size,1,none⟩ (.slice (L4 (1,0,0)).a d2.nodes.length (L4 (1,0,0)).cap)).setCell ⟨w.heap.size,2,none⟩ (.slice (L4 (2,0,0)).a d2.wires.length (L4 (2,0,0)).cap)=y:=⟨_,rfl⟩;have hlo1:w1.heap.size<=wu.heap.size:=hUp.size;have HB6:Hid (BP w6 w.heap.size (fV L4 d2) d2):=by rw [<-hw6];exact HBo.put (hO4.since hS5) (by omega)
       have hU6:Fr (Up w1.heap.size fun i=>i=w.heap.size) w1 w6:=by rw [<-hw6];exact hUp.aF (((hS4.trans hS5).up _ _).aF ((dN w5 w.heap.size _ _ _).mono (fun i _ e=>.inr e)))
       obtain ⟨⟨_,x0,x1,x2⟩,x3,x4,x5,_⟩:=HBo;obtain ⟨_,v0,v1,v2,_,_,_⟩:=hB5
       go_wp2
       go_roundw
       case rel=>exact ⟨g+1,d2,fV L4 d2,HLG.out,by go_num,HS2.out,HQ,HB6,hU6⟩
       case measure=>have:=HLG.out;simp [intOf];omega
    ·have HE:Hid (g=G):=by unfold Hid;have:=HG.out;omega
     have h2:¬ (g:Int) < (G:Int):=by omega
     have HLT:Hid (a < N):=hlt';have e1:a*G+g=(a+1)*G:=by rw [HE.out,Nat.add_mul,Nat.one_mul]
     have HF2:Hid (((pairs N G).take ((a+1)*G)).foldlM dA d=.ok dj):=by unfold Hid;rw [<-e1];exact HF.out
     clear hlg e1;have ha4:a < 4:=by have:=HN4.out.1;have:=HLT.out;omega
     go_wp2
     go_roundw
     case rel=>exact ⟨a+1,dj,xj,HLT.out,by go_num,HF2.out,HRJ,HBJ,hUp⟩
     case measure=>have:=HLT.out;simp [intOf];omega
  ·have HE:Hid (a=N):=by unfold Hid;have:=HA.out;omega
   have h1:¬ (a:Int) < (N:Int):=by omega
   clear hlt'
   have hSo:Since w wo:=hUp.aC hS1 (fun i hi h=>by rcases h with h | h;have:=hS1.size;omega;omega)
   have hNo:aD wo wp.heap.size:=hNB.fr hUp (by rintro (h | h);exact h hlt1;omega);have HF2:Hid (fK d=iC dk):=by unfold Hid;rw [HRD.out];have h:=HF.out;rw [HE.out,<-iZ,List.take_length] at h;rw [h];rfl
   have b0:=HBK.out.par.c0;have b2:=HBK.out.par.c2;have hDr:=xE xk dk wo HBK.out.at_ HRK.out.1;rw [show xk.nl=N from HBK.out.at_.n.hlen.symm.trans HRK.out.2.1] at hDr;unfold d9 at hDr;obtain ⟨r,hr⟩:∃ r,iC dk=r:=⟨_,rfl⟩;have HRR:Hid (fK d=r):=by unfold Hid;rw [HF2.out,hr]
   rw [hr] at hDr;clear hr;have hlo1:w1.heap.size<=wo.heap.size:=hUp.size
   cases r with
   | error er =>
    go_wp2_with fail
    refine hDr.mono ?_;rintro e w4 hR4;obtain ⟨rfl,hF4⟩:=hR4.out.1 er rfl;have hS4:=hF4.none;obtain ⟨_,r0,r1,r2,r3,r4,r5⟩:=hNo.since hS4;clear b0 b1 b2 hDr
    go_wp2_with fail
    refine bodyPost_ret (v:=.tuple #[.agg #[.slice none 0 0,.slice none 0 0,.slice none 0 0],.int .i64 0,.int .i64 er]) ?_ rfl (jo.out er HRR.out _ (aM hSp.size (hSo.trans hS4)));simp [results,results105,go_sem,r0,r1,r2]
   | ok dm =>
    obtain ⟨d2,m⟩:=dm
    go_wp2_with fail
    refine hDr.mono ?_;rintro e w4 hR4;obtain ⟨L4,rfl,hO4,hF4⟩:=hR4.out.2 d2 m rfl;have hS4:=hF4.none;simp only [aS];obtain ⟨_,r0,r1,r2,r3,r4,r5⟩:=hNo.since hS4;clear b0 b1 b2 hDr;obtain ⟨hO9,hSf⟩:=hO4.result (w0:=w) (p:=wp.heap.size) (by omega) hSp.size (hSo.trans hS4) (by have:=hS1.size;omega)
    go_wp2_with fail
    refine bodyPost_ret (v:=.tuple #[aS L4 d2,.int .i64 m,.int .i64 0]) ?_ rfl (HOK.out d2 m L4 _ HRR.out hO9 hSf);simp [results,results105,go_sem,r0,r1,r2,aS]
theorem D6 (x:WV) (d:Wd) (w:World) (hW:WAt w x d) (R:Right d) :
  Calls prog 105 #[.agg #[.slice x.ga x.gl x.gc,.slice x.na x.nl x.nc,.slice x.wa x.wl x.wc]] w fun e w'=>Hid (yA w (jd d) e w') :=
 D5 x d w hW R _ _ rfl rfl (fun e w'=>yA w (jd d) e w')
  (fun er h w' hS=>by unfold jd;rw [h];exact lG hS) (fun d' m L' w' h hO hS=>by unfold jd;rw [h];exact oU hO hS)
theorem AB (x:WV) (d:Wd) (w:World) (hW:WAt w x d) :
  Calls prog 43 #[.agg #[.slice x.ga x.gl x.gc,.slice x.na x.nl x.nc,.slice x.wa x.wl x.wc]] w fun e w'=>Hid (yA w (checked d (d9 d)) e w'):=by
 obtain ⟨ga,gl,gc,na,nl,nc,wa,wl,wc⟩:=x;dsimp only;obtain ⟨wp,hwp⟩:∃ wp,w.alloc (.cells #[.slice ga gl gc,.slice na nl nc,.slice wa wl wc] 26)=wp:=⟨_,rfl⟩;have hPp:aO wp w.heap.size ⟨ga,gl,gc,na,nl,nc,wa,wl,wc⟩:=by rw [<-hwp];exact aO.new w ⟨ga,gl,gc,na,nl,nc,wa,wl,wc⟩ _
 have hSp:=ay hwp;obtain ⟨w1,hw1⟩:∃ w1,wp.alloc (.cells #[.slice none 0 0,.slice none 0 0,.slice none 0 0] 26)=w1:=⟨_,rfl⟩;have hNB:aD w1 wp.heap.size:=by rw [<-hw1];exact aD.new wp _
 have cO:=ay hw1;have hP1:=hPp.since cO;have hS1:=hSp.trans cO;have hW1:=hW.since hS1;have p0:=hP1.c0;have p1:=hP1.c1;have p2:=hP1.c2;dsimp only at p0 p1 p2;have PF:Hid (∀ y,Since w1 y->aO y w.heap.size ⟨ga,gl,gc,na,nl,nc,wa,wl,wc⟩):=fun y hy=>hP1.since hy;have hEr:=rM ⟨ga,gl,gc,na,nl,nc,wa,wl,wc⟩ d w1 hW1;dsimp only at hEr;cases hE:(aL d != 0)
 ·have hz:aL d=0:=by simpa using hE
  have HR:Hid (Right d):=(dK d).1 hz;rw [show checked d (d9 d)=d9 d from by unfold checked;rw [if_pos hz]];rw [hz] at hEr;obtain ⟨r,hr⟩:∃ r,d9 d=r:=⟨_,rfl⟩;have hCa:=fun (y:World) (hy:Since w1 y)=>xE ⟨ga,gl,gc,na,nl,nc,wa,wl,wc⟩ d y (hW1.since hy) HR.out;rw [hr] at hCa ⊢;dsimp only at hCa;clear hr hz hE
  go_enter func43,ntmps43
  go_wp2_with fail
  refine hEr.mono ?_;rintro e w2 ⟨rfl,hS2⟩;obtain ⟨_,f0,f1,f2⟩:=PF.out _ hS2;dsimp only at f0 f1 f2;clear hEr hw1 hwp
  go_wp2_with fail
  refine (hCa w2 hS2).mono ?_;rintro e w3 hR3
  cases r with
  | error er =>
   obtain ⟨rfl,hF3⟩:=hR3.out.1 er rfl;have hS3:=hF3.none;obtain ⟨_,r0,r1,r2,r3,r4,r5⟩:=hNB.since (hS2.trans hS3);clear hR3 f0 f1 f2 p0 p1 p2
   go_wp2_with fail
   refine bodyPost_ret (v:=.tuple #[.agg #[.slice none 0 0,.slice none 0 0,.slice none 0 0],.int .i64 0,.int .i64 er]) ?_ rfl (show Hid _ from lG (aM hSp.size (hS1.trans (hS2.trans hS3))));simp [results,results43,go_sem,r0,r1,r2]
  | ok dm =>
   obtain ⟨d',m⟩:=dm;obtain ⟨L,rfl,hO,hF3⟩:=hR3.out.2 d' m rfl;have hS3:=hF3.none;simp only [aS];obtain ⟨_,r0,r1,r2,r3,r4,r5⟩:=hNB.since (hS2.trans hS3);clear hR3 f0 f1 f2 p0 p1 p2;obtain ⟨hO2,hSf⟩:=hO.result (w0:=w) (p:=wp.heap.size) (zQ4 hNB.lt hS2.size) hSp.size (hS1.trans (hS2.trans hS3)) (zQ5 hS1.size hS2.size)
   go_wp2_with fail
   refine bodyPost_ret (v:=.tuple #[aS L d',.int .i64 m,.int .i64 0]) ?_ rfl (show Hid _ from oU hO2 hSf);simp [results,results43,go_sem,r0,r1,r2,aS]
 ·have hne:aL d≠0:=by simpa using hE
  rw [show checked d (d9 d)=.error (aL d) from by unfold checked;rw [if_neg hne]];clear hne
  go_enter func43,ntmps43
  go_wp2_with (go_at_call 38;refine hEr.mono ?_;rintro e w2 ⟨rfl,hS2⟩;obtain ⟨_,r0,r1,r2,r3,r4,r5⟩:=hNB.since hS2)
  refine bodyPost_ret (v:=.tuple #[.agg #[.slice none 0 0,.slice none 0 0,.slice none 0 0],.int .i64 0,.int .i64 (aL d)]) ?_ rfl (show Hid _ from lG (aM hSp.size (hS1.trans hS2)));simp [results,results43,go_sem,r0,r1,r2]
end Go.Proofs.YtiiifecfdkjmbaaGreat
