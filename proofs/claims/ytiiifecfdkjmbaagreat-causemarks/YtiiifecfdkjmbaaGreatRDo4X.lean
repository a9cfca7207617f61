/- Lemmas. -/
import Derived.Test.YtiiifecfdkjmbaaGreatRCalmX
import Derived.Test.YtiiifecfdkjmbaaGreatAgX
set_option maxHeartbeats 2000000
namespace Go.Proofs.YtiiifecfdkjmbaaGreat
open _root_.Go.Proofs.Tryz hiding checked
set_option maxRecDepth 8000
open Go.RowKit Go.Shelf
open Pu
set_option linter.unusedVariables false
set_option linter.unusedSimpArgs false
theorem BR (x:WV) (d:Wd) (w:World) (hW:WAt w x d) (T:Except Int Wd) (hT:checked d (qo d)=T) (Post:Ending->World->Prop)
  (jl:∀ er,T=.error er->∀ w',Since w w'->Post (.returned (.tuple #[.agg #[.slice none 0 0,.slice none 0 0,.slice none 0 0],.int .i64 er])) w')
  (hOk:∀ d' L' w',T=.ok d'->bE w.heap.size w' d' L'->Since w w'->Post (.returned (.tuple #[aS L' d',.int .i64 0])) w') :
  Calls prog 47 #[.agg #[.slice x.ga x.gl x.gc,.slice x.na x.nl x.nc,.slice x.wa x.wl x.wc]] w fun e w'=>Hid (Post e w'):=by
 obtain ⟨ga,gl,gc,na,nl,nc,wa,wl,wc⟩:=x;dsimp only;have jo:=(show Hid _ from jl);have HOK:=(show Hid _ from hOk);have HT:Hid (T=checked d ((iC d).bind fun r=>iW 4 r.1)):=hT.symm;clear jl hOk hT;obtain ⟨wp,hwp⟩:∃ wp,w.alloc (.cells #[.slice ga gl gc,.slice na nl nc,.slice wa wl wc] 26)=wp:=⟨_,rfl⟩;have hPp:aO wp w.heap.size ⟨ga,gl,gc,na,nl,nc,wa,wl,wc⟩:=by rw [<-hwp];exact aO.new w ⟨ga,gl,gc,na,nl,nc,wa,wl,wc⟩ _
 have hSp:=ay hwp;obtain ⟨w1,hw1⟩:∃ w1,wp.alloc (.cells #[.slice none 0 0,.slice none 0 0,.slice none 0 0] 26)=w1:=⟨_,rfl⟩;have hNB:aD w1 wp.heap.size:=by rw [<-hw1];exact aD.new wp _
 have cO:=ay hw1;have hP1:=hPp.since cO;have hS1:=hSp.trans cO;have hW1:=hW.since hS1;have hlt1:=hNB.lt;have p0:=hP1.c0;have p1:=hP1.c1;have p2:=hP1.c2;dsimp only at p0 p1 p2;have hDr:=AB ⟨ga,gl,gc,na,nl,nc,wa,wl,wc⟩ d w1 hW1;dsimp only at hDr;obtain ⟨r,hr⟩:∃ r,checked d (d9 d)=r:=⟨_,rfl⟩;rw [hr] at hDr
 have HTE:Hid (∀ er,r=.error er->T=.error er/\(er == 0)=false):=fun er h=>by
  rw [h] at hr;rw [HT.out];unfold checked d9 at *;by_cases hz:aL d=0
  ·rw [if_pos hz] at hr ⊢
   cases hd:iC d with
   | error e=>rw [hd] at hr;cases hr;exact ⟨rfl,by have:=qp hd;simpa using this⟩
   | ok s=>rw [hd] at hr;cases hr
  ·rw [if_neg hz] at hr ⊢;cases hr;exact ⟨rfl,by simpa using hz⟩
 have HTK:Hid (∀ d' m,r=.ok (d',m)->T=iW 4 d'/\Right d'):=fun d' m h=>by
  rw [h] at hr;rw [HT.out];obtain ⟨R,h2⟩:=jw hr;unfold d9 at h2;obtain ⟨s,h3,h4⟩:=bind_ok h2;cases h4;unfold checked;rw [if_pos ((dK d).2 R),h3];exact ⟨rfl,(mF R (m:=s.2) h3).1⟩
 clear hr
 cases r with
 | error er =>
  obtain ⟨hTe,her⟩:=HTE.out er rfl;have HTe:Hid (T=.error er):=hTe;have Vu:(er != 0)=true:=by simp [bne,her]
  clear hTe
  go_enter func47,ntmps47
  go_wp2_with fail
  refine hDr.mono ?_;rintro e w2 hR2;obtain ⟨rfl,hF2⟩:=hR2.out.1 er rfl;have hS2:=hF2.none;clear hR2 hDr p0 p1 p2 hw1 hwp;obtain ⟨w3,hw3⟩:∃ y,w2.alloc (.cells #[.slice none 0 0,.slice none 0 0,.slice none 0 0] 26)=y:=⟨_,rfl⟩;have I6:=ay hw3;have hN3:aD w3 w2.heap.size:=by rw [<-hw3];exact aD.new w2 _
  obtain ⟨w4,hw4⟩:∃ y,((w3.setCell ⟨w2.heap.size,0,none⟩ (.slice none 0 0)).setCell ⟨w2.heap.size,1,none⟩ (.slice none 0 0)).setCell ⟨w2.heap.size,2,none⟩ (.slice none 0 0)=y:=⟨_,rfl⟩;have hS4:Since w2 w4:=by rw [<-hw4];exact (dN w3 w2.heap.size _ _ _).aC I6 (fun i hi e=>by omega)
  obtain ⟨_,z0,z1,z2,z3,z4,z5⟩:=hN3;have h14:=hS2.trans hS4;have hN4:=hNB.since h14
  go_wp2_with fail
  clear hw3 hw4 z0 z1 z2 z3 z4 z5
  go_loopw [6,7] (fun e i wr=>e=.int .i64 er/\i=.int .i64 0/\wr=w4) (fun _ _ _=>0)
  case atStart=>exact ⟨rfl,rfl,rfl⟩
  case round =>
   obtain ⟨rfl,rfl,hwr⟩:=hrel;obtain rfl:=hwr.symm;obtain ⟨_,r0,r1,r2,r3,r4,r5⟩:=hN4
   go_wp2_with fail
   refine bodyPost_ret (v:=.tuple #[.agg #[.slice none 0 0,.slice none 0 0,.slice none 0 0],.int .i64 er]) ?_ rfl (jo.out er HTe.out _ (aM hSp.size (hS1.trans h14)));simp [results,results47,go_sem,r0,r1,r2]
 | ok dm =>
  obtain ⟨d0,m0⟩:=dm;obtain ⟨hTk,hR0⟩:=HTK.out d0 m0 rfl;have HT0:Hid (T=iW 4 d0):=hTk;have HR0:Hid (Right d0):=hR0;clear hTk hR0
  go_enter func47,ntmps47
  go_wp2_with fail
  refine hDr.mono ?_;rintro e w2 hR2;obtain ⟨L,rfl,hO2,hF2⟩:=hR2.out.2 d0 m0 rfl;have hS2:=hF2.none;simp only [aS];clear hR2 hDr p0 p1 p2 hw1 hwp;obtain ⟨w3,hw3⟩:∃ y,w2.alloc (.cells #[.slice (L (0,0,0)).a d0.groups.length (L (0,0,0)).cap,.slice (L (1,0,0)).a d0.nodes.length (L (1,0,0)).cap,.slice (L (2,0,0)).a d0.wires.length (L (2,0,0)).cap] 26)=y:=⟨_,rfl⟩;have hS3:=ay hw3
  have hB3:jV w3 w2.heap.size L d0:=by rw [<-hw3];constructor <;> simp [go_sem]
  have hM3:cu w1.heap.size w3 w2.heap.size d0 L:=⟨hO2.since hS3,hB3,fun hb=>by have:=(hO2.blk hb).2;omega⟩;have h13:=hS2.trans hS3;have hq:w1.heap.size<=w2.heap.size:=hS2.size;clear hB3 hO2
  go_wp2_with fail
  clear hw3
  go_loopw [6,7] (fun e i wr=>∃ (k:Nat),k<=4/\i=.int .i64 k/\Since w1 wr/\((e=.int .i64 0/\∃ (dk:Wd) (Lk:Lay),Hid (T=iW (4 - k) dk)/\Hid (Right dk)/\cu w1.heap.size wr w2.heap.size dk Lk)\/(∃ er,e=.int .i64 er/\(er == 0)=false/\Hid (T=.error er)))) (fun _ i _=>4 - (intOf i).toNat)
  case atStart=>exact ⟨0,by omega,rfl,h13,.inl ⟨rfl,d0,L,HT0,HR0,hM3⟩⟩
  case round =>
   clear hM3 h13 HT0 HR0;obtain ⟨wo,rfl⟩:∃ wo,wo=wr:=⟨_,rfl⟩;obtain ⟨k,hk,rfl,hSo,hcase⟩:=hrel;have HK:Hid (k<=4):=hk;have hNo:=hNB.since hSo;rcases hcase with ⟨rfl,dk,Lk,HTk,HRk,hM⟩ | ⟨er,rfl,her,HTe⟩
   ·by_cases hlt:k < 4
    ·have h1:(k:Int) < 4:=by omega
     have c0:=hM.box.c0;have c1:=hM.box.c1;have c2:=hM.box.c2;have hRd:=D6 (fV Lk dk) dk wo hM.own.wat HRk.out;unfold fV jd at hRd;dsimp only at hRd;obtain ⟨r,hr⟩:∃ r,fK dk=r:=⟨_,rfl⟩;have HNZ:Hid (∀ e,r=.error e->(e == 0)=false):=fun e h=>by rw [h] at hr;have:=x9 hr;simpa using this
     have HSM:Hid (∀ d' m,r=.ok (d',m)->Right d'):=fun d' m h=>by rw [h] at hr;exact (tH HRk.out hr).1
     have HRR:Hid (T=r.bind fun r=>iW (4 - (k+1)) r.1):=by
      unfold Hid;rw [HTk.out,show 4 - k=(4 - (k+1))+1 from by omega];show (fK dk).bind _=_;rw [hr]
     rw [hr] at hRd;clear hr
     cases r with
     | error er =>
      have her:=HNZ.out er rfl
      go_wp2_with fail
      refine hRd.mono ?_;rintro e w4 hR4;obtain ⟨rfl,hF4⟩:=hR4.out.1 er rfl;have hS4:=hF4.none;clear hR4 hRd c0 c1 c2;obtain ⟨_,x0,x1,x2,x3,x4,x5⟩:=(hM.since hS4).box;obtain ⟨w6,hw6⟩:∃ y,((w4.setCell ⟨w2.heap.size,0,none⟩ (.slice none 0 0)).setCell ⟨w2.heap.size,1,none⟩ (.slice none 0 0)).setCell ⟨w2.heap.size,2,none⟩ (.slice none 0 0)=y:=⟨_,rfl⟩;have hS6:Since w1 w6:=by rw [<-hw6];exact (dN w4 w2.heap.size _ _ _).aC (hSo.trans hS4) (fun i hi e=>by omega)
      go_wp2
      go_roundw
      case rel=>exact ⟨k+1,by omega,by go_num,hS6,.inr ⟨er,rfl,her,HRR.out⟩⟩
      case measure=>simp [intOf];omega
     | ok dm =>
      obtain ⟨d2,m⟩:=dm;have HR2:Hid (Right d2):=HSM.out d2 m rfl
      go_wp2_with fail
      refine hRd.mono ?_;rintro e w4 hR4;obtain ⟨L4,rfl,hO4,hF4⟩:=hR4.out.2 d2 m rfl;have hS4:=hF4.none;simp only [aS];clear hR4 hRd c0 c1 c2;have hMo:=hM.since hS4;have hMb:=hM.box.lt;obtain ⟨w6,hw6⟩:∃ y,((w4.setCell ⟨w2.heap.size,0,none⟩ (.slice (L4 (0,0,0)).a d2.groups.length (L4 (0,0,0)).cap)).setCell ⟨w2.heap.size,1,none⟩ (.slice (L4 (1,0,0)).a d2.nodes.length (L4 (1,0,0)).cap)).setCell ⟨w2.heap.size,2,none⟩ (.slice (L4 (2,0,0)).a d2.wires.length (L4 (2,0,0)).cap)=y:=⟨_,rfl⟩;have hM6:=Ns (lo:=w1.heap.size) hO4 hMo.box hSo.size hMb;rw [hw6] at hM6;have hS6:Since w1 w6:=by rw [<-hw6];exact (dN w4 w2.heap.size _ _ _).aC (hSo.trans hS4) (fun i hi e=>by omega)
      obtain ⟨_,x0,x1,x2,x3,x4,x5⟩:=hMo.box
      go_wp2
      go_roundw
      case rel=>exact ⟨k+1,by omega,by go_num,hS6,.inl ⟨rfl,d2,L4,HRR.out,HR2,hM6⟩⟩
      case measure=>simp [intOf];omega
    ·have HE:Hid (k=4):=by unfold Hid;have:=HK.out;omega
     have h1:¬ (k:Int) < 4:=by omega
     have c0:=hM.box.c0;have c1:=hM.box.c1;have c2:=hM.box.c2;obtain ⟨_,r0,r1,r2,r3,r4,r5⟩:=hNo;obtain ⟨hO9,hSf⟩:=hM.own.result (w0:=w) (p:=wp.heap.size) hlt1 hSp.size (hS1.trans hSo) hS1.size;clear hlt
     go_wp2_with fail
     refine bodyPost_ret (v:=.tuple #[aS Lk dk,.int .i64 0]) ?_ rfl (HOK.out dk Lk _ (by have h:=HTk.out;rw [HE.out] at h;exact h) hO9 hSf);simp [results,results47,go_sem,r0,r1,r2,aS]
   ·obtain ⟨_,r0,r1,r2,r3,r4,r5⟩:=hNo;have Vu:(er != 0)=true:=by simp [bne,her]
    by_cases hlt:k < 4
    ·have h1:(k:Int) < 4:=by omega
     go_wp2_with fail
     refine bodyPost_ret (v:=.tuple #[.agg #[.slice none 0 0,.slice none 0 0,.slice none 0 0],.int .i64 er]) ?_ rfl (jo.out er HTe.out _ (aM hSp.size (hS1.trans hSo)));simp [results,results47,go_sem,r0,r1,r2]
    ·have h1:¬ (k:Int) < 4:=by omega
     go_wp2_with fail
     refine bodyPost_ret (v:=.tuple #[.agg #[.slice none 0 0,.slice none 0 0,.slice none 0 0],.int .i64 er]) ?_ rfl (jo.out er HTe.out _ (aM hSp.size (hS1.trans hSo)));simp [results,results47,go_sem,r0,r1,r2]
theorem uX (x:WV) (d:Wd) (w:World) (hW:WAt w x d) :
  Calls prog 47 #[.agg #[.slice x.ga x.gl x.gc,.slice x.na x.nl x.nc,.slice x.wa x.wl x.wc]] w fun e w'=>Hid (rX w (checked d (qo d)) e w') :=
 BR x d w hW _ rfl (fun e w'=>rX w (checked d (qo d)) e w') (fun er h w' hS=>by rw [h];exact dS hS) (fun d' L' w' h hO hS=>by rw [h];exact iB hO hS)
theorem Ll (x:WV) (d:Wd) (a:Ac) (w:World) (hW:WAt w x d) :
  Calls prog 61 #[.agg #[.slice x.ga x.gl x.gc,.slice x.na x.nl x.nc,.slice x.wa x.wl x.wc],acV a] w fun e w'=>Hid (rX w (doD d a) e w'):=by
 obtain ⟨ga,gl,gc,na,nl,nc,wa,wl,wc⟩:=x;obtain ⟨kind,one,two,body⟩:=a;unfold acV;dsimp only;obtain ⟨wq,hwq⟩:∃ wp,w.alloc (.cells #[.slice ga gl gc,.slice na nl nc,.slice wa wl wc] 26)=wp:=⟨_,rfl⟩;have hPq:aO wq w.heap.size ⟨ga,gl,gc,na,nl,nc,wa,wl,wc⟩:=by rw [<-hwq];exact aO.new w ⟨ga,gl,gc,na,nl,nc,wa,wl,wc⟩ _
 have hSq:=ay hwq;obtain ⟨wp,hwp⟩:∃ wp,wq.alloc (.cells #[.int .i64 kind,.int .i64 one,.int .i64 two,.string body] 58)=wp:=⟨_,rfl⟩;have MX:=ay hwp;have hlq:wq.heap.size < wp.heap.size:=by rw [<-hwp];simp
 have a0:wp.cell? ⟨wq.heap.size,0,none⟩=some (.int .i64 kind):=by rw [<-hwp];simp [go_sem]
 have a1:wp.cell? ⟨wq.heap.size,1,none⟩=some (.int .i64 one):=by rw [<-hwp];simp [go_sem]
 have a2:wp.cell? ⟨wq.heap.size,2,none⟩=some (.int .i64 two):=by rw [<-hwp];simp [go_sem]
 have a3:wp.cell? ⟨wq.heap.size,3,none⟩=some (.string body):=by rw [<-hwp];simp [go_sem]
 have hSp:=hSq.trans MX;obtain ⟨w1,hw1⟩:∃ w1,wp.alloc (.cells #[.slice none 0 0,.slice none 0 0,.slice none 0 0] 26)=w1:=⟨_,rfl⟩;have hNB:aD w1 wp.heap.size:=by rw [<-hw1];exact aD.new wp _
 have cO:=ay hw1;have hP1:=hPq.since (MX.trans cO);have hS1:=hSp.trans cO;have hW1:=hW.since hS1;have p0:=hP1.c0;have p1:=hP1.c1;have p2:=hP1.c2;dsimp only at p0 p1 p2;have d0:=(cO.cellAt hlq _).trans a0;have d1:=(cO.cellAt hlq _).trans a1;have d2:=(cO.cellAt hlq _).trans a2;have d3:=(cO.cellAt hlq _).trans a3;clear a0 a1 a2 a3;by_cases h1:kind=1
 ·subst h1;obtain ⟨r,hr⟩:∃ r,doD d ⟨1,one,two,body⟩=r:=⟨_,rfl⟩;rw [hr];have HRR:=(show Hid _ from hr);clear hr
  cases r with
  | error er =>
   go_enter func61,ntmps61
   go_wp2_with (go_at_call 29;refine (mo ⟨ga,gl,gc,na,nl,nc,wa,wl,wc⟩ d one two false body w1 hW1).mono ?_;rintro e w3 hR3;obtain ⟨rfl,hS3⟩:=hR3.out.1 er HRR.out;obtain ⟨lt,r0,r1,r2,r3,r4,r5⟩:=hNB.since hS3)
   refine bodyPost_ret (v:=.tuple #[.agg #[.slice none 0 0,.slice none 0 0,.slice none 0 0],.int .i64 er]) ?_ rfl (dS (aM hSp.size (hS1.trans hS3)));simp [results,results61,go_sem,r0,r1,r2]
  | ok d' =>
   go_enter func61,ntmps61
   go_wp2_with (go_at_call 29;refine (mo ⟨ga,gl,gc,na,nl,nc,wa,wl,wc⟩ d one two false body w1 hW1).mono ?_;rintro e w3 hR3;obtain ⟨L,rfl,hO,hS3⟩:=hR3.out.2 d' HRR.out;simp only [aS];obtain ⟨lt,r0,r1,r2,r3,r4,r5⟩:=hNB.since hS3)
   obtain ⟨hO2,hSf⟩:=hO.result (w0:=w) (p:=wp.heap.size) hNB.lt hSp.size (hS1.trans hS3) hS1.size;refine bodyPost_ret (v:=.tuple #[aS L d',.int .i64 0]) ?_ rfl (iB hO2 hSf);simp [results,results61,go_sem,r0,r1,r2,aS]
 by_cases h2:kind=2
 ·subst h2;obtain ⟨r,hr⟩:∃ r,doD d ⟨2,one,two,body⟩=r:=⟨_,rfl⟩;rw [hr];have HRR:=(show Hid _ from hr);clear hr
  cases r with
  | error er =>
   go_enter func61,ntmps61
   go_wp2_with (go_at_call 29;refine (mo ⟨ga,gl,gc,na,nl,nc,wa,wl,wc⟩ d one two true ByteArray.empty w1 hW1).mono ?_;rintro e w3 hR3;obtain ⟨rfl,hS3⟩:=hR3.out.1 er HRR.out;obtain ⟨lt,r0,r1,r2,r3,r4,r5⟩:=hNB.since hS3)
   refine bodyPost_ret (v:=.tuple #[.agg #[.slice none 0 0,.slice none 0 0,.slice none 0 0],.int .i64 er]) ?_ rfl (dS (aM hSp.size (hS1.trans hS3)));simp [results,results61,go_sem,r0,r1,r2]
  | ok d' =>
   go_enter func61,ntmps61
   go_wp2_with (go_at_call 29;refine (mo ⟨ga,gl,gc,na,nl,nc,wa,wl,wc⟩ d one two true ByteArray.empty w1 hW1).mono ?_;rintro e w3 hR3;obtain ⟨L,rfl,hO,hS3⟩:=hR3.out.2 d' HRR.out;simp only [aS];obtain ⟨lt,r0,r1,r2,r3,r4,r5⟩:=hNB.since hS3)
   obtain ⟨hO2,hSf⟩:=hO.result (w0:=w) (p:=wp.heap.size) hNB.lt hSp.size (hS1.trans hS3) hS1.size;refine bodyPost_ret (v:=.tuple #[aS L d',.int .i64 0]) ?_ rfl (iB hO2 hSf);simp [results,results61,go_sem,r0,r1,r2,aS]
 by_cases h3:kind=3
 ·subst h3;obtain ⟨r,hr⟩:∃ r,doD d ⟨3,one,two,body⟩=r:=⟨_,rfl⟩;rw [hr];have HRR:=(show Hid _ from hr);clear hr
  cases r with
  | error er =>
   go_enter func61,ntmps61
   go_wp2_with (go_at_call 34;refine (uY ⟨ga,gl,gc,na,nl,nc,wa,wl,wc⟩ d one two w1 hW1).mono ?_;rintro e w3 hR3;obtain ⟨rfl,hS3⟩:=hR3.out.1 er HRR.out;obtain ⟨lt,r0,r1,r2,r3,r4,r5⟩:=hNB.since hS3)
   refine bodyPost_ret (v:=.tuple #[.agg #[.slice none 0 0,.slice none 0 0,.slice none 0 0],.int .i64 er]) ?_ rfl (dS (aM hSp.size (hS1.trans hS3)));simp [results,results61,go_sem,r0,r1,r2]
  | ok d' =>
   go_enter func61,ntmps61
   go_wp2_with (go_at_call 34;refine (uY ⟨ga,gl,gc,na,nl,nc,wa,wl,wc⟩ d one two w1 hW1).mono ?_;rintro e w3 hR3;obtain ⟨L,rfl,hO,hS3⟩:=hR3.out.2 d' HRR.out;simp only [aS];obtain ⟨lt,r0,r1,r2,r3,r4,r5⟩:=hNB.since hS3)
   obtain ⟨hO2,hSf⟩:=hO.result (w0:=w) (p:=wp.heap.size) hNB.lt hSp.size (hS1.trans hS3) hS1.size;refine bodyPost_ret (v:=.tuple #[aS L d',.int .i64 0]) ?_ rfl (iB hO2 hSf);simp [results,results61,go_sem,r0,r1,r2,aS]
 by_cases h4:kind=4
 ·subst h4;obtain ⟨r,hr⟩:∃ r,doD d ⟨4,one,two,body⟩=r:=⟨_,rfl⟩;rw [hr];have HRR:=(show Hid _ from hr);clear hr
  cases r with
  | error er =>
   go_enter func61,ntmps61
   go_wp2_with (go_at_call 47;refine (uX ⟨ga,gl,gc,na,nl,nc,wa,wl,wc⟩ d w1 hW1).mono ?_;rintro e w3 hR3;obtain ⟨rfl,hS3⟩:=hR3.out.1 er HRR.out;obtain ⟨lt,r0,r1,r2,r3,r4,r5⟩:=hNB.since hS3)
   refine bodyPost_ret (v:=.tuple #[.agg #[.slice none 0 0,.slice none 0 0,.slice none 0 0],.int .i64 er]) ?_ rfl (dS (aM hSp.size (hS1.trans hS3)));simp [results,results61,go_sem,r0,r1,r2]
  | ok d' =>
   go_enter func61,ntmps61
   go_wp2_with (go_at_call 47;refine (uX ⟨ga,gl,gc,na,nl,nc,wa,wl,wc⟩ d w1 hW1).mono ?_;rintro e w3 hR3;obtain ⟨L,rfl,hO,hS3⟩:=hR3.out.2 d' HRR.out;simp only [aS];obtain ⟨lt,r0,r1,r2,r3,r4,r5⟩:=hNB.since hS3)
   obtain ⟨hO2,hSf⟩:=hO.result (w0:=w) (p:=wp.heap.size) hNB.lt hSp.size (hS1.trans hS3) hS1.size;refine bodyPost_ret (v:=.tuple #[aS L d',.int .i64 0]) ?_ rfl (iB hO2 hSf);simp [results,results61,go_sem,r0,r1,r2,aS]
 have b1:(kind == 1)=false:=by simpa using h1
 have b2:(kind == 2)=false:=by simpa using h2
 have b3:(kind == 3)=false:=by simpa using h3
 have b4:(kind == 4)=false:=by simpa using h4
 have HF:Hid (doD d ⟨kind,one,two,body⟩=.error 6):=by unfold Hid doD;dsimp only;rw [if_neg h1,if_neg h2,if_neg h3,if_neg h4]
 clear h1 h2 h3 h4;obtain ⟨lt,r0,r1,r2,r3,r4,r5⟩:=hNB
 go_enter func61,ntmps61
 go_wp2
 refine bodyPost_ret (v:=.tuple #[.agg #[.slice none 0 0,.slice none 0 0,.slice none 0 0],.int .i64 6]) ?_ rfl (by unfold Hid;rw [HF.out];exact dS (aM hSp.size hS1));simp [results,results61,go_sem,r0,r1,r2]
end Go.Proofs.YtiiifecfdkjmbaaGreat
