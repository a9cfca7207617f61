/- Lemmas. -/
import Derived.Test.YtediempflagfkaaGreatDoorRTellX
import Derived.Test.YtediempflagfkaaGreatDoorROwn
set_option linter.unusedVariables false
set_option linter.unusedSimpArgs false
set_option linter.unnecessarySimpa false
set_option maxHeartbeats 4000000
namespace Go.Proofs.YtediempflagfkaaGreatDoor
open _root_.Go.Proofs.Tryz hiding checked
set_option maxRecDepth 8000
open Go.RowKit Go.Shelf
open Pu
def mJ(x:Nd):Nd:={ x with aK:=x.aK+1 }
def y9(x:Nd)(n:Nat)(g:Int)(nul:Bool)(body:ByteArray):Mg:=⟨n,g,x.aK+1,nul,body⟩
theorem Oy{d:Wd}{n:Nat}{x:Nd}(hx:d.ah[n]? = some x){g:Int}{nul:Bool}{body:ByteArray}(h:cK d n g body.size=0) :
  dR d n g nul body=(fO (y9 x n g nul body) n (aD d n (mJ x)) d.ah.length).bind fun d2=>(eD d2 n (y9 x n g nul body)).bind fun d3=>(eZ d3 n).bind fun p=>.ok p.1:=by
 have hc:bB d n=x.aK:=(dU hx).1;unfold dR;rw[if_pos h,Int.toNat_natCast,hc];unfold mV;rw[hx];rfl
theorem yx{d:Wd}{n:Nat}{x:Nd}(hx:d.ah[n]? = some x):eZ d n=if iG d n x=0 then .ok (aD d n (uG d n x),(dD d n x).length) else .error (iG d n x):=by
 unfold eZ iG uG;rw[hx];dsimp only;split
 ·simp
 ·split <;> simp
structure Rl (w1 w3 w4 w5:World) (p:Nat) (d:Wd) (L:Lay) (n:Nat) (x:Nd) (m:Mg) (bn on cn:Nat):Prop where
 b1:w3.cell? ⟨p,1,none⟩=some (.slice (some ⟨bn,on,none⟩) d.ah.length cn)
 k0:w3.cell? ⟨bn,on+n*4,none⟩=some (.int .i64 x.aK)
 z0:w3.frozen? ⟨bn,on+n*4,none⟩=false
 c1:w4.cell? ⟨p,1,none⟩=some (.slice (some ⟨bn,on,none⟩) d.ah.length cn)
 c0:w4.cell? ⟨bn,on+n*4,none⟩=some (.int .i64 (x.aK+1))
 made:dF w1.heap.size w5 p (aD d n (mJ x)) L
 msg:cO w5 w4.heap.size 0 m
 lt:w4.heap.size < w5.heap.size
 off:¬ gT (aD d n (mJ x)) L w4.heap.size
 ay:ak w1 w5
 ge:w1.heap.size<=p
theorem MO{w1 w2:World}{d:Wd}{L:Lay}{n:Nat}{x:Nd}{g:Int}{nul:Bool}{body:ByteArray}(hO:bG w1.heap.size w2 d L)(hS:ak w1 w2)(hx:d.ah[n]? = some x)(T U:TypeId) :
  ∃bn on cn,L (1,0,0)=⟨some ⟨bn,on,none⟩,cn⟩/\∀w3 w4 w5,w2.alloc (.cells #[.slice (L (0,0,0)).a d.au.length (L (0,0,0)).cap,.slice (some ⟨bn,on,none⟩) d.ah.length cn,.slice (L (2,0,0)).a d.aB.length (L (2,0,0)).cap] T)=w3 ->
   w3.setCell ⟨bn,on+n*4,none⟩ (.int .i64 (x.aK+1))=w4->w4.alloc (.cells #[.int .i64 n,.int .i64 g,.int .i64 (x.aK+1),.bool nul,.string body] U)=w5->Rl w1 w3 w4 w5 w2.heap.size d L n x (y9 x n g nul body) bn on cn:=by
 have hn:=bT hx;obtain⟨bn,on,cn,hL1,hlo,hbn,hbk,hcn⟩:=hO.lies (ix:=(1,0,0)) ⟨rfl,rfl⟩ (by show 0 < d.ah.length;omega);refine⟨bn,on,cn,hL1,fun w3 w4 w5 h3 h4 h5=>?_⟩;have hS3:=aF h3;have hl3:w2.heap.size < w3.heap.size:=by rw[<-h3];simp
 have hM3:dF w1.heap.size w3 w2.heap.size d L:=by
  refine⟨hO.ay hS3, ?_,fun hb=>?_⟩
  ·rw[<-h3];constructor <;> simp[go_sem,hL1]
  ·have:=(hO.blk hb).2;omega
 obtain⟨k0,_,_,_,kz⟩:=hM3.own.cells hx hL1;have hO4:=hM3.own.GQ hx hL1 (x.aK+1);rw[h4]at hO4;have hb:gT d L bn:=⟨(1,0,0),⟨rfl,rfl⟩,hbk⟩
 have hst:jD w3 w4 d L (aD d n (mJ x)) L:=by
  have:=wh (d:=d) (L:=L) (d':=aD d n (mJ x)) (ak.refl w3) (fV hx rfl) (off:=on+n*4) (.int .i64 (x.aK+1)) hb;rw[h4]at this;exact this
 have hM4:dF w1.heap.size w4 w2.heap.size (aD d n (mJ x)) L:=hM3.step hO4 hst rfl rfl rfl rfl (by simp[aD]) rfl;have hx4:(aD d n (mJ x)).ah[n]? = some (mJ x):=by rw[dI _ hx,if_pos rfl]
 obtain⟨c0,_⟩:=hM4.own.cells hx4 hL1;have hS4:=aF h5;have b1:=hM3.box.c1;have c1:=hM4.box.c1;rw[hL1]at b1 c1;have Bw:ak w1 w4:=hst.fr.aI (hS.trans hS3) (fun i hi hb=>by have:=(hO.blk hb).1;omega);refine⟨b1,k0,by have:=kz 0 (by omega);simpa using this, ?_,c0,hM4.ay hS4, ?_, ?_,fun hb=>?_,Bw.trans hS4,hS.size⟩
 ·have:(aD d n (mJ x)).ah.length=d.ah.length:=by simp[aD]
  rw[this]at c1;exact c1
 ·rw[<-h5];constructor <;> simp[go_sem,y9]
 ·rw[<-h5];simp
 ·have:=(hM4.own.blk hb).2;omega
theorem C9(x:WV)(d:Wd)(n g:Int)(nul:Bool)(body:ByteArray)(w:World)(hW:WAt w x d)(hE:cK d n g body.size≠0) :
  Calls prog 65 #[.agg #[.slice x.ga x.gl x.gc,.slice x.na x.nl x.nc,.slice x.wa x.wl x.wc],.int .i64 n,.int .i64 g,.bool nul,.string body] w fun e w' =>
   e=.returned (.tuple #[.agg #[.slice none 0 0,.slice none 0 0,.slice none 0 0],.int .i64 (cK d n g body.size)])/\ak w w':=by
 obtain⟨ga,gl,gc,na,nl,nc,wa,wl,wc⟩:=x;have hgl:=hW.g.bq;have hnl:=hW.n.bq;have hwl:=hW.r.bq;have hnm:=hW.n.dY;have hgm:=hW.g.dY;dsimp only at hgl hnl hwl hnm hgm ⊢;subst hgl hnl hwl;obtain⟨wp,hwp⟩:∃wp,w.alloc (.cells #[.slice ga d.au.length gc,.slice na d.ah.length nc,.slice wa d.aB.length wc] 31)=wp:=⟨_,rfl⟩;have hPp:aP wp w.heap.size ⟨ga,d.au.length,gc,na,d.ah.length,nc,wa,d.aB.length,wc⟩:=by rw[<-hwp];exact aP.new w ⟨ga,d.au.length,gc,na,d.ah.length,nc,wa,d.aB.length,wc⟩ _
 have hSp:=aF hwp;obtain⟨w1,hw1⟩:∃w1,wp.alloc (.cells #[.slice none 0 0,.slice none 0 0,.slice none 0 0] 31)=w1:=⟨_,rfl⟩;have hNB:aU w1 wp.heap.size:=by rw[<-hw1];exact aU.new wp _
 have dZ:=aF hw1;have hP1:=hPp.ay dZ;have hS1:=hSp.trans dZ;have hG1:=hW.g.ay hS1;have hN1:=hW.n.ay hS1;dsimp only at hG1 hN1;obtain⟨lt,r0,r1,r2,r3,r4,r5⟩:=hNB;have p0:=hP1.c0;have p1:=hP1.c1;dsimp only at p0 p1
 have Ti:ak w (((w1.setCell ⟨wp.heap.size,0,none⟩ (.slice none 0 0)).setCell ⟨wp.heap.size,1,none⟩ (.slice none 0 0)).setCell ⟨wp.heap.size,2,none⟩ (.slice none 0 0)):=by
  have hF:Fr (fun i=>i=wp.heap.size) w1 w1:=Fr.refl _ _;have:=hSp.size;exact(((hF.setCell ⟨wp.heap.size,0,none⟩ _ (fun _=>rfl)).setCell ⟨wp.heap.size,1,none⟩ _ (fun _=>rfl)).setCell ⟨wp.heap.size,2,none⟩ _ (fun _=>rfl)).aI hS1 (fun i hi e=>by omega)
 have HFin:=(show Hid _ from Ti);have HE:Hid (cK d n g body.size≠0):=hE;clear Ti hE;have hwk:IntKind.i64.wrap ((d.ah.length:Int) - 1)=(d.ah.length:Int) - 1:=IntWalk.i64_in _ (by omega);have hwg:IntKind.i64.wrap ((d.au.length:Int) - 1)=(d.au.length:Int) - 1:=IntWalk.i64_in _ (by omega);cases h1:inB n 0 ((d.ah.length:Int) - 1)
 ·have HG:Hid (cK d n g body.size=4):=by unfold Hid cK;rw[if_pos (.inl h1)]
  have H1:=(show Hid _ from h1);clear h1
  go_enter func65,ntmps65
  go_wp2_with (go_at_call 35;refine(bJ _ _ _ _).mono ?_;rw[H1.out];rintro e w' ⟨rfl,hw⟩;obtain rfl:=hw.symm)
  refine bodyPost_ret (v:=.tuple #[.agg #[.slice none 0 0,.slice none 0 0,.slice none 0 0],.int .i64 4]) ?_ rfl ⟨by rw[HG.out],HFin.out⟩;simp[results,results65,go_sem,r0,r1,r2]
 cases h2:inB g 0 ((d.au.length:Int) - 1)
 ·have HG:Hid (cK d n g body.size=4):=by unfold Hid cK;rw[if_pos (.inr h2)]
  have H1:=(show Hid _ from h1);have H2:=(show Hid _ from h2);clear h1 h2
  go_enter func65,ntmps65
  go_wp2_with (go_at_call 35;refine(bJ _ _ _ _).mono ?_;(first | rw[H1.out] | rw[H2.out]);rintro e w' ⟨rfl,hw⟩;obtain rfl:=hw.symm)
  refine bodyPost_ret (v:=.tuple #[.agg #[.slice none 0 0,.slice none 0 0,.slice none 0 0],.int .i64 4]) ?_ rfl ⟨by rw[HG.out],HFin.out⟩;simp[results,results65,go_sem,r0,r1,r2]
 have h12:¬ (inB n 0 ((d.ah.length:Int) - 1)=false\/inB g 0 ((d.au.length:Int) - 1)=false):=by rw[h1,h2];simp
 have hn:0<=n/\n<=(d.ah.length:Int) - 1:=by unfold inB at h1;simpa using h1
 obtain⟨k,rfl⟩:=Int.eq_ofNat_of_zero_le hn.1;have hk:k < d.ah.length:=by omega
 have H1:=(show Hid _ from h1);have H2:=(show Hid _ from h2);clear h1 h2 hn;cases h3:hasB d.au g k
 ·have HG:Hid (cK d k g body.size=5):=by unfold Hid cK;rw[if_neg h12,if_pos h3]
  have H3:=(show Hid _ from h3);clear h3
  go_enter func65,ntmps65
  go_wp2_with (first
   | (go_at_call 35;refine(bJ _ _ _ _).mono ?_;(first | rw[H1.out] | rw[H2.out]);rintro e w' ⟨rfl,hw⟩;obtain rfl:=hw.symm)
   | (go_at_call 68;refine(eu ga d.au.length gc d.au g k w1 hG1).mono ?_;rw[H3.out];rintro e w' ⟨rfl,hw⟩;obtain rfl:=hw.symm))
  refine bodyPost_ret (v:=.tuple #[.agg #[.slice none 0 0,.slice none 0 0,.slice none 0 0],.int .i64 5]) ?_ rfl ⟨by rw[HG.out],HFin.out⟩;simp[results,results65,go_sem,r0,r1,r2]
 have H3:=(show Hid _ from h3);by_cases h4:8 < body.size
 ·have HG:Hid (cK d k g body.size=1):=by unfold Hid cK;rw[if_neg h12,if_neg (by rw[h3];simp),if_pos h4]
  have h4':(8:Int) < (body.size:Int):=by omega
  clear h3
  go_enter func65,ntmps65
  go_wp2_with (first
   | (go_at_call 35;refine(bJ _ _ _ _).mono ?_;(first | rw[H1.out] | rw[H2.out]);rintro e w' ⟨rfl,hw⟩;obtain rfl:=hw.symm)
   | (go_at_call 68;refine(eu ga d.au.length gc d.au g k w1 hG1).mono ?_;rw[H3.out];rintro e w' ⟨rfl,hw⟩;obtain rfl:=hw.symm))
  refine bodyPost_ret (v:=.tuple #[.agg #[.slice none 0 0,.slice none 0 0,.slice none 0 0],.int .i64 1]) ?_ rfl ⟨by rw[HG.out],HFin.out⟩;simp[results,results65,go_sem,r0,r1,r2]
 obtain⟨nd,hnd⟩:∃nd,d.ah[k]? = some nd:=⟨_,zQ1 hk⟩
 have h5:nd.aK=1048576:=by
  have:=HE.out;unfold cK at this;rw[if_neg h12,if_neg (by rw[h3];simp),if_neg h4,Int.toNat_natCast,(dU hnd).1]at this;by_cases h:nd.aK=1048576
  ·exact h
  ·rw[if_neg h]at this;exact absurd rfl this
 have HG:Hid (cK d k g body.size=3):=by unfold Hid cK;rw[if_neg h12,if_neg (by rw[h3];simp),if_neg h4,Int.toNat_natCast,(dU hnd).1,if_pos h5]
 have h4':¬ (8:Int) < (body.size:Int):=by omega
 obtain⟨bn,on,rfl,hbn,hcn⟩:=hN1.cells (by omega);have k0:=(hcn k nd hnd).clk;rw[h5]at k0;have n1:(k:Int) < (d.ah.length:Int):=by omega
 clear h3 h5
 go_enter func65,ntmps65
 go_wp2_with (first
  | (go_at_call 35;refine(bJ _ _ _ _).mono ?_;(first | rw[H1.out] | rw[H2.out]);rintro e w' ⟨rfl,hw⟩;obtain rfl:=hw.symm)
  | (go_at_call 68;refine(eu ga d.au.length gc d.au g k w1 hG1).mono ?_;rw[H3.out];rintro e w' ⟨rfl,hw⟩;obtain rfl:=hw.symm))
 refine bodyPost_ret (v:=.tuple #[.agg #[.slice none 0 0,.slice none 0 0,.slice none 0 0],.int .i64 3]) ?_ rfl ⟨by rw[HG.out],HFin.out⟩;simp[results,results65,go_sem,r0,r1,r2]
theorem bS{w w':World}{q o:Nat}{m:Mg}(h:cO w q o m)(e:w'.heap[q]? = w.heap[q]?):cO w' q o m:=by
 have hc:∀j,w'.cell? ⟨q,j,none⟩=w.cell? ⟨q,j,none⟩:=fun j=>by unfold World.cell?;rw[e]
 exact⟨(hc _).trans h.c0,(hc _).trans h.c1,(hc _).trans h.c2,(hc _).trans h.c3,(hc _).trans h.c4⟩
theorem aN{w w':World}{q o:Nat}{m:Mg}(h:cO w q o m)(hq:q < w.heap.size)(k:ak w w'):cO w' q o m :=
 ⟨(k.av hq _).trans h.c0,(k.av hq _).trans h.c1,(k.av hq _).trans h.c2,(k.av hq _).trans h.c3,(k.av hq _).trans h.c4⟩
theorem cu{w wr:World}{p:Nat}(h0:w.heap.size<=p)(hS:ak w wr):ak w (((wr.setCell ⟨p,0,none⟩ (.slice none 0 0)).setCell ⟨p,1,none⟩ (.slice none 0 0)).setCell ⟨p,2,none⟩ (.slice none 0 0)):=by
 have hF:Fr (fun i=>i=p) wr wr:=Fr.refl _ _;exact(((hF.setCell ⟨p,0,none⟩ _ (fun _=>rfl)).setCell ⟨p,1,none⟩ _ (fun _=>rfl)).setCell ⟨p,2,none⟩ _ (fun _=>rfl)).aI hS (fun i hi e=>by omega)
theorem H7(x:WV)(d:Wd)(n:Nat)(g:Int)(nul:Bool)(body:ByteArray)(w:World)(hW:WAt w x d)(R:aL d)(nd:Nd)(hnd:d.ah[n]? = some nd)(hE:cK d n g body.size=0)(Post:Ending->World->Prop)
  (jv:∀er,dR d n g nul body=.error er->∀w',ak w w'->Post (.returned (.tuple #[.agg #[.slice none 0 0,.slice none 0 0,.slice none 0 0],.int .i64 er])) w')
  (hOk:∀d',dR d n g nul body=.ok d'->∀w' L,bG w.heap.size w' d' L->ak w w'->Post (.returned (.tuple #[bF L d',.int .i64 0])) w') :
  Calls prog 65 #[.agg #[.slice x.ga x.gl x.gc,.slice x.na x.nl x.nc,.slice x.wa x.wl x.wc],.int .i64 n,.int .i64 g,.bool nul,.string body] w fun e w'=>Hid (Post e w'):=by
 have hcast:=Oy (nul:=nul) hnd hE;obtain⟨q1,q2,q3,q4,q5⟩:=wI hE;have hm0:y9 nd n g nul body=⟨n,g,nd.aK+1,nul,body⟩:=rfl;obtain⟨ga,gl,gc,na,nl,nc,wa,wl,wc⟩:=x;have hgl:=hW.g.bq;have hnl:=hW.n.bq;have hwl:=hW.r.bq;dsimp only at hgl hnl hwl ⊢;subst hgl hnl hwl;have hn:=bT hnd;obtain⟨sn1,sn4,sg1,sg3⟩:=rQ R.chk;have Ri:=R.clk n;rw[(dU hnd).1]at Ri;rw[Int.toNat_natCast,(dU hnd).1]at q5;have hsm:=jW R;obtain⟨wp,hwp⟩:∃wp,w.alloc (.cells #[.slice ga d.au.length gc,.slice na d.ah.length nc,.slice wa d.aB.length wc] 31)=wp:=⟨_,rfl⟩;have hPp:aP wp w.heap.size ⟨ga,d.au.length,gc,na,d.ah.length,nc,wa,d.aB.length,wc⟩:=by rw[<-hwp];exact aP.new w ⟨ga,d.au.length,gc,na,d.ah.length,nc,wa,d.aB.length,wc⟩ _
 have hSp:=aF hwp;obtain⟨w1,hw1⟩:∃w1,wp.alloc (.cells #[.slice none 0 0,.slice none 0 0,.slice none 0 0] 31)=w1:=⟨_,rfl⟩;have hNB:aU w1 wp.heap.size:=by rw[<-hw1];exact aU.new wp _
 have dZ:=aF hw1;have hP1:=hPp.ay dZ;have hS1:=hSp.trans dZ;have hW1:=hW.ay hS1;have hG1:=hW1.g;have hN1:=hW1.n;dsimp only at hG1 hN1;have p0:=hP1.c0;have p1:=hP1.c1;have p2:=hP1.c2;dsimp only at p0 p1 p2;have hwk:IntKind.i64.wrap ((d.ah.length:Int) - 1)=(d.ah.length:Int) - 1:=IntWalk.i64_in _ (by omega);have hwg:IntKind.i64.wrap ((d.au.length:Int) - 1)=(d.au.length:Int) - 1:=IntWalk.i64_in _ (by omega);have hwc:IntKind.i64.wrap (nd.aK+1)=nd.aK+1:=IntWalk.i64_in _ (by omega);have H1:Hid (inB n 0 ((d.ah.length:Int) - 1)=true):=by unfold Hid inB;simp;omega
 have H2:Hid (inB g 0 ((d.au.length:Int) - 1)=true):=by unfold Hid inB;simp;omega
 have H3:Hid (hasB d.au g n=true):=q3;have h4':decide ((8:Int) < (body.size:Int))=false:=by simp;omega
 have h5':(nd.aK == 1048576)=false:=by simpa using q5
 obtain⟨bn,on,rfl,hbn,hcn⟩:=hN1.cells (by omega);have k0:=(hcn n nd hnd).clk;have n1:(n:Int) < (d.ah.length:Int):=by omega
 obtain⟨M,hM0⟩:∃y,y9 nd n g nul body=y:=⟨_,rfl⟩;obtain⟨X1,hX1⟩:∃y,mJ nd=y:=⟨_,rfl⟩;have HMg:Hid (M.gr=g/\M.nul=nul):=by rw[<-hM0];exact⟨rfl,rfl⟩
 rw[hM0,hX1]at hcast;have hrows:eF (aD d n X1):=(kG X1 hnd (by rw[<-hX1];rfl) (fun _ r h=>⟨r,by rw[<-hX1]at *;exact h,rfl⟩)).rows R.rows;have hx1:(aD d n X1).ah[n]? = some X1:=by rw[dI _ hnd,if_pos rfl]
 have hl1:(aD d n X1).ah.length=d.ah.length:=by simp[aD]
 have HRW:Hid (eF (aD d n X1)/\(aD d n X1).ah[n]? = some X1/\(aD d n X1).ah.length=d.ah.length):=⟨hrows,hx1,hl1⟩;have HX1:Hid (X1.held=nd.held/\X1.last=nd.last):=by rw[<-hX1];exact⟨rfl,rfl⟩
 have HER:Hid (nd.held.length<=40/\j5 d nd):=⟨by have:=R.nW n;rw[(dU hnd).2.1]at this;exact this,rE R hnd⟩;clear hrows hx1 hl1;have jB:=(show Hid _ from jv);have HOK:=(show Hid _ from hOk);have HR:Hid (aL d):=R;have HC:=(show Hid _ from hcast);clear jv hOk q1 q2 q3 q4 q5 hcast hcn hm0
 go_enter func65,ntmps65
 go_wp2_with (first
  | (go_at_call 35;refine(bJ _ _ _ _).mono ?_;(first | rw[H1.out] | rw[H2.out]);rintro e w' ⟨rfl,hw⟩;obtain rfl:=hw.symm)
  | (go_at_call 68;refine(eu ga d.au.length gc d.au g n w1 hG1).mono ?_;rw[H3.out];rintro e w' ⟨rfl,hw⟩;obtain rfl:=hw.symm)
  | (go_at_call 85;refine(nM ⟨ga,d.au.length,gc,some ⟨bn,on,none⟩,d.ah.length,nc,wa,d.aB.length,wc⟩ d w1 hW1 hsm).mono ?_;rintro e w2 ⟨L,rfl,hO2,dO⟩;simp only[bF];obtain⟨bm,om,cm,hL1,H9⟩:=MO (g:=g) (nul:=nul) (body:=body) hO2 dO hnd 31 95;rw[hL1];dsimp only;obtain⟨w3,hw3⟩:∃y,w2.alloc (.cells #[.slice (L (0,0,0)).a d.au.length (L (0,0,0)).cap,.slice (some ⟨bm,om,none⟩) d.ah.length cm,.slice (L (2,0,0)).a d.aB.length (L (2,0,0)).cap] 31)=y:=⟨_,rfl⟩;obtain⟨w4,hw4⟩:∃y,w3.setCell ⟨bm,om+n*4,none⟩ (.int .i64 (nd.aK+1))=y:=⟨_,rfl⟩;obtain⟨w5,hw5⟩:∃y,w4.alloc (.cells #[.int .i64 n,.int .i64 g,.int .i64 (nd.aK+1),.bool nul,.string body] 95)=y:=⟨_,rfl⟩;obtain⟨t1,t2,t3,t4,t5,Qt,Tj,EY,Qu,xS,Ww⟩:=H9 w3 w4 w5 hw3 hw4 hw5;rw[hX1]at Qt Qu;rw[hM0]at Tj))
 clear hwp hw1 hw3 hw4 hw5 t1 t2 t3 t4 t5 H9 k0 p0 p1 p2 hO2 hwk hwg hwc h4' h5' H1 H2 H3 hPp hnd hX1 hM0
 go_loopw [14] (fun i wr=>∃(k:Nat) (dk:Wd) (Lk:Lay),k<=d.ah.length/\i=.int .i64 k/\fO M n (aD d n X1) k=.ok dk/\dF w1.heap.size wr w2.heap.size dk Lk/\cO wr w4.heap.size 0 M/\¬ gT dk Lk w4.heap.size/\w4.heap.size < wr.heap.size/\ak w1 wr) (fun i _=>d.ah.length - (intOf i).toNat)
 case atStart=>exact⟨0,_,_,Nat.zero_le _,rfl,rfl,Qt,Tj,Qu,EY,xS⟩
 case round =>
  obtain⟨wo,rfl⟩:∃wo,wo=wr:=⟨_,rfl⟩;obtain⟨k,dk,Lk,hk,rfl,jK,hM,hMk,za,hltk,hSr⟩:=hrel;have hPr:=hP1.ay hSr;have p0:=hPr.c0;dsimp only at p0;have hGr:=hG1.ay hSr;obtain⟨hrows,hx1,hl1⟩:=HRW.out;have hLS:=qX hrows (by omega) k dk (by omega) jK;have hrk:eF dk:=hLS.alike.rows hrows;have hNk:dk.ah.length=d.ah.length:=by rw[hLS.ah];exact hl1
  have hGk:dk.au=d.au:=hLS.au;have hxk:dk.ah[n]? = some X1:=by rw[hLS.ah];exact hx1
  have b1:=hM.box.c1;rw[hNk]at b1;have hwn:(n:Int) < (dk.aB.length:Int):=by have:=hrk.1;omega
  have HK:Hid (eF dk/\dk.ah.length=d.ah.length/\dk.au=d.au/\dk.ah[n]? = some X1):=⟨hrk,hNk,hGk,hxk⟩;have HL:Hid (fO M n (aD d n X1) k=.ok dk):=jK;obtain⟨lt,r0,r1,r2,r3,r4,r5⟩:=hNB.ay hSr;clear hrows hx1 hl1 hLS hGk hxk jK;by_cases hlt:k < d.ah.length
  ·have n2:(k:Int) < (d.ah.length:Int):=by omega
   by_cases hkn:k=n
   ·have HL2:Hid (fO M n (aD d n X1) (k+1)=.ok dk):=by
     unfold Hid;rw[jh,HL.out];show fZ M n dk k=_;unfold fZ;rw[if_pos (.inl hkn)]
    subst hkn;clear hNk hrk
    go_wp2_with fail
    go_roundw
    case rel=>exact⟨k+1,dk,Lk,by omega,by go_num,HL2.out,hM,hMk,za,hltk,hSr⟩
    case measure=>simp[intOf];omega
   have hkn':((k:Int) == (n:Int))=false:=by simp;omega
   cases h3:hasB d.au g k
   ·have HL2:Hid (fO M n (aD d n X1) (k+1)=.ok dk):=by
     unfold Hid;rw[jh,HL.out];show fZ M n dk k=_;unfold fZ;rw[if_pos (.inr (by rw[HK.out.2.2.1,HMg.out.1];exact h3))]
    have H3:=(show Hid _ from h3);clear hNk hrk h3
    go_wp2_with (go_at_call 68;refine(eu ga d.au.length gc d.au g k wo hGr).mono ?_;rw[H3.out];rintro e w' ⟨rfl,hw⟩;obtain rfl:=hw.symm)
    go_roundw
    case rel=>exact⟨k+1,dk,Lk,by omega,by go_num,HL2.out,hM,hMk,za,hltk,hSr⟩
    case measure=>simp[intOf];omega
   have H3:=(show Hid _ from h3);obtain⟨bw,ow,cw,br,oR,cr,hH⟩:=hM.qy hrk (f:=n) (t:=k) (by omega) (by omega);obtain⟨la,lc,hL8⟩:∃a c,Lk (8,n,k)=⟨a,c⟩:=⟨_,_,rfl⟩;obtain⟨l,hl⟩:∃y,aJ dk n k=y:=⟨_,rfl⟩;rw[hl]at hH;have HW:Hid (aJ dk n k=l):=hl
   have HLO:Hid (fZ M n dk k=if l.length=40 then .error 2 else if sM M l then .error 1 else .ok (bK dk n k (l++[M]))):=by
    unfold Hid fZ;rw[if_neg (by rw[HK.out.2.2.1,HMg.out.1,h3];simp;omega),hl]
   have HLY:Hid (∀er,fZ M n dk k=.error er->dR d n g nul body=.error er):=by
    intro er h;have h1:fO M n (aD d n X1) (k+1)=.error er:=by rw[jh,HL.out];exact h
    rw[HC.out,rR d.ah.length (k+1) (by omega) h1];rfl
   have s2:=hH.top;have s3:=hH.row;have s4:=hH.cell;rw[hNk]at s3;rw[hL8]at s4;dsimp only[Sl.v]at s4
   have nu:Row wo w1.heap.size 5 ⟨la,lc⟩ l.length (flat l):=by
    have h8:Row wo w1.heap.size 5 (Lk (8,n,k)) (aJ dk n k).length (flat (aJ dk n k)):=hM.own.row (8,n,k) (by
     obtain⟨row,hr,hrl⟩:=row_of hrk (f:=n) (by omega);exact⟨by rw[hrk.1];omega,by rw[dP hr];omega⟩)
    rw[hl,hL8]at h8;exact h8
   have hm0:=hMk.c2;clear h3 hl hNk hrk;by_cases h40:l.length=40
   ·rw[h40]at s4;have HE2:Hid (fZ M n dk k=.error 2):=by unfold Hid;rw[HLO.out,if_pos h40]
    clear h40
    go_wp2_with (go_at_call 68;refine(eu ga d.au.length gc d.au g k wo hGr).mono ?_;rw[H3.out];rintro e w' ⟨rfl,hw⟩;obtain rfl:=hw.symm)
    refine bodyPost_ret (v:=.tuple #[.agg #[.slice none 0 0,.slice none 0 0,.slice none 0 0],.int .i64 2]) ?_ rfl (jB.out 2 (HLY.out 2 HE2.out) _ (cu hSp.size (hS1.trans hSr)));simp[results,results65,go_sem,r0,r1,r2]
   have HS:Hid (l.length < 40):=by
    obtain⟨hrows,hx1,hl1⟩:=HRW.out;have hLS:=qX hrows (by omega) k dk (by omega) HL.out;have e:aJ dk n k=aJ d n k:=by rw[hLS.wire,if_neg (by unfold ou;omega)];rfl
    have h1:=HR.out.pK n k;rw[<-e,HW.out]at h1;unfold Hid;omega
   have Tk:((l.length:Int) == 40)=false:=by simp;omega
   have hcap:=nu.cap;dsimp only at hcap;rcases hz:l.length with _ | j
   ·have HZ:Hid (l.length=0):=hz
    have HLT:Hid (sM M l=false):=by
     have:l=[]:=zQ6 hz;subst this;rfl
    rw[hz]at s4 nu;clear hz h40 Tk hcap;have hne:Nonempty (Later wo):=⟨⟨wo,ak.refl wo⟩⟩
    go_wp2_with (go_at_call 68;refine(eu ga d.au.length gc d.au g k wo hGr).mono ?_;rw[H3.out];rintro e w' ⟨rfl,hw⟩;obtain rfl:=hw.symm)
    refine aH (by kernel_rfl) (by kernel_rfl) (ak.refl wo) ?_
    repeat (go_big_quiet_step (fail))
    refine wpQuiet_nil ?_;intro wz hS9
    go_wp2_with fail
    obtain⟨hrk,hNk,hGk,hxk⟩:=HK.out;have hMz:=hM.ay hS9;have hHz:=hH.ay hS9;obtain⟨S0,hS0⟩:∃S0:World->Prop,∀w',S0 w'↔(lS w' w2.heap.size dk Lk n k l bw ow cw br oR cr/\cO w' w4.heap.size 0 M):=⟨_,fun _=>Iff.rfl⟩;have c1:∀y:aA S0,y.w.cell? ⟨w2.heap.size,2,none⟩=some (.slice (some ⟨bw,ow,none⟩) dk.aB.length cw):=fun y=>((hS0 _).1 y.h).1.top;have c2:∀y:aA S0,y.w.cell? ⟨bw,ow+n,none⟩=some (.slice (some ⟨br,oR,none⟩) d.ah.length cr):=fun y=>by have:=((hS0 _).1 y.h).1.row;rw[hNk]at this;exact this
    have c3:∀y:aA S0,y.w.cell? ⟨br,oR+k,none⟩=some (.slice la 0 lc):=fun y=>by have:=((hS0 _).1 y.h).1.cell;rw[hL8,HZ.out]at this;exact this
    have m0:∀y:aA S0,y.w.cell? ⟨w4.heap.size,0,none⟩=some (.int .i64 M.fr):=fun y=>((hS0 _).1 y.h).2.c0;have m1:∀y:aA S0,y.w.cell? ⟨w4.heap.size,1,none⟩=some (.int .i64 M.gr):=fun y=>((hS0 _).1 y.h).2.c1;have m2:∀y:aA S0,y.w.cell? ⟨w4.heap.size,2,none⟩=some (.int .i64 M.st):=fun y=>((hS0 _).1 y.h).2.c2;have m3:∀y:aA S0,y.w.cell? ⟨w4.heap.size,3,none⟩=some (.bool M.nul):=fun y=>((hS0 _).1 y.h).2.c3;have m4:∀y:aA S0,y.w.cell? ⟨w4.heap.size,4,none⟩=some (.string M.body):=fun y=>((hS0 _).1 y.h).2.c4;obtain⟨W0,hW0⟩:∃y,wz.drew=y:=⟨_,rfl⟩;have hs0:=aY hW0;have hMW:=aN hMk hltk (hS9.trans hs0);have hqW:w4.heap.size < W0.heap.size:=zQ4 hltk (hS9.trans hs0).size;have aC:=(hS0 W0).2 ⟨hHz.ay hs0,hMW⟩;have hne2:Nonempty (aA S0):=⟨⟨_,aC⟩⟩;obtain⟨WA,hWA⟩:∃y,W0.alloc (.cells #[.int .i64 M.fr,.int .i64 M.gr,.int .i64 M.st,.bool M.nul,.string M.body] 95)=y:=⟨_,rfl⟩;have hsA:=aF hWA;have EZ:=(hS0 WA).2 ⟨(hHz.ay hs0).ay hsA,aN hMW hqW hsA⟩;have hsrc:=iy (size:=5) (T:=95) (w:=W0) jo.und (flat [M]) (by simp[dA]) (fun u hu=>dN u _ hu) 1;rw[show(W0.alloc (.cells (flat [M]).toArray 95))=WA from hWA]at hsrc;have hRA:=(nu.ay hS9).ay (hs0.trans hsA);have JN:w1.heap.size<=WA.heap.size:=zQ5 hSr.size (zQ5 hS9.size (hs0.trans hsA).size);have Tm:0 < 1000:=by have:=HS.out;have:=HZ.out;omega
    have HNK:Hid (eF dk/\dk.ah.length=d.ah.length):=⟨hrk,hNk⟩;have HH0:=(show Hid _ from hHz.ay (hs0.trans hsA));have HMZ:=(show Hid _ from hMz);have HM8:=(show Hid _ from hL8);clear hNk hrk hGk hxk hHz hMz s2 s3 s4 hL8;refine uq (fun w'=>∃x:aA S0,w'=x.w) (by kernel_rfl) ?_;rw[hW0];clear hW0;refine tL 0 rfl (aj aC) ?_;go_big_quiet_op;refine tL 1 rfl (aj aC) ?_;go_big_quiet_op;refine tL 2 rfl (aj aC) ?_;go_big_quiet_op;refine tL 3 rfl (aj aC) ?_;go_big_quiet_op;refine tL 4 rfl (aj aC) ?_;go_big_quiet_op;refine tL 5 rfl (aj aC) ?_;go_big_quiet_op;refine tL 6 rfl (aj aC) ?_;go_big_quiet_op;refine tL 7 rfl (aj aC) ?_;go_big_quiet_op;refine tL 8 rfl (aj aC) ?_;go_big_quiet_op;refine tL 9 rfl (aj aC) ?_;go_big_quiet_op;refine tL 10 rfl (aj aC) ?_;go_big_quiet_op;refine tL 11 rfl (aj aC) ?_;go_big_quiet_op;refine tL 12 rfl (aj aC) ?_;go_big_quiet_op;refine tL 13 rfl (aj aC) ?_;go_big_quiet_op;refine tL 14 rfl (aj aC) ?_;go_big_quiet_op;refine kY 15 rfl (by kernel_rfl) ?_;intro K hK;go_simp;refine hK _ _ (fun _ _=>aj EZ) ?_;clear hK K;refine kY 16 rfl (by kernel_rfl) ?_;intro K hK;refine fU jo (by rfl) _ _ 62 (by rfl) (by rfl) hRA (by rfl) hsrc (by omega) JN ?_;intro a' c' wB hRB hFB hBB;obtain⟨hrk,hNk⟩:=HNK.out;have hHB:=HH0.out.fr (HMZ.out.ay (hs0.trans hsA)) hrk (by omega) (by omega) (by rw[HM8.out];exact hFB)
    have hnq:¬ (Lk (8,n,k)).blk=some w4.heap.size:=fun e=>za ⟨(8,n,k),by
     obtain⟨row,hr,hrl⟩:=row_of hrk (f:=n) (by omega);exact⟨by rw[hrk.1];omega,by rw[dP hr];omega⟩,e⟩
    have hMB:cO wB w4.heap.size 0 M:=bS (aN hMW hqW hsA) (hFB.block _ (by have:=hS9.size;have:=hs0.size;have:=hsA.size;omega) (by rw[HM8.out]at hnq;exact hnq));have E5:=(hS0 wB).2 ⟨hHB,hMB⟩;have fB:=hHB.free;have gB:=hHB.cell;have lB:=hHB.ltr;rw[HM8.out,HZ.out]at gB;dsimp only[Sl.v]at gB;refine hK _ _ (fun _ _=>aj E5) ?_;clear hK K;simp only[Act.put,zQ7,zQ8,zQ9];refine tL 17 rfl (aj E5) ?_;go_big_quiet_op;refine kY 18 rfl (by kernel_rfl) ?_;intro K hK;go_simp;refine hK _ _ (fun h=>absurd h (by decide +kernel)) ?_;clear hK K;have hgw:=HMZ.out.yA (m:=M) (a':=a') (c':=c') (w1:=WA) (w2:=wB) hrk (f:=n) (t:=k) (by omega) (by omega) hH.lay (zQ5 hSr.size hS9.size) (hs0.trans hsA) (by rw[HW.out];have:=HZ.out;omega) (by rw[HW.out,HZ.out];exact hRB) (by rw[HM8.out];exact hFB) (by rw[HM8.out];exact hBB);rw[HW.out,HZ.out]at hgw;obtain⟨hMf,uH⟩:=hgw;obtain⟨JO,JQ⟩:=uH.beside (q:=w4.heap.size) (by have:=hS9.size;omega) za;have JR:=zQ4 hltk (zQ5 hS9.size uH.fr.size);have hSf:=uH.fr.aI (hSr.trans hS9) (fun i hi hb=>by have:=(hM.own.blk hb).1;omega)
    have HL2:Hid (fO M n (aD d n X1) (k+1)=.ok (bK dk n k (l++[M]))):=by
     unfold Hid;rw[jh,HL.out];show fZ M n dk k=_;rw[HLO.out,if_neg (by have:=HS.out;omega),HLT.out];rfl
    have JU:=bS (aN hMk hltk hS9) JO;clear c1 c2 c3 m0 m1 m2 m3 m4 hNk hrk gB;refine vP (by kernel_rfl) ?_
    go_wp2
    exact⟨⟨k+1,_,_,by omega,by go_num,HL2.out,hMf,JU,JQ,JR,hSf⟩,by simp[intOf];omega⟩
   ·have HZ:Hid (l.length=j+1):=hz;obtain⟨ml,hml⟩:∃ml,l[j]? = some ml:=⟨_,zQ1 (by omega)⟩;have hgl:l.getLast? = some ml:=by rw[List.getLast?_eq_getElem?,hz];exact hml
    rw[hz]at s4 nu Tk;obtain⟨bl,ol,e8,hll,hbl,hcl,hxl⟩:=nu.body (by show 0 < lc;omega);dsimp only at e8;subst e8;have z2:=(dM hxl j ml hml).c2;have hne:Nonempty (Later wo):=⟨⟨wo,ak.refl wo⟩⟩;have z2L:∀y:Later wo,y.w.cell? ⟨bl,ol+j*5+2,none⟩=some (.int .i64 ml.st):=fun y=>(y.h.av hbl _).trans z2;have m2L:∀y:Later wo,y.w.cell? ⟨w4.heap.size,2,none⟩=some (.int .i64 M.st):=fun y=>(y.h.av hltk _).trans hm0;have Wx:(j:Int)<=39:=by have:=HS.out;omega
    have hwj:IntKind.i64.wrap ((j:Int)+1 - 1)=j:=by rw[IntWalk.i64_in _ (by omega)];omega
    have Tn:Hid (sM M l=decide (M.st<=ml.st)):=by unfold Hid sM;rw[hgl]
    clear hz h40 hcap z2 hml hgl;cases Qv:decide (M.st<=ml.st)
    ·have HLT:Hid (sM M l=false):=by unfold Hid;rw[Tn.out];exact Qv
     go_wp2_with (go_at_call 68;refine(eu ga d.au.length gc d.au g k wo hGr).mono ?_;rw[H3.out];rintro e w' ⟨rfl,hw⟩;obtain rfl:=hw.symm)
     refine aH (by kernel_rfl) (by kernel_rfl) (ak.refl wo) ?_
     repeat (go_big_quiet_step (fail))
     refine wpQuiet_nil ?_;intro wz hS9
     go_wp2_with fail
     clear z2L m2L;obtain⟨hrk,hNk,hGk,hxk⟩:=HK.out;have hMz:=hM.ay hS9;have hHz:=hH.ay hS9;obtain⟨S0,hS0⟩:∃S0:World->Prop,∀w',S0 w'↔(lS w' w2.heap.size dk Lk n k l bw ow cw br oR cr/\cO w' w4.heap.size 0 M):=⟨_,fun _=>Iff.rfl⟩;have c1:∀y:aA S0,y.w.cell? ⟨w2.heap.size,2,none⟩=some (.slice (some ⟨bw,ow,none⟩) dk.aB.length cw):=fun y=>((hS0 _).1 y.h).1.top;have c2:∀y:aA S0,y.w.cell? ⟨bw,ow+n,none⟩=some (.slice (some ⟨br,oR,none⟩) d.ah.length cr):=fun y=>by have:=((hS0 _).1 y.h).1.row;rw[hNk]at this;exact this
     have c3:∀y:aA S0,y.w.cell? ⟨br,oR+k,none⟩=some (.slice (some ⟨bl,ol,none⟩) (j+1) lc):=fun y=>by have:=((hS0 _).1 y.h).1.cell;rw[hL8,HZ.out]at this;exact this
     have m0:∀y:aA S0,y.w.cell? ⟨w4.heap.size,0,none⟩=some (.int .i64 M.fr):=fun y=>((hS0 _).1 y.h).2.c0;have m1:∀y:aA S0,y.w.cell? ⟨w4.heap.size,1,none⟩=some (.int .i64 M.gr):=fun y=>((hS0 _).1 y.h).2.c1;have m2:∀y:aA S0,y.w.cell? ⟨w4.heap.size,2,none⟩=some (.int .i64 M.st):=fun y=>((hS0 _).1 y.h).2.c2;have m3:∀y:aA S0,y.w.cell? ⟨w4.heap.size,3,none⟩=some (.bool M.nul):=fun y=>((hS0 _).1 y.h).2.c3;have m4:∀y:aA S0,y.w.cell? ⟨w4.heap.size,4,none⟩=some (.string M.body):=fun y=>((hS0 _).1 y.h).2.c4;obtain⟨W0,hW0⟩:∃y,wz.drew=y:=⟨_,rfl⟩;have hs0:=aY hW0;have hMW:=aN hMk hltk (hS9.trans hs0);have hqW:w4.heap.size < W0.heap.size:=zQ4 hltk (hS9.trans hs0).size;have aC:=(hS0 W0).2 ⟨hHz.ay hs0,hMW⟩;have hne2:Nonempty (aA S0):=⟨⟨_,aC⟩⟩;obtain⟨WA,hWA⟩:∃y,W0.alloc (.cells #[.int .i64 M.fr,.int .i64 M.gr,.int .i64 M.st,.bool M.nul,.string M.body] 95)=y:=⟨_,rfl⟩;have hsA:=aF hWA;have EZ:=(hS0 WA).2 ⟨(hHz.ay hs0).ay hsA,aN hMW hqW hsA⟩;have hsrc:=iy (size:=5) (T:=95) (w:=W0) jo.und (flat [M]) (by simp[dA]) (fun u hu=>dN u _ hu) 1;rw[show(W0.alloc (.cells (flat [M]).toArray 95))=WA from hWA]at hsrc;have hRA:=(nu.ay hS9).ay (hs0.trans hsA);have JN:w1.heap.size<=WA.heap.size:=zQ5 hSr.size (zQ5 hS9.size (hs0.trans hsA).size);have Tm:j+1 < 1000:=by have:=HS.out;have:=HZ.out;omega
     have HNK:Hid (eF dk/\dk.ah.length=d.ah.length):=⟨hrk,hNk⟩;have HH0:=(show Hid _ from hHz.ay (hs0.trans hsA));have HMZ:=(show Hid _ from hMz);have HM8:=(show Hid _ from hL8);clear hNk hrk hGk hxk hHz hMz s2 s3 s4 hL8;refine uq (fun w'=>∃x:aA S0,w'=x.w) (by kernel_rfl) ?_;rw[hW0];clear hW0;refine tL 0 rfl (aj aC) ?_;go_big_quiet_op;refine tL 1 rfl (aj aC) ?_;go_big_quiet_op;refine tL 2 rfl (aj aC) ?_;go_big_quiet_op;refine tL 3 rfl (aj aC) ?_;go_big_quiet_op;refine tL 4 rfl (aj aC) ?_;go_big_quiet_op;refine tL 5 rfl (aj aC) ?_;go_big_quiet_op;refine tL 6 rfl (aj aC) ?_;go_big_quiet_op;refine tL 7 rfl (aj aC) ?_;go_big_quiet_op;refine tL 8 rfl (aj aC) ?_;go_big_quiet_op;refine tL 9 rfl (aj aC) ?_;go_big_quiet_op;refine tL 10 rfl (aj aC) ?_;go_big_quiet_op;refine tL 11 rfl (aj aC) ?_;go_big_quiet_op;refine tL 12 rfl (aj aC) ?_;go_big_quiet_op;refine tL 13 rfl (aj aC) ?_;go_big_quiet_op;refine tL 14 rfl (aj aC) ?_;go_big_quiet_op;refine kY 15 rfl (by kernel_rfl) ?_;intro K hK;go_simp;refine hK _ _ (fun _ _=>aj EZ) ?_;clear hK K;refine kY 16 rfl (by kernel_rfl) ?_;intro K hK;refine fU jo (by rfl) _ _ 62 (by rfl) (by rfl) hRA (by rfl) hsrc (by omega) JN ?_;intro a' c' wB hRB hFB hBB;obtain⟨hrk,hNk⟩:=HNK.out;have hHB:=HH0.out.fr (HMZ.out.ay (hs0.trans hsA)) hrk (by omega) (by omega) (by rw[HM8.out];exact hFB)
     have hnq:¬ (Lk (8,n,k)).blk=some w4.heap.size:=fun e=>za ⟨(8,n,k),by
      obtain⟨row,hr,hrl⟩:=row_of hrk (f:=n) (by omega);exact⟨by rw[hrk.1];omega,by rw[dP hr];omega⟩,e⟩
     have hMB:cO wB w4.heap.size 0 M:=bS (aN hMW hqW hsA) (hFB.block _ (by have:=hS9.size;have:=hs0.size;have:=hsA.size;omega) (by rw[HM8.out]at hnq;exact hnq));have E5:=(hS0 wB).2 ⟨hHB,hMB⟩;have fB:=hHB.free;have gB:=hHB.cell;have lB:=hHB.ltr;rw[HM8.out,HZ.out]at gB;dsimp only[Sl.v]at gB;refine hK _ _ (fun _ _=>aj E5) ?_;clear hK K;simp only[Act.put,zQ7,zQ8,zQ9];refine tL 17 rfl (aj E5) ?_;go_big_quiet_op;refine kY 18 rfl (by kernel_rfl) ?_;intro K hK;go_simp;refine hK _ _ (fun h=>absurd h (by decide +kernel)) ?_;clear hK K;have hgw:=HMZ.out.yA (m:=M) (a':=a') (c':=c') (w1:=WA) (w2:=wB) hrk (f:=n) (t:=k) (by omega) (by omega) hH.lay (zQ5 hSr.size hS9.size) (hs0.trans hsA) (by rw[HW.out];have:=HZ.out;omega) (by rw[HW.out,HZ.out];exact hRB) (by rw[HM8.out];exact hFB) (by rw[HM8.out];exact hBB);rw[HW.out,HZ.out]at hgw;obtain⟨hMf,uH⟩:=hgw;obtain⟨JO,JQ⟩:=uH.beside (q:=w4.heap.size) (by have:=hS9.size;omega) za;have JR:=zQ4 hltk (zQ5 hS9.size uH.fr.size);have hSf:=uH.fr.aI (hSr.trans hS9) (fun i hi hb=>by have:=(hM.own.blk hb).1;omega)
     have HL2:Hid (fO M n (aD d n X1) (k+1)=.ok (bK dk n k (l++[M]))):=by
      unfold Hid;rw[jh,HL.out];show fZ M n dk k=_;rw[HLO.out,if_neg (by have:=HS.out;omega),HLT.out];rfl
     have JU:=bS (aN hMk hltk hS9) JO;clear c1 c2 c3 m0 m1 m2 m3 m4 hNk hrk gB;refine vP (by kernel_rfl) ?_
     go_wp2
     exact⟨⟨k+1,_,_,by omega,by go_num,HL2.out,hMf,JU,JQ,JR,hSf⟩,by simp[intOf];omega⟩
    ·have HE1:Hid (fZ M n dk k=.error 1):=by unfold Hid;rw[HLO.out,if_neg (by have:=HS.out;omega),Tn.out,Qv];rfl
     go_wp2_with (go_at_call 68;refine(eu ga d.au.length gc d.au g k wo hGr).mono ?_;rw[H3.out];rintro e w' ⟨rfl,hw⟩;obtain rfl:=hw.symm)
     refine aH (by kernel_rfl) (by kernel_rfl) (ak.refl wo) ?_
     repeat (go_big_quiet_step (fail))
     refine wpQuiet_nil ?_;intro wz hS9;obtain⟨lt,r0,r1,r2,r3,r4,r5⟩:=hNB.ay (hSr.trans hS9)
     go_wp2_with fail
     refine bodyPost_ret (v:=.tuple #[.agg #[.slice none 0 0,.slice none 0 0,.slice none 0 0],.int .i64 1]) ?_ rfl (jB.out 1 (HLY.out 1 HE1.out) _ (cu hSp.size (hS1.trans (hSr.trans hS9))));simp[results,results65,go_sem,r0,r1,r2]
  ·obtain rfl:k=d.ah.length:=by omega
   have HLN:=HL;obtain⟨hrk,Tp,hGk,hxk⟩:=HK.out;have m0:=hMk.c0;have m1:=hMk.c1;have m2:=hMk.c2;have m3:=hMk.c3;have m4:=hMk.c4
   have E8:j5 dk X1:=by
    obtain⟨_,h2⟩:=HER.out;obtain⟨_,e2⟩:=HX1.out;exact⟨by rw[e2,hGk];exact h2.len,fun gg row hr=>by rw[Tp];rw[e2]at hr;exact h2.rows gg row hr⟩
   have JV:X1.held.length<=40:=by rw[HX1.out.1];exact HER.out.1
   clear hNk Tp hrk hGk hlt;cases nul
   ·have hmn:=HMg.out.2;cases hP:(dV M X1.held != 0)
    ·have HP:Hid (dV M X1.held=0):=by unfold Hid;simpa using hP
     obtain⟨X3,hX3⟩:∃y,({ X1 with held:=gK M X1.held }:Nd)=y:=⟨_,rfl⟩
     obtain⟨D3,hD3⟩:∃y,aD dk n X3=y:=⟨_,rfl⟩;have nD:=pW w1.heap.size w2.heap.size n M dk Lk X1 wo hM hxk hSr.size;rw[hX3,hD3]at nD;have hx3:D3.ah[n]? = some X3:=by rw[<-hD3,dI _ hxk,if_pos rfl]
     have Oz:j5 D3 X3:=by rw[<-hD3,<-hX3];exact⟨E8.len,fun gg row hr=>by have:=E8.rows gg row hr;simpa[aD] using this⟩
     have OA:X3.held.length<=40:=by
      rw[<-hX3];show(gK M X1.held).length<=40;rw[lH M X1.held HP.out]
      have:¬ 40<=X1.held.length:=fun h=>by have:=HP.out;unfold dV at this;split at this <;> simp_all
      omega
     have HCB:Hid (dR d n g false body=(eZ D3 n).bind fun p=>.ok p.1):=by
      unfold Hid;rw[HC.out,HLN.out];show((eD dk n M).bind _)=_;unfold eD sJ;rw[hmn,hxk];simp only[HP.out,if_true,Bool.false_eq_true,if_false];rw[hX3,hD3];rfl
     have HTD:=(show Hid _ from yx hx3);clear hX3 hD3 hmn hxk;cases hT:(iG D3 n X3 != 0)
     ·have HT:Hid (iG D3 n X3=0):=by unfold Hid;simpa using hT
      go_wp2_with (first
       | (go_at_call 86;refine nD.mono ?_;rintro e w6 ⟨rfl,hh1,hh2⟩;obtain⟨L3,hM3,JW⟩:=hh2 HP.out;have BG:=JW.fr.aI hSr (fun i hi hb=>by have:=(hM.own.blk hb).1;omega))
       | (go_at_call 87;refine(iW w1.heap.size w2.heap.size n D3 L3 X3 w6 hM3 hx3 BG.size Oz OA).mono ?_;rintro e w9 ⟨rfl,hT1,hT2⟩;obtain⟨L4,hM4,zJ⟩:=hT2 HT.out;have lT:=zJ.fr.aI BG (fun i hi hb=>by have:=(hM3.own.blk hb).1;omega);obtain⟨lt,r0,r1,r2,r3,r4,r5⟩:=hNB.ay lT;have b0:=hM4.box.c0;have b1:=hM4.box.c1;have b2:=hM4.box.c2))
      obtain⟨hO,hSf⟩:=hM4.own.result (w0:=w) (p:=wp.heap.size) hNB.lt hSp.size (hS1.trans lT) hS1.size;refine bodyPost_ret (v:=.tuple #[bF L4 (aD D3 n (uG D3 n X3)),.int .i64 0]) ?_ rfl (HOK.out _ (by rw[HCB.out,HTD.out,if_pos HT.out];rfl) _ L4 hO hSf);simp[results,results65,go_sem,r0,r1,r2,bF]
     ·have HT:Hid (iG D3 n X3≠0):=by unfold Hid;simpa using hT
      go_wp2_with (first
       | (go_at_call 86;refine nD.mono ?_;rintro e w6 ⟨rfl,hh1,hh2⟩;obtain⟨L3,hM3,JW⟩:=hh2 HP.out;have BG:=JW.fr.aI hSr (fun i hi hb=>by have:=(hM.own.blk hb).1;omega))
       | (go_at_call 87;refine(iW w1.heap.size w2.heap.size n D3 L3 X3 w6 hM3 hx3 BG.size Oz OA).mono ?_;rintro e w9 ⟨rfl,hT1,hT2⟩;have lT:=BG.trans (hT1 HT.out);obtain⟨lt,r0,r1,r2,r3,r4,r5⟩:=hNB.ay lT))
      refine bodyPost_ret (v:=.tuple #[.agg #[.slice none 0 0,.slice none 0 0,.slice none 0 0],.int .i64 (iG D3 n X3)]) ?_ rfl (jB.out _ (by rw[HCB.out,HTD.out,if_neg HT.out];rfl) _ (cu hSp.size (hS1.trans lT)));simp[results,results65,go_sem,r0,r1,r2,bF]
    ·have HP:Hid (dV M X1.held≠0):=by unfold Hid;simpa using hP
     have HCB:Hid (dR d n g false body=.error (dV M X1.held)):=by
      unfold Hid;rw[HC.out,HLN.out];show((eD dk n M).bind _)=_;unfold eD sJ;rw[hmn,hxk];simp only[HP.out,Bool.false_eq_true,if_false];rfl
     clear hmn
     go_wp2_with (go_at_call 86;refine(pW w1.heap.size w2.heap.size n M dk Lk X1 wo hM hxk hSr.size).mono ?_;rintro e w6 ⟨rfl,hh1,hh2⟩;have lT:=hSr.trans (hh1 HP.out);obtain⟨lt,r0,r1,r2,r3,r4,r5⟩:=hNB.ay lT)
     refine bodyPost_ret (v:=.tuple #[.agg #[.slice none 0 0,.slice none 0 0,.slice none 0 0],.int .i64 (dV M X1.held)]) ?_ rfl (jB.out _ HCB.out _ (cu hSp.size (hS1.trans lT)));simp[results,results65,go_sem,r0,r1,r2,bF]
   ·have hmn:=HMg.out.2
    have HCB:Hid (dR d n g true body=(eZ dk n).bind fun p=>.ok p.1):=by
     unfold Hid;rw[HC.out,HLN.out];show((eD dk n M).bind _)=_;unfold eD;rw[hmn];rfl
    have HTD:=(show Hid _ from yx hxk);clear hmn;cases hT:(iG dk n X1 != 0)
    ·have HT:Hid (iG dk n X1=0):=by unfold Hid;simpa using hT
     go_wp2_with (go_at_call 87;refine(iW w1.heap.size w2.heap.size n dk Lk X1 wo hM hxk hSr.size E8 JV).mono ?_;rintro e w9 ⟨rfl,hT1,hT2⟩;obtain⟨L4,hM4,zJ⟩:=hT2 HT.out;have lT:=zJ.fr.aI hSr (fun i hi hb=>by have:=(hM.own.blk hb).1;omega);obtain⟨lt,r0,r1,r2,r3,r4,r5⟩:=hNB.ay lT;have b0:=hM4.box.c0;have b1:=hM4.box.c1;have b2:=hM4.box.c2)
     obtain⟨hO,hSf⟩:=hM4.own.result (w0:=w) (p:=wp.heap.size) hNB.lt hSp.size (hS1.trans lT) hS1.size;refine bodyPost_ret (v:=.tuple #[bF L4 (aD dk n (uG dk n X1)),.int .i64 0]) ?_ rfl (HOK.out _ (by rw[HCB.out,HTD.out,if_pos HT.out];rfl) _ L4 hO hSf);simp[results,results65,go_sem,r0,r1,r2,bF]
    ·have HT:Hid (iG dk n X1≠0):=by unfold Hid;simpa using hT
     go_wp2_with (go_at_call 87;refine(iW w1.heap.size w2.heap.size n dk Lk X1 wo hM hxk hSr.size E8 JV).mono ?_;rintro e w9 ⟨rfl,hT1,hT2⟩;have lT:=hSr.trans (hT1 HT.out);obtain⟨lt,r0,r1,r2,r3,r4,r5⟩:=hNB.ay lT)
     refine bodyPost_ret (v:=.tuple #[.agg #[.slice none 0 0,.slice none 0 0,.slice none 0 0],.int .i64 (iG dk n X1)]) ?_ rfl (jB.out _ (by rw[HCB.out,HTD.out,if_neg HT.out];rfl) _ (cu hSp.size (hS1.trans lT)));simp[results,results65,go_sem,r0,r1,r2,bF]
theorem uF(x:WV)(d:Wd)(n g:Int)(nul:Bool)(body:ByteArray)(w:World)(hW:WAt w x d)(R:aL d) :
  Calls prog 65 #[.agg #[.slice x.ga x.gl x.gc,.slice x.na x.nl x.nc,.slice x.wa x.wl x.wc],.int .i64 n,.int .i64 g,.bool nul,.string body] w fun e w' =>
   (∀er,dR d n g nul body=.error er->e=.returned (.tuple #[.agg #[.slice none 0 0,.slice none 0 0,.slice none 0 0],.int .i64 er])/\ak w w') /\
   (∀d',dR d n g nul body=.ok d'->∃L,e=.returned (.tuple #[bF L d',.int .i64 0])/\bG w.heap.size w' d' L/\ak w w'):=by
 by_cases hE:cK d n g body.size=0
 ·obtain⟨⟨q1,q1'⟩,_⟩:=wI hE;obtain⟨k,rfl⟩:=Int.eq_ofNat_of_zero_le q1;obtain⟨nd,hnd⟩:∃nd,d.ah[k]? = some nd:=⟨_,zQ1 (by omega)⟩;refine H7 x d k g nul body w hW R nd hnd hE _ (fun er h w' hS=>⟨fun er' h'=>?_,fun d' h'=>?_⟩) (fun d' h w' L hO hS=>⟨fun er' h'=>?_,fun d2 h'=>?_⟩)
  ·rw[h]at h';cases h';exact⟨rfl,hS⟩
  ·rw[h]at h';cases h'
  ·rw[h]at h';cases h'
  ·rw[h]at h';cases h';exact⟨L,rfl,hO,hS⟩
 ·refine(C9 x d n g nul body w hW hE).mono ?_;rintro e w' ⟨rfl,hS⟩;have h:dR d n g nul body=.error (cK d n g body.size):=by unfold dR;rw[if_neg hE]
  refine⟨fun er h'=>?_,fun d' h'=>?_⟩
  ·rw[h]at h';cases h';exact⟨rfl,hS⟩
  ·rw[h]at h';cases h'
def vW(w:World)(r:Except Int Wd)(e:Ending)(w':World):Prop :=
 (∀er,r=.error er->e=.returned (.tuple #[.agg #[.slice none 0 0,.slice none 0 0,.slice none 0 0],.int .i64 er])/\ak w w') /\
 (∀d',r=.ok d'->∃L,e=.returned (.tuple #[bF L d',.int .i64 0])/\bG w.heap.size w' d' L/\ak w w')
theorem iU{w:World}{er:Int}{w':World}(hS:ak w w'):vW w (.error er) (.returned (.tuple #[.agg #[.slice none 0 0,.slice none 0 0,.slice none 0 0],.int .i64 er])) w' :=
 ⟨fun _ h=>(by cases h;exact⟨rfl,hS⟩),fun _ h=>(by cases h)⟩
theorem mH{w:World}{d:Wd}{L:Lay}{w':World}(hO:bG w.heap.size w' d L)(hS:ak w w'):vW w (.ok d) (.returned (.tuple #[bF L d,.int .i64 0])) w' :=
 ⟨fun _ h=>(by cases h),fun _ h=>(by cases h;exact⟨L,rfl,hO,hS⟩)⟩
theorem mG(x:WV)(d:Wd)(n g:Int)(nul:Bool)(body:ByteArray)(w:World)(hW:WAt w x d) :
  Calls prog 40 #[.agg #[.slice x.ga x.gl x.gc,.slice x.na x.nl x.nc,.slice x.wa x.wl x.wc],.int .i64 n,.int .i64 g,.bool nul,.string body] w fun e w'=>Hid (vW w (checked d (dR d n g nul body)) e w'):=by
 obtain⟨ga,gl,gc,na,nl,nc,wa,wl,wc⟩:=x;dsimp only;obtain⟨wp,hwp⟩:∃wp,w.alloc (.cells #[.slice ga gl gc,.slice na nl nc,.slice wa wl wc] 31)=wp:=⟨_,rfl⟩;have hPp:aP wp w.heap.size ⟨ga,gl,gc,na,nl,nc,wa,wl,wc⟩:=by rw[<-hwp];exact aP.new w ⟨ga,gl,gc,na,nl,nc,wa,wl,wc⟩ _
 have hSp:=aF hwp;obtain⟨w1,hw1⟩:∃w1,wp.alloc (.cells #[.slice none 0 0,.slice none 0 0,.slice none 0 0] 31)=w1:=⟨_,rfl⟩;have hNB:aU w1 wp.heap.size:=by rw[<-hw1];exact aU.new wp _
 have dZ:=aF hw1;have hP1:=hPp.ay dZ;have hS1:=hSp.trans dZ;have hW1:=hW.ay hS1;have p0:=hP1.c0;have p1:=hP1.c1;have p2:=hP1.c2;dsimp only at p0 p1 p2;have PF:Hid (∀y,ak w1 y->aP y w.heap.size ⟨ga,gl,gc,na,nl,nc,wa,wl,wc⟩):=fun y hy=>hP1.ay hy;cases hE:(aZ d != 0)
 ·have HE:Hid (aZ d=0):=by unfold Hid;simpa using hE
  obtain⟨r,hr⟩:∃r,dR d n g nul body=r:=⟨_,rfl⟩;rw[hr]
  cases r with
  | error er =>
   have HF:Hid (checked d (.error er:Except Int Wd)=.error er):=by unfold Hid checked;rw[if_pos HE.out]
   have HRR:=(show Hid _ from hr);clear hr
   go_enter func40,ntmps40
   go_wp2_with (first
    | (go_at_call 64;refine(jO w1 _ ⟨ga,gl,gc,na,nl,nc,wa,wl,wc⟩ d hW1 (ak.refl _)).mono ?_;rintro e w2 ⟨rfl,hS2⟩;obtain⟨lt2,f0,f1,f2⟩:=PF.out _ hS2;dsimp only at f0 f1 f2)
    | (go_at_call 65;refine(uF ⟨ga,gl,gc,na,nl,nc,wa,wl,wc⟩ d n g nul body w2 (hW1.ay hS2) ((cZ d).1 HE.out)).mono ?_;rintro e w3 ⟨hR,_⟩;obtain⟨rfl,hS3⟩:=hR er HRR.out;have hSr:=hS2.trans hS3;obtain⟨lt,r0,r1,r2,r3,r4,r5⟩:=hNB.ay hSr))
   refine bodyPost_ret (v:=.tuple #[.agg #[.slice none 0 0,.slice none 0 0,.slice none 0 0],.int .i64 er]) ?_ rfl (by unfold Hid;rw[HF.out];exact iU (cu hSp.size (hS1.trans hSr)));simp[results,results40,go_sem,r0,r1,r2]
  | ok d' =>
   have HF:Hid (checked d (.ok d')=.ok d'):=by unfold Hid checked;rw[if_pos HE.out]
   have HRR:=(show Hid _ from hr);clear hr
   go_enter func40,ntmps40
   go_wp2_with (first
    | (go_at_call 64;refine(jO w1 _ ⟨ga,gl,gc,na,nl,nc,wa,wl,wc⟩ d hW1 (ak.refl _)).mono ?_;rintro e w2 ⟨rfl,hS2⟩;obtain⟨lt2,f0,f1,f2⟩:=PF.out _ hS2;dsimp only at f0 f1 f2)
    | (go_at_call 65;refine(uF ⟨ga,gl,gc,na,nl,nc,wa,wl,wc⟩ d n g nul body w2 (hW1.ay hS2) ((cZ d).1 HE.out)).mono ?_;rintro e w3 ⟨_,hR⟩;obtain⟨L,rfl,hO,hS3⟩:=hR d' HRR.out;simp only[bF];have hSr:=hS2.trans hS3;obtain⟨lt,r0,r1,r2,r3,r4,r5⟩:=hNB.ay hSr))
   obtain⟨hO2,hSf⟩:=hO.result (w0:=w) (p:=wp.heap.size) (zQ4 hNB.lt hS2.size) hSp.size (hS1.trans hSr) (zQ5 hS1.size hS2.size);refine bodyPost_ret (v:=.tuple #[bF L d',.int .i64 0]) ?_ rfl (by unfold Hid;rw[HF.out];exact mH hO2 hSf);simp[results,results40,go_sem,r0,r1,r2,bF]
 ·have HE:Hid (aZ d≠0):=by unfold Hid;simpa using hE
  have HF:Hid (checked d (dR d n g nul body)=.error (aZ d)):=by unfold Hid checked;rw[if_neg HE.out]
  go_enter func40,ntmps40
  go_wp2_with (go_at_call 64;refine(jO w1 _ ⟨ga,gl,gc,na,nl,nc,wa,wl,wc⟩ d hW1 (ak.refl _)).mono ?_;rintro e w2 ⟨rfl,hS2⟩;obtain⟨lt,r0,r1,r2,r3,r4,r5⟩:=hNB.ay hS2)
  refine bodyPost_ret (v:=.tuple #[.agg #[.slice none 0 0,.slice none 0 0,.slice none 0 0],.int .i64 (aZ d)]) ?_ rfl (by unfold Hid;rw[HF.out];exact iU (cu hSp.size (hS1.trans hS2)));simp[results,results40,go_sem,r0,r1,r2]
end Go.Proofs.YtediempflagfkaaGreatDoor
