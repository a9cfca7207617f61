/- Lemmas. -/
import Derived.Test.YtiiifecfdkjmbaaGreatRTellX
import Derived.Test.YtiiifecfdkjmbaaGreatROwn
set_option maxHeartbeats 4000000
namespace Go.Proofs.YtiiifecfdkjmbaaGreat
open _root_.Go.Proofs.Tryz hiding checked
set_option maxRecDepth 8000
open Go.RowKit Go.Shelf
open Pu
set_option linter.unusedVariables false
set_option linter.unusedSimpArgs false
def mh (x:Nd):Nd:={ x with clock:=x.clock+1 }
def yB (x:Nd) (n:Nat) (g:Int) (nul:Bool) (body:ByteArray):Mg:=⟨n,g,x.clock+1,nul,body⟩
theorem Nt {d:Wd} {n:Nat} {x:Nd} (hx:d.nodes[n]? = some x) {g:Int} {nul:Bool} {body:ByteArray} (h:bS d n g body.size=0) :
  fH d n g nul body=(fI (yB x n g nul body) n (setNode d n (mh x)) d.nodes.length).bind fun d2=>(dZ d2 n (yB x n g nul body)).bind fun d3=>(eX d3 n).bind fun p=>.ok p.1:=by
 have hc:aJ d n=x.clock:=(dL hx).1;unfold fH;rw [if_pos h,Int.toNat_natCast,hc];unfold mE;rw [hx];rfl
theorem xG {d:Wd} {n:Nat} {x:Nd} (hx:d.nodes[n]? = some x):eX d n=if iH d n x=0 then .ok (setNode d n (tu d n x),(bX d n x).length) else .error (iH d n x):=by
 unfold eX iH tu;rw [hx];dsimp only;split
 ·simp
 ·split <;> simp
structure Rn (w1 w3 w4 w5:World) (p:Nat) (d:Wd) (L:Lay) (n:Nat) (x:Nd) (m:Mg) (bn on cn:Nat):Prop where
 b1:w3.cell? ⟨p,1,none⟩=some (.slice (some ⟨bn,on,none⟩) d.nodes.length cn)
 k0:w3.cell? ⟨bn,on+n*4,none⟩=some (.int .i64 x.clock)
 z0:w3.frozen? ⟨bn,on+n*4,none⟩=false
 c1:w4.cell? ⟨p,1,none⟩=some (.slice (some ⟨bn,on,none⟩) d.nodes.length cn)
 c0:w4.cell? ⟨bn,on+n*4,none⟩=some (.int .i64 (x.clock+1))
 made:cu w1.heap.size w5 p (setNode d n (mh x)) L
 msg:bF w5 w4.heap.size 0 m
 lt:w4.heap.size < w5.heap.size
 off:¬ gF (setNode d n (mh x)) L w4.heap.size
 since:Since w1 w5
 ge:w1.heap.size<=p
theorem Li {w1 w2:World} {d:Wd} {L:Lay} {n:Nat} {x:Nd} {g:Int} {nul:Bool} {body:ByteArray} (hO:bE w1.heap.size w2 d L) (hS:Since w1 w2) (hx:d.nodes[n]? = some x) (T U:TypeId) :
  ∃ bn on cn,L (1,0,0)=⟨some ⟨bn,on,none⟩,cn⟩/\∀ w3 w4 w5,w2.alloc (.cells #[.slice (L (0,0,0)).a d.groups.length (L (0,0,0)).cap,.slice (some ⟨bn,on,none⟩) d.nodes.length cn,.slice (L (2,0,0)).a d.wires.length (L (2,0,0)).cap] T)=w3 ->
   w3.setCell ⟨bn,on+n*4,none⟩ (.int .i64 (x.clock+1))=w4->w4.alloc (.cells #[.int .i64 n,.int .i64 g,.int .i64 (x.clock+1),.bool nul,.string body] U)=w5->Rn w1 w3 w4 w5 w2.heap.size d L n x (yB x n g nul body) bn on cn:=by
 have hn:=dz hx;obtain ⟨bn,on,cn,hL1,hlo,hbn,hbk,hcn⟩:=hO.lies (ix:=(1,0,0)) ⟨rfl,rfl⟩ (by show 0 < d.nodes.length;omega);refine ⟨bn,on,cn,hL1,fun w3 w4 w5 h3 h4 h5=>?_⟩;have hS3:=ay h3;have hl3:w2.heap.size < w3.heap.size:=by rw [<-h3];simp
 have hM3:cu w1.heap.size w3 w2.heap.size d L:=by
  refine ⟨hO.since hS3, ?_,fun hb=>?_⟩
  ·rw [<-h3];constructor <;> simp [go_sem,hL1]
  ·have:=(hO.blk hb).2;omega
 obtain ⟨k0,_,_,_,kz⟩:=hM3.own.cells hx hL1;have hO4:=hM3.own.FT hx hL1 (x.clock+1);rw [h4] at hO4;have hb:gF d L bn:=⟨(1,0,0),⟨rfl,rfl⟩,hbk⟩
 have hst:jq w3 w4 d L (setNode d n (mh x)) L:=by
  have:=vF (d:=d) (L:=L) (d':=setNode d n (mh x)) (Since.refl w3) (fZ hx rfl) (off:=on+n*4) (.int .i64 (x.clock+1)) hb;rw [h4] at this;exact this
 have hM4:cu w1.heap.size w4 w2.heap.size (setNode d n (mh x)) L:=hM3.step hO4 hst rfl rfl rfl rfl (by simp [setNode]) rfl;have hx4:(setNode d n (mh x)).nodes[n]? = some (mh x):=by rw [cZ _ hx,if_pos rfl]
 obtain ⟨c0,_⟩:=hM4.own.cells hx4 hL1;have hS4:=ay h5;have b1:=hM3.box.c1;have c1:=hM4.box.c1;rw [hL1] at b1 c1;have xC:Since w1 w4:=hst.fr.aC (hS.trans hS3) (fun i hi hb=>by have:=(hO.blk hb).1;omega);refine ⟨b1,k0,by have:=kz 0 (by omega);simpa using this, ?_,c0,hM4.since hS4, ?_, ?_,fun hb=>?_,xC.trans hS4,hS.size⟩
 ·have:(setNode d n (mh x)).nodes.length=d.nodes.length:=by simp [setNode]
  rw [this] at c1;exact c1
 ·rw [<-h5];constructor <;> simp [go_sem,yB]
 ·rw [<-h5];simp
 ·have:=(hM4.own.blk hb).2;omega
theorem BQ (x:WV) (d:Wd) (n g:Int) (nul:Bool) (body:ByteArray) (w:World) (hW:WAt w x d) (hE:bS d n g body.size≠0) :
  Calls prog 82 #[.agg #[.slice x.ga x.gl x.gc,.slice x.na x.nl x.nc,.slice x.wa x.wl x.wc],.int .i64 n,.int .i64 g,.bool nul,.string body] w fun e w' =>
   e=.returned (.tuple #[.agg #[.slice none 0 0,.slice none 0 0,.slice none 0 0],.int .i64 (bS d n g body.size)])/\Since w w':=by
 obtain ⟨ga,gl,gc,na,nl,nc,wa,wl,wc⟩:=x;have hgl:=hW.g.hlen;have hnl:=hW.n.hlen;have hwl:=hW.r.hlen;have hnm:=hW.n.hmax;have hgm:=hW.g.hmax;dsimp only at hgl hnl hwl hnm hgm ⊢;subst hgl hnl hwl;obtain ⟨wp,hwp⟩:∃ wp,w.alloc (.cells #[.slice ga d.groups.length gc,.slice na d.nodes.length nc,.slice wa d.wires.length wc] 26)=wp:=⟨_,rfl⟩;have hPp:aO wp w.heap.size ⟨ga,d.groups.length,gc,na,d.nodes.length,nc,wa,d.wires.length,wc⟩:=by rw [<-hwp];exact aO.new w ⟨ga,d.groups.length,gc,na,d.nodes.length,nc,wa,d.wires.length,wc⟩ _
 have hSp:=ay hwp;obtain ⟨w1,hw1⟩:∃ w1,wp.alloc (.cells #[.slice none 0 0,.slice none 0 0,.slice none 0 0] 26)=w1:=⟨_,rfl⟩;have hNB:aD w1 wp.heap.size:=by rw [<-hw1];exact aD.new wp _
 have cO:=ay hw1;have hP1:=hPp.since cO;have hS1:=hSp.trans cO;have hG1:=hW.g.since hS1;have hN1:=hW.n.since hS1;dsimp only at hG1 hN1;obtain ⟨lt,r0,r1,r2,r3,r4,r5⟩:=hNB;have p0:=hP1.c0;have p1:=hP1.c1;dsimp only at p0 p1
 have Tv:Since w (((w1.setCell ⟨wp.heap.size,0,none⟩ (.slice none 0 0)).setCell ⟨wp.heap.size,1,none⟩ (.slice none 0 0)).setCell ⟨wp.heap.size,2,none⟩ (.slice none 0 0)):=by
  have hF:Fr (fun i=>i=wp.heap.size) w1 w1:=Fr.refl _ _;have:=hSp.size;exact (((hF.setCell ⟨wp.heap.size,0,none⟩ _ (fun _=>rfl)).setCell ⟨wp.heap.size,1,none⟩ _ (fun _=>rfl)).setCell ⟨wp.heap.size,2,none⟩ _ (fun _=>rfl)).aC hS1 (fun i hi e=>by omega)
 have HFin:=(show Hid _ from Tv);have HE:Hid (bS d n g body.size≠0):=hE;clear Tv hE;have hwk:IntKind.i64.wrap ((d.nodes.length:Int) - 1)=(d.nodes.length:Int) - 1:=IntWalk.i64_in _ (by omega);have hwg:IntKind.i64.wrap ((d.groups.length:Int) - 1)=(d.groups.length:Int) - 1:=IntWalk.i64_in _ (by omega);cases h1:inB n 0 ((d.nodes.length:Int) - 1)
 ·have HG:Hid (bS d n g body.size=4):=by unfold Hid bS;rw [if_pos (.inl h1)]
  have H1:=(show Hid _ from h1);clear h1
  go_enter func82,ntmps82
  go_wp2_with (go_at_call 126;refine (bD _ _ _ _).mono ?_;rw [H1.out];rintro e w' ⟨rfl,hw⟩;obtain rfl:=hw.symm)
  refine bodyPost_ret (v:=.tuple #[.agg #[.slice none 0 0,.slice none 0 0,.slice none 0 0],.int .i64 4]) ?_ rfl ⟨by rw [HG.out],HFin.out⟩;simp [results,results82,go_sem,r0,r1,r2]
 cases h2:inB g 0 ((d.groups.length:Int) - 1)
 ·have HG:Hid (bS d n g body.size=4):=by unfold Hid bS;rw [if_pos (.inr h2)]
  have H1:=(show Hid _ from h1);have H2:=(show Hid _ from h2);clear h1 h2
  go_enter func82,ntmps82
  go_wp2_with (go_at_call 126;refine (bD _ _ _ _).mono ?_;(first | rw [H1.out] | rw [H2.out]);rintro e w' ⟨rfl,hw⟩;obtain rfl:=hw.symm)
  refine bodyPost_ret (v:=.tuple #[.agg #[.slice none 0 0,.slice none 0 0,.slice none 0 0],.int .i64 4]) ?_ rfl ⟨by rw [HG.out],HFin.out⟩;simp [results,results82,go_sem,r0,r1,r2]
 have h12:¬ (inB n 0 ((d.nodes.length:Int) - 1)=false\/inB g 0 ((d.groups.length:Int) - 1)=false):=by rw [h1,h2];simp
 have hn:0<=n/\n<=(d.nodes.length:Int) - 1:=by unfold inB at h1;simpa using h1
 obtain ⟨k,rfl⟩:=Int.eq_ofNat_of_zero_le hn.1;have hk:k < d.nodes.length:=by omega
 have H1:=(show Hid _ from h1);have H2:=(show Hid _ from h2);clear h1 h2 hn;cases h3:hasB d.groups g k
 ·have HG:Hid (bS d k g body.size=5):=by unfold Hid bS;rw [if_neg h12,if_pos h3]
  have H3:=(show Hid _ from h3);clear h3
  go_enter func82,ntmps82
  go_wp2_with (first
   | (go_at_call 126;refine (bD _ _ _ _).mono ?_;(first | rw [H1.out] | rw [H2.out]);rintro e w' ⟨rfl,hw⟩;obtain rfl:=hw.symm)
   | (go_at_call 145;refine (dO ga d.groups.length gc d.groups g k w1 hG1).mono ?_;rw [H3.out];rintro e w' ⟨rfl,hw⟩;obtain rfl:=hw.symm))
  refine bodyPost_ret (v:=.tuple #[.agg #[.slice none 0 0,.slice none 0 0,.slice none 0 0],.int .i64 5]) ?_ rfl ⟨by rw [HG.out],HFin.out⟩;simp [results,results82,go_sem,r0,r1,r2]
 have H3:=(show Hid _ from h3);by_cases h4:8 < body.size
 ·have HG:Hid (bS d k g body.size=1):=by unfold Hid bS;rw [if_neg h12,if_neg (by rw [h3];simp),if_pos h4]
  have h4':(8:Int) < (body.size:Int):=by omega
  clear h3
  go_enter func82,ntmps82
  go_wp2_with (first
   | (go_at_call 126;refine (bD _ _ _ _).mono ?_;(first | rw [H1.out] | rw [H2.out]);rintro e w' ⟨rfl,hw⟩;obtain rfl:=hw.symm)
   | (go_at_call 145;refine (dO ga d.groups.length gc d.groups g k w1 hG1).mono ?_;rw [H3.out];rintro e w' ⟨rfl,hw⟩;obtain rfl:=hw.symm))
  refine bodyPost_ret (v:=.tuple #[.agg #[.slice none 0 0,.slice none 0 0,.slice none 0 0],.int .i64 1]) ?_ rfl ⟨by rw [HG.out],HFin.out⟩;simp [results,results82,go_sem,r0,r1,r2]
 obtain ⟨nd,hnd⟩:∃ nd,d.nodes[k]? = some nd:=⟨_,zQ1 hk⟩
 have h5:nd.clock=1048576:=by
  have:=HE.out;unfold bS at this;rw [if_neg h12,if_neg (by rw [h3];simp),if_neg h4,Int.toNat_natCast,(dL hnd).1] at this;by_cases h:nd.clock=1048576
  ·exact h
  ·rw [if_neg h] at this;exact absurd rfl this
 have HG:Hid (bS d k g body.size=3):=by unfold Hid bS;rw [if_neg h12,if_neg (by rw [h3];simp),if_neg h4,Int.toNat_natCast,(dL hnd).1,if_pos h5]
 have h4':¬ (8:Int) < (body.size:Int):=by omega
 obtain ⟨bn,on,rfl,hbn,hcn⟩:=hN1.cells (by omega);have k0:=(hcn k nd hnd).clk;rw [h5] at k0;have n1:(k:Int) < (d.nodes.length:Int):=by omega
 clear h3 h5
 go_enter func82,ntmps82
 go_wp2_with (first
  | (go_at_call 126;refine (bD _ _ _ _).mono ?_;(first | rw [H1.out] | rw [H2.out]);rintro e w' ⟨rfl,hw⟩;obtain rfl:=hw.symm)
  | (go_at_call 145;refine (dO ga d.groups.length gc d.groups g k w1 hG1).mono ?_;rw [H3.out];rintro e w' ⟨rfl,hw⟩;obtain rfl:=hw.symm))
 refine bodyPost_ret (v:=.tuple #[.agg #[.slice none 0 0,.slice none 0 0,.slice none 0 0],.int .i64 3]) ?_ rfl ⟨by rw [HG.out],HFin.out⟩;simp [results,results82,go_sem,r0,r1,r2]
theorem aZ {w w':World} {q o:Nat} {m:Mg} (h:bF w q o m) (e:w'.heap[q]? = w.heap[q]?):bF w' q o m:=by
 have hc:∀ j,w'.cell? ⟨q,j,none⟩=w.cell? ⟨q,j,none⟩:=fun j=>by unfold World.cell?;rw [e]
 exact ⟨(hc _).trans h.c0,(hc _).trans h.c1,(hc _).trans h.c2,(hc _).trans h.c3,(hc _).trans h.c4⟩
theorem aB {w w':World} {q o:Nat} {m:Mg} (h:bF w q o m) (hq:q < w.heap.size) (k:Since w w'):bF w' q o m :=
 ⟨(k.cellAt hq _).trans h.c0,(k.cellAt hq _).trans h.c1,(k.cellAt hq _).trans h.c2,(k.cellAt hq _).trans h.c3,(k.cellAt hq _).trans h.c4⟩
theorem aM {w wr:World} {p:Nat} (h0:w.heap.size<=p) (hS:Since w wr):Since w (((wr.setCell ⟨p,0,none⟩ (.slice none 0 0)).setCell ⟨p,1,none⟩ (.slice none 0 0)).setCell ⟨p,2,none⟩ (.slice none 0 0)):=by
 have hF:Fr (fun i=>i=p) wr wr:=Fr.refl _ _;exact (((hF.setCell ⟨p,0,none⟩ _ (fun _=>rfl)).setCell ⟨p,1,none⟩ _ (fun _=>rfl)).setCell ⟨p,2,none⟩ _ (fun _=>rfl)).aC hS (fun i hi e=>by omega)
theorem Gr (x:WV) (d:Wd) (n:Nat) (g:Int) (nul:Bool) (body:ByteArray) (w:World) (hW:WAt w x d) (R:Right d) (nd:Nd) (hnd:d.nodes[n]? = some nd) (hE:bS d n g body.size=0) (Post:Ending->World->Prop)
  (jl:∀ er,fH d n g nul body=.error er->∀ w',Since w w'->Post (.returned (.tuple #[.agg #[.slice none 0 0,.slice none 0 0,.slice none 0 0],.int .i64 er])) w')
  (hOk:∀ d',fH d n g nul body=.ok d'->∀ w' L,bE w.heap.size w' d' L->Since w w'->Post (.returned (.tuple #[aS L d',.int .i64 0])) w') :
  Calls prog 82 #[.agg #[.slice x.ga x.gl x.gc,.slice x.na x.nl x.nc,.slice x.wa x.wl x.wc],.int .i64 n,.int .i64 g,.bool nul,.string body] w fun e w'=>Hid (Post e w'):=by
 have hcast:=Nt (nul:=nul) hnd hE;obtain ⟨q1,q2,q3,q4,q5⟩:=vL hE;have hm0:yB nd n g nul body=⟨n,g,nd.clock+1,nul,body⟩:=rfl;obtain ⟨ga,gl,gc,na,nl,nc,wa,wl,wc⟩:=x;have hgl:=hW.g.hlen;have hnl:=hW.n.hlen;have hwl:=hW.r.hlen;dsimp only at hgl hnl hwl ⊢;subst hgl hnl hwl;have hn:=dz hnd;obtain ⟨sn1,sn4,sg1,sg3⟩:=qU R.chk;have DX:=R.clk n;rw [(dL hnd).1] at DX;rw [Int.toNat_natCast,(dL hnd).1] at q5;have hsm:=jP R;obtain ⟨wp,hwp⟩:∃ wp,w.alloc (.cells #[.slice ga d.groups.length gc,.slice na d.nodes.length nc,.slice wa d.wires.length wc] 26)=wp:=⟨_,rfl⟩;have hPp:aO wp w.heap.size ⟨ga,d.groups.length,gc,na,d.nodes.length,nc,wa,d.wires.length,wc⟩:=by rw [<-hwp];exact aO.new w ⟨ga,d.groups.length,gc,na,d.nodes.length,nc,wa,d.wires.length,wc⟩ _
 have hSp:=ay hwp;obtain ⟨w1,hw1⟩:∃ w1,wp.alloc (.cells #[.slice none 0 0,.slice none 0 0,.slice none 0 0] 26)=w1:=⟨_,rfl⟩;have hNB:aD w1 wp.heap.size:=by rw [<-hw1];exact aD.new wp _
 have cO:=ay hw1;have hP1:=hPp.since cO;have hS1:=hSp.trans cO;have hW1:=hW.since hS1;have hG1:=hW1.g;have hN1:=hW1.n;dsimp only at hG1 hN1;have p0:=hP1.c0;have p1:=hP1.c1;have p2:=hP1.c2;dsimp only at p0 p1 p2;have hwk:IntKind.i64.wrap ((d.nodes.length:Int) - 1)=(d.nodes.length:Int) - 1:=IntWalk.i64_in _ (by omega);have hwg:IntKind.i64.wrap ((d.groups.length:Int) - 1)=(d.groups.length:Int) - 1:=IntWalk.i64_in _ (by omega);have hwc:IntKind.i64.wrap (nd.clock+1)=nd.clock+1:=IntWalk.i64_in _ (by omega);have H1:Hid (inB n 0 ((d.nodes.length:Int) - 1)=true):=by unfold Hid inB;simp;omega
 have H2:Hid (inB g 0 ((d.groups.length:Int) - 1)=true):=by unfold Hid inB;simp;omega
 have H3:Hid (hasB d.groups g n=true):=q3;have h4':decide ((8:Int) < (body.size:Int))=false:=by simp;omega
 have h5':(nd.clock == 1048576)=false:=by simpa using q5
 obtain ⟨bn,on,rfl,hbn,hcn⟩:=hN1.cells (by omega);have k0:=(hcn n nd hnd).clk;have n1:(n:Int) < (d.nodes.length:Int):=by omega
 obtain ⟨M,hM0⟩:∃ y,yB nd n g nul body=y:=⟨_,rfl⟩;obtain ⟨X1,hX1⟩:∃ y,mh nd=y:=⟨_,rfl⟩;have HMg:Hid (M.gr=g/\M.nul=nul):=by rw [<-hM0];exact ⟨rfl,rfl⟩
 rw [hM0,hX1] at hcast;have hrows:dU (setNode d n X1):=(kC X1 hnd (by rw [<-hX1];rfl) (fun _ r h=>⟨r,by rw [<-hX1] at *;exact h,rfl⟩)).rows R.rows;have hx1:(setNode d n X1).nodes[n]? = some X1:=by rw [cZ _ hnd,if_pos rfl]
 have hl1:(setNode d n X1).nodes.length=d.nodes.length:=by simp [setNode]
 have HRW:Hid (dU (setNode d n X1)/\(setNode d n X1).nodes[n]? = some X1/\(setNode d n X1).nodes.length=d.nodes.length):=⟨hrows,hx1,hl1⟩;have HX1:Hid (X1.held=nd.held/\X1.last=nd.last):=by rw [<-hX1];exact ⟨rfl,rfl⟩
 have HER:Hid (nd.held.length<=40/\kJ d nd):=⟨by have:=R.rH n;rw [(dL hnd).2.1] at this;exact this,xH R hnd⟩;clear hrows hx1 hl1;have jo:=(show Hid _ from jl);have HOK:=(show Hid _ from hOk);have HR:Hid (Right d):=R;have HC:=(show Hid _ from hcast);clear jl hOk q1 q2 q3 q4 q5 hcast hcn hm0
 go_enter func82,ntmps82
 go_wp2_with (first
  | (go_at_call 126;refine (bD _ _ _ _).mono ?_;(first | rw [H1.out] | rw [H2.out]);rintro e w' ⟨rfl,hw⟩;obtain rfl:=hw.symm)
  | (go_at_call 145;refine (dO ga d.groups.length gc d.groups g n w1 hG1).mono ?_;rw [H3.out];rintro e w' ⟨rfl,hw⟩;obtain rfl:=hw.symm)
  | (go_at_call 80;refine (nA ⟨ga,d.groups.length,gc,some ⟨bn,on,none⟩,d.nodes.length,nc,wa,d.wires.length,wc⟩ d w1 hW1 hsm).mono ?_;rintro e w2 ⟨L,rfl,hO2,dn⟩;simp only [aS];obtain ⟨bm,om,cm,hL1,Gs⟩:=Li (g:=g) (nul:=nul) (body:=body) hO2 dn hnd 26 42;rw [hL1];dsimp only;obtain ⟨w3,hw3⟩:∃ y,w2.alloc (.cells #[.slice (L (0,0,0)).a d.groups.length (L (0,0,0)).cap,.slice (some ⟨bm,om,none⟩) d.nodes.length cm,.slice (L (2,0,0)).a d.wires.length (L (2,0,0)).cap] 26)=y:=⟨_,rfl⟩;obtain ⟨w4,hw4⟩:∃ y,w3.setCell ⟨bm,om+n*4,none⟩ (.int .i64 (nd.clock+1))=y:=⟨_,rfl⟩;obtain ⟨w5,hw5⟩:∃ y,w4.alloc (.cells #[.int .i64 n,.int .i64 g,.int .i64 (nd.clock+1),.bool nul,.string body] 42)=y:=⟨_,rfl⟩;obtain ⟨t1,t2,t3,t4,t5,P7,Tw,AJ,P8,wR,Xb⟩:=Gs w3 w4 w5 hw3 hw4 hw5;rw [hX1] at P7 P8;rw [hM0] at Tw))
 clear hwp hw1 hw3 hw4 hw5 t1 t2 t3 t4 t5 Gs k0 p0 p1 p2 hO2 hwk hwg hwc h4' h5' H1 H2 H3 hPp hnd hX1 hM0
 go_loopw [14] (fun i wr=>∃ (k:Nat) (dk:Wd) (Lk:Lay),k<=d.nodes.length/\i=.int .i64 k/\fI M n (setNode d n X1) k=.ok dk/\cu w1.heap.size wr w2.heap.size dk Lk/\bF wr w4.heap.size 0 M/\¬ gF dk Lk w4.heap.size/\w4.heap.size < wr.heap.size/\Since w1 wr) (fun i _=>d.nodes.length - (intOf i).toNat)
 case atStart=>exact ⟨0,_,_,Nat.zero_le _,rfl,rfl,P7,Tw,P8,AJ,wR⟩
 case round =>
  obtain ⟨wo,rfl⟩:∃ wo,wo=wr:=⟨_,rfl⟩;obtain ⟨k,dk,Lk,hk,rfl,jF,hM,hMk,yC,hltk,hSr⟩:=hrel;have hPr:=hP1.since hSr;have p0:=hPr.c0;dsimp only at p0;have hGr:=hG1.since hSr;obtain ⟨hrows,hx1,hl1⟩:=HRW.out;have hLS:=qB hrows (by omega) k dk (by omega) jF;have hrk:dU dk:=hLS.alike.rows hrows;have hNk:dk.nodes.length=d.nodes.length:=by rw [hLS.nodes];exact hl1
  have hGk:dk.groups=d.groups:=hLS.groups;have hxk:dk.nodes[n]? = some X1:=by rw [hLS.nodes];exact hx1
  have b1:=hM.box.c1;rw [hNk] at b1;have hwn:(n:Int) < (dk.wires.length:Int):=by have:=hrk.1;omega
  have HK:Hid (dU dk/\dk.nodes.length=d.nodes.length/\dk.groups=d.groups/\dk.nodes[n]? = some X1):=⟨hrk,hNk,hGk,hxk⟩;have HL:Hid (fI M n (setNode d n X1) k=.ok dk):=jF;obtain ⟨lt,r0,r1,r2,r3,r4,r5⟩:=hNB.since hSr;clear hrows hx1 hl1 hLS hGk hxk jF;by_cases hlt:k < d.nodes.length
  ·have n2:(k:Int) < (d.nodes.length:Int):=by omega
   by_cases hkn:k=n
   ·have HL2:Hid (fI M n (setNode d n X1) (k+1)=.ok dk):=by
     unfold Hid;rw [jc,HL.out];show gX M n dk k=_;unfold gX;rw [if_pos (.inl hkn)]
    subst hkn;clear hNk hrk
    go_wp2_with fail
    go_roundw
    case rel=>exact ⟨k+1,dk,Lk,by omega,by go_num,HL2.out,hM,hMk,yC,hltk,hSr⟩
    case measure=>simp [intOf];omega
   have hkn':((k:Int) == (n:Int))=false:=by simp;omega
   cases h3:hasB d.groups g k
   ·have HL2:Hid (fI M n (setNode d n X1) (k+1)=.ok dk):=by
     unfold Hid;rw [jc,HL.out];show gX M n dk k=_;unfold gX;rw [if_pos (.inr (by rw [HK.out.2.2.1,HMg.out.1];exact h3))]
    have H3:=(show Hid _ from h3);clear hNk hrk h3
    go_wp2_with (go_at_call 145;refine (dO ga d.groups.length gc d.groups g k wo hGr).mono ?_;rw [H3.out];rintro e w' ⟨rfl,hw⟩;obtain rfl:=hw.symm)
    go_roundw
    case rel=>exact ⟨k+1,dk,Lk,by omega,by go_num,HL2.out,hM,hMk,yC,hltk,hSr⟩
    case measure=>simp [intOf];omega
   have H3:=(show Hid _ from h3);obtain ⟨bw,ow,cw,br,oR,cr,hH⟩:=hM.pW hrk (f:=n) (t:=k) (by omega) (by omega);obtain ⟨la,lc,hL8⟩:∃ a c,Lk (8,n,k)=⟨a,c⟩:=⟨_,_,rfl⟩;obtain ⟨l,hl⟩:∃ y,aA dk n k=y:=⟨_,rfl⟩;rw [hl] at hH;have HW:Hid (aA dk n k=l):=hl
   have HLO:Hid (gX M n dk k=if l.length=40 then .error 2 else if rG M l then .error 1 else .ok (aX dk n k (l++[M]))):=by
    unfold Hid gX;rw [if_neg (by rw [HK.out.2.2.1,HMg.out.1,h3];simp;omega),hl]
   have HLY:Hid (∀ er,gX M n dk k=.error er->fH d n g nul body=.error er):=by
    intro er h;have h1:fI M n (setNode d n X1) (k+1)=.error er:=by rw [jc,HL.out];exact h
    rw [HC.out,qV d.nodes.length (k+1) (by omega) h1];rfl
   have s2:=hH.top;have s3:=hH.row;have s4:=hH.cell;rw [hNk] at s3;rw [hL8] at s4;dsimp only [Sl.v] at s4
   have mO:Row wo w1.heap.size 5 ⟨la,lc⟩ l.length (flat l):=by
    have h8:Row wo w1.heap.size 5 (Lk (8,n,k)) (aA dk n k).length (flat (aA dk n k)):=hM.own.row (8,n,k) (by
     obtain ⟨row,hr,hrl⟩:=row_of hrk (f:=n) (by omega);exact ⟨by rw [hrk.1];omega,by rw [dI hr];omega⟩)
    rw [hl,hL8] at h8;exact h8
   have hm0:=hMk.c2;clear h3 hl hNk hrk;by_cases h40:l.length=40
   ·rw [h40] at s4;have HE2:Hid (gX M n dk k=.error 2):=by unfold Hid;rw [HLO.out,if_pos h40]
    clear h40
    go_wp2_with (go_at_call 145;refine (dO ga d.groups.length gc d.groups g k wo hGr).mono ?_;rw [H3.out];rintro e w' ⟨rfl,hw⟩;obtain rfl:=hw.symm)
    refine bodyPost_ret (v:=.tuple #[.agg #[.slice none 0 0,.slice none 0 0,.slice none 0 0],.int .i64 2]) ?_ rfl (jo.out 2 (HLY.out 2 HE2.out) _ (aM hSp.size (hS1.trans hSr)));simp [results,results82,go_sem,r0,r1,r2]
   have HS:Hid (l.length < 40):=by
    obtain ⟨hrows,hx1,hl1⟩:=HRW.out;have hLS:=qB hrows (by omega) k dk (by omega) HL.out;have e:aA dk n k=aA d n k:=by rw [hLS.wire,if_neg (by unfold nR;omega)];rfl
    have h1:=HR.out.oM n k;rw [<-e,HW.out] at h1;unfold Hid;omega
   have Tx:((l.length:Int) == 40)=false:=by simp;omega
   have hcap:=mO.cap;dsimp only at hcap;rcases hz:l.length with _ | j
   ·have HZ:Hid (l.length=0):=hz
    have HLT:Hid (rG M l=false):=by
     have:l=[]:=zQ6 hz;subst this;rfl
    rw [hz] at s4 mO;clear hz h40 Tx hcap;have hne:Nonempty (Later wo):=⟨⟨wo,Since.refl wo⟩⟩
    go_wp2_with (go_at_call 145;refine (dO ga d.groups.length gc d.groups g k wo hGr).mono ?_;rw [H3.out];rintro e w' ⟨rfl,hw⟩;obtain rfl:=hw.symm)
    refine av (by kernel_rfl) (by kernel_rfl) (Since.refl wo) ?_
    repeat (go_big_quiet_step (fail))
    refine wpQuiet_nil ?_;intro wz hS9
    go_wp2_with fail
    obtain ⟨hrk,hNk,hGk,hxk⟩:=HK.out;have hMz:=hM.since hS9;have hHz:=hH.since hS9;obtain ⟨S0,hS0⟩:∃ S0:World->Prop,∀ w',S0 w'↔(lH w' w2.heap.size dk Lk n k l bw ow cw br oR cr/\bF w' w4.heap.size 0 M):=⟨_,fun _=>Iff.rfl⟩;have c1:∀ y:ak S0,y.w.cell? ⟨w2.heap.size,2,none⟩=some (.slice (some ⟨bw,ow,none⟩) dk.wires.length cw):=fun y=>((hS0 _).1 y.h).1.top;have c2:∀ y:ak S0,y.w.cell? ⟨bw,ow+n,none⟩=some (.slice (some ⟨br,oR,none⟩) d.nodes.length cr):=fun y=>by have:=((hS0 _).1 y.h).1.row;rw [hNk] at this;exact this
    have c3:∀ y:ak S0,y.w.cell? ⟨br,oR+k,none⟩=some (.slice la 0 lc):=fun y=>by have:=((hS0 _).1 y.h).1.cell;rw [hL8,HZ.out] at this;exact this
    have m0:∀ y:ak S0,y.w.cell? ⟨w4.heap.size,0,none⟩=some (.int .i64 M.fr):=fun y=>((hS0 _).1 y.h).2.c0;have m1:∀ y:ak S0,y.w.cell? ⟨w4.heap.size,1,none⟩=some (.int .i64 M.gr):=fun y=>((hS0 _).1 y.h).2.c1;have m2:∀ y:ak S0,y.w.cell? ⟨w4.heap.size,2,none⟩=some (.int .i64 M.st):=fun y=>((hS0 _).1 y.h).2.c2;have m3:∀ y:ak S0,y.w.cell? ⟨w4.heap.size,3,none⟩=some (.bool M.nul):=fun y=>((hS0 _).1 y.h).2.c3;have m4:∀ y:ak S0,y.w.cell? ⟨w4.heap.size,4,none⟩=some (.string M.body):=fun y=>((hS0 _).1 y.h).2.c4;obtain ⟨W0,hW0⟩:∃ y,wz.drew=y:=⟨_,rfl⟩;have hs0:=aQ hW0;have hMW:=aB hMk hltk (hS9.trans hs0);have hqW:w4.heap.size < W0.heap.size:=zQ4 hltk (hS9.trans hs0).size;have au:=(hS0 W0).2 ⟨hHz.since hs0,hMW⟩;have hne2:Nonempty (ak S0):=⟨⟨_,au⟩⟩;obtain ⟨WA,hWA⟩:∃ y,W0.alloc (.cells #[.int .i64 M.fr,.int .i64 M.gr,.int .i64 M.st,.bool M.nul,.string M.body] 42)=y:=⟨_,rfl⟩;have hsA:=ay hWA;have D7:=(hS0 WA).2 ⟨(hHz.since hs0).since hsA,aB hMW hqW hsA⟩;have hsrc:=fM (size:=5) (T:=42) (w:=W0) iE.und (flat [M]) (by simp [bU]) (fun u hu=>dG u _ hu) 1;rw [show (W0.alloc (.cells (flat [M]).toArray 42))=WA from hWA] at hsrc;have hRA:=(mO.since hS9).since (hs0.trans hsA);have IV:w1.heap.size<=WA.heap.size:=zQ5 hSr.size (zQ5 hS9.size (hs0.trans hsA).size);have Tz:0 < 1000:=by have:=HS.out;have:=HZ.out;omega
    have HNK:Hid (dU dk/\dk.nodes.length=d.nodes.length):=⟨hrk,hNk⟩;have HH0:=(show Hid _ from hHz.since (hs0.trans hsA));have HMZ:=(show Hid _ from hMz);have HM8:=(show Hid _ from hL8);clear hNk hrk hGk hxk hHz hMz s2 s3 s4 hL8;refine sU (fun w'=>∃ x:ak S0,w'=x.w) (by kernel_rfl) ?_;rw [hW0];clear hW0;refine tL 0 rfl (aj au) ?_;go_big_quiet_op;refine tL 1 rfl (aj au) ?_;go_big_quiet_op;refine tL 2 rfl (aj au) ?_;go_big_quiet_op;refine tL 3 rfl (aj au) ?_;go_big_quiet_op;refine tL 4 rfl (aj au) ?_;go_big_quiet_op;refine tL 5 rfl (aj au) ?_;go_big_quiet_op;refine tL 6 rfl (aj au) ?_;go_big_quiet_op;refine tL 7 rfl (aj au) ?_;go_big_quiet_op;refine tL 8 rfl (aj au) ?_;go_big_quiet_op;refine tL 9 rfl (aj au) ?_;go_big_quiet_op;refine tL 10 rfl (aj au) ?_;go_big_quiet_op;refine tL 11 rfl (aj au) ?_;go_big_quiet_op;refine tL 12 rfl (aj au) ?_;go_big_quiet_op;refine tL 13 rfl (aj au) ?_;go_big_quiet_op;refine tL 14 rfl (aj au) ?_;go_big_quiet_op;refine kT 15 rfl (by kernel_rfl) ?_;intro K hK;go_simp;refine hK _ _ (fun _ _=>aj D7) ?_;clear hK K;refine kT 16 rfl (by kernel_rfl) ?_;intro K hK;refine fF iE (by rfl) _ _ 39 (by rfl) (by rfl) hRA (by rfl) hsrc (by omega) IV ?_;intro a' c' wB hRB hFB hBB;obtain ⟨hrk,hNk⟩:=HNK.out;have hHB:=HH0.out.fr (HMZ.out.since (hs0.trans hsA)) hrk (by omega) (by omega) (by rw [HM8.out];exact hFB)
    have hnq:¬ (Lk (8,n,k)).blk=some w4.heap.size:=fun e=>yC ⟨(8,n,k),by
     obtain ⟨row,hr,hrl⟩:=row_of hrk (f:=n) (by omega);exact ⟨by rw [hrk.1];omega,by rw [dI hr];omega⟩,e⟩
    have hMB:bF wB w4.heap.size 0 M:=aZ (aB hMW hqW hsA) (hFB.block _ (by have:=hS9.size;have:=hs0.size;have:=hsA.size;omega) (by rw [HM8.out] at hnq;exact hnq));have D8:=(hS0 wB).2 ⟨hHB,hMB⟩;have fB:=hHB.free;have gB:=hHB.cell;have lB:=hHB.ltr;rw [HM8.out,HZ.out] at gB;dsimp only [Sl.v] at gB;refine hK _ _ (fun _ _=>aj D8) ?_;clear hK K;simp only [Act.put,zQ7,zQ8,zQ9];refine tL 17 rfl (aj D8) ?_;go_big_quiet_op;refine kT 18 rfl (by kernel_rfl) ?_;intro K hK;go_simp;refine hK _ _ (fun h=>absurd h (by decide +kernel)) ?_;clear hK K;have hgw:=HMZ.out.xI (m:=M) (a':=a') (c':=c') (w1:=WA) (w2:=wB) hrk (f:=n) (t:=k) (by omega) (by omega) hH.lay (zQ5 hSr.size hS9.size) (hs0.trans hsA) (by rw [HW.out];have:=HZ.out;omega) (by rw [HW.out,HZ.out];exact hRB) (by rw [HM8.out];exact hFB) (by rw [HM8.out];exact hBB);rw [HW.out,HZ.out] at hgw;obtain ⟨hMf,tF⟩:=hgw;obtain ⟨IW,IX⟩:=tF.beside (q:=w4.heap.size) (by have:=hS9.size;omega) yC;have IY:=zQ4 hltk (zQ5 hS9.size tF.fr.size);have hSf:=tF.fr.aC (hSr.trans hS9) (fun i hi hb=>by have:=(hM.own.blk hb).1;omega)
    have HL2:Hid (fI M n (setNode d n X1) (k+1)=.ok (aX dk n k (l++[M]))):=by
     unfold Hid;rw [jc,HL.out];show gX M n dk k=_;rw [HLO.out,if_neg (by have:=HS.out;omega),HLT.out];rfl
    have IZ:=aZ (aB hMk hltk hS9) IW;clear c1 c2 c3 m0 m1 m2 m3 m4 hNk hrk gB;refine uW (by kernel_rfl) ?_
    go_wp2
    exact ⟨⟨k+1,_,_,by omega,by go_num,HL2.out,hMf,IZ,IX,IY,hSf⟩,by simp [intOf];omega⟩
   ·have HZ:Hid (l.length=j+1):=hz;obtain ⟨ml,hml⟩:∃ ml,l[j]? = some ml:=⟨_,zQ1 (by omega)⟩;have hgl:l.getLast? = some ml:=by rw [List.getLast?_eq_getElem?,hz];exact hml
    rw [hz] at s4 mO Tx;obtain ⟨bl,ol,e8,hll,hbl,hcl,hxl⟩:=mO.body (by show 0 < lc;omega);dsimp only at e8;subst e8;have z2:=(bP hxl j ml hml).c2;have hne:Nonempty (Later wo):=⟨⟨wo,Since.refl wo⟩⟩;have z2L:∀ y:Later wo,y.w.cell? ⟨bl,ol+j*5+2,none⟩=some (.int .i64 ml.st):=fun y=>(y.h.cellAt hbl _).trans z2;have m2L:∀ y:Later wo,y.w.cell? ⟨w4.heap.size,2,none⟩=some (.int .i64 M.st):=fun y=>(y.h.cellAt hltk _).trans hm0;have Xc:(j:Int)<=39:=by have:=HS.out;omega
    have hwj:IntKind.i64.wrap ((j:Int)+1 - 1)=j:=by rw [IntWalk.i64_in _ (by omega)];omega
    have TA:Hid (rG M l=decide (M.st<=ml.st)):=by unfold Hid rG;rw [hgl]
    clear hz h40 hcap z2 hml hgl;cases P9:decide (M.st<=ml.st)
    ·have HLT:Hid (rG M l=false):=by unfold Hid;rw [TA.out];exact P9
     go_wp2_with (go_at_call 145;refine (dO ga d.groups.length gc d.groups g k wo hGr).mono ?_;rw [H3.out];rintro e w' ⟨rfl,hw⟩;obtain rfl:=hw.symm)
     refine av (by kernel_rfl) (by kernel_rfl) (Since.refl wo) ?_
     repeat (go_big_quiet_step (fail))
     refine wpQuiet_nil ?_;intro wz hS9
     go_wp2_with fail
     clear z2L m2L;obtain ⟨hrk,hNk,hGk,hxk⟩:=HK.out;have hMz:=hM.since hS9;have hHz:=hH.since hS9;obtain ⟨S0,hS0⟩:∃ S0:World->Prop,∀ w',S0 w'↔(lH w' w2.heap.size dk Lk n k l bw ow cw br oR cr/\bF w' w4.heap.size 0 M):=⟨_,fun _=>Iff.rfl⟩;have c1:∀ y:ak S0,y.w.cell? ⟨w2.heap.size,2,none⟩=some (.slice (some ⟨bw,ow,none⟩) dk.wires.length cw):=fun y=>((hS0 _).1 y.h).1.top;have c2:∀ y:ak S0,y.w.cell? ⟨bw,ow+n,none⟩=some (.slice (some ⟨br,oR,none⟩) d.nodes.length cr):=fun y=>by have:=((hS0 _).1 y.h).1.row;rw [hNk] at this;exact this
     have c3:∀ y:ak S0,y.w.cell? ⟨br,oR+k,none⟩=some (.slice (some ⟨bl,ol,none⟩) (j+1) lc):=fun y=>by have:=((hS0 _).1 y.h).1.cell;rw [hL8,HZ.out] at this;exact this
     have m0:∀ y:ak S0,y.w.cell? ⟨w4.heap.size,0,none⟩=some (.int .i64 M.fr):=fun y=>((hS0 _).1 y.h).2.c0;have m1:∀ y:ak S0,y.w.cell? ⟨w4.heap.size,1,none⟩=some (.int .i64 M.gr):=fun y=>((hS0 _).1 y.h).2.c1;have m2:∀ y:ak S0,y.w.cell? ⟨w4.heap.size,2,none⟩=some (.int .i64 M.st):=fun y=>((hS0 _).1 y.h).2.c2;have m3:∀ y:ak S0,y.w.cell? ⟨w4.heap.size,3,none⟩=some (.bool M.nul):=fun y=>((hS0 _).1 y.h).2.c3;have m4:∀ y:ak S0,y.w.cell? ⟨w4.heap.size,4,none⟩=some (.string M.body):=fun y=>((hS0 _).1 y.h).2.c4;obtain ⟨W0,hW0⟩:∃ y,wz.drew=y:=⟨_,rfl⟩;have hs0:=aQ hW0;have hMW:=aB hMk hltk (hS9.trans hs0);have hqW:w4.heap.size < W0.heap.size:=zQ4 hltk (hS9.trans hs0).size;have au:=(hS0 W0).2 ⟨hHz.since hs0,hMW⟩;have hne2:Nonempty (ak S0):=⟨⟨_,au⟩⟩;obtain ⟨WA,hWA⟩:∃ y,W0.alloc (.cells #[.int .i64 M.fr,.int .i64 M.gr,.int .i64 M.st,.bool M.nul,.string M.body] 42)=y:=⟨_,rfl⟩;have hsA:=ay hWA;have D7:=(hS0 WA).2 ⟨(hHz.since hs0).since hsA,aB hMW hqW hsA⟩;have hsrc:=fM (size:=5) (T:=42) (w:=W0) iE.und (flat [M]) (by simp [bU]) (fun u hu=>dG u _ hu) 1;rw [show (W0.alloc (.cells (flat [M]).toArray 42))=WA from hWA] at hsrc;have hRA:=(mO.since hS9).since (hs0.trans hsA);have IV:w1.heap.size<=WA.heap.size:=zQ5 hSr.size (zQ5 hS9.size (hs0.trans hsA).size);have Tz:j+1 < 1000:=by have:=HS.out;have:=HZ.out;omega
     have HNK:Hid (dU dk/\dk.nodes.length=d.nodes.length):=⟨hrk,hNk⟩;have HH0:=(show Hid _ from hHz.since (hs0.trans hsA));have HMZ:=(show Hid _ from hMz);have HM8:=(show Hid _ from hL8);clear hNk hrk hGk hxk hHz hMz s2 s3 s4 hL8;refine sU (fun w'=>∃ x:ak S0,w'=x.w) (by kernel_rfl) ?_;rw [hW0];clear hW0;refine tL 0 rfl (aj au) ?_;go_big_quiet_op;refine tL 1 rfl (aj au) ?_;go_big_quiet_op;refine tL 2 rfl (aj au) ?_;go_big_quiet_op;refine tL 3 rfl (aj au) ?_;go_big_quiet_op;refine tL 4 rfl (aj au) ?_;go_big_quiet_op;refine tL 5 rfl (aj au) ?_;go_big_quiet_op;refine tL 6 rfl (aj au) ?_;go_big_quiet_op;refine tL 7 rfl (aj au) ?_;go_big_quiet_op;refine tL 8 rfl (aj au) ?_;go_big_quiet_op;refine tL 9 rfl (aj au) ?_;go_big_quiet_op;refine tL 10 rfl (aj au) ?_;go_big_quiet_op;refine tL 11 rfl (aj au) ?_;go_big_quiet_op;refine tL 12 rfl (aj au) ?_;go_big_quiet_op;refine tL 13 rfl (aj au) ?_;go_big_quiet_op;refine tL 14 rfl (aj au) ?_;go_big_quiet_op;refine kT 15 rfl (by kernel_rfl) ?_;intro K hK;go_simp;refine hK _ _ (fun _ _=>aj D7) ?_;clear hK K;refine kT 16 rfl (by kernel_rfl) ?_;intro K hK;refine fF iE (by rfl) _ _ 39 (by rfl) (by rfl) hRA (by rfl) hsrc (by omega) IV ?_;intro a' c' wB hRB hFB hBB;obtain ⟨hrk,hNk⟩:=HNK.out;have hHB:=HH0.out.fr (HMZ.out.since (hs0.trans hsA)) hrk (by omega) (by omega) (by rw [HM8.out];exact hFB)
     have hnq:¬ (Lk (8,n,k)).blk=some w4.heap.size:=fun e=>yC ⟨(8,n,k),by
      obtain ⟨row,hr,hrl⟩:=row_of hrk (f:=n) (by omega);exact ⟨by rw [hrk.1];omega,by rw [dI hr];omega⟩,e⟩
     have hMB:bF wB w4.heap.size 0 M:=aZ (aB hMW hqW hsA) (hFB.block _ (by have:=hS9.size;have:=hs0.size;have:=hsA.size;omega) (by rw [HM8.out] at hnq;exact hnq));have D8:=(hS0 wB).2 ⟨hHB,hMB⟩;have fB:=hHB.free;have gB:=hHB.cell;have lB:=hHB.ltr;rw [HM8.out,HZ.out] at gB;dsimp only [Sl.v] at gB;refine hK _ _ (fun _ _=>aj D8) ?_;clear hK K;simp only [Act.put,zQ7,zQ8,zQ9];refine tL 17 rfl (aj D8) ?_;go_big_quiet_op;refine kT 18 rfl (by kernel_rfl) ?_;intro K hK;go_simp;refine hK _ _ (fun h=>absurd h (by decide +kernel)) ?_;clear hK K;have hgw:=HMZ.out.xI (m:=M) (a':=a') (c':=c') (w1:=WA) (w2:=wB) hrk (f:=n) (t:=k) (by omega) (by omega) hH.lay (zQ5 hSr.size hS9.size) (hs0.trans hsA) (by rw [HW.out];have:=HZ.out;omega) (by rw [HW.out,HZ.out];exact hRB) (by rw [HM8.out];exact hFB) (by rw [HM8.out];exact hBB);rw [HW.out,HZ.out] at hgw;obtain ⟨hMf,tF⟩:=hgw;obtain ⟨IW,IX⟩:=tF.beside (q:=w4.heap.size) (by have:=hS9.size;omega) yC;have IY:=zQ4 hltk (zQ5 hS9.size tF.fr.size);have hSf:=tF.fr.aC (hSr.trans hS9) (fun i hi hb=>by have:=(hM.own.blk hb).1;omega)
     have HL2:Hid (fI M n (setNode d n X1) (k+1)=.ok (aX dk n k (l++[M]))):=by
      unfold Hid;rw [jc,HL.out];show gX M n dk k=_;rw [HLO.out,if_neg (by have:=HS.out;omega),HLT.out];rfl
     have IZ:=aZ (aB hMk hltk hS9) IW;clear c1 c2 c3 m0 m1 m2 m3 m4 hNk hrk gB;refine uW (by kernel_rfl) ?_
     go_wp2
     exact ⟨⟨k+1,_,_,by omega,by go_num,HL2.out,hMf,IZ,IX,IY,hSf⟩,by simp [intOf];omega⟩
    ·have HE1:Hid (gX M n dk k=.error 1):=by unfold Hid;rw [HLO.out,if_neg (by have:=HS.out;omega),TA.out,P9];rfl
     go_wp2_with (go_at_call 145;refine (dO ga d.groups.length gc d.groups g k wo hGr).mono ?_;rw [H3.out];rintro e w' ⟨rfl,hw⟩;obtain rfl:=hw.symm)
     refine av (by kernel_rfl) (by kernel_rfl) (Since.refl wo) ?_
     repeat (go_big_quiet_step (fail))
     refine wpQuiet_nil ?_;intro wz hS9;obtain ⟨lt,r0,r1,r2,r3,r4,r5⟩:=hNB.since (hSr.trans hS9)
     go_wp2_with fail
     refine bodyPost_ret (v:=.tuple #[.agg #[.slice none 0 0,.slice none 0 0,.slice none 0 0],.int .i64 1]) ?_ rfl (jo.out 1 (HLY.out 1 HE1.out) _ (aM hSp.size (hS1.trans (hSr.trans hS9))));simp [results,results82,go_sem,r0,r1,r2]
  ·obtain rfl:k=d.nodes.length:=by omega
   have HLN:=HL;obtain ⟨hrk,TB,hGk,hxk⟩:=HK.out;have m0:=hMk.c0;have m1:=hMk.c1;have m2:=hMk.c2;have m3:=hMk.c3;have m4:=hMk.c4
   have D9:kJ dk X1:=by
    obtain ⟨_,h2⟩:=HER.out;obtain ⟨_,e2⟩:=HX1.out;exact ⟨by rw [e2,hGk];exact h2.len,fun gg row hr=>by rw [TB];rw [e2] at hr;exact h2.rows gg row hr⟩
   have I4:X1.held.length<=40:=by rw [HX1.out.1];exact HER.out.1
   clear hNk TB hrk hGk hlt;cases nul
   ·have hmn:=HMg.out.2;cases hP:(dP M X1.held != 0)
    ·have HP:Hid (dP M X1.held=0):=by unfold Hid;simpa using hP
     obtain ⟨X3,hX3⟩:∃ y,({ X1 with held:=gM M X1.held }:Nd)=y:=⟨_,rfl⟩
     obtain ⟨D3,hD3⟩:∃ y,setNode dk n X3=y:=⟨_,rfl⟩;have mW:=oV w1.heap.size w2.heap.size n M dk Lk X1 wo hM hxk hSr.size;rw [hX3,hD3] at mW;have hx3:D3.nodes[n]? = some X3:=by rw [<-hD3,cZ _ hxk,if_pos rfl]
     have Nu:kJ D3 X3:=by rw [<-hD3,<-hX3];exact ⟨D9.len,fun gg row hr=>by have:=D9.rows gg row hr;simpa [setNode] using this⟩
     have Nv:X3.held.length<=40:=by
      rw [<-hX3];show (gM M X1.held).length<=40;rw [lu M X1.held HP.out]
      have:¬ 40<=X1.held.length:=fun h=>by have:=HP.out;unfold dP at this;split at this <;> simp_all
      omega
     have HCB:Hid (fH d n g false body=(eX D3 n).bind fun p=>.ok p.1):=by
      unfold Hid;rw [HC.out,HLN.out];show ((dZ dk n M).bind _)=_;unfold dZ uT;rw [hmn,hxk];simp only [HP.out,if_true,Bool.false_eq_true,if_false];rw [hX3,hD3];rfl
     have HTD:=(show Hid _ from xG hx3);clear hX3 hD3 hmn hxk;cases hT:(iH D3 n X3 != 0)
     ·have HT:Hid (iH D3 n X3=0):=by unfold Hid;simpa using hT
      go_wp2_with (first
       | (go_at_call 146;refine mW.mono ?_;rintro e w6 ⟨rfl,hh1,hh2⟩;obtain ⟨L3,hM3,I5⟩:=hh2 HP.out;have AL:=I5.fr.aC hSr (fun i hi hb=>by have:=(hM.own.blk hb).1;omega))
       | (go_at_call 147;refine (iR w1.heap.size w2.heap.size n D3 L3 X3 w6 hM3 hx3 AL.size Nu Nv).mono ?_;rintro e w9 ⟨rfl,hT1,hT2⟩;obtain ⟨L4,hM4,zh⟩:=hT2 HT.out;have lI:=zh.fr.aC AL (fun i hi hb=>by have:=(hM3.own.blk hb).1;omega);obtain ⟨lt,r0,r1,r2,r3,r4,r5⟩:=hNB.since lI;have b0:=hM4.box.c0;have b1:=hM4.box.c1;have b2:=hM4.box.c2))
      obtain ⟨hO,hSf⟩:=hM4.own.result (w0:=w) (p:=wp.heap.size) hNB.lt hSp.size (hS1.trans lI) hS1.size;refine bodyPost_ret (v:=.tuple #[aS L4 (setNode D3 n (tu D3 n X3)),.int .i64 0]) ?_ rfl (HOK.out _ (by rw [HCB.out,HTD.out,if_pos HT.out];rfl) _ L4 hO hSf);simp [results,results82,go_sem,r0,r1,r2,aS]
     ·have HT:Hid (iH D3 n X3≠0):=by unfold Hid;simpa using hT
      go_wp2_with (first
       | (go_at_call 146;refine mW.mono ?_;rintro e w6 ⟨rfl,hh1,hh2⟩;obtain ⟨L3,hM3,I5⟩:=hh2 HP.out;have AL:=I5.fr.aC hSr (fun i hi hb=>by have:=(hM.own.blk hb).1;omega))
       | (go_at_call 147;refine (iR w1.heap.size w2.heap.size n D3 L3 X3 w6 hM3 hx3 AL.size Nu Nv).mono ?_;rintro e w9 ⟨rfl,hT1,hT2⟩;have lI:=AL.trans (hT1 HT.out);obtain ⟨lt,r0,r1,r2,r3,r4,r5⟩:=hNB.since lI))
      refine bodyPost_ret (v:=.tuple #[.agg #[.slice none 0 0,.slice none 0 0,.slice none 0 0],.int .i64 (iH D3 n X3)]) ?_ rfl (jo.out _ (by rw [HCB.out,HTD.out,if_neg HT.out];rfl) _ (aM hSp.size (hS1.trans lI)));simp [results,results82,go_sem,r0,r1,r2,aS]
    ·have HP:Hid (dP M X1.held≠0):=by unfold Hid;simpa using hP
     have HCB:Hid (fH d n g false body=.error (dP M X1.held)):=by
      unfold Hid;rw [HC.out,HLN.out];show ((dZ dk n M).bind _)=_;unfold dZ uT;rw [hmn,hxk];simp only [HP.out,Bool.false_eq_true,if_false];rfl
     clear hmn
     go_wp2_with (go_at_call 146;refine (oV w1.heap.size w2.heap.size n M dk Lk X1 wo hM hxk hSr.size).mono ?_;rintro e w6 ⟨rfl,hh1,hh2⟩;have lI:=hSr.trans (hh1 HP.out);obtain ⟨lt,r0,r1,r2,r3,r4,r5⟩:=hNB.since lI)
     refine bodyPost_ret (v:=.tuple #[.agg #[.slice none 0 0,.slice none 0 0,.slice none 0 0],.int .i64 (dP M X1.held)]) ?_ rfl (jo.out _ HCB.out _ (aM hSp.size (hS1.trans lI)));simp [results,results82,go_sem,r0,r1,r2,aS]
   ·have hmn:=HMg.out.2
    have HCB:Hid (fH d n g true body=(eX dk n).bind fun p=>.ok p.1):=by
     unfold Hid;rw [HC.out,HLN.out];show ((dZ dk n M).bind _)=_;unfold dZ;rw [hmn];rfl
    have HTD:=(show Hid _ from xG hxk);clear hmn;cases hT:(iH dk n X1 != 0)
    ·have HT:Hid (iH dk n X1=0):=by unfold Hid;simpa using hT
     go_wp2_with (go_at_call 147;refine (iR w1.heap.size w2.heap.size n dk Lk X1 wo hM hxk hSr.size D9 I4).mono ?_;rintro e w9 ⟨rfl,hT1,hT2⟩;obtain ⟨L4,hM4,zh⟩:=hT2 HT.out;have lI:=zh.fr.aC hSr (fun i hi hb=>by have:=(hM.own.blk hb).1;omega);obtain ⟨lt,r0,r1,r2,r3,r4,r5⟩:=hNB.since lI;have b0:=hM4.box.c0;have b1:=hM4.box.c1;have b2:=hM4.box.c2)
     obtain ⟨hO,hSf⟩:=hM4.own.result (w0:=w) (p:=wp.heap.size) hNB.lt hSp.size (hS1.trans lI) hS1.size;refine bodyPost_ret (v:=.tuple #[aS L4 (setNode dk n (tu dk n X1)),.int .i64 0]) ?_ rfl (HOK.out _ (by rw [HCB.out,HTD.out,if_pos HT.out];rfl) _ L4 hO hSf);simp [results,results82,go_sem,r0,r1,r2,aS]
    ·have HT:Hid (iH dk n X1≠0):=by unfold Hid;simpa using hT
     go_wp2_with (go_at_call 147;refine (iR w1.heap.size w2.heap.size n dk Lk X1 wo hM hxk hSr.size D9 I4).mono ?_;rintro e w9 ⟨rfl,hT1,hT2⟩;have lI:=hSr.trans (hT1 HT.out);obtain ⟨lt,r0,r1,r2,r3,r4,r5⟩:=hNB.since lI)
     refine bodyPost_ret (v:=.tuple #[.agg #[.slice none 0 0,.slice none 0 0,.slice none 0 0],.int .i64 (iH dk n X1)]) ?_ rfl (jo.out _ (by rw [HCB.out,HTD.out,if_neg HT.out];rfl) _ (aM hSp.size (hS1.trans lI)));simp [results,results82,go_sem,r0,r1,r2,aS]
theorem sZ (x:WV) (d:Wd) (n g:Int) (nul:Bool) (body:ByteArray) (w:World) (hW:WAt w x d) (R:Right d) :
  Calls prog 82 #[.agg #[.slice x.ga x.gl x.gc,.slice x.na x.nl x.nc,.slice x.wa x.wl x.wc],.int .i64 n,.int .i64 g,.bool nul,.string body] w fun e w' =>
   (∀ er,fH d n g nul body=.error er->e=.returned (.tuple #[.agg #[.slice none 0 0,.slice none 0 0,.slice none 0 0],.int .i64 er])/\Since w w') /\
   (∀ d',fH d n g nul body=.ok d'->∃ L,e=.returned (.tuple #[aS L d',.int .i64 0])/\bE w.heap.size w' d' L/\Since w w'):=by
 by_cases hE:bS d n g body.size=0
 ·obtain ⟨⟨q1,q1'⟩,_⟩:=vL hE;obtain ⟨k,rfl⟩:=Int.eq_ofNat_of_zero_le q1;obtain ⟨nd,hnd⟩:∃ nd,d.nodes[k]? = some nd:=⟨_,zQ1 (by omega)⟩;refine Gr x d k g nul body w hW R nd hnd hE _ (fun er h w' hS=>⟨fun er' h'=>?_,fun d' h'=>?_⟩) (fun d' h w' L hO hS=>⟨fun er' h'=>?_,fun d2 h'=>?_⟩)
  ·rw [h] at h';cases h';exact ⟨rfl,hS⟩
  ·rw [h] at h';cases h'
  ·rw [h] at h';cases h'
  ·rw [h] at h';cases h';exact ⟨L,rfl,hO,hS⟩
 ·refine (BQ x d n g nul body w hW hE).mono ?_;rintro e w' ⟨rfl,hS⟩;have h:fH d n g nul body=.error (bS d n g body.size):=by unfold fH;rw [if_neg hE]
  refine ⟨fun er h'=>?_,fun d' h'=>?_⟩
  ·rw [h] at h';cases h';exact ⟨rfl,hS⟩
  ·rw [h] at h';cases h'
def rX (w:World) (r:Except Int Wd) (e:Ending) (w':World):Prop :=
 (∀ er,r=.error er->e=.returned (.tuple #[.agg #[.slice none 0 0,.slice none 0 0,.slice none 0 0],.int .i64 er])/\Since w w') /\
 (∀ d',r=.ok d'->∃ L,e=.returned (.tuple #[aS L d',.int .i64 0])/\bE w.heap.size w' d' L/\Since w w')
theorem dS {w:World} {er:Int} {w':World} (hS:Since w w'):rX w (.error er) (.returned (.tuple #[.agg #[.slice none 0 0,.slice none 0 0,.slice none 0 0],.int .i64 er])) w' :=
 ⟨fun _ h=>(by cases h;exact ⟨rfl,hS⟩),fun _ h=>(by cases h)⟩
theorem iB {w:World} {d:Wd} {L:Lay} {w':World} (hO:bE w.heap.size w' d L) (hS:Since w w'):rX w (.ok d) (.returned (.tuple #[aS L d,.int .i64 0])) w' :=
 ⟨fun _ h=>(by cases h),fun _ h=>(by cases h;exact ⟨L,rfl,hO,hS⟩)⟩
theorem mo (x:WV) (d:Wd) (n g:Int) (nul:Bool) (body:ByteArray) (w:World) (hW:WAt w x d) :
  Calls prog 29 #[.agg #[.slice x.ga x.gl x.gc,.slice x.na x.nl x.nc,.slice x.wa x.wl x.wc],.int .i64 n,.int .i64 g,.bool nul,.string body] w fun e w'=>Hid (rX w (checked d (fH d n g nul body)) e w'):=by
 obtain ⟨ga,gl,gc,na,nl,nc,wa,wl,wc⟩:=x;dsimp only;obtain ⟨wp,hwp⟩:∃ wp,w.alloc (.cells #[.slice ga gl gc,.slice na nl nc,.slice wa wl wc] 26)=wp:=⟨_,rfl⟩;have hPp:aO wp w.heap.size ⟨ga,gl,gc,na,nl,nc,wa,wl,wc⟩:=by rw [<-hwp];exact aO.new w ⟨ga,gl,gc,na,nl,nc,wa,wl,wc⟩ _
 have hSp:=ay hwp;obtain ⟨w1,hw1⟩:∃ w1,wp.alloc (.cells #[.slice none 0 0,.slice none 0 0,.slice none 0 0] 26)=w1:=⟨_,rfl⟩;have hNB:aD w1 wp.heap.size:=by rw [<-hw1];exact aD.new wp _
 have cO:=ay hw1;have hP1:=hPp.since cO;have hS1:=hSp.trans cO;have hW1:=hW.since hS1;have p0:=hP1.c0;have p1:=hP1.c1;have p2:=hP1.c2;dsimp only at p0 p1 p2;have PF:Hid (∀ y,Since w1 y->aO y w.heap.size ⟨ga,gl,gc,na,nl,nc,wa,wl,wc⟩):=fun y hy=>hP1.since hy;cases hE:(aL d != 0)
 ·have HE:Hid (aL d=0):=by unfold Hid;simpa using hE
  obtain ⟨r,hr⟩:∃ r,fH d n g nul body=r:=⟨_,rfl⟩;rw [hr]
  cases r with
  | error er =>
   have HF:Hid (checked d (.error er:Except Int Wd)=.error er):=by unfold Hid checked;rw [if_pos HE.out]
   have HRR:=(show Hid _ from hr);clear hr
   go_enter func29,ntmps29
   go_wp2_with (first
    | (go_at_call 38;refine (jK w1 _ ⟨ga,gl,gc,na,nl,nc,wa,wl,wc⟩ d hW1 (Since.refl _)).mono ?_;rintro e w2 ⟨rfl,hS2⟩;obtain ⟨lt2,f0,f1,f2⟩:=PF.out _ hS2;dsimp only at f0 f1 f2)
    | (go_at_call 82;refine (sZ ⟨ga,gl,gc,na,nl,nc,wa,wl,wc⟩ d n g nul body w2 (hW1.since hS2) ((dK d).1 HE.out)).mono ?_;rintro e w3 ⟨hR,_⟩;obtain ⟨rfl,hS3⟩:=hR er HRR.out;have hSr:=hS2.trans hS3;obtain ⟨lt,r0,r1,r2,r3,r4,r5⟩:=hNB.since hSr))
   refine bodyPost_ret (v:=.tuple #[.agg #[.slice none 0 0,.slice none 0 0,.slice none 0 0],.int .i64 er]) ?_ rfl (by unfold Hid;rw [HF.out];exact dS (aM hSp.size (hS1.trans hSr)));simp [results,results29,go_sem,r0,r1,r2]
  | ok d' =>
   have HF:Hid (checked d (.ok d')=.ok d'):=by unfold Hid checked;rw [if_pos HE.out]
   have HRR:=(show Hid _ from hr);clear hr
   go_enter func29,ntmps29
   go_wp2_with (first
    | (go_at_call 38;refine (jK w1 _ ⟨ga,gl,gc,na,nl,nc,wa,wl,wc⟩ d hW1 (Since.refl _)).mono ?_;rintro e w2 ⟨rfl,hS2⟩;obtain ⟨lt2,f0,f1,f2⟩:=PF.out _ hS2;dsimp only at f0 f1 f2)
    | (go_at_call 82;refine (sZ ⟨ga,gl,gc,na,nl,nc,wa,wl,wc⟩ d n g nul body w2 (hW1.since hS2) ((dK d).1 HE.out)).mono ?_;rintro e w3 ⟨_,hR⟩;obtain ⟨L,rfl,hO,hS3⟩:=hR d' HRR.out;simp only [aS];have hSr:=hS2.trans hS3;obtain ⟨lt,r0,r1,r2,r3,r4,r5⟩:=hNB.since hSr))
   obtain ⟨hO2,hSf⟩:=hO.result (w0:=w) (p:=wp.heap.size) (zQ4 hNB.lt hS2.size) hSp.size (hS1.trans hSr) (zQ5 hS1.size hS2.size);refine bodyPost_ret (v:=.tuple #[aS L d',.int .i64 0]) ?_ rfl (by unfold Hid;rw [HF.out];exact iB hO2 hSf);simp [results,results29,go_sem,r0,r1,r2,aS]
 ·have HE:Hid (aL d≠0):=by unfold Hid;simpa using hE
  have HF:Hid (checked d (fH d n g nul body)=.error (aL d)):=by unfold Hid checked;rw [if_neg HE.out]
  go_enter func29,ntmps29
  go_wp2_with (go_at_call 38;refine (jK w1 _ ⟨ga,gl,gc,na,nl,nc,wa,wl,wc⟩ d hW1 (Since.refl _)).mono ?_;rintro e w2 ⟨rfl,hS2⟩;obtain ⟨lt,r0,r1,r2,r3,r4,r5⟩:=hNB.since hS2)
  refine bodyPost_ret (v:=.tuple #[.agg #[.slice none 0 0,.slice none 0 0,.slice none 0 0],.int .i64 (aL d)]) ?_ rfl (by unfold Hid;rw [HF.out];exact dS (aM hSp.size (hS1.trans hS2)));simp [results,results29,go_sem,r0,r1,r2]
theorem EW {w:World} {d':Wd} {e:Ending} {w':World} (h:Hid (rX w (.ok d') e w')) :
  ∃ v:WV,e=.returned (.tuple #[.agg #[.slice v.ga v.gl v.gc,.slice v.na v.nl v.nc,.slice v.wa v.wl v.wc],.int .i64 0])/\WAt w' v d'/\Since w w':=by
 obtain ⟨L,e,hO,hS⟩:=h.out.2 d' rfl;exact ⟨fV L d',e,hO.wat,hS⟩
theorem JB {d:Wd} {a b:Nat} (ha:a < d.wires.length) {row:List (List Mg)} (hr:d.wires[a]? = some row) (hb:b < row.length):∃ l,row[b]? = some l/\aA d a b=l:=by
 refine ⟨_,zQ1 hb, ?_⟩;unfold aA;rw [hr];simp [hb]
end Go.Proofs.YtiiifecfdkjmbaaGreat
