/- Lemmas. -/
import Derived.Test.YtiiifecfdkjmbaaRTellX
import Derived.Test.YtiiifecfdkjmbaaROwn
set_option maxHeartbeats 4000000
namespace Go.Proofs.Ytiiifecfdkjmbaa
open _root_.Go.Proofs.Try hiding checked
set_option maxRecDepth 8000
open Go.RowKit Go.Shelf
open Pu
set_option linter.unusedVariables false
set_option linter.unusedSimpArgs false
def iN (x:Nd):Nd:={ x with clock:=x.clock+1 }
def oC (x:Nd) (n:Nat) (g:Int) (nul:Bool) (body:ByteArray):Mg:=⟨n,g,x.clock+1,nul,body⟩
theorem BH {d:Wd} {n:Nat} {x:Nd} (hx:d.nodes[n]? = some x) {g:Int} {nul:Bool} {body:ByteArray} (h:fP d n g body.size=0) :
  gU d n g nul body=(jg (oC x n g nul body) n (setNode d n (iN x)) d.nodes.length).bind fun d2=>(eZ d2 n (oC x n g nul body)).bind fun d3=>(jQ d3 n).bind fun p=>.ok p.1:=by
 have hc:jF d n=x.clock:=(jl hx).1
 unfold gU
 rw [if_pos h,Int.toNat_natCast,hc]
 unfold vV
 rw [hx];rfl
theorem nN {d:Wd} {n:Nat} {x:Nd} (hx:d.nodes[n]? = some x):jQ d n=if dL d n x=0 then .ok (setNode d n (lS d n x),(dU d n x).length) else .error (dL d n x):=by
 unfold jQ dL lS
 rw [hx]
 dsimp only
 split
 ·simp
 ·split <;> simp
structure En (w1 w3 w4 w5:World) (p:Nat) (d:Wd) (L:Lay) (n:Nat) (x:Nd) (m:Mg) (bn on cn:Nat):Prop where
 b1:w3.cell? ⟨p,1,none⟩=some (.slice (some ⟨bn,on,none⟩) d.nodes.length cn)
 k0:w3.cell? ⟨bn,on+n*4,none⟩=some (.int .i64 x.clock)
 z0:w3.frozen? ⟨bn,on+n*4,none⟩=false
 c1:w4.cell? ⟨p,1,none⟩=some (.slice (some ⟨bn,on,none⟩) d.nodes.length cn)
 c0:w4.cell? ⟨bn,on+n*4,none⟩=some (.int .i64 (x.clock+1))
 made:bD w1.heap.size w5 p (setNode d n (iN x)) L
 msg:dR w5 w4.heap.size 0 m
 lt:w4.heap.size < w5.heap.size
 off:¬ gJ (setNode d n (iN x)) L w4.heap.size
 since:Since w1 w5
 ge:w1.heap.size<=p
theorem Ae {w1 w2:World} {d:Wd} {L:Lay} {n:Nat} {x:Nd} {g:Int} {nul:Bool} {body:ByteArray} (hO:aP w1.heap.size w2 d L) (hS:Since w1 w2) (hx:d.nodes[n]? = some x) (T U:TypeId) :
  ∃ bn on cn,L (1,0,0)=⟨some ⟨bn,on,none⟩,cn⟩/\∀ w3 w4 w5,w2.alloc (.cells #[.slice (L (0,0,0)).a d.groups.length (L (0,0,0)).cap,.slice (some ⟨bn,on,none⟩) d.nodes.length cn,.slice (L (2,0,0)).a d.wires.length (L (2,0,0)).cap] T)=w3 ->
   w3.setCell ⟨bn,on+n*4,none⟩ (.int .i64 (x.clock+1))=w4->w4.alloc (.cells #[.int .i64 n,.int .i64 g,.int .i64 (x.clock+1),.bool nul,.string body] U)=w5->En w1 w3 w4 w5 w2.heap.size d L n x (oC x n g nul body) bn on cn:=by
 have hn:=dH hx
 obtain ⟨bn,on,cn,hL1,hlo,hbn,hbk,hcn⟩:=hO.lies (ix:=(1,0,0)) ⟨rfl,rfl⟩ (by show 0 < d.nodes.length;omega)
 refine ⟨bn,on,cn,hL1,fun w3 w4 w5 h3 h4 h5=>?_⟩
 have hS3:=au h3
 have hl3:w2.heap.size < w3.heap.size:=by rw [<-h3];simp
 have hM3:bD w1.heap.size w3 w2.heap.size d L:=by
  refine ⟨hO.since hS3, ?_,fun hb=>?_⟩
  ·rw [<-h3];constructor <;> simp [go_sem,hL1]
  ·have:=(hO.blk hb).2;omega
 obtain ⟨k0,_,_,_,kz⟩:=hM3.own.cells hx hL1
 have hO4:=hM3.own.vS hx hL1 (x.clock+1)
 rw [h4] at hO4
 have hb:gJ d L bn:=⟨(1,0,0),⟨rfl,rfl⟩,hbk⟩
 have hst:iF w3 w4 d L (setNode d n (iN x)) L:=by
  have:=mX (d:=d) (L:=L) (d':=setNode d n (iN x)) (Since.refl w3) (dZ hx rfl) (off:=on+n*4) (.int .i64 (x.clock+1)) hb
  rw [h4] at this;exact this
 have hM4:bD w1.heap.size w4 w2.heap.size (setNode d n (iN x)) L:=hM3.step hO4 hst rfl rfl rfl rfl (by simp [setNode]) rfl
 have hx4:(setNode d n (iN x)).nodes[n]? = some (iN x):=by rw [fM _ hx,if_pos rfl]
 obtain ⟨c0,_⟩:=hM4.own.cells hx4 hL1
 have hS4:=au h5
 have b1:=hM3.box.c1
 have c1:=hM4.box.c1
 rw [hL1] at b1 c1
 have nY:Since w1 w4:=hst.fr.aC (hS.trans hS3) (fun i hi hb=>by have:=(hO.blk hb).1;omega)
 refine ⟨b1,k0,by have:=kz 0 (by omega);simpa using this, ?_,c0,hM4.since hS4, ?_, ?_,fun hb=>?_,nY.trans hS4,hS.size⟩
 ·have:(setNode d n (iN x)).nodes.length=d.nodes.length:=by simp [setNode]
  rw [this] at c1;exact c1
 ·rw [<-h5];constructor <;> simp [go_sem,oC]
 ·rw [<-h5];simp
 ·have:=(hM4.own.blk hb).2;omega
theorem rO (x:WV) (d:Wd) (n g:Int) (nul:Bool) (body:ByteArray) (w:World) (hW:WAt w x d) (hE:fP d n g body.size≠0) :
  Calls prog 157 #[.agg #[.slice x.ga x.gl x.gc,.slice x.na x.nl x.nc,.slice x.wa x.wl x.wc],.int .i64 n,.int .i64 g,.bool nul,.string body] w fun e w' =>
   e=.returned (.tuple #[.agg #[.slice none 0 0,.slice none 0 0,.slice none 0 0],.int .i64 (fP d n g body.size)])/\Since w w':=by
 obtain ⟨ga,gl,gc,na,nl,nc,wa,wl,wc⟩:=x
 have hgl:=hW.g.hlen
 have hnl:=hW.n.hlen
 have hwl:=hW.r.hlen
 have hnm:=hW.n.hmax
 have hgm:=hW.g.hmax
 dsimp only at hgl hnl hwl hnm hgm ⊢
 subst hgl hnl hwl
 obtain ⟨wp,hwp⟩:∃ wp,w.alloc (.cells #[.slice ga d.groups.length gc,.slice na d.nodes.length nc,.slice wa d.wires.length wc] 26)=wp:=⟨_,rfl⟩
 have hPp:aT wp w.heap.size ⟨ga,d.groups.length,gc,na,d.nodes.length,nc,wa,d.wires.length,wc⟩:=by rw [<-hwp];exact aT.new w ⟨ga,d.groups.length,gc,na,d.nodes.length,nc,wa,d.wires.length,wc⟩ _
 have hSp:=au hwp
 obtain ⟨w1,hw1⟩:∃ w1,wp.alloc (.cells #[.slice none 0 0,.slice none 0 0,.slice none 0 0] 26)=w1:=⟨_,rfl⟩
 have hNB:bQ w1 wp.heap.size:=by rw [<-hw1];exact bQ.new wp _
 have iI:=au hw1
 have hP1:=hPp.since iI
 have hS1:=hSp.trans iI
 have hG1:=hW.g.since hS1
 have hN1:=hW.n.since hS1
 dsimp only at hG1 hN1
 obtain ⟨lt,r0,r1,r2,r3,r4,r5⟩:=hNB
 have p0:=hP1.c0
 have p1:=hP1.c1
 dsimp only at p0 p1
 have F6:Since w (((w1.setCell ⟨wp.heap.size,0,none⟩ (.slice none 0 0)).setCell ⟨wp.heap.size,1,none⟩ (.slice none 0 0)).setCell ⟨wp.heap.size,2,none⟩ (.slice none 0 0)):=by
  have hF:Fr (fun i=>i=wp.heap.size) w1 w1:=Fr.refl _ _
  have:=hSp.size
  exact (((hF.setCell ⟨wp.heap.size,0,none⟩ _ (fun _=>rfl)).setCell ⟨wp.heap.size,1,none⟩ _ (fun _=>rfl)).setCell ⟨wp.heap.size,2,none⟩ _ (fun _=>rfl)).aC hS1 (fun i hi e=>by omega)
 have HFin:=(show Hid _ from F6)
 have HE:Hid (fP d n g body.size≠0):=hE
 clear F6 hE
 have hwk:IntKind.i64.wrap ((d.nodes.length:Int) - 1)=(d.nodes.length:Int) - 1:=IntWalk.i64_in _ (by omega)
 have hwg:IntKind.i64.wrap ((d.groups.length:Int) - 1)=(d.groups.length:Int) - 1:=IntWalk.i64_in _ (by omega)
 cases h1:inB n 0 ((d.nodes.length:Int) - 1)
 ·have HG:Hid (fP d n g body.size=4):=by unfold Hid fP;rw [if_pos (.inl h1)]
  have H1:=(show Hid _ from h1)
  clear h1
  go_enter func157,ntmps157
  go_wp2_with (go_at_call 41;refine (aI _ _ _ _).mono ?_;rw [H1.out];rintro e w' ⟨rfl,hw⟩;obtain rfl:=hw.symm)
  refine bodyPost_ret (v:=.tuple #[.agg #[.slice none 0 0,.slice none 0 0,.slice none 0 0],.int .i64 4]) ?_ rfl ⟨by rw [HG.out],HFin.out⟩
  simp [results,results157,go_sem,r0,r1,r2]
 cases h2:inB g 0 ((d.groups.length:Int) - 1)
 ·have HG:Hid (fP d n g body.size=4):=by unfold Hid fP;rw [if_pos (.inr h2)]
  have H1:=(show Hid _ from h1)
  have H2:=(show Hid _ from h2)
  clear h1 h2
  go_enter func157,ntmps157
  go_wp2_with (go_at_call 41;refine (aI _ _ _ _).mono ?_;(first | rw [H1.out] | rw [H2.out]);rintro e w' ⟨rfl,hw⟩;obtain rfl:=hw.symm)
  refine bodyPost_ret (v:=.tuple #[.agg #[.slice none 0 0,.slice none 0 0,.slice none 0 0],.int .i64 4]) ?_ rfl ⟨by rw [HG.out],HFin.out⟩
  simp [results,results157,go_sem,r0,r1,r2]
 have h12:¬ (inB n 0 ((d.nodes.length:Int) - 1)=false\/inB g 0 ((d.groups.length:Int) - 1)=false):=by rw [h1,h2];simp
 have hn:0<=n/\n<=(d.nodes.length:Int) - 1:=by unfold inB at h1;simpa using h1
 obtain ⟨k,rfl⟩:=Int.eq_ofNat_of_zero_le hn.1
 have hk:k < d.nodes.length:=by omega
 have H1:=(show Hid _ from h1)
 have H2:=(show Hid _ from h2)
 clear h1 h2 hn
 cases h3:hasB d.groups g k
 ·have HG:Hid (fP d k g body.size=5):=by unfold Hid fP;rw [if_neg h12,if_pos h3]
  have H3:=(show Hid _ from h3)
  clear h3
  go_enter func157,ntmps157
  go_wp2_with (first
   | (go_at_call 41;refine (aI _ _ _ _).mono ?_;(first | rw [H1.out] | rw [H2.out]);rintro e w' ⟨rfl,hw⟩;obtain rfl:=hw.symm)
   | (go_at_call 81;refine (bC ga d.groups.length gc d.groups g k w1 hG1).mono ?_;rw [H3.out];rintro e w' ⟨rfl,hw⟩;obtain rfl:=hw.symm))
  refine bodyPost_ret (v:=.tuple #[.agg #[.slice none 0 0,.slice none 0 0,.slice none 0 0],.int .i64 5]) ?_ rfl ⟨by rw [HG.out],HFin.out⟩
  simp [results,results157,go_sem,r0,r1,r2]
 have H3:=(show Hid _ from h3)
 by_cases h4:8 < body.size
 ·have HG:Hid (fP d k g body.size=1):=by unfold Hid fP;rw [if_neg h12,if_neg (by rw [h3];simp),if_pos h4]
  have h4':(8:Int) < (body.size:Int):=by omega
  clear h3
  go_enter func157,ntmps157
  go_wp2_with (first
   | (go_at_call 41;refine (aI _ _ _ _).mono ?_;(first | rw [H1.out] | rw [H2.out]);rintro e w' ⟨rfl,hw⟩;obtain rfl:=hw.symm)
   | (go_at_call 81;refine (bC ga d.groups.length gc d.groups g k w1 hG1).mono ?_;rw [H3.out];rintro e w' ⟨rfl,hw⟩;obtain rfl:=hw.symm))
  refine bodyPost_ret (v:=.tuple #[.agg #[.slice none 0 0,.slice none 0 0,.slice none 0 0],.int .i64 1]) ?_ rfl ⟨by rw [HG.out],HFin.out⟩
  simp [results,results157,go_sem,r0,r1,r2]
 obtain ⟨nd,hnd⟩:∃ nd,d.nodes[k]? = some nd:=⟨_,zQ1 hk⟩
 have h5:nd.clock=1048576:=by
  have:=HE.out
  unfold fP at this
  rw [if_neg h12,if_neg (by rw [h3];simp),if_neg h4,Int.toNat_natCast,(jl hnd).1] at this
  by_cases h:nd.clock=1048576
  ·exact h
  ·rw [if_neg h] at this;exact absurd rfl this
 have HG:Hid (fP d k g body.size=3):=by unfold Hid fP;rw [if_neg h12,if_neg (by rw [h3];simp),if_neg h4,Int.toNat_natCast,(jl hnd).1,if_pos h5]
 have h4':¬ (8:Int) < (body.size:Int):=by omega
 obtain ⟨bn,on,rfl,hbn,hcn⟩:=hN1.cells (by omega)
 have k0:=(hcn k nd hnd).clk
 rw [h5] at k0
 have n1:(k:Int) < (d.nodes.length:Int):=by omega
 clear h3 h5
 go_enter func157,ntmps157
 go_wp2_with (first
  | (go_at_call 41;refine (aI _ _ _ _).mono ?_;(first | rw [H1.out] | rw [H2.out]);rintro e w' ⟨rfl,hw⟩;obtain rfl:=hw.symm)
  | (go_at_call 81;refine (bC ga d.groups.length gc d.groups g k w1 hG1).mono ?_;rw [H3.out];rintro e w' ⟨rfl,hw⟩;obtain rfl:=hw.symm))
 refine bodyPost_ret (v:=.tuple #[.agg #[.slice none 0 0,.slice none 0 0,.slice none 0 0],.int .i64 3]) ?_ rfl ⟨by rw [HG.out],HFin.out⟩
 simp [results,results157,go_sem,r0,r1,r2]
theorem fC {w w':World} {q o:Nat} {m:Mg} (h:dR w q o m) (e:w'.heap[q]? = w.heap[q]?):dR w' q o m:=by
 have hc:∀ j,w'.cell? ⟨q,j,none⟩=w.cell? ⟨q,j,none⟩:=fun j=>by unfold World.cell?;rw [e]
 exact ⟨(hc _).trans h.c0,(hc _).trans h.c1,(hc _).trans h.c2,(hc _).trans h.c3,(hc _).trans h.c4⟩
theorem dM {w w':World} {q o:Nat} {m:Mg} (h:dR w q o m) (hq:q < w.heap.size) (k:Since w w'):dR w' q o m :=
 ⟨(k.cellAt hq _).trans h.c0,(k.cellAt hq _).trans h.c1,(k.cellAt hq _).trans h.c2,(k.cellAt hq _).trans h.c3,(k.cellAt hq _).trans h.c4⟩
theorem bG {w wr:World} {p:Nat} (h0:w.heap.size<=p) (hS:Since w wr):Since w (((wr.setCell ⟨p,0,none⟩ (.slice none 0 0)).setCell ⟨p,1,none⟩ (.slice none 0 0)).setCell ⟨p,2,none⟩ (.slice none 0 0)):=by
 have hF:Fr (fun i=>i=p) wr wr:=Fr.refl _ _
 exact (((hF.setCell ⟨p,0,none⟩ _ (fun _=>rfl)).setCell ⟨p,1,none⟩ _ (fun _=>rfl)).setCell ⟨p,2,none⟩ _ (fun _=>rfl)).aC hS (fun i hi e=>by omega)
theorem wF (x:WV) (d:Wd) (n:Nat) (g:Int) (nul:Bool) (body:ByteArray) (w:World) (hW:WAt w x d) (R:Right d) (nd:Nd) (hnd:d.nodes[n]? = some nd) (hE:fP d n g body.size=0) (Post:Ending->World->Prop)
  (BI:∀ er,gU d n g nul body=.error er->∀ w',Since w w'->Post (.returned (.tuple #[.agg #[.slice none 0 0,.slice none 0 0,.slice none 0 0],.int .i64 er])) w')
  (hOk:∀ d',gU d n g nul body=.ok d'->∀ w' L,aP w.heap.size w' d' L->Since w w'->Post (.returned (.tuple #[bS L d',.int .i64 0])) w') :
  Calls prog 157 #[.agg #[.slice x.ga x.gl x.gc,.slice x.na x.nl x.nc,.slice x.wa x.wl x.wc],.int .i64 n,.int .i64 g,.bool nul,.string body] w fun e w'=>Hid (Post e w'):=by
 have hcast:=BH (nul:=nul) hnd hE
 obtain ⟨q1,q2,q3,q4,q5⟩:=qB hE
 have hm0:oC nd n g nul body=⟨n,g,nd.clock+1,nul,body⟩:=rfl
 obtain ⟨ga,gl,gc,na,nl,nc,wa,wl,wc⟩:=x
 have hgl:=hW.g.hlen
 have hnl:=hW.n.hlen
 have hwl:=hW.r.hlen
 dsimp only at hgl hnl hwl ⊢
 subst hgl hnl hwl
 have hn:=dH hnd
 obtain ⟨sn1,sn4,sg1,sg3⟩:=nu R.chk
 have Ir:=R.clk n
 rw [(jl hnd).1] at Ir
 rw [Int.toNat_natCast,(jl hnd).1] at q5
 have hsm:=nO R
 obtain ⟨wp,hwp⟩:∃ wp,w.alloc (.cells #[.slice ga d.groups.length gc,.slice na d.nodes.length nc,.slice wa d.wires.length wc] 26)=wp:=⟨_,rfl⟩
 have hPp:aT wp w.heap.size ⟨ga,d.groups.length,gc,na,d.nodes.length,nc,wa,d.wires.length,wc⟩:=by rw [<-hwp];exact aT.new w ⟨ga,d.groups.length,gc,na,d.nodes.length,nc,wa,d.wires.length,wc⟩ _
 have hSp:=au hwp
 obtain ⟨w1,hw1⟩:∃ w1,wp.alloc (.cells #[.slice none 0 0,.slice none 0 0,.slice none 0 0] 26)=w1:=⟨_,rfl⟩
 have hNB:bQ w1 wp.heap.size:=by rw [<-hw1];exact bQ.new wp _
 have iI:=au hw1
 have hP1:=hPp.since iI
 have hS1:=hSp.trans iI
 have hW1:=hW.since hS1
 have hG1:=hW1.g
 have hN1:=hW1.n
 dsimp only at hG1 hN1
 have p0:=hP1.c0
 have p1:=hP1.c1
 have p2:=hP1.c2
 dsimp only at p0 p1 p2
 have hwk:IntKind.i64.wrap ((d.nodes.length:Int) - 1)=(d.nodes.length:Int) - 1:=IntWalk.i64_in _ (by omega)
 have hwg:IntKind.i64.wrap ((d.groups.length:Int) - 1)=(d.groups.length:Int) - 1:=IntWalk.i64_in _ (by omega)
 have hwc:IntKind.i64.wrap (nd.clock+1)=nd.clock+1:=IntWalk.i64_in _ (by omega)
 have H1:Hid (inB n 0 ((d.nodes.length:Int) - 1)=true):=by unfold Hid inB;simp;omega
 have H2:Hid (inB g 0 ((d.groups.length:Int) - 1)=true):=by unfold Hid inB;simp;omega
 have H3:Hid (hasB d.groups g n=true):=q3
 have h4':decide ((8:Int) < (body.size:Int))=false:=by simp;omega
 have h5':(nd.clock == 1048576)=false:=by simpa using q5
 obtain ⟨bn,on,rfl,hbn,hcn⟩:=hN1.cells (by omega)
 have k0:=(hcn n nd hnd).clk
 have n1:(n:Int) < (d.nodes.length:Int):=by omega
 obtain ⟨M,hM0⟩:∃ y,oC nd n g nul body=y:=⟨_,rfl⟩
 obtain ⟨X1,hX1⟩:∃ y,iN nd=y:=⟨_,rfl⟩
 have HMg:Hid (M.gr=g/\M.nul=nul):=by rw [<-hM0];exact ⟨rfl,rfl⟩
 rw [hM0,hX1] at hcast
 have hrows:fu (setNode d n X1):=(rH X1 hnd (by rw [<-hX1];rfl) (fun _ r h=>⟨r,by rw [<-hX1] at *;exact h,rfl⟩)).rows R.rows
 have hx1:(setNode d n X1).nodes[n]? = some X1:=by rw [fM _ hnd,if_pos rfl]
 have hl1:(setNode d n X1).nodes.length=d.nodes.length:=by simp [setNode]
 have HRW:Hid (fu (setNode d n X1)/\(setNode d n X1).nodes[n]? = some X1/\(setNode d n X1).nodes.length=d.nodes.length):=⟨hrows,hx1,hl1⟩
 have HX1:Hid (X1.held=nd.held/\X1.last=nd.last):=by rw [<-hX1];exact ⟨rfl,rfl⟩
 have HER:Hid (nd.held.length<=40/\jA d nd):=⟨by have:=R.vY n;rw [(jl hnd).2.1] at this;exact this,nP R hnd⟩
 clear hrows hx1 hl1
 have uq:=(show Hid _ from BI)
 have HOK:=(show Hid _ from hOk)
 have HR:Hid (Right d):=R
 have HC:=(show Hid _ from hcast)
 clear BI hOk q1 q2 q3 q4 q5 hcast hcn hm0
 go_enter func157,ntmps157
 go_wp2_with (first
  | (go_at_call 41;refine (aI _ _ _ _).mono ?_;(first | rw [H1.out] | rw [H2.out]);rintro e w' ⟨rfl,hw⟩;obtain rfl:=hw.symm)
  | (go_at_call 81;refine (bC ga d.groups.length gc d.groups g n w1 hG1).mono ?_;rw [H3.out];rintro e w' ⟨rfl,hw⟩;obtain rfl:=hw.symm)
  | (go_at_call 62;refine (nQ ⟨ga,d.groups.length,gc,some ⟨bn,on,none⟩,d.nodes.length,nc,wa,d.wires.length,wc⟩ d w1 hW1 hsm).mono ?_;rintro e w2 ⟨L,rfl,hO2,aY⟩;simp only [bS];obtain ⟨bm,om,cm,hL1,wG⟩:=Ae (g:=g) (nul:=nul) (body:=body) hO2 aY hnd 26 48;rw [hL1];dsimp only;obtain ⟨w3,hw3⟩:∃ y,w2.alloc (.cells #[.slice (L (0,0,0)).a d.groups.length (L (0,0,0)).cap,.slice (some ⟨bm,om,none⟩) d.nodes.length cm,.slice (L (2,0,0)).a d.wires.length (L (2,0,0)).cap] 26)=y:=⟨_,rfl⟩;obtain ⟨w4,hw4⟩:∃ y,w3.setCell ⟨bm,om+n*4,none⟩ (.int .i64 (nd.clock+1))=y:=⟨_,rfl⟩;obtain ⟨w5,hw5⟩:∃ y,w4.alloc (.cells #[.int .i64 n,.int .i64 g,.int .i64 (nd.clock+1),.bool nul,.string body] 48)=y:=⟨_,rfl⟩;obtain ⟨t1,t2,t3,t4,t5,DI,F7,BJ,DJ,mG,JC⟩:=wG w3 w4 w5 hw3 hw4 hw5;rw [hX1] at DI DJ;rw [hM0] at F7))
 clear hwp hw1 hw3 hw4 hw5 t1 t2 t3 t4 t5 wG k0 p0 p1 p2 hO2 hwk hwg hwc h4' h5' H1 H2 H3 hPp hnd hX1 hM0
 go_loopw [14] (fun i wr=>∃ (k:Nat) (dk:Wd) (Lk:Lay),k<=d.nodes.length/\i=.int .i64 k/\jg M n (setNode d n X1) k=.ok dk/\bD w1.heap.size wr w2.heap.size dk Lk/\dR wr w4.heap.size 0 M/\¬ gJ dk Lk w4.heap.size/\w4.heap.size < wr.heap.size/\Since w1 wr) (fun i _=>d.nodes.length - (intOf i).toNat)
 case atStart=>exact ⟨0,_,_,Nat.zero_le _,rfl,rfl,DI,F7,DJ,BJ,mG⟩
 case round =>
  obtain ⟨wo,rfl⟩:∃ wo,wo=wr:=⟨_,rfl⟩
  obtain ⟨k,dk,Lk,hk,rfl,Eo,hM,hMk,Af,hltk,hSr⟩:=hrel
  have hPr:=hP1.since hSr
  have p0:=hPr.c0
  dsimp only at p0
  have hGr:=hG1.since hSr
  obtain ⟨hrows,hx1,hl1⟩:=HRW.out
  have hLS:=qA hrows (by omega) k dk (by omega) Eo
  have hrk:fu dk:=hLS.alike.rows hrows
  have hNk:dk.nodes.length=d.nodes.length:=by rw [hLS.nodes];exact hl1
  have hGk:dk.groups=d.groups:=hLS.groups
  have hxk:dk.nodes[n]? = some X1:=by rw [hLS.nodes];exact hx1
  have b1:=hM.box.c1
  rw [hNk] at b1
  have hwn:(n:Int) < (dk.wires.length:Int):=by have:=hrk.1;omega
  have HK:Hid (fu dk/\dk.nodes.length=d.nodes.length/\dk.groups=d.groups/\dk.nodes[n]? = some X1):=⟨hrk,hNk,hGk,hxk⟩
  have HL:Hid (jg M n (setNode d n X1) k=.ok dk):=Eo
  obtain ⟨lt,r0,r1,r2,r3,r4,r5⟩:=hNB.since hSr
  clear hrows hx1 hl1 hLS hGk hxk Eo
  by_cases hlt:k < d.nodes.length
  ·have n2:(k:Int) < (d.nodes.length:Int):=by omega
   by_cases hkn:k=n
   ·have HL2:Hid (jg M n (setNode d n X1) (k+1)=.ok dk):=by
     unfold Hid;rw [fA,HL.out];show dX M n dk k=_;unfold dX;rw [if_pos (.inl hkn)]
    subst hkn
    clear hNk hrk
    go_wp2_with fail
    go_roundw
    case rel=>exact ⟨k+1,dk,Lk,by omega,by go_num,HL2.out,hM,hMk,Af,hltk,hSr⟩
    case measure=>simp [intOf];omega
   have hkn':((k:Int) == (n:Int))=false:=by simp;omega
   cases h3:hasB d.groups g k
   ·have HL2:Hid (jg M n (setNode d n X1) (k+1)=.ok dk):=by
     unfold Hid;rw [fA,HL.out];show dX M n dk k=_;unfold dX;rw [if_pos (.inr (by rw [HK.out.2.2.1,HMg.out.1];exact h3))]
    have H3:=(show Hid _ from h3)
    clear hNk hrk h3
    go_wp2_with (go_at_call 81;refine (bC ga d.groups.length gc d.groups g k wo hGr).mono ?_;rw [H3.out];rintro e w' ⟨rfl,hw⟩;obtain rfl:=hw.symm)
    go_roundw
    case rel=>exact ⟨k+1,dk,Lk,by omega,by go_num,HL2.out,hM,hMk,Af,hltk,hSr⟩
    case measure=>simp [intOf];omega
   have H3:=(show Hid _ from h3)
   obtain ⟨bw,ow,cw,br,oR,cr,hH⟩:=hM.BK hrk (f:=n) (t:=k) (by omega) (by omega)
   obtain ⟨la,lc,hL8⟩:∃ a c,Lk (8,n,k)=⟨a,c⟩:=⟨_,_,rfl⟩
   obtain ⟨l,hl⟩:∃ y,aG dk n k=y:=⟨_,rfl⟩
   rw [hl] at hH
   have HW:Hid (aG dk n k=l):=hl
   have HLO:Hid (dX M n dk k=if l.length=40 then .error 2 else if oQ M l then .error 1 else .ok (aQ dk n k (l++[M]))):=by
    unfold Hid dX
    rw [if_neg (by rw [HK.out.2.2.1,HMg.out.1,h3];simp;omega),hl]
   have HLY:Hid (∀ er,dX M n dk k=.error er->gU d n g nul body=.error er):=by
    intro er h
    have h1:jg M n (setNode d n X1) (k+1)=.error er:=by rw [fA,HL.out];exact h
    rw [HC.out,qH d.nodes.length (k+1) (by omega) h1];rfl
   have s2:=hH.top
   have s3:=hH.row
   have s4:=hH.cell
   rw [hNk] at s3
   rw [hL8] at s4
   dsimp only [Sl.v] at s4
   have qI:Row wo w1.heap.size 5 ⟨la,lc⟩ l.length (flat l):=by
    have h8:Row wo w1.heap.size 5 (Lk (8,n,k)) (aG dk n k).length (flat (aG dk n k)):=hM.own.row (8,n,k) (by
     obtain ⟨row,hr,hrl⟩:=row_of hrk (f:=n) (by omega)
     exact ⟨by rw [hrk.1];omega,by rw [aZ hr];omega⟩)
    rw [hl,hL8] at h8;exact h8
   have hm0:=hMk.c2
   clear h3 hl hNk hrk
   by_cases h40:l.length=40
   ·rw [h40] at s4
    have HE2:Hid (dX M n dk k=.error 2):=by unfold Hid;rw [HLO.out,if_pos h40]
    clear h40
    go_wp2_with (go_at_call 81;refine (bC ga d.groups.length gc d.groups g k wo hGr).mono ?_;rw [H3.out];rintro e w' ⟨rfl,hw⟩;obtain rfl:=hw.symm)
    refine bodyPost_ret (v:=.tuple #[.agg #[.slice none 0 0,.slice none 0 0,.slice none 0 0],.int .i64 2]) ?_ rfl (uq.out 2 (HLY.out 2 HE2.out) _ (bG hSp.size (hS1.trans hSr)))
    simp [results,results157,go_sem,r0,r1,r2]
   have HS:Hid (l.length < 40):=by
    obtain ⟨hrows,hx1,hl1⟩:=HRW.out
    have hLS:=qA hrows (by omega) k dk (by omega) HL.out
    have e:aG dk n k=aG d n k:=by rw [hLS.wire,if_neg (by unfold ng;omega)];rfl
    have h1:=HR.out.vZ n k
    rw [<-e,HW.out] at h1
    unfold Hid;omega
   have F8:((l.length:Int) == 40)=false:=by simp;omega
   have hcap:=qI.cap
   dsimp only at hcap
   rcases hz:l.length with _ | j
   ·have HZ:Hid (l.length=0):=hz
    have HLT:Hid (oQ M l=false):=by
     have:l=[]:=zQ6 hz
     subst this;rfl
    rw [hz] at s4 qI
    clear hz h40 F8 hcap
    have hne:Nonempty (Later wo):=⟨⟨wo,Since.refl wo⟩⟩
    go_wp2_with (go_at_call 81;refine (bC ga d.groups.length gc d.groups g k wo hGr).mono ?_;rw [H3.out];rintro e w' ⟨rfl,hw⟩;obtain rfl:=hw.symm)
    refine aj (by kernel_rfl) (by kernel_rfl) (Since.refl wo) ?_
    repeat (go_big_quiet_step (fail))
    refine wpQuiet_nil ?_
    intro wz hS9
    go_wp2_with fail
    obtain ⟨hrk,hNk,hGk,hxk⟩:=HK.out
    have hMz:=hM.since hS9
    have hHz:=hH.since hS9
    obtain ⟨S0,hS0⟩:∃ S0:World->Prop,∀ w',S0 w'↔(jJ w' w2.heap.size dk Lk n k l bw ow cw br oR cr/\dR w' w4.heap.size 0 M):=⟨_,fun _=>Iff.rfl⟩
    have c1:∀ y:aB S0,y.w.cell? ⟨w2.heap.size,2,none⟩=some (.slice (some ⟨bw,ow,none⟩) dk.wires.length cw):=fun y=>((hS0 _).1 y.h).1.top
    have c2:∀ y:aB S0,y.w.cell? ⟨bw,ow+n,none⟩=some (.slice (some ⟨br,oR,none⟩) d.nodes.length cr):=fun y=>by have:=((hS0 _).1 y.h).1.row;rw [hNk] at this;exact this
    have c3:∀ y:aB S0,y.w.cell? ⟨br,oR+k,none⟩=some (.slice la 0 lc):=fun y=>by have:=((hS0 _).1 y.h).1.cell;rw [hL8,HZ.out] at this;exact this
    have m0:∀ y:aB S0,y.w.cell? ⟨w4.heap.size,0,none⟩=some (.int .i64 M.fr):=fun y=>((hS0 _).1 y.h).2.c0
    have m1:∀ y:aB S0,y.w.cell? ⟨w4.heap.size,1,none⟩=some (.int .i64 M.gr):=fun y=>((hS0 _).1 y.h).2.c1
    have m2:∀ y:aB S0,y.w.cell? ⟨w4.heap.size,2,none⟩=some (.int .i64 M.st):=fun y=>((hS0 _).1 y.h).2.c2
    have m3:∀ y:aB S0,y.w.cell? ⟨w4.heap.size,3,none⟩=some (.bool M.nul):=fun y=>((hS0 _).1 y.h).2.c3
    have m4:∀ y:aB S0,y.w.cell? ⟨w4.heap.size,4,none⟩=some (.string M.body):=fun y=>((hS0 _).1 y.h).2.c4
    obtain ⟨W0,hW0⟩:∃ y,wz.drew=y:=⟨_,rfl⟩
    have hs0:=iW hW0
    have hMW:=dM hMk hltk (hS9.trans hs0)
    have hqW:w4.heap.size < W0.heap.size:=zQ4 hltk (hS9.trans hs0).size
    have aN:=(hS0 W0).2 ⟨hHz.since hs0,hMW⟩
    have hne2:Nonempty (aB S0):=⟨⟨_,aN⟩⟩
    obtain ⟨WA,hWA⟩:∃ y,W0.alloc (.cells #[.int .i64 M.fr,.int .i64 M.gr,.int .i64 M.st,.bool M.nul,.string M.body] 48)=y:=⟨_,rfl⟩
    have hsA:=au hWA
    have Ag:=(hS0 WA).2 ⟨(hHz.since hs0).since hsA,dM hMW hqW hsA⟩
    have hsrc:=dB (size:=5) (T:=48) (w:=W0) gq.und (flat [M]) (by simp [aU]) (fun u hu=>aW u _ hu) 1
    rw [show (W0.alloc (.cells (flat [M]).toArray 48))=WA from hWA] at hsrc
    have hRA:=(qI.since hS9).since (hs0.trans hsA)
    have Ep:w1.heap.size<=WA.heap.size:=zQ5 hSr.size (zQ5 hS9.size (hs0.trans hsA).size)
    have Iu:0 < 1000:=by have:=HS.out;have:=HZ.out;omega
    have HNK:Hid (fu dk/\dk.nodes.length=d.nodes.length):=⟨hrk,hNk⟩
    have HH0:=(show Hid _ from hHz.since (hs0.trans hsA))
    have HMZ:=(show Hid _ from hMz)
    have HM8:=(show Hid _ from hL8)
    clear hNk hrk hGk hxk hHz hMz s2 s3 s4 hL8
    refine kM (fun w'=>∃ x:aB S0,w'=x.w) (by kernel_rfl) ?_
    rw [hW0]
    clear hW0
    refine tL 0 rfl (ah aN) ?_;go_big_quiet_op
    refine tL 1 rfl (ah aN) ?_;go_big_quiet_op
    refine tL 2 rfl (ah aN) ?_;go_big_quiet_op
    refine tL 3 rfl (ah aN) ?_;go_big_quiet_op
    refine tL 4 rfl (ah aN) ?_;go_big_quiet_op
    refine tL 5 rfl (ah aN) ?_;go_big_quiet_op
    refine tL 6 rfl (ah aN) ?_;go_big_quiet_op
    refine tL 7 rfl (ah aN) ?_;go_big_quiet_op
    refine tL 8 rfl (ah aN) ?_;go_big_quiet_op
    refine tL 9 rfl (ah aN) ?_;go_big_quiet_op
    refine tL 10 rfl (ah aN) ?_;go_big_quiet_op
    refine tL 11 rfl (ah aN) ?_;go_big_quiet_op
    refine tL 12 rfl (ah aN) ?_;go_big_quiet_op
    refine tL 13 rfl (ah aN) ?_;go_big_quiet_op
    refine tL 14 rfl (ah aN) ?_;go_big_quiet_op
    refine eO 15 rfl (by kernel_rfl) ?_
    intro K hK
    go_simp
    refine hK _ _ (fun _ _=>ah Ag) ?_
    clear hK K
    refine eO 16 rfl (by kernel_rfl) ?_
    intro K hK
    refine dw gq (by rfl) _ _ 39 (by rfl) (by rfl) hRA (by rfl) hsrc (by omega) Ep ?_
    intro a' c' wB hRB hFB hBB
    obtain ⟨hrk,hNk⟩:=HNK.out
    have hHB:=HH0.out.fr (HMZ.out.since (hs0.trans hsA)) hrk (by omega) (by omega) (by rw [HM8.out];exact hFB)
    have hnq:¬ (Lk (8,n,k)).blk=some w4.heap.size:=fun e=>Af ⟨(8,n,k),by
     obtain ⟨row,hr,hrl⟩:=row_of hrk (f:=n) (by omega)
     exact ⟨by rw [hrk.1];omega,by rw [aZ hr];omega⟩,e⟩
    have hMB:dR wB w4.heap.size 0 M:=fC (dM hMW hqW hsA) (hFB.block _ (by have:=hS9.size;have:=hs0.size;have:=hsA.size;omega) (by rw [HM8.out] at hnq;exact hnq))
    have BL:=(hS0 wB).2 ⟨hHB,hMB⟩
    have fB:=hHB.free
    have gB:=hHB.cell
    have lB:=hHB.ltr
    rw [HM8.out,HZ.out] at gB
    dsimp only [Sl.v] at gB
    refine hK _ _ (fun _ _=>ah BL) ?_
    clear hK K
    simp only [Act.put,zQ7,zQ8,zQ9]
    refine tL 17 rfl (ah BL) ?_;go_big_quiet_op
    refine eO 18 rfl (by kernel_rfl) ?_
    intro K hK
    go_simp
    refine hK _ _ (fun h=>absurd h (by decide +kernel)) ?_
    clear hK K
    have hgw:=HMZ.out.wH (m:=M) (a':=a') (c':=c') (w1:=WA) (w2:=wB) hrk (f:=n) (t:=k) (by omega) (by omega) hH.lay (zQ5 hSr.size hS9.size) (hs0.trans hsA) (by rw [HW.out];have:=HZ.out;omega) (by rw [HW.out,HZ.out];exact hRB) (by rw [HM8.out];exact hFB) (by rw [HM8.out];exact hBB)
    rw [HW.out,HZ.out] at hgw
    obtain ⟨hMf,yj⟩:=hgw
    obtain ⟨Er,Et⟩:=yj.beside (q:=w4.heap.size) (by have:=hS9.size;omega) Af
    have Eu:=zQ4 hltk (zQ5 hS9.size yj.fr.size)
    have hSf:=yj.fr.aC (hSr.trans hS9) (fun i hi hb=>by have:=(hM.own.blk hb).1;omega)
    have HL2:Hid (jg M n (setNode d n X1) (k+1)=.ok (aQ dk n k (l++[M]))):=by
     unfold Hid;rw [fA,HL.out];show dX M n dk k=_;rw [HLO.out,if_neg (by have:=HS.out;omega),HLT.out];rfl
    have Ev:=fC (dM hMk hltk hS9) Er
    clear c1 c2 c3 m0 m1 m2 m3 m4 hNk hrk gB
    refine jS (by kernel_rfl) ?_
    go_wp2
    exact ⟨⟨k+1,_,_,by omega,by go_num,HL2.out,hMf,Ev,Et,Eu,hSf⟩,by simp [intOf];omega⟩
   ·have HZ:Hid (l.length=j+1):=hz
    obtain ⟨ml,hml⟩:∃ ml,l[j]? = some ml:=⟨_,zQ1 (by omega)⟩
    have hgl:l.getLast? = some ml:=by rw [List.getLast?_eq_getElem?,hz];exact hml
    rw [hz] at s4 qI F8
    obtain ⟨bl,ol,e8,hll,hbl,hcl,hxl⟩:=qI.body (by show 0 < lc;omega)
    dsimp only at e8
    subst e8
    have z2:=(aX hxl j ml hml).c2
    have hne:Nonempty (Later wo):=⟨⟨wo,Since.refl wo⟩⟩
    have z2L:∀ y:Later wo,y.w.cell? ⟨bl,ol+j*5+2,none⟩=some (.int .i64 ml.st):=fun y=>(y.h.cellAt hbl _).trans z2
    have m2L:∀ y:Later wo,y.w.cell? ⟨w4.heap.size,2,none⟩=some (.int .i64 M.st):=fun y=>(y.h.cellAt hltk _).trans hm0
    have JD:(j:Int)<=39:=by have:=HS.out;omega
    have hwj:IntKind.i64.wrap ((j:Int)+1 - 1)=j:=by rw [IntWalk.i64_in _ (by omega)];omega
    have F9:Hid (oQ M l=decide (M.st<=ml.st)):=by unfold Hid oQ;rw [hgl]
    clear hz h40 hcap z2 hml hgl
    cases DK:decide (M.st<=ml.st)
    ·have HLT:Hid (oQ M l=false):=by unfold Hid;rw [F9.out];exact DK
     go_wp2_with (go_at_call 81;refine (bC ga d.groups.length gc d.groups g k wo hGr).mono ?_;rw [H3.out];rintro e w' ⟨rfl,hw⟩;obtain rfl:=hw.symm)
     refine aj (by kernel_rfl) (by kernel_rfl) (Since.refl wo) ?_
     repeat (go_big_quiet_step (fail))
     refine wpQuiet_nil ?_
     intro wz hS9
     go_wp2_with fail
     clear z2L m2L
     obtain ⟨hrk,hNk,hGk,hxk⟩:=HK.out
     have hMz:=hM.since hS9
     have hHz:=hH.since hS9
     obtain ⟨S0,hS0⟩:∃ S0:World->Prop,∀ w',S0 w'↔(jJ w' w2.heap.size dk Lk n k l bw ow cw br oR cr/\dR w' w4.heap.size 0 M):=⟨_,fun _=>Iff.rfl⟩
     have c1:∀ y:aB S0,y.w.cell? ⟨w2.heap.size,2,none⟩=some (.slice (some ⟨bw,ow,none⟩) dk.wires.length cw):=fun y=>((hS0 _).1 y.h).1.top
     have c2:∀ y:aB S0,y.w.cell? ⟨bw,ow+n,none⟩=some (.slice (some ⟨br,oR,none⟩) d.nodes.length cr):=fun y=>by have:=((hS0 _).1 y.h).1.row;rw [hNk] at this;exact this
     have c3:∀ y:aB S0,y.w.cell? ⟨br,oR+k,none⟩=some (.slice (some ⟨bl,ol,none⟩) (j+1) lc):=fun y=>by have:=((hS0 _).1 y.h).1.cell;rw [hL8,HZ.out] at this;exact this
     have m0:∀ y:aB S0,y.w.cell? ⟨w4.heap.size,0,none⟩=some (.int .i64 M.fr):=fun y=>((hS0 _).1 y.h).2.c0
     have m1:∀ y:aB S0,y.w.cell? ⟨w4.heap.size,1,none⟩=some (.int .i64 M.gr):=fun y=>((hS0 _).1 y.h).2.c1
     have m2:∀ y:aB S0,y.w.cell? ⟨w4.heap.size,2,none⟩=some (.int .i64 M.st):=fun y=>((hS0 _).1 y.h).2.c2
     have m3:∀ y:aB S0,y.w.cell? ⟨w4.heap.size,3,none⟩=some (.bool M.nul):=fun y=>((hS0 _).1 y.h).2.c3
     have m4:∀ y:aB S0,y.w.cell? ⟨w4.heap.size,4,none⟩=some (.string M.body):=fun y=>((hS0 _).1 y.h).2.c4
     obtain ⟨W0,hW0⟩:∃ y,wz.drew=y:=⟨_,rfl⟩
     have hs0:=iW hW0
     have hMW:=dM hMk hltk (hS9.trans hs0)
     have hqW:w4.heap.size < W0.heap.size:=zQ4 hltk (hS9.trans hs0).size
     have aN:=(hS0 W0).2 ⟨hHz.since hs0,hMW⟩
     have hne2:Nonempty (aB S0):=⟨⟨_,aN⟩⟩
     obtain ⟨WA,hWA⟩:∃ y,W0.alloc (.cells #[.int .i64 M.fr,.int .i64 M.gr,.int .i64 M.st,.bool M.nul,.string M.body] 48)=y:=⟨_,rfl⟩
     have hsA:=au hWA
     have Ag:=(hS0 WA).2 ⟨(hHz.since hs0).since hsA,dM hMW hqW hsA⟩
     have hsrc:=dB (size:=5) (T:=48) (w:=W0) gq.und (flat [M]) (by simp [aU]) (fun u hu=>aW u _ hu) 1
     rw [show (W0.alloc (.cells (flat [M]).toArray 48))=WA from hWA] at hsrc
     have hRA:=(qI.since hS9).since (hs0.trans hsA)
     have Ep:w1.heap.size<=WA.heap.size:=zQ5 hSr.size (zQ5 hS9.size (hs0.trans hsA).size)
     have Iu:j+1 < 1000:=by have:=HS.out;have:=HZ.out;omega
     have HNK:Hid (fu dk/\dk.nodes.length=d.nodes.length):=⟨hrk,hNk⟩
     have HH0:=(show Hid _ from hHz.since (hs0.trans hsA))
     have HMZ:=(show Hid _ from hMz)
     have HM8:=(show Hid _ from hL8)
     clear hNk hrk hGk hxk hHz hMz s2 s3 s4 hL8
     refine kM (fun w'=>∃ x:aB S0,w'=x.w) (by kernel_rfl) ?_
     rw [hW0]
     clear hW0
     refine tL 0 rfl (ah aN) ?_;go_big_quiet_op
     refine tL 1 rfl (ah aN) ?_;go_big_quiet_op
     refine tL 2 rfl (ah aN) ?_;go_big_quiet_op
     refine tL 3 rfl (ah aN) ?_;go_big_quiet_op
     refine tL 4 rfl (ah aN) ?_;go_big_quiet_op
     refine tL 5 rfl (ah aN) ?_;go_big_quiet_op
     refine tL 6 rfl (ah aN) ?_;go_big_quiet_op
     refine tL 7 rfl (ah aN) ?_;go_big_quiet_op
     refine tL 8 rfl (ah aN) ?_;go_big_quiet_op
     refine tL 9 rfl (ah aN) ?_;go_big_quiet_op
     refine tL 10 rfl (ah aN) ?_;go_big_quiet_op
     refine tL 11 rfl (ah aN) ?_;go_big_quiet_op
     refine tL 12 rfl (ah aN) ?_;go_big_quiet_op
     refine tL 13 rfl (ah aN) ?_;go_big_quiet_op
     refine tL 14 rfl (ah aN) ?_;go_big_quiet_op
     refine eO 15 rfl (by kernel_rfl) ?_
     intro K hK
     go_simp
     refine hK _ _ (fun _ _=>ah Ag) ?_
     clear hK K
     refine eO 16 rfl (by kernel_rfl) ?_
     intro K hK
     refine dw gq (by rfl) _ _ 39 (by rfl) (by rfl) hRA (by rfl) hsrc (by omega) Ep ?_
     intro a' c' wB hRB hFB hBB
     obtain ⟨hrk,hNk⟩:=HNK.out
     have hHB:=HH0.out.fr (HMZ.out.since (hs0.trans hsA)) hrk (by omega) (by omega) (by rw [HM8.out];exact hFB)
     have hnq:¬ (Lk (8,n,k)).blk=some w4.heap.size:=fun e=>Af ⟨(8,n,k),by
      obtain ⟨row,hr,hrl⟩:=row_of hrk (f:=n) (by omega)
      exact ⟨by rw [hrk.1];omega,by rw [aZ hr];omega⟩,e⟩
     have hMB:dR wB w4.heap.size 0 M:=fC (dM hMW hqW hsA) (hFB.block _ (by have:=hS9.size;have:=hs0.size;have:=hsA.size;omega) (by rw [HM8.out] at hnq;exact hnq))
     have BL:=(hS0 wB).2 ⟨hHB,hMB⟩
     have fB:=hHB.free
     have gB:=hHB.cell
     have lB:=hHB.ltr
     rw [HM8.out,HZ.out] at gB
     dsimp only [Sl.v] at gB
     refine hK _ _ (fun _ _=>ah BL) ?_
     clear hK K
     simp only [Act.put,zQ7,zQ8,zQ9]
     refine tL 17 rfl (ah BL) ?_;go_big_quiet_op
     refine eO 18 rfl (by kernel_rfl) ?_
     intro K hK
     go_simp
     refine hK _ _ (fun h=>absurd h (by decide +kernel)) ?_
     clear hK K
     have hgw:=HMZ.out.wH (m:=M) (a':=a') (c':=c') (w1:=WA) (w2:=wB) hrk (f:=n) (t:=k) (by omega) (by omega) hH.lay (zQ5 hSr.size hS9.size) (hs0.trans hsA) (by rw [HW.out];have:=HZ.out;omega) (by rw [HW.out,HZ.out];exact hRB) (by rw [HM8.out];exact hFB) (by rw [HM8.out];exact hBB)
     rw [HW.out,HZ.out] at hgw
     obtain ⟨hMf,yj⟩:=hgw
     obtain ⟨Er,Et⟩:=yj.beside (q:=w4.heap.size) (by have:=hS9.size;omega) Af
     have Eu:=zQ4 hltk (zQ5 hS9.size yj.fr.size)
     have hSf:=yj.fr.aC (hSr.trans hS9) (fun i hi hb=>by have:=(hM.own.blk hb).1;omega)
     have HL2:Hid (jg M n (setNode d n X1) (k+1)=.ok (aQ dk n k (l++[M]))):=by
      unfold Hid;rw [fA,HL.out];show dX M n dk k=_;rw [HLO.out,if_neg (by have:=HS.out;omega),HLT.out];rfl
     have Ev:=fC (dM hMk hltk hS9) Er
     clear c1 c2 c3 m0 m1 m2 m3 m4 hNk hrk gB
     refine jS (by kernel_rfl) ?_
     go_wp2
     exact ⟨⟨k+1,_,_,by omega,by go_num,HL2.out,hMf,Ev,Et,Eu,hSf⟩,by simp [intOf];omega⟩
    ·have HE1:Hid (dX M n dk k=.error 1):=by unfold Hid;rw [HLO.out,if_neg (by have:=HS.out;omega),F9.out,DK];rfl
     go_wp2_with (go_at_call 81;refine (bC ga d.groups.length gc d.groups g k wo hGr).mono ?_;rw [H3.out];rintro e w' ⟨rfl,hw⟩;obtain rfl:=hw.symm)
     refine aj (by kernel_rfl) (by kernel_rfl) (Since.refl wo) ?_
     repeat (go_big_quiet_step (fail))
     refine wpQuiet_nil ?_
     intro wz hS9
     obtain ⟨lt,r0,r1,r2,r3,r4,r5⟩:=hNB.since (hSr.trans hS9)
     go_wp2_with fail
     refine bodyPost_ret (v:=.tuple #[.agg #[.slice none 0 0,.slice none 0 0,.slice none 0 0],.int .i64 1]) ?_ rfl (uq.out 1 (HLY.out 1 HE1.out) _ (bG hSp.size (hS1.trans (hSr.trans hS9))))
     simp [results,results157,go_sem,r0,r1,r2]
  ·obtain rfl:k=d.nodes.length:=by omega
   have HLN:=HL
   obtain ⟨hrk,Ga,hGk,hxk⟩:=HK.out
   have m0:=hMk.c0
   have m1:=hMk.c1
   have m2:=hMk.c2
   have m3:=hMk.c3
   have m4:=hMk.c4
   have uw:jA dk X1:=by
    obtain ⟨_,h2⟩:=HER.out
    obtain ⟨_,e2⟩:=HX1.out
    exact ⟨by rw [e2,hGk];exact h2.len,fun gg row hr=>by rw [Ga];rw [e2] at hr;exact h2.rows gg row hr⟩
   have BM:X1.held.length<=40:=by rw [HX1.out.1];exact HER.out.1
   clear hNk Ga hrk hGk hlt
   cases nul
   ·have hmn:=HMg.out.2
    cases hP:(bV M X1.held != 0)
    ·have HP:Hid (bV M X1.held=0):=by unfold Hid;simpa using hP
     obtain ⟨X3,hX3⟩:∃ y,({ X1 with held:=eU M X1.held }:Nd)=y:=⟨_,rfl⟩
     obtain ⟨D3,hD3⟩:∃ y,setNode dk n X3=y:=⟨_,rfl⟩
     have mO:=jT w1.heap.size w2.heap.size n M dk Lk X1 wo hM hxk hSr.size
     rw [hX3,hD3] at mO
     have hx3:D3.nodes[n]? = some X3:=by rw [<-hD3,fM _ hxk,if_pos rfl]
     have BN:jA D3 X3:=by rw [<-hD3,<-hX3];exact ⟨uw.len,fun gg row hr=>by have:=uw.rows gg row hr;simpa [setNode] using this⟩
     have BO:X3.held.length<=40:=by
      rw [<-hX3];show (eU M X1.held).length<=40
      rw [kg M X1.held HP.out]
      have:¬ 40<=X1.held.length:=fun h=>by have:=HP.out;unfold bV at this;split at this <;> simp_all
      omega
     have HCB:Hid (gU d n g false body=(jQ D3 n).bind fun p=>.ok p.1):=by
      unfold Hid
      rw [HC.out,HLN.out]
      show ((eZ dk n M).bind _)=_
      unfold eZ sI
      rw [hmn,hxk]
      simp only [HP.out,if_true,Bool.false_eq_true,if_false]
      rw [hX3,hD3];rfl
     have HTD:=(show Hid _ from nN hx3)
     clear hX3 hD3 hmn hxk
     cases hT:(dL D3 n X3 != 0)
     ·have HT:Hid (dL D3 n X3=0):=by unfold Hid;simpa using hT
      go_wp2_with (first
       | (go_at_call 172;refine mO.mono ?_;rintro e w6 ⟨rfl,hh1,hh2⟩;obtain ⟨L3,hM3,yt⟩:=hh2 HP.out;have qJ:=yt.fr.aC hSr (fun i hi hb=>by have:=(hM.own.blk hb).1;omega))
       | (go_at_call 63;refine (eu w1.heap.size w2.heap.size n D3 L3 X3 w6 hM3 hx3 qJ.size BN BO).mono ?_;rintro e w9 ⟨rfl,hT1,hT2⟩;obtain ⟨L4,hM4,yu⟩:=hT2 HT.out;have iB:=yu.fr.aC qJ (fun i hi hb=>by have:=(hM3.own.blk hb).1;omega);obtain ⟨lt,r0,r1,r2,r3,r4,r5⟩:=hNB.since iB;have b0:=hM4.box.c0;have b1:=hM4.box.c1;have b2:=hM4.box.c2))
      obtain ⟨hO,hSf⟩:=hM4.own.result (w0:=w) (p:=wp.heap.size) hNB.lt hSp.size (hS1.trans iB) hS1.size
      refine bodyPost_ret (v:=.tuple #[bS L4 (setNode D3 n (lS D3 n X3)),.int .i64 0]) ?_ rfl (HOK.out _ (by rw [HCB.out,HTD.out,if_pos HT.out];rfl) _ L4 hO hSf)
      simp [results,results157,go_sem,r0,r1,r2,bS]
     ·have HT:Hid (dL D3 n X3≠0):=by unfold Hid;simpa using hT
      go_wp2_with (first
       | (go_at_call 172;refine mO.mono ?_;rintro e w6 ⟨rfl,hh1,hh2⟩;obtain ⟨L3,hM3,yt⟩:=hh2 HP.out;have qJ:=yt.fr.aC hSr (fun i hi hb=>by have:=(hM.own.blk hb).1;omega))
       | (go_at_call 63;refine (eu w1.heap.size w2.heap.size n D3 L3 X3 w6 hM3 hx3 qJ.size BN BO).mono ?_;rintro e w9 ⟨rfl,hT1,hT2⟩;have iB:=qJ.trans (hT1 HT.out);obtain ⟨lt,r0,r1,r2,r3,r4,r5⟩:=hNB.since iB))
      refine bodyPost_ret (v:=.tuple #[.agg #[.slice none 0 0,.slice none 0 0,.slice none 0 0],.int .i64 (dL D3 n X3)]) ?_ rfl (uq.out _ (by rw [HCB.out,HTD.out,if_neg HT.out];rfl) _ (bG hSp.size (hS1.trans iB)))
      simp [results,results157,go_sem,r0,r1,r2,bS]
    ·have HP:Hid (bV M X1.held≠0):=by unfold Hid;simpa using hP
     have HCB:Hid (gU d n g false body=.error (bV M X1.held)):=by
      unfold Hid
      rw [HC.out,HLN.out]
      show ((eZ dk n M).bind _)=_
      unfold eZ sI
      rw [hmn,hxk]
      simp only [HP.out,Bool.false_eq_true,if_false];rfl
     clear hmn
     go_wp2_with (go_at_call 172;refine (jT w1.heap.size w2.heap.size n M dk Lk X1 wo hM hxk hSr.size).mono ?_;rintro e w6 ⟨rfl,hh1,hh2⟩;have iB:=hSr.trans (hh1 HP.out);obtain ⟨lt,r0,r1,r2,r3,r4,r5⟩:=hNB.since iB)
     refine bodyPost_ret (v:=.tuple #[.agg #[.slice none 0 0,.slice none 0 0,.slice none 0 0],.int .i64 (bV M X1.held)]) ?_ rfl (uq.out _ HCB.out _ (bG hSp.size (hS1.trans iB)))
     simp [results,results157,go_sem,r0,r1,r2,bS]
   ·have hmn:=HMg.out.2
    have HCB:Hid (gU d n g true body=(jQ dk n).bind fun p=>.ok p.1):=by
     unfold Hid
     rw [HC.out,HLN.out]
     show ((eZ dk n M).bind _)=_
     unfold eZ
     rw [hmn];rfl
    have HTD:=(show Hid _ from nN hxk)
    clear hmn
    cases hT:(dL dk n X1 != 0)
    ·have HT:Hid (dL dk n X1=0):=by unfold Hid;simpa using hT
     go_wp2_with (go_at_call 63;refine (eu w1.heap.size w2.heap.size n dk Lk X1 wo hM hxk hSr.size uw BM).mono ?_;rintro e w9 ⟨rfl,hT1,hT2⟩;obtain ⟨L4,hM4,yu⟩:=hT2 HT.out;have iB:=yu.fr.aC hSr (fun i hi hb=>by have:=(hM.own.blk hb).1;omega);obtain ⟨lt,r0,r1,r2,r3,r4,r5⟩:=hNB.since iB;have b0:=hM4.box.c0;have b1:=hM4.box.c1;have b2:=hM4.box.c2)
     obtain ⟨hO,hSf⟩:=hM4.own.result (w0:=w) (p:=wp.heap.size) hNB.lt hSp.size (hS1.trans iB) hS1.size
     refine bodyPost_ret (v:=.tuple #[bS L4 (setNode dk n (lS dk n X1)),.int .i64 0]) ?_ rfl (HOK.out _ (by rw [HCB.out,HTD.out,if_pos HT.out];rfl) _ L4 hO hSf)
     simp [results,results157,go_sem,r0,r1,r2,bS]
    ·have HT:Hid (dL dk n X1≠0):=by unfold Hid;simpa using hT
     go_wp2_with (go_at_call 63;refine (eu w1.heap.size w2.heap.size n dk Lk X1 wo hM hxk hSr.size uw BM).mono ?_;rintro e w9 ⟨rfl,hT1,hT2⟩;have iB:=hSr.trans (hT1 HT.out);obtain ⟨lt,r0,r1,r2,r3,r4,r5⟩:=hNB.since iB)
     refine bodyPost_ret (v:=.tuple #[.agg #[.slice none 0 0,.slice none 0 0,.slice none 0 0],.int .i64 (dL dk n X1)]) ?_ rfl (uq.out _ (by rw [HCB.out,HTD.out,if_neg HT.out];rfl) _ (bG hSp.size (hS1.trans iB)))
     simp [results,results157,go_sem,r0,r1,r2,bS]
theorem oW (x:WV) (d:Wd) (n g:Int) (nul:Bool) (body:ByteArray) (w:World) (hW:WAt w x d) (R:Right d) :
  Calls prog 157 #[.agg #[.slice x.ga x.gl x.gc,.slice x.na x.nl x.nc,.slice x.wa x.wl x.wc],.int .i64 n,.int .i64 g,.bool nul,.string body] w fun e w' =>
   (∀ er,gU d n g nul body=.error er->e=.returned (.tuple #[.agg #[.slice none 0 0,.slice none 0 0,.slice none 0 0],.int .i64 er])/\Since w w') /\
   (∀ d',gU d n g nul body=.ok d'->∃ L,e=.returned (.tuple #[bS L d',.int .i64 0])/\aP w.heap.size w' d' L/\Since w w'):=by
 by_cases hE:fP d n g body.size=0
 ·obtain ⟨⟨q1,q1'⟩,_⟩:=qB hE
  obtain ⟨k,rfl⟩:=Int.eq_ofNat_of_zero_le q1
  obtain ⟨nd,hnd⟩:∃ nd,d.nodes[k]? = some nd:=⟨_,zQ1 (by omega)⟩
  refine wF x d k g nul body w hW R nd hnd hE _ (fun er h w' hS=>⟨fun er' h'=>?_,fun d' h'=>?_⟩) (fun d' h w' L hO hS=>⟨fun er' h'=>?_,fun d2 h'=>?_⟩)
  ·rw [h] at h';cases h';exact ⟨rfl,hS⟩
  ·rw [h] at h';cases h'
  ·rw [h] at h';cases h'
  ·rw [h] at h';cases h';exact ⟨L,rfl,hO,hS⟩
 ·refine (rO x d n g nul body w hW hE).mono ?_
  rintro e w' ⟨rfl,hS⟩
  have h:gU d n g nul body=.error (fP d n g body.size):=by unfold gU;rw [if_neg hE]
  refine ⟨fun er h'=>?_,fun d' h'=>?_⟩
  ·rw [h] at h';cases h';exact ⟨rfl,hS⟩
  ·rw [h] at h';cases h'
def Ah (w:World) (r:Except Int Wd) (e:Ending) (w':World):Prop :=
 (∀ er,r=.error er->e=.returned (.tuple #[.agg #[.slice none 0 0,.slice none 0 0,.slice none 0 0],.int .i64 er])/\Since w w') /\
 (∀ d',r=.ok d'->∃ L,e=.returned (.tuple #[bS L d',.int .i64 0])/\aP w.heap.size w' d' L/\Since w w')
theorem gu {w:World} {er:Int} {w':World} (hS:Since w w'):Ah w (.error er) (.returned (.tuple #[.agg #[.slice none 0 0,.slice none 0 0,.slice none 0 0],.int .i64 er])) w' :=
 ⟨fun _ h=>(by cases h;exact ⟨rfl,hS⟩),fun _ h=>(by cases h)⟩
theorem mq {w:World} {d:Wd} {L:Lay} {w':World} (hO:aP w.heap.size w' d L) (hS:Since w w'):Ah w (.ok d) (.returned (.tuple #[bS L d,.int .i64 0])) w' :=
 ⟨fun _ h=>(by cases h),fun _ h=>(by cases h;exact ⟨L,rfl,hO,hS⟩)⟩
theorem iO (x:WV) (d:Wd) (n g:Int) (nul:Bool) (body:ByteArray) (w:World) (hW:WAt w x d) :
  Calls prog 134 #[.agg #[.slice x.ga x.gl x.gc,.slice x.na x.nl x.nc,.slice x.wa x.wl x.wc],.int .i64 n,.int .i64 g,.bool nul,.string body] w fun e w'=>Hid (Ah w (checked d (gU d n g nul body)) e w'):=by
 obtain ⟨ga,gl,gc,na,nl,nc,wa,wl,wc⟩:=x
 dsimp only
 obtain ⟨wp,hwp⟩:∃ wp,w.alloc (.cells #[.slice ga gl gc,.slice na nl nc,.slice wa wl wc] 26)=wp:=⟨_,rfl⟩
 have hPp:aT wp w.heap.size ⟨ga,gl,gc,na,nl,nc,wa,wl,wc⟩:=by rw [<-hwp];exact aT.new w ⟨ga,gl,gc,na,nl,nc,wa,wl,wc⟩ _
 have hSp:=au hwp
 obtain ⟨w1,hw1⟩:∃ w1,wp.alloc (.cells #[.slice none 0 0,.slice none 0 0,.slice none 0 0] 26)=w1:=⟨_,rfl⟩
 have hNB:bQ w1 wp.heap.size:=by rw [<-hw1];exact bQ.new wp _
 have iI:=au hw1
 have hP1:=hPp.since iI
 have hS1:=hSp.trans iI
 have hW1:=hW.since hS1
 have p0:=hP1.c0
 have p1:=hP1.c1
 have p2:=hP1.c2
 dsimp only at p0 p1 p2
 have PF:Hid (∀ y,Since w1 y->aT y w.heap.size ⟨ga,gl,gc,na,nl,nc,wa,wl,wc⟩):=fun y hy=>hP1.since hy
 cases hE:(aA d != 0)
 ·have HE:Hid (aA d=0):=by unfold Hid;simpa using hE
  obtain ⟨r,hr⟩:∃ r,gU d n g nul body=r:=⟨_,rfl⟩
  rw [hr]
  cases r with
  | error er =>
   have HF:Hid (checked d (.error er:Except Int Wd)=.error er):=by unfold Hid checked;rw [if_pos HE.out]
   have HRR:=(show Hid _ from hr)
   clear hr
   go_enter func134,ntmps134
   go_wp2_with (first
    | (go_at_call 18;refine (fH w1 _ ⟨ga,gl,gc,na,nl,nc,wa,wl,wc⟩ d hW1 (Since.refl _)).mono ?_;rintro e w2 ⟨rfl,hS2⟩;obtain ⟨lt2,f0,f1,f2⟩:=PF.out _ hS2;dsimp only at f0 f1 f2)
    | (go_at_call 157;refine (oW ⟨ga,gl,gc,na,nl,nc,wa,wl,wc⟩ d n g nul body w2 (hW1.since hS2) ((jr d).1 HE.out)).mono ?_;rintro e w3 ⟨hR,_⟩;obtain ⟨rfl,hS3⟩:=hR er HRR.out;have hSr:=hS2.trans hS3;obtain ⟨lt,r0,r1,r2,r3,r4,r5⟩:=hNB.since hSr))
   refine bodyPost_ret (v:=.tuple #[.agg #[.slice none 0 0,.slice none 0 0,.slice none 0 0],.int .i64 er]) ?_ rfl (by unfold Hid;rw [HF.out];exact gu (bG hSp.size (hS1.trans hSr)))
   simp [results,results134,go_sem,r0,r1,r2]
  | ok d' =>
   have HF:Hid (checked d (.ok d')=.ok d'):=by unfold Hid checked;rw [if_pos HE.out]
   have HRR:=(show Hid _ from hr)
   clear hr
   go_enter func134,ntmps134
   go_wp2_with (first
    | (go_at_call 18;refine (fH w1 _ ⟨ga,gl,gc,na,nl,nc,wa,wl,wc⟩ d hW1 (Since.refl _)).mono ?_;rintro e w2 ⟨rfl,hS2⟩;obtain ⟨lt2,f0,f1,f2⟩:=PF.out _ hS2;dsimp only at f0 f1 f2)
    | (go_at_call 157;refine (oW ⟨ga,gl,gc,na,nl,nc,wa,wl,wc⟩ d n g nul body w2 (hW1.since hS2) ((jr d).1 HE.out)).mono ?_;rintro e w3 ⟨_,hR⟩;obtain ⟨L,rfl,hO,hS3⟩:=hR d' HRR.out;simp only [bS];have hSr:=hS2.trans hS3;obtain ⟨lt,r0,r1,r2,r3,r4,r5⟩:=hNB.since hSr))
   obtain ⟨hO2,hSf⟩:=hO.result (w0:=w) (p:=wp.heap.size) (zQ4 hNB.lt hS2.size) hSp.size (hS1.trans hSr) (zQ5 hS1.size hS2.size)
   refine bodyPost_ret (v:=.tuple #[bS L d',.int .i64 0]) ?_ rfl (by unfold Hid;rw [HF.out];exact mq hO2 hSf)
   simp [results,results134,go_sem,r0,r1,r2,bS]
 ·have HE:Hid (aA d≠0):=by unfold Hid;simpa using hE
  have HF:Hid (checked d (gU d n g nul body)=.error (aA d)):=by unfold Hid checked;rw [if_neg HE.out]
  go_enter func134,ntmps134
  go_wp2_with (go_at_call 18;refine (fH w1 _ ⟨ga,gl,gc,na,nl,nc,wa,wl,wc⟩ d hW1 (Since.refl _)).mono ?_;rintro e w2 ⟨rfl,hS2⟩;obtain ⟨lt,r0,r1,r2,r3,r4,r5⟩:=hNB.since hS2)
  refine bodyPost_ret (v:=.tuple #[.agg #[.slice none 0 0,.slice none 0 0,.slice none 0 0],.int .i64 (aA d)]) ?_ rfl (by unfold Hid;rw [HF.out];exact gu (bG hSp.size (hS1.trans hS2)))
  simp [results,results134,go_sem,r0,r1,r2]
end Go.Proofs.Ytiiifecfdkjmbaa
