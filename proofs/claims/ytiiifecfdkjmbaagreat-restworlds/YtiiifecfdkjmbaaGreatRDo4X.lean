/- Lemmas. Lemmas. -/
import Derived.Test.YtiiifecfdkjmbaaGreatSCalmX
import Derived.Test.YtiiifecfdkjmbaaGreatRCalmX
set_option maxHeartbeats 2000000
namespace Go.Proofs.YtiiifecfdkjmbaaGreat
open _root_.Go.Proofs.Tryz hiding checked
set_option maxRecDepth 8000
open Go.RowKit Go.Shelf
open Pu
theorem BJ {e:Int}:∀ (k:Nat) (d:Wd),lM k d=.error e->e≠0
 | 0,d,h=>by cases h
 | k+1,d,h=>by
  unfold lM at h
  rcases iQ h with h | ⟨r,_,h⟩
  ·exact wZ h
  ·exact BJ k r.1 h
theorem LK {d:Wd} {e:Int} (h:tN d=.error e):e≠0:=by
 unfold tN at h
 rcases iQ h with h | ⟨r,_,h⟩
 ·exact oW h
 ·exact BJ 4 r.1 h
theorem Gw {α:Type} {d:Wd} {r:Except Int α} {e:Int} (hr:∀ e,r=.error e->e≠0) (h:checked d r=.error e):e≠0:=by
 unfold checked at h
 split at h
 ·exact hr e h
 ·rename_i hz;cases h;exact hz
theorem NQ {d:Wd} {a:Ac} {e:Int} (h:doD d a=.error e):e≠0:=by
 by_cases h4:a.kind=4
 ·obtain ⟨k,o,t,b⟩:=a
  dsimp only at h4
  subst h4
  exact Gw (fun _ h=>LK h) (show checked d (tN d)=.error e from h)
 ·exact LM h4 h
set_option linter.unusedVariables false
set_option linter.unusedSimpArgs false
theorem xg (x:WV) (d:Wd) (a:Ac) (w:World) (hW:WAt w x d) :
  Calls prog 53 #[.agg #[.slice x.ga x.gl x.gc,.slice x.na x.nl x.nc,.slice x.wa x.wl x.wc],acV a] w fun e w'=>Hid (sZ w (doD d a) e w'):=by
 obtain ⟨ga,gl,gc,na,nl,nc,wa,wl,wc⟩:=x
 obtain ⟨kind,one,two,body⟩:=a
 unfold acV
 dsimp only
 obtain ⟨wq,hwq⟩:∃ wp,w.alloc (.cells #[.slice ga gl gc,.slice na nl nc,.slice wa wl wc] 26)=wp:=⟨_,rfl⟩
 have hPq:aG wq w.heap.size ⟨ga,gl,gc,na,nl,nc,wa,wl,wc⟩:=by rw [<-hwq];exact aG.new w ⟨ga,gl,gc,na,nl,nc,wa,wl,wc⟩ _
 have hSq:=au hwq
 obtain ⟨wp,hwp⟩:∃ wp,wq.alloc (.cells #[.int .i64 kind,.int .i64 one,.int .i64 two,.string body] 58)=wp:=⟨_,rfl⟩
 have Ep:=au hwp
 have hlq:wq.heap.size < wp.heap.size:=by rw [<-hwp];simp
 have a0:wp.cell? ⟨wq.heap.size,0,none⟩=some (.int .i64 kind):=by rw [<-hwp];simp [go_sem]
 have a1:wp.cell? ⟨wq.heap.size,1,none⟩=some (.int .i64 one):=by rw [<-hwp];simp [go_sem]
 have a2:wp.cell? ⟨wq.heap.size,2,none⟩=some (.int .i64 two):=by rw [<-hwp];simp [go_sem]
 have a3:wp.cell? ⟨wq.heap.size,3,none⟩=some (.string body):=by rw [<-hwp];simp [go_sem]
 have hSp:=hSq.trans Ep
 obtain ⟨w1,hw1⟩:∃ w1,wp.alloc (.cells #[.slice none 0 0,.slice none 0 0,.slice none 0 0] 26)=w1:=⟨_,rfl⟩
 have hNB:aC w1 wp.heap.size:=by rw [<-hw1];exact aC.new wp _
 have bU:=au hw1
 have hP1:=hPq.since (Ep.trans bU)
 have hS1:=hSp.trans bU
 have hW1:=hW.since hS1
 have p0:=hP1.c0
 have p1:=hP1.c1
 have p2:=hP1.c2
 dsimp only at p0 p1 p2
 have d0:=(bU.cellAt hlq _).trans a0
 have d1:=(bU.cellAt hlq _).trans a1
 have d2:=(bU.cellAt hlq _).trans a2
 have d3:=(bU.cellAt hlq _).trans a3
 clear a0 a1 a2 a3
 by_cases h1:kind=1
 ·subst h1
  obtain ⟨r,hr⟩:∃ r,doD d ⟨1,one,two,body⟩=r:=⟨_,rfl⟩
  rw [hr]
  have HRR:=(show Hid _ from hr)
  clear hr
  cases r with
  | error er =>
   go_enter func53,ntmps53
   go_wp2_with (go_at_call 28;refine (vJ ⟨ga,gl,gc,na,nl,nc,wa,wl,wc⟩ d one two body w1 hW1).mono ?_;rintro e w3 hR3;obtain ⟨rfl,hS3⟩:=hR3.out.1 er HRR.out;obtain ⟨lt,r0,r1,r2,r3,r4,r5⟩:=hNB.since hS3)
   refine bodyPost_ret (v:=.tuple #[.agg #[.slice none 0 0,.slice none 0 0,.slice none 0 0],.int .i64 er]) ?_ rfl (dJ (aK hSp.size (hS1.trans hS3)))
   simp [results,results53,go_sem,r0,r1,r2]
  | ok d' =>
   go_enter func53,ntmps53
   go_wp2_with (go_at_call 28;refine (vJ ⟨ga,gl,gc,na,nl,nc,wa,wl,wc⟩ d one two body w1 hW1).mono ?_;rintro e w3 hR3;obtain ⟨L,rfl,hO,hS3⟩:=hR3.out.2 d' HRR.out;simp only [aI];obtain ⟨lt,r0,r1,r2,r3,r4,r5⟩:=hNB.since hS3)
   obtain ⟨hO2,hSf⟩:=hO.result (w0:=w) (p:=wp.heap.size) hNB.lt hSp.size (hS1.trans hS3) hS1.size
   refine bodyPost_ret (v:=.tuple #[aI L d',.int .i64 0]) ?_ rfl (fF hO2 hSf)
   simp [results,results53,go_sem,r0,r1,r2,aI]
 by_cases h2:kind=2
 ·subst h2
  obtain ⟨r,hr⟩:∃ r,doD d ⟨2,one,two,body⟩=r:=⟨_,rfl⟩
  rw [hr]
  have HRR:=(show Hid _ from hr)
  clear hr
  cases r with
  | error er =>
   go_enter func53,ntmps53
   go_wp2_with (go_at_call 32;refine (pY ⟨ga,gl,gc,na,nl,nc,wa,wl,wc⟩ d one two w1 hW1).mono ?_;rintro e w3 hR3;obtain ⟨rfl,hS3⟩:=hR3.out.1 er HRR.out;obtain ⟨lt,r0,r1,r2,r3,r4,r5⟩:=hNB.since hS3)
   refine bodyPost_ret (v:=.tuple #[.agg #[.slice none 0 0,.slice none 0 0,.slice none 0 0],.int .i64 er]) ?_ rfl (dJ (aK hSp.size (hS1.trans hS3)))
   simp [results,results53,go_sem,r0,r1,r2]
  | ok d' =>
   go_enter func53,ntmps53
   go_wp2_with (go_at_call 32;refine (pY ⟨ga,gl,gc,na,nl,nc,wa,wl,wc⟩ d one two w1 hW1).mono ?_;rintro e w3 hR3;obtain ⟨L,rfl,hO,hS3⟩:=hR3.out.2 d' HRR.out;simp only [aI];obtain ⟨lt,r0,r1,r2,r3,r4,r5⟩:=hNB.since hS3)
   obtain ⟨hO2,hSf⟩:=hO.result (w0:=w) (p:=wp.heap.size) hNB.lt hSp.size (hS1.trans hS3) hS1.size
   refine bodyPost_ret (v:=.tuple #[aI L d',.int .i64 0]) ?_ rfl (fF hO2 hSf)
   simp [results,results53,go_sem,r0,r1,r2,aI]
 by_cases h3:kind=3
 ·subst h3
  obtain ⟨r,hr⟩:∃ r,doD d ⟨3,one,two,body⟩=r:=⟨_,rfl⟩
  rw [hr]
  have HRR:=(show Hid _ from hr)
  clear hr
  cases r with
  | error er =>
   go_enter func53,ntmps53
   go_wp2_with (go_at_call 33;refine (qO ⟨ga,gl,gc,na,nl,nc,wa,wl,wc⟩ d one two w1 hW1).mono ?_;rintro e w3 hR3;obtain ⟨rfl,hS3⟩:=hR3.out.1 er HRR.out;obtain ⟨lt,r0,r1,r2,r3,r4,r5⟩:=hNB.since hS3)
   refine bodyPost_ret (v:=.tuple #[.agg #[.slice none 0 0,.slice none 0 0,.slice none 0 0],.int .i64 er]) ?_ rfl (dJ (aK hSp.size (hS1.trans hS3)))
   simp [results,results53,go_sem,r0,r1,r2]
  | ok d' =>
   go_enter func53,ntmps53
   go_wp2_with (go_at_call 33;refine (qO ⟨ga,gl,gc,na,nl,nc,wa,wl,wc⟩ d one two w1 hW1).mono ?_;rintro e w3 hR3;obtain ⟨L,rfl,hO,hS3⟩:=hR3.out.2 d' HRR.out;simp only [aI];obtain ⟨lt,r0,r1,r2,r3,r4,r5⟩:=hNB.since hS3)
   obtain ⟨hO2,hSf⟩:=hO.result (w0:=w) (p:=wp.heap.size) hNB.lt hSp.size (hS1.trans hS3) hS1.size
   refine bodyPost_ret (v:=.tuple #[aI L d',.int .i64 0]) ?_ rfl (fF hO2 hSf)
   simp [results,results53,go_sem,r0,r1,r2,aI]
 by_cases h4:kind=4
 ·subst h4
  obtain ⟨r,hr⟩:∃ r,doD d ⟨4,one,two,body⟩=r:=⟨_,rfl⟩
  rw [hr]
  have HRR:=(show Hid _ from hr)
  clear hr
  cases r with
  | error er =>
   go_enter func53,ntmps53
   go_wp2_with (go_at_call 46;refine (vK ⟨ga,gl,gc,na,nl,nc,wa,wl,wc⟩ d w1 hW1).mono ?_;rintro e w3 hR3;obtain ⟨rfl,hS3⟩:=hR3.out.1 er HRR.out;obtain ⟨lt,r0,r1,r2,r3,r4,r5⟩:=hNB.since hS3)
   refine bodyPost_ret (v:=.tuple #[.agg #[.slice none 0 0,.slice none 0 0,.slice none 0 0],.int .i64 er]) ?_ rfl (dJ (aK hSp.size (hS1.trans hS3)))
   simp [results,results53,go_sem,r0,r1,r2]
  | ok d' =>
   go_enter func53,ntmps53
   go_wp2_with (go_at_call 46;refine (vK ⟨ga,gl,gc,na,nl,nc,wa,wl,wc⟩ d w1 hW1).mono ?_;rintro e w3 hR3;obtain ⟨L,rfl,hO,hS3⟩:=hR3.out.2 d' HRR.out;simp only [aI];obtain ⟨lt,r0,r1,r2,r3,r4,r5⟩:=hNB.since hS3)
   obtain ⟨hO2,hSf⟩:=hO.result (w0:=w) (p:=wp.heap.size) hNB.lt hSp.size (hS1.trans hS3) hS1.size
   refine bodyPost_ret (v:=.tuple #[aI L d',.int .i64 0]) ?_ rfl (fF hO2 hSf)
   simp [results,results53,go_sem,r0,r1,r2,aI]
 have b1:(kind == 1)=false:=by simpa using h1
 have b2:(kind == 2)=false:=by simpa using h2
 have b3:(kind == 3)=false:=by simpa using h3
 have b4:(kind == 4)=false:=by simpa using h4
 have HF:Hid (doD d ⟨kind,one,two,body⟩=.error 6):=by unfold Hid doD;dsimp only;rw [if_neg h1,if_neg h2,if_neg h3,if_neg h4]
 clear h1 h2 h3 h4
 obtain ⟨lt,r0,r1,r2,r3,r4,r5⟩:=hNB
 go_enter func53,ntmps53
 go_wp2
 refine bodyPost_ret (v:=.tuple #[.agg #[.slice none 0 0,.slice none 0 0,.slice none 0 0],.int .i64 6]) ?_ rfl (by unfold Hid;rw [HF.out];exact dJ (aK hSp.size hS1))
 simp [results,results53,go_sem,r0,r1,r2]
theorem Er (cnt nodes:Nat) (hc:cnt<=1000) (hn:nodes<=1000) (w:World) :
  Calls prog 165 #[.int .i64 cnt,.int .i64 nodes] w fun e w'=>∃ (s:Sl) (rs:Nat->Sl),e=.returned (s.v cnt)/\dR 1 oZ w.heap.size w' s rs (List.replicate cnt (List.replicate nodes (0:Int)))/\Since w w':=by
 obtain ⟨xss,hxs⟩:∃ xss:List (List Int),List.replicate cnt (List.replicate nodes (0:Int))=xss:=⟨_,rfl⟩
 have hlen:xss.length=cnt:=by rw [<-hxs];simp
 have HAT:Hid (∀ j,j < cnt->xss[j]? = some (List.replicate nodes (0:Int))):=fun j hj=>by rw [<-hxs,List.getElem?_replicate,if_pos hj]
 rw [hxs]
 clear hxs
 subst hlen
 have Pg:=fun y=>run_make_row' (P:=prog) 43 22 (.slice none 0 0) 24 (by kernel_rfl) (by kernel_rfl) rfl .i64 .i64 xss.length (by omega) (by omega) y
 have QH:=fun y=>run_make_row' (P:=prog) 22 3 (.int .i64 0) 8 (by kernel_rfl) (by kernel_rfl) rfl .i64 .i64 nodes (by omega) (by omega) y
 obtain ⟨w1,hw1⟩:∃ w1,w.alloc (.cells (madeCells #[.slice none 0 0] xss.length) 22)=w1:=⟨_,rfl⟩
 have hS1:=au hw1
 have Es:dR 1 oZ w.heap.size w1 ⟨some ⟨w.heap.size,0,none⟩,xss.length⟩ (fun _=>⟨none,0⟩) (List.replicate xss.length ([]:List Int)):=by
  rw [<-hw1];exact dR.made rfl w.heap.size w xss.length _ (Nat.le_refl _) (by unfold maxLen;omega)
 go_enter func165,ntmps165
 go_wp2
 go_loopw [11] (fun i wr=>∃ (j:Nat) (rs:Nat->Sl),j<=xss.length/\i=.int .i64 j/\dR 1 oZ w.heap.size wr ⟨some ⟨w.heap.size,0,none⟩,xss.length⟩ rs (xss.take j++List.replicate (xss.length - j) [])/\Since w wr) (fun i _=>xss.length - (intOf i).toNat)
 case atStart=>exact ⟨0,_,Nat.zero_le _,rfl,by simpa using Es,hS1⟩
 case round =>
  clear Es hw1 hS1 Pg
  obtain ⟨wo,rfl⟩:∃ wo,wo=wr:=⟨_,rfl⟩
  obtain ⟨j,rs,hj,rfl,hLL,hS⟩:=hrel
  by_cases hlt:j < xss.length
  ·have n1:(j:Int) < (xss.length:Int):=by omega
   have hlen:(xss.take j++List.replicate (xss.length - j) ([]:List Int)).length=xss.length:=by simp;omega
   obtain ⟨w2,hw2⟩:∃ y,wo.alloc (.cells (madeCells #[.int .i64 0] nodes) 3)=y:=⟨_,rfl⟩
   have hS2:=au hw2
   have mh:Row w2 wo.heap.size 1 ⟨some ⟨wo.heap.size,0,none⟩,nodes⟩ (List.replicate nodes (0:Int)).length (oZ (List.replicate nodes 0)):=by
    have:=Row.new wo wo.heap.size 1 (madeCells #[.int .i64 0] nodes) 3 nodes (Nat.le_refl _) (by rw [size_madeCells];omega) (by unfold maxLen;omega)
    rw [xq,hw2] at this
    unfold oZ;rw [List.map_replicate,List.length_replicate];exact this
   have Et:=hLL.since hS2
   obtain ⟨b',o',e',_,hblt,hall,_⟩:=Et.top.body (by show 0 < xss.length;omega)
   dsimp only at e'
   cases e'
   obtain ⟨q1,q2⟩:=hall j (by show j < xss.length*1;omega)
   rw [Nat.zero_add] at q1 q2
   obtain ⟨u,hu⟩:=Option.isSome_iff_exists.1 q1
   have HL:Hid ((xss.take j++List.replicate (xss.length - j) ([]:List Int)).length=xss.length):=hlen
   clear hall q1 hlen
   go_wp2
   go_roundw
   case rel =>
    have hput:=Et.put (k:=j) (by rw [HL.out];exact hlt) rfl (mh.mono hS.size) (fun c hc=>by
     have hge:=mh.eD c hc
     refine ⟨fun e=>?_,fun i _ hi e=>?_⟩
     ·have:=(hLL.blk (.inl e)).2;omega
     ·have:=(hLL.blk (.inr ⟨i,hi,e⟩)).2;omega)
    rw [take_set xss j _ (HAT.out j hlt),Nat.zero_add,List.length_replicate] at hput
    exact ⟨j+1,_,by omega,by go_num,hput,⟨(hS.trans hS2).below.setCell (p:=⟨w.heap.size,j,none⟩) (Nat.le_refl _) _⟩⟩
   case measure=>simp [intOf];omega
  ·obtain rfl:j=xss.length:=by omega
   rw [Nat.sub_self,List.replicate_zero,List.append_nil,List.take_of_length_le (Nat.le_refl _)] at hLL
   go_wp2
   go_ret
   exact ⟨⟨some ⟨w.heap.size,0,none⟩,xss.length⟩,rs,rfl,hLL,hS⟩
theorem AX (nodes:Nat) (hn:nodes<=4) (l:List Int) (hl:l.length<=3) (a:Option Addr) (cap:Nat) (w:World) (hI:Ints w a l.length l) (hE:eX (nodes:Int) l=0) :
  Calls prog 108 #[.int .i64 nodes,.slice a l.length cap] w fun e w'=>Hid (sZ w (.ok (iI nodes l)) e w'):=by
 obtain ⟨w1,hw1⟩:∃ w1,w.alloc (.cells #[.slice none 0 0,.slice none 0 0,.slice none 0 0] 26)=w1:=⟨_,rfl⟩
 have hNB:aC w1 w.heap.size:=by rw [<-hw1];exact aC.new w _
 have hS1:=au hw1
 have hI1:=hI.since hS1
 have hC:=wY nodes a l.length cap l w1 hI1
 rw [hE] at hC
 obtain ⟨w2,hw2⟩:∃ y,w1.alloc (.cells #[.int .i64 nodes] 3)=y:=⟨_,rfl⟩
 have dw:=au hw2
 rw [hw2] at hC
 have hS2:=hS1.trans dw
 have hCl:=oD a l.length cap l w2 (hI1.since dw) (by omega)
 clear hE hw2
 go_enter func108,ntmps108
 go_wp2_with (first
  | (go_at_call 158;refine hC.mono ?_;rintro e w3 ⟨rfl,hw3⟩;obtain rfl:=hw3.symm)
  | (go_at_call 164;refine hCl.mono ?_;rintro e w3 ⟨⟨ga,gc⟩,rfl,hR3,Eu⟩;unfold Sl.v;dsimp only))
 obtain ⟨w4,hw4⟩:∃ w4,w3.alloc (.cells #[.slice ga l.length gc,.slice none 0 0,.slice none 0 0] 26)=w4:=⟨_,rfl⟩
 rw [hw4]
 have qP:=au hw4
 have hM0:bQ w2.heap.size w4 w3.heap.size (eU nodes l 0) (fun ix=>if ix=(0,0,0) then ⟨ga,gc⟩ else ⟨none,0⟩):=by
  have hO:=aU.start (gs:=l) hR3 (by omega)
  refine ⟨hO.since qP, ?_,fun hb=>?_⟩
  ·rw [<-hw4];constructor <;> simp [go_sem,eU]
  ·have:=(hO.blk hb).2;omega
 have SQ:=Eu.trans qP
 have hp3:w2.heap.size<=w3.heap.size:=Eu.size
 have QI:=hNB.since dw
 have QH:=fun y=>run_make_row' (P:=prog) 40 39 (.slice none 0 0) 24 (by kernel_rfl) (by kernel_rfl) rfl .i64 .i64 nodes (by omega) (by omega) y
 clear hw4 hR3 qP hC hCl hw1
 go_loopw [19] (fun i wr=>∃ k:Nat,k<=nodes/\i=.int .i64 k/\(∃ L,bQ w2.heap.size wr w3.heap.size (eU nodes l k) L)/\Since w2 wr) (fun i _=>nodes - (intOf i).toNat)
 case atStart=>exact ⟨0,Nat.zero_le _,rfl,⟨_,hM0⟩,SQ⟩
 case round =>
  obtain ⟨wo,rfl⟩:∃ wo,wo=wr:=⟨_,rfl⟩
  obtain ⟨k,hk,rfl,⟨L,hM⟩,hSr⟩:=hrel
  clear hM0
  by_cases hlt:k < nodes
  ·obtain ⟨x,hx⟩:∃ x:Nd,x=⟨0,List.replicate l.length (List.replicate nodes 0),[],[]⟩:=⟨_,rfl⟩
   obtain ⟨na,nc,hL1⟩:∃ na nc,L (1,0,0)=⟨na,nc⟩:=⟨_,_,rfl⟩
   have n1:(k:Int) < (nodes:Int):=by omega
   have b1:wo.cell? ⟨w3.heap.size,1,none⟩=some (.slice na k nc):=by have:=hM.box.c1;rw [hL1] at this;simpa [eU] using this
   have hpl:w3.heap.size < wo.heap.size:=hM.box.lt
   have hRn:Row wo w2.heap.size 4 ⟨na,nc⟩ k (dF (eU nodes l k) L (1,0,0)):=by
    have:Row wo w2.heap.size 4 (L (1,0,0)) (eU nodes l k).nodes.length (dF (eU nodes l k) L (1,0,0)):=hM.own.row (1,0,0) ⟨rfl,rfl⟩
    rw [hL1] at this;simpa [eU] using this
   obtain ⟨S0,hS0⟩:∃ S0:World->Prop,∀ w',S0 w'↔Since wo w':=⟨_,fun _=>Iff.rfl⟩
   have c1:∀ y:aj S0,y.w.cell? ⟨w3.heap.size,1,none⟩=some (.slice na k nc):=fun y=>(((hS0 _).1 y.h).cellAt hpl _).trans b1
   obtain ⟨W0,hW0⟩:∃ y,wo.drew=y:=⟨_,rfl⟩
   have hs0:=bM hW0
   have av:=(hS0 W0).2 hs0
   have hne:Nonempty (aj S0):=⟨⟨_,av⟩⟩
   have dG:=aQ w
   go_wp2_with fail
   refine aS (fun w'=>∃ x:aj S0,w'=x.w) (by kernel_rfl) ?_
   rw [hW0]
   clear hW0
   refine tW 0 rfl ?_;go_big_quiet_op
   refine tM 1 rfl (ah av) ?_;go_big_quiet_op
   refine tW 2 rfl ?_;go_big_quiet_op
   refine tM 3 rfl (ah av) ?_;go_big_quiet_op
   refine tW 4 rfl ?_;go_big_quiet_op
   refine aT 5 rfl (by kernel_rfl) ?_
   intro K hK
   go_simp
   refine (Er l.length nodes (by omega) (by omega) W0).mono ?_
   rintro e W1 ⟨⟨sa,sc⟩,rs,rfl,hLL,hs1⟩
   unfold Sl.v
   dsimp only
   have QJ:=hs0.trans hs1
   have vL:=(hS0 W1).2 QJ
   refine hK _ _ (fun _ _=>ah vL) ?_
   clear hK K
   refine tW 6 rfl ?_;go_big_quiet_op
   refine aT 7 rfl (by kernel_rfl) ?_
   intro K hK
   go_simp
   have hs2:Since W1 (W1.alloc (.cells #[.int .i64 0,.slice sa l.length sc,.slice none 0 0,.slice none 0 0] 45)):=(Since.refl W1).alloc _
   have hsrc:=gP (size:=4) (T:=45) (w:=W1) mo.und [.int .i64 0,.slice sa l.length sc,.slice none 0 0,.slice none 0 0] rfl (fun u hu=>by simp at hu;rcases hu with rfl | rfl | rfl <;> rfl) 1
   have JV:=QJ.trans hs2
   have zh:=(hS0 _).2 JV
   refine hK _ _ (fun _ _=>ah zh) ?_
   clear hK K
   refine aT 8 rfl (by kernel_rfl) ?_
   intro K hK
   refine bF mo (by rfl) _ _ 23 (by rfl) (by rfl) (hRn.since JV) (by rfl) hsrc (by omega) (zQ5 hSr.size JV.size) ?_
   intro na' nc' w10 CP zi Gx
   have AY:=(hM.box.since JV).fr zi (fun e=>hM.off ⟨(1,0,0),⟨rfl,rfl⟩,by rw [hL1];exact e⟩)
   have q1:=AY.c1
   have q2:=AY.z1
   refine hK _ _ (fun h=>absurd h (by decide +kernel)) ?_
   clear hK K
   simp only [Act.put,zQ7,zQ8,zQ9]
   refine tW 9 rfl ?_;go_big_quiet_op
   refine aT 10 rfl (by kernel_rfl) ?_
   intro K hK
   go_simp
   refine hK _ _ (fun h=>absurd h (by decide +kernel)) ?_
   clear hK K
   refine dB (by kernel_rfl) ?_
   have hNd:mY wo.heap.size (W1.alloc (.cells #[.int .i64 0,.slice sa l.length sc,.slice none 0 0,.slice none 0 0] 45)) x ⟨sa,sc⟩ rs ⟨none,0⟩ ⟨none,0⟩:=by
    rw [hx]
    exact ⟨(hLL.since hs2).mono hs0.size,Row.nil _ _ _,Row.nil _ _ _,fun b e=>(by cases e),fun b e=>(by cases e)⟩
   have nK:=hM.addNode (a':=na') (c':=nc') (w':=w10) JV hNd hSr.size (by rw [hx];refine ⟨by simp;omega,fun i r hr=>?_,by simp,by simp⟩;(have:=zQ2.1 hr;obtain ⟨h1,h2⟩:=this;simp at h2;rw [<-h2];simp;omega)) (by simp [eU];omega)
    (by rw [hx];simpa [eU,Sl.v] using CP) (by rw [hL1];exact zi) (by rw [hL1];exact Gx)
   obtain ⟨w11,Ev⟩:∃ w11,w10.setCell ⟨w3.heap.size,1,none⟩ (.slice na' (k+1) nc')=w11:=⟨_,rfl⟩
   have Ph:(eU nodes l k).nodes.length=k:=by simp [eU]
   rw [Ph,Ev] at nK
   have p8:Since w2 w11:=by
    rw [<-Ev]
    refine Fr.aA (B:=fun i=>¬ i < w2.heap.size) ((zi.mono (fun i _ e=>?_)).setCell _ _ ?_) (hSr.trans JV) (fun i hi h=>h hi)
    ·have:=(hM.own.blk ⟨(1,0,0),⟨rfl,rfl⟩,by rw [hL1];exact e⟩).1;omega
    ·intro _;show ¬ w3.heap.size < _;omega
   obtain ⟨d11,Gy⟩:∃ d:Wd,{ (eU nodes l k) with nodes:=(eU nodes l k).nodes++[x] }=d:=⟨_,rfl⟩
   rw [Gy] at nK
   obtain ⟨L11,LP⟩:∃ L':Lay,dz L k ⟨na',nc'⟩ ⟨sa,sc⟩ rs ⟨none,0⟩ ⟨none,0⟩=L':=⟨_,rfl⟩
   rw [LP] at nK
   obtain ⟨ra,rc,hL2⟩:∃ ra rc,L11 (2,0,0)=⟨ra,rc⟩:=⟨_,_,rfl⟩
   have hwl:d11.wires.length=k:=by rw [<-Gy];simp [eU]
   have b2:w11.cell? ⟨w3.heap.size,2,none⟩=some (.slice ra k rc):=by have:=nK.box.c2;rw [hL2,hwl] at this;exact this
   have hRw:Row w11 w2.heap.size 1 ⟨ra,rc⟩ k (dF d11 L11 (2,0,0)):=by
    have:Row w11 w2.heap.size 1 (L11 (2,0,0)) d11.wires.length (dF d11 L11 (2,0,0)):=nK.own.row (2,0,0) ⟨rfl,rfl⟩
    rw [hL2,hwl] at this;exact this
   have Pj:w3.heap.size < w11.heap.size:=nK.box.lt
   clear hL1 b1 hRn hsrc CP zi Gx AY q1 q2 hNd hLL hM LP hne dG c1 hS0 S0 av vL zh
   obtain ⟨S0,hS0⟩:∃ S0:World->Prop,∀ w',S0 w'↔Since w11 w':=⟨_,fun _=>Iff.rfl⟩
   have c2:∀ y:aj S0,y.w.cell? ⟨w3.heap.size,2,none⟩=some (.slice ra k rc):=fun y=>(((hS0 _).1 y.h).cellAt Pj _).trans b2
   obtain ⟨V0,hV0⟩:∃ y,w11.drew=y:=⟨_,rfl⟩
   have ht0:=bM hV0
   have av:=(hS0 V0).2 ht0
   have hne:Nonempty (aj S0):=⟨⟨_,av⟩⟩
   have dG:=aQ w
   go_wp2_with fail
   refine aS (fun w'=>∃ x:aj S0,w'=x.w) (by kernel_rfl) ?_
   rw [hV0]
   clear hV0 Ev
   refine tW 0 rfl ?_;go_big_quiet_op
   refine tM 1 rfl (ah av) ?_;go_big_quiet_op
   refine tW 2 rfl ?_;go_big_quiet_op
   refine aT 3 rfl (by kernel_rfl) ?_
   intro K hK
   go_simp
   have ht1:Since V0 (V0.alloc (.cells (madeCells #[.slice none 0 0] nodes) 39)):=(Since.refl V0).alloc _
   have vL:=(hS0 _).2 (ht0.trans ht1)
   refine hK _ _ (fun _ _=>ah vL) ?_
   clear hK K
   refine aT 4 rfl (by kernel_rfl) ?_
   intro K hK
   go_simp
   have ht2:Since w11 ((V0.alloc (.cells (madeCells #[.slice none 0 0] nodes) 39)).alloc (.cells #[.slice (some ⟨V0.heap.size,0,none⟩) nodes nodes] 40)):=(ht0.trans ht1).alloc _
   have Ew:=gP (size:=1) (T:=40) (w:=V0.alloc (.cells (madeCells #[.slice none 0 0] nodes) 39)) nP.und [.slice (some ⟨V0.heap.size,0,none⟩) nodes nodes] rfl (fun u hu=>by simp at hu;subst hu;rfl) 1
   simp only [World.size_alloc] at Ew
   have zh:=(hS0 _).2 ht2
   refine hK _ _ (fun _ _=>ah zh) ?_
   clear hK K
   refine aT 5 rfl (by kernel_rfl) ?_
   intro K hK
   refine bF nP (by rfl) _ _ 24 (by rfl) (by rfl) (hRw.since ht2) (by rfl) Ew (by omega) (zQ5 p8.size ht2.size) ?_
   intro ra' rc' w12 Pk Gz Pm
   have JW:=(nK.box.since ht2).fr Gz (fun e=>nK.off ⟨(2,0,0),⟨rfl,rfl⟩,by rw [hL2];exact e⟩)
   have q1:=JW.c2
   have q2:=JW.z2
   refine hK _ _ (fun h=>absurd h (by decide +kernel)) ?_
   clear hK K
   simp only [Act.put,zQ7,zQ8,zQ9]
   refine tW 6 rfl ?_;go_big_quiet_op
   refine aT 7 rfl (by kernel_rfl) ?_
   intro K hK
   go_simp
   refine hK _ _ (fun h=>absurd h (by decide +kernel)) ?_
   clear hK K
   refine dB (by kernel_rfl) ?_
   have GA:=nK.xu (a':=ra') (c':=rc') (w':=w12) (x:=List.replicate nodes []) ht2 (((dR.made (α:=Mg) (sz:=5) (enc:=flat) rfl V0.heap.size V0 nodes 39 (Nat.le_refl _) (by unfold maxLen;omega)).since ((Since.refl _).alloc _)).mono ht0.size) p8.size
    ⟨by simp;omega,fun i r hr=>by have:=zQ2.1 hr;obtain ⟨h1,h2⟩:=this;simp at h2;first | (rw [h2];simp) | (rw [<-h2];simp)⟩ (by omega) (by rw [hwl,List.length_replicate];exact Pk) (by rw [hL2];exact Gz) (by rw [hL2];exact Pm)
   rw [hwl] at GA
   have hdE:({ d11 with wires:=d11.wires++[List.replicate nodes []] }:Wd)=eU nodes l (k+1):=by
    rw [<-Gy,hx];simp [eU,List.replicate_succ']
   rw [hdE] at GA
   have nL:Since w2 (w12.setCell ⟨w3.heap.size,2,none⟩ (.slice ra' (k+1) rc')):=by
    refine Fr.aA (B:=fun i=>¬ i < w2.heap.size) ((Gz.mono (fun i _ e=>?_)).setCell _ _ ?_) (p8.trans ht2) (fun i hi h=>h hi)
    ·have:=(nK.own.blk ⟨(2,0,0),⟨rfl,rfl⟩,by rw [hL2];exact e⟩).1;omega
    ·intro _;show ¬ w3.heap.size < _;omega
   clear c2 hne dG
   go_wp2
   exact ⟨⟨k+1,by omega,by go_num,⟨_,GA⟩,nL⟩,by simp [intOf];omega⟩
  ·obtain rfl:k=nodes:=by omega
   obtain ⟨lt,r0,r1,r2,r3,r4,r5⟩:=QI.since hSr
   have b0:=hM.box.c0
   have b1:=hM.box.c1
   have b2:=hM.box.c2
   go_wp2
   obtain ⟨hO,hSf⟩:=hM.own.result (w0:=w) (p:=w.heap.size) QI.lt (Nat.le_refl _) (hS2.trans hSr) hS2.size
   refine bodyPost_ret (v:=.tuple #[aI L (iI k l),.int .i64 0]) ?_ rfl (fF hO hSf)
   simp [results,results108,go_sem,r0,r1,r2,aI,eU,iI]
theorem Bb (x:WV) (d:Wd) (w:World) (hW:WAt w x d) (T:Except Int Wd) (hT:checked d (tN d)=T) (Post:Ending->World->Prop)
  (iX:∀ er,T=.error er->∀ w',Since w w'->Post (.returned (.tuple #[.agg #[.slice none 0 0,.slice none 0 0,.slice none 0 0],.int .i64 er])) w')
  (hOk:∀ d' L' w',T=.ok d'->aU w.heap.size w' d' L'->Since w w'->Post (.returned (.tuple #[aI L' d',.int .i64 0])) w') :
  Calls prog 47 #[.agg #[.slice x.ga x.gl x.gc,.slice x.na x.nl x.nc,.slice x.wa x.wl x.wc]] w fun e w'=>Hid (Post e w'):=by
 obtain ⟨ga,gl,gc,na,nl,nc,wa,wl,wc⟩:=x
 dsimp only
 have iG:=(show Hid _ from iX)
 have HOK:=(show Hid _ from hOk)
 have HT:Hid (T=checked d ((iB d).bind fun r=>lM 4 r.1)):=hT.symm
 clear iX hOk hT
 obtain ⟨wp,hwp⟩:∃ wp,w.alloc (.cells #[.slice ga gl gc,.slice na nl nc,.slice wa wl wc] 26)=wp:=⟨_,rfl⟩
 have hPp:aG wp w.heap.size ⟨ga,gl,gc,na,nl,nc,wa,wl,wc⟩:=by rw [<-hwp];exact aG.new w ⟨ga,gl,gc,na,nl,nc,wa,wl,wc⟩ _
 have hSp:=au hwp
 obtain ⟨w1,hw1⟩:∃ w1,wp.alloc (.cells #[.slice none 0 0,.slice none 0 0,.slice none 0 0] 26)=w1:=⟨_,rfl⟩
 have hNB:aC w1 wp.heap.size:=by rw [<-hw1];exact aC.new wp _
 have bU:=au hw1
 have hP1:=hPp.since bU
 have hS1:=hSp.trans bU
 have hW1:=hW.since hS1
 have hlt1:=hNB.lt
 have p0:=hP1.c0
 have p1:=hP1.c1
 have p2:=hP1.c2
 dsimp only at p0 p1 p2
 have hDr:=zT ⟨ga,gl,gc,na,nl,nc,wa,wl,wc⟩ d w1 hW1
 dsimp only at hDr
 obtain ⟨r,hr⟩:∃ r,checked d (dY d)=r:=⟨_,rfl⟩
 rw [hr] at hDr
 have HTE:Hid (∀ er,r=.error er->T=.error er/\(er == 0)=false):=fun er h=>by
  rw [h] at hr
  rw [HT.out]
  unfold checked dY at *
  by_cases hz:aD d=0
  ·rw [if_pos hz] at hr ⊢
   cases hd:iB d with
   | error e=>rw [hd] at hr;cases hr;exact ⟨rfl,by have:=oW hd;simpa using this⟩
   | ok s=>rw [hd] at hr;cases hr
  ·rw [if_neg hz] at hr ⊢
   cases hr
   exact ⟨rfl,by simpa using hz⟩
 have HTK:Hid (∀ d' m,r=.ok (d',m)->T=lM 4 d'/\Right d'):=fun d' m h=>by
  rw [h] at hr
  rw [HT.out]
  obtain ⟨R,h2⟩:=GQ hr
  unfold dY at h2
  obtain ⟨s,h3,h4⟩:=bind_ok h2
  cases h4
  unfold checked
  rw [if_pos ((cu d).2 R),h3]
  exact ⟨rfl,(lW R (m:=s.2) h3).1⟩
 clear hr
 cases r with
 | error er =>
  obtain ⟨hTe,her⟩:=HTE.out er rfl
  have HTe:Hid (T=.error er):=hTe
  have Tn:(er != 0)=true:=by simp [bne,her]
  clear hTe
  go_enter func47,ntmps47
  go_wp2_with fail
  refine hDr.mono ?_
  rintro e w2 hR2
  obtain ⟨rfl,hF2⟩:=hR2.out.1 er rfl
  have hS2:=hF2.none
  clear hR2 hDr p0 p1 p2 hw1 hwp
  obtain ⟨w3,hw3⟩:∃ y,w2.alloc (.cells #[.slice none 0 0,.slice none 0 0,.slice none 0 0] 26)=y:=⟨_,rfl⟩
  have Hq:=au hw3
  have hN3:aC w3 w2.heap.size:=by rw [<-hw3];exact aC.new w2 _
  obtain ⟨w4,hw4⟩:∃ y,((w3.setCell ⟨w2.heap.size,0,none⟩ (.slice none 0 0)).setCell ⟨w2.heap.size,1,none⟩ (.slice none 0 0)).setCell ⟨w2.heap.size,2,none⟩ (.slice none 0 0)=y:=⟨_,rfl⟩
  have hS4:Since w2 w4:=by rw [<-hw4];exact (dX w3 w2.heap.size _ _ _).aA Hq (fun i hi e=>by omega)
  obtain ⟨_,z0,z1,z2,z3,z4,z5⟩:=hN3
  have h14:=hS2.trans hS4
  have hN4:=hNB.since h14
  go_wp2_with fail
  clear hw3 hw4 z0 z1 z2 z3 z4 z5
  go_loopw [6,7] (fun e i wr=>e=.int .i64 er/\i=.int .i64 0/\wr=w4) (fun _ _ _=>0)
  case atStart=>exact ⟨rfl,rfl,rfl⟩
  case round =>
   obtain ⟨rfl,rfl,hwr⟩:=hrel
   obtain rfl:=hwr.symm
   obtain ⟨_,r0,r1,r2,r3,r4,r5⟩:=hN4
   go_wp2_with fail
   refine bodyPost_ret (v:=.tuple #[.agg #[.slice none 0 0,.slice none 0 0,.slice none 0 0],.int .i64 er]) ?_ rfl (iG.out er HTe.out _ (aK hSp.size (hS1.trans h14)))
   simp [results,results47,go_sem,r0,r1,r2]
 | ok dm =>
  obtain ⟨d0,m0⟩:=dm
  obtain ⟨hTk,hR0⟩:=HTK.out d0 m0 rfl
  have HT0:Hid (T=lM 4 d0):=hTk
  have HR0:Hid (Right d0):=hR0
  clear hTk hR0
  go_enter func47,ntmps47
  go_wp2_with fail
  refine hDr.mono ?_
  rintro e w2 hR2
  obtain ⟨L,rfl,hO2,hF2⟩:=hR2.out.2 d0 m0 rfl
  have hS2:=hF2.none
  simp only [aI]
  clear hR2 hDr p0 p1 p2 hw1 hwp
  obtain ⟨w3,hw3⟩:∃ y,w2.alloc (.cells #[.slice (L (0,0,0)).a d0.groups.length (L (0,0,0)).cap,.slice (L (1,0,0)).a d0.nodes.length (L (1,0,0)).cap,.slice (L (2,0,0)).a d0.wires.length (L (2,0,0)).cap] 26)=y:=⟨_,rfl⟩
  have hS3:=au hw3
  have hB3:iA w3 w2.heap.size L d0:=by rw [<-hw3];constructor <;> simp [go_sem]
  have hM3:bQ w1.heap.size w3 w2.heap.size d0 L:=⟨hO2.since hS3,hB3,fun hb=>by have:=(hO2.blk hb).2;omega⟩
  have h13:=hS2.trans hS3
  have hq:w1.heap.size<=w2.heap.size:=hS2.size
  clear hB3 hO2
  go_wp2_with fail
  clear hw3
  go_loopw [6,7] (fun e i wr=>∃ (k:Nat),k<=4/\i=.int .i64 k/\Since w1 wr/\((e=.int .i64 0/\∃ (dk:Wd) (Lk:Lay),Hid (T=lM (4 - k) dk)/\Hid (Right dk)/\bQ w1.heap.size wr w2.heap.size dk Lk)\/(∃ er,e=.int .i64 er/\(er == 0)=false/\Hid (T=.error er)))) (fun _ i _=>4 - (intOf i).toNat)
  case atStart=>exact ⟨0,by omega,rfl,h13,.inl ⟨rfl,d0,L,HT0,HR0,hM3⟩⟩
  case round =>
   clear hM3 h13 HT0 HR0
   obtain ⟨wo,rfl⟩:∃ wo,wo=wr:=⟨_,rfl⟩
   obtain ⟨k,hk,rfl,hSo,hcase⟩:=hrel
   have HK:Hid (k<=4):=hk
   have hNo:=hNB.since hSo
   rcases hcase with ⟨rfl,dk,Lk,HTk,HRk,hM⟩ | ⟨er,rfl,her,HTe⟩
   ·by_cases hlt:k < 4
    ·have h1:(k:Int) < 4:=by omega
     have c0:=hM.box.c0
     have c1:=hM.box.c1
     have c2:=hM.box.c2
     have hRd:=Df (fP Lk dk) dk wo hM.own.wat HRk.out
     unfold fP iM at hRd
     dsimp only at hRd
     obtain ⟨r,hr⟩:∃ r,fK dk=r:=⟨_,rfl⟩
     have HNZ:Hid (∀ e,r=.error e->(e == 0)=false):=fun e h=>by rw [h] at hr;have:=wZ hr;simpa using this
     have HSM:Hid (∀ d' m,r=.ok (d',m)->Right d'):=fun d' m h=>by rw [h] at hr;exact (rU HRk.out hr).1
     have HRR:Hid (T=r.bind fun r=>lM (4 - (k+1)) r.1):=by
      unfold Hid
      rw [HTk.out,show 4 - k=(4 - (k+1))+1 from by omega]
      show (fK dk).bind _=_
      rw [hr]
     rw [hr] at hRd
     clear hr
     cases r with
     | error er =>
      have her:=HNZ.out er rfl
      go_wp2_with fail
      refine hRd.mono ?_
      rintro e w4 hR4
      obtain ⟨rfl,hF4⟩:=hR4.out.1 er rfl
      have hS4:=hF4.none
      clear hR4 hRd c0 c1 c2
      obtain ⟨_,x0,x1,x2,x3,x4,x5⟩:=(hM.since hS4).box
      obtain ⟨w6,hw6⟩:∃ y,((w4.setCell ⟨w2.heap.size,0,none⟩ (.slice none 0 0)).setCell ⟨w2.heap.size,1,none⟩ (.slice none 0 0)).setCell ⟨w2.heap.size,2,none⟩ (.slice none 0 0)=y:=⟨_,rfl⟩
      have hS6:Since w1 w6:=by rw [<-hw6];exact (dX w4 w2.heap.size _ _ _).aA (hSo.trans hS4) (fun i hi e=>by omega)
      go_wp2
      go_roundw
      case rel=>exact ⟨k+1,by omega,by go_num,hS6,.inr ⟨er,rfl,her,HRR.out⟩⟩
      case measure=>simp [intOf];omega
     | ok dm =>
      obtain ⟨d2,m⟩:=dm
      have HR2:Hid (Right d2):=HSM.out d2 m rfl
      go_wp2_with fail
      refine hRd.mono ?_
      rintro e w4 hR4
      obtain ⟨L4,rfl,hO4,hF4⟩:=hR4.out.2 d2 m rfl
      have hS4:=hF4.none
      simp only [aI]
      clear hR4 hRd c0 c1 c2
      have hMo:=hM.since hS4
      have hMb:=hM.box.lt
      obtain ⟨w6,hw6⟩:∃ y,((w4.setCell ⟨w2.heap.size,0,none⟩ (.slice (L4 (0,0,0)).a d2.groups.length (L4 (0,0,0)).cap)).setCell ⟨w2.heap.size,1,none⟩ (.slice (L4 (1,0,0)).a d2.nodes.length (L4 (1,0,0)).cap)).setCell ⟨w2.heap.size,2,none⟩ (.slice (L4 (2,0,0)).a d2.wires.length (L4 (2,0,0)).cap)=y:=⟨_,rfl⟩
      have hM6:=BS (lo:=w1.heap.size) hO4 hMo.box hSo.size hMb
      rw [hw6] at hM6
      have hS6:Since w1 w6:=by rw [<-hw6];exact (dX w4 w2.heap.size _ _ _).aA (hSo.trans hS4) (fun i hi e=>by omega)
      obtain ⟨_,x0,x1,x2,x3,x4,x5⟩:=hMo.box
      go_wp2
      go_roundw
      case rel=>exact ⟨k+1,by omega,by go_num,hS6,.inl ⟨rfl,d2,L4,HRR.out,HR2,hM6⟩⟩
      case measure=>simp [intOf];omega
    ·have HE:Hid (k=4):=by unfold Hid;have:=HK.out;omega
     have h1:¬ (k:Int) < 4:=by omega
     have c0:=hM.box.c0
     have c1:=hM.box.c1
     have c2:=hM.box.c2
     obtain ⟨_,r0,r1,r2,r3,r4,r5⟩:=hNo
     obtain ⟨hO9,hSf⟩:=hM.own.result (w0:=w) (p:=wp.heap.size) hlt1 hSp.size (hS1.trans hSo) hS1.size
     clear hlt
     go_wp2_with fail
     refine bodyPost_ret (v:=.tuple #[aI Lk dk,.int .i64 0]) ?_ rfl (HOK.out dk Lk _ (by have h:=HTk.out;rw [HE.out] at h;exact h) hO9 hSf)
     simp [results,results47,go_sem,r0,r1,r2,aI]
   ·obtain ⟨_,r0,r1,r2,r3,r4,r5⟩:=hNo
    have Tn:(er != 0)=true:=by simp [bne,her]
    by_cases hlt:k < 4
    ·have h1:(k:Int) < 4:=by omega
     go_wp2_with fail
     refine bodyPost_ret (v:=.tuple #[.agg #[.slice none 0 0,.slice none 0 0,.slice none 0 0],.int .i64 er]) ?_ rfl (iG.out er HTe.out _ (aK hSp.size (hS1.trans hSo)))
     simp [results,results47,go_sem,r0,r1,r2]
    ·have h1:¬ (k:Int) < 4:=by omega
     go_wp2_with fail
     refine bodyPost_ret (v:=.tuple #[.agg #[.slice none 0 0,.slice none 0 0,.slice none 0 0],.int .i64 er]) ?_ rfl (iG.out er HTe.out _ (aK hSp.size (hS1.trans hSo)))
     simp [results,results47,go_sem,r0,r1,r2]
theorem tZ (x:WV) (d:Wd) (w:World) (hW:WAt w x d) :
  Calls prog 47 #[.agg #[.slice x.ga x.gl x.gc,.slice x.na x.nl x.nc,.slice x.wa x.wl x.wc]] w fun e w'=>Hid (sZ w (checked d (tN d)) e w') :=
 Bb x d w hW _ rfl (fun e w'=>sZ w (checked d (tN d)) e w') (fun er h w' hS=>by rw [h];exact dJ hS) (fun d' L' w' h hO hS=>by rw [h];exact fF hO hS)
theorem JY (x:WV) (d:Wd) (a:Ac) (w:World) (hW:WAt w x d) :
  Calls prog 61 #[.agg #[.slice x.ga x.gl x.gc,.slice x.na x.nl x.nc,.slice x.wa x.wl x.wc],acV a] w fun e w'=>Hid (sZ w (doD d a) e w'):=by
 obtain ⟨ga,gl,gc,na,nl,nc,wa,wl,wc⟩:=x
 obtain ⟨kind,one,two,body⟩:=a
 unfold acV
 dsimp only
 obtain ⟨wq,hwq⟩:∃ wp,w.alloc (.cells #[.slice ga gl gc,.slice na nl nc,.slice wa wl wc] 26)=wp:=⟨_,rfl⟩
 have hPq:aG wq w.heap.size ⟨ga,gl,gc,na,nl,nc,wa,wl,wc⟩:=by rw [<-hwq];exact aG.new w ⟨ga,gl,gc,na,nl,nc,wa,wl,wc⟩ _
 have hSq:=au hwq
 obtain ⟨wp,hwp⟩:∃ wp,wq.alloc (.cells #[.int .i64 kind,.int .i64 one,.int .i64 two,.string body] 58)=wp:=⟨_,rfl⟩
 have Ep:=au hwp
 have hlq:wq.heap.size < wp.heap.size:=by rw [<-hwp];simp
 have a0:wp.cell? ⟨wq.heap.size,0,none⟩=some (.int .i64 kind):=by rw [<-hwp];simp [go_sem]
 have a1:wp.cell? ⟨wq.heap.size,1,none⟩=some (.int .i64 one):=by rw [<-hwp];simp [go_sem]
 have a2:wp.cell? ⟨wq.heap.size,2,none⟩=some (.int .i64 two):=by rw [<-hwp];simp [go_sem]
 have a3:wp.cell? ⟨wq.heap.size,3,none⟩=some (.string body):=by rw [<-hwp];simp [go_sem]
 have hSp:=hSq.trans Ep
 obtain ⟨w1,hw1⟩:∃ w1,wp.alloc (.cells #[.slice none 0 0,.slice none 0 0,.slice none 0 0] 26)=w1:=⟨_,rfl⟩
 have hNB:aC w1 wp.heap.size:=by rw [<-hw1];exact aC.new wp _
 have bU:=au hw1
 have hP1:=hPq.since (Ep.trans bU)
 have hS1:=hSp.trans bU
 have hW1:=hW.since hS1
 have p0:=hP1.c0
 have p1:=hP1.c1
 have p2:=hP1.c2
 dsimp only at p0 p1 p2
 have d0:=(bU.cellAt hlq _).trans a0
 have d1:=(bU.cellAt hlq _).trans a1
 have d2:=(bU.cellAt hlq _).trans a2
 have d3:=(bU.cellAt hlq _).trans a3
 clear a0 a1 a2 a3
 by_cases h1:kind=1
 ·subst h1
  obtain ⟨r,hr⟩:∃ r,doD d ⟨1,one,two,body⟩=r:=⟨_,rfl⟩
  rw [hr]
  have HRR:=(show Hid _ from hr)
  clear hr
  cases r with
  | error er =>
   go_enter func61,ntmps61
   go_wp2_with (go_at_call 29;refine (gH ⟨ga,gl,gc,na,nl,nc,wa,wl,wc⟩ d one two false body w1 hW1).mono ?_;rintro e w3 hR3;obtain ⟨rfl,hS3⟩:=hR3.out.1 er HRR.out;obtain ⟨lt,r0,r1,r2,r3,r4,r5⟩:=hNB.since hS3)
   refine bodyPost_ret (v:=.tuple #[.agg #[.slice none 0 0,.slice none 0 0,.slice none 0 0],.int .i64 er]) ?_ rfl (dJ (aK hSp.size (hS1.trans hS3)))
   simp [results,results61,go_sem,r0,r1,r2]
  | ok d' =>
   go_enter func61,ntmps61
   go_wp2_with (go_at_call 29;refine (gH ⟨ga,gl,gc,na,nl,nc,wa,wl,wc⟩ d one two false body w1 hW1).mono ?_;rintro e w3 hR3;obtain ⟨L,rfl,hO,hS3⟩:=hR3.out.2 d' HRR.out;simp only [aI];obtain ⟨lt,r0,r1,r2,r3,r4,r5⟩:=hNB.since hS3)
   obtain ⟨hO2,hSf⟩:=hO.result (w0:=w) (p:=wp.heap.size) hNB.lt hSp.size (hS1.trans hS3) hS1.size
   refine bodyPost_ret (v:=.tuple #[aI L d',.int .i64 0]) ?_ rfl (fF hO2 hSf)
   simp [results,results61,go_sem,r0,r1,r2,aI]
 by_cases h2:kind=2
 ·subst h2
  obtain ⟨r,hr⟩:∃ r,doD d ⟨2,one,two,body⟩=r:=⟨_,rfl⟩
  rw [hr]
  have HRR:=(show Hid _ from hr)
  clear hr
  cases r with
  | error er =>
   go_enter func61,ntmps61
   go_wp2_with (go_at_call 29;refine (gH ⟨ga,gl,gc,na,nl,nc,wa,wl,wc⟩ d one two true ByteArray.empty w1 hW1).mono ?_;rintro e w3 hR3;obtain ⟨rfl,hS3⟩:=hR3.out.1 er HRR.out;obtain ⟨lt,r0,r1,r2,r3,r4,r5⟩:=hNB.since hS3)
   refine bodyPost_ret (v:=.tuple #[.agg #[.slice none 0 0,.slice none 0 0,.slice none 0 0],.int .i64 er]) ?_ rfl (dJ (aK hSp.size (hS1.trans hS3)))
   simp [results,results61,go_sem,r0,r1,r2]
  | ok d' =>
   go_enter func61,ntmps61
   go_wp2_with (go_at_call 29;refine (gH ⟨ga,gl,gc,na,nl,nc,wa,wl,wc⟩ d one two true ByteArray.empty w1 hW1).mono ?_;rintro e w3 hR3;obtain ⟨L,rfl,hO,hS3⟩:=hR3.out.2 d' HRR.out;simp only [aI];obtain ⟨lt,r0,r1,r2,r3,r4,r5⟩:=hNB.since hS3)
   obtain ⟨hO2,hSf⟩:=hO.result (w0:=w) (p:=wp.heap.size) hNB.lt hSp.size (hS1.trans hS3) hS1.size
   refine bodyPost_ret (v:=.tuple #[aI L d',.int .i64 0]) ?_ rfl (fF hO2 hSf)
   simp [results,results61,go_sem,r0,r1,r2,aI]
 by_cases h3:kind=3
 ·subst h3
  obtain ⟨r,hr⟩:∃ r,doD d ⟨3,one,two,body⟩=r:=⟨_,rfl⟩
  rw [hr]
  have HRR:=(show Hid _ from hr)
  clear hr
  cases r with
  | error er =>
   go_enter func61,ntmps61
   go_wp2_with (go_at_call 34;refine (lS ⟨ga,gl,gc,na,nl,nc,wa,wl,wc⟩ d one two w1 hW1).mono ?_;rintro e w3 hR3;obtain ⟨rfl,hS3⟩:=hR3.out.1 er HRR.out;obtain ⟨lt,r0,r1,r2,r3,r4,r5⟩:=hNB.since hS3)
   refine bodyPost_ret (v:=.tuple #[.agg #[.slice none 0 0,.slice none 0 0,.slice none 0 0],.int .i64 er]) ?_ rfl (dJ (aK hSp.size (hS1.trans hS3)))
   simp [results,results61,go_sem,r0,r1,r2]
  | ok d' =>
   go_enter func61,ntmps61
   go_wp2_with (go_at_call 34;refine (lS ⟨ga,gl,gc,na,nl,nc,wa,wl,wc⟩ d one two w1 hW1).mono ?_;rintro e w3 hR3;obtain ⟨L,rfl,hO,hS3⟩:=hR3.out.2 d' HRR.out;simp only [aI];obtain ⟨lt,r0,r1,r2,r3,r4,r5⟩:=hNB.since hS3)
   obtain ⟨hO2,hSf⟩:=hO.result (w0:=w) (p:=wp.heap.size) hNB.lt hSp.size (hS1.trans hS3) hS1.size
   refine bodyPost_ret (v:=.tuple #[aI L d',.int .i64 0]) ?_ rfl (fF hO2 hSf)
   simp [results,results61,go_sem,r0,r1,r2,aI]
 by_cases h4:kind=4
 ·subst h4
  obtain ⟨r,hr⟩:∃ r,doD d ⟨4,one,two,body⟩=r:=⟨_,rfl⟩
  rw [hr]
  have HRR:=(show Hid _ from hr)
  clear hr
  cases r with
  | error er =>
   go_enter func61,ntmps61
   go_wp2_with (go_at_call 47;refine (tZ ⟨ga,gl,gc,na,nl,nc,wa,wl,wc⟩ d w1 hW1).mono ?_;rintro e w3 hR3;obtain ⟨rfl,hS3⟩:=hR3.out.1 er HRR.out;obtain ⟨lt,r0,r1,r2,r3,r4,r5⟩:=hNB.since hS3)
   refine bodyPost_ret (v:=.tuple #[.agg #[.slice none 0 0,.slice none 0 0,.slice none 0 0],.int .i64 er]) ?_ rfl (dJ (aK hSp.size (hS1.trans hS3)))
   simp [results,results61,go_sem,r0,r1,r2]
  | ok d' =>
   go_enter func61,ntmps61
   go_wp2_with (go_at_call 47;refine (tZ ⟨ga,gl,gc,na,nl,nc,wa,wl,wc⟩ d w1 hW1).mono ?_;rintro e w3 hR3;obtain ⟨L,rfl,hO,hS3⟩:=hR3.out.2 d' HRR.out;simp only [aI];obtain ⟨lt,r0,r1,r2,r3,r4,r5⟩:=hNB.since hS3)
   obtain ⟨hO2,hSf⟩:=hO.result (w0:=w) (p:=wp.heap.size) hNB.lt hSp.size (hS1.trans hS3) hS1.size
   refine bodyPost_ret (v:=.tuple #[aI L d',.int .i64 0]) ?_ rfl (fF hO2 hSf)
   simp [results,results61,go_sem,r0,r1,r2,aI]
 have b1:(kind == 1)=false:=by simpa using h1
 have b2:(kind == 2)=false:=by simpa using h2
 have b3:(kind == 3)=false:=by simpa using h3
 have b4:(kind == 4)=false:=by simpa using h4
 have HF:Hid (doD d ⟨kind,one,two,body⟩=.error 6):=by unfold Hid doD;dsimp only;rw [if_neg h1,if_neg h2,if_neg h3,if_neg h4]
 clear h1 h2 h3 h4
 obtain ⟨lt,r0,r1,r2,r3,r4,r5⟩:=hNB
 go_enter func61,ntmps61
 go_wp2
 refine bodyPost_ret (v:=.tuple #[.agg #[.slice none 0 0,.slice none 0 0,.slice none 0 0],.int .i64 6]) ?_ rfl (by unfold Hid;rw [HF.out];exact dJ (aK hSp.size hS1))
 simp [results,results61,go_sem,r0,r1,r2]
end Go.Proofs.YtiiifecfdkjmbaaGreat
