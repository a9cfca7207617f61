/- Lemmas. Lemmas. Lemmas. -/
import Derived.Test.YtiiifecfdkjmbaaGreatSCalmX
import Derived.Test.YtiiifecfdkjmbaaGreatCsMem
import Derived.Laws.IdiomStrings
import Derived.Shelf.SlSortCmp.WholeK
import Derived.Shelf.SlGeneric
import Derived.Ground.SlsfProg
import Derived.Shelf.SlSortCmp.NoneTotal
import Derived.Test.YtiiifecfdkjmbaaGreatPureY
set_option maxHeartbeats 2000000
namespace Go.Proofs.YtiiifecfdkjmbaaGreat
open _root_.Go.Proofs.Tryz hiding checked
set_option maxRecDepth 8000
open Go.RowKit Go.Shelf
open Pu
theorem CJ {e:Int}:∀ (k:Nat) (d:Wd),iW k d=.error e->e≠0
 | 0,d,h=>by cases h
 | k+1,d,h=>by
  unfold iW at h;rcases jC h with h | ⟨r,_,h⟩
  ·exact x9 h
  ·exact CJ k r.1 h
theorem MW {d:Wd} {e:Int} (h:qo d=.error e):e≠0:=by
 unfold qo at h;rcases jC h with h | ⟨r,_,h⟩
 ·exact qp h
 ·exact CJ 4 r.1 h
theorem Ik {α:Type} {d:Wd} {r:Except Int α} {e:Int} (hr:∀ e,r=.error e->e≠0) (h:checked d r=.error e):e≠0:=by
 unfold checked at h;split at h
 ·exact hr e h
 ·rename_i hz;cases h;exact hz
theorem JA {d:Wd} {a:Ac} {e:Int} (h:doD d a=.error e):e≠0:=by
 by_cases h4:a.kind=4
 ·obtain ⟨k,o,t,b⟩:=a;dsimp only at h4;subst h4;exact Ik (fun _ h=>MW h) (show checked d (qo d)=.error e from h)
 ·exact QY h4 h
set_option linter.unusedVariables false
set_option linter.unusedSimpArgs false
theorem Cn (x:WV) (d:Wd) (a:Ac) (w:World) (hW:WAt w x d) :
  Calls prog 53 #[.agg #[.slice x.ga x.gl x.gc,.slice x.na x.nl x.nc,.slice x.wa x.wl x.wc],acV a] w fun e w'=>Hid (rX w (doD d a) e w'):=by
 obtain ⟨ga,gl,gc,na,nl,nc,wa,wl,wc⟩:=x;obtain ⟨kind,one,two,body⟩:=a;unfold acV;dsimp only;obtain ⟨wq,hwq⟩:∃ wp,w.alloc (.cells #[.slice ga gl gc,.slice na nl nc,.slice wa wl wc] 26)=wp:=⟨_,rfl⟩;have hPq:aO wq w.heap.size ⟨ga,gl,gc,na,nl,nc,wa,wl,wc⟩:=by rw [<-hwq];exact aO.new w ⟨ga,gl,gc,na,nl,nc,wa,wl,wc⟩ _
 have hSq:=ay hwq;obtain ⟨wp,hwp⟩:∃ wp,wq.alloc (.cells #[.int .i64 kind,.int .i64 one,.int .i64 two,.string body] 58)=wp:=⟨_,rfl⟩;have MX:=ay hwp;have hlq:wq.heap.size < wp.heap.size:=by rw [<-hwp];simp
 have a0:wp.cell? ⟨wq.heap.size,0,none⟩=some (.int .i64 kind):=by rw [<-hwp];simp [go_sem]
 have a1:wp.cell? ⟨wq.heap.size,1,none⟩=some (.int .i64 one):=by rw [<-hwp];simp [go_sem]
 have a2:wp.cell? ⟨wq.heap.size,2,none⟩=some (.int .i64 two):=by rw [<-hwp];simp [go_sem]
 have a3:wp.cell? ⟨wq.heap.size,3,none⟩=some (.string body):=by rw [<-hwp];simp [go_sem]
 have hSp:=hSq.trans MX;obtain ⟨w1,hw1⟩:∃ w1,wp.alloc (.cells #[.slice none 0 0,.slice none 0 0,.slice none 0 0] 26)=w1:=⟨_,rfl⟩;have hNB:aD w1 wp.heap.size:=by rw [<-hw1];exact aD.new wp _
 have cO:=ay hw1;have hP1:=hPq.since (MX.trans cO);have hS1:=hSp.trans cO;have hW1:=hW.since hS1;have p0:=hP1.c0;have p1:=hP1.c1;have p2:=hP1.c2;dsimp only at p0 p1 p2;have d0:=(cO.cellAt hlq _).trans a0;have d1:=(cO.cellAt hlq _).trans a1;have d2:=(cO.cellAt hlq _).trans a2;have d3:=(cO.cellAt hlq _).trans a3;clear a0 a1 a2 a3;by_cases h1:kind=1
 ·subst h1;obtain ⟨r,hr⟩:∃ r,doD d ⟨1,one,two,body⟩=r:=⟨_,rfl⟩;rw [hr];have HRR:=(show Hid _ from hr);clear hr
  cases r with
  | error er =>
   go_enter func53,ntmps53
   go_wp2_with (go_at_call 28;refine (wV ⟨ga,gl,gc,na,nl,nc,wa,wl,wc⟩ d one two body w1 hW1).mono ?_;rintro e w3 hR3;obtain ⟨rfl,hS3⟩:=hR3.out.1 er HRR.out;obtain ⟨lt,r0,r1,r2,r3,r4,r5⟩:=hNB.since hS3)
   refine bodyPost_ret (v:=.tuple #[.agg #[.slice none 0 0,.slice none 0 0,.slice none 0 0],.int .i64 er]) ?_ rfl (dS (aM hSp.size (hS1.trans hS3)));simp [results,results53,go_sem,r0,r1,r2]
  | ok d' =>
   go_enter func53,ntmps53
   go_wp2_with (go_at_call 28;refine (wV ⟨ga,gl,gc,na,nl,nc,wa,wl,wc⟩ d one two body w1 hW1).mono ?_;rintro e w3 hR3;obtain ⟨L,rfl,hO,hS3⟩:=hR3.out.2 d' HRR.out;simp only [aS];obtain ⟨lt,r0,r1,r2,r3,r4,r5⟩:=hNB.since hS3)
   obtain ⟨hO2,hSf⟩:=hO.result (w0:=w) (p:=wp.heap.size) hNB.lt hSp.size (hS1.trans hS3) hS1.size;refine bodyPost_ret (v:=.tuple #[aS L d',.int .i64 0]) ?_ rfl (iB hO2 hSf);simp [results,results53,go_sem,r0,r1,r2,aS]
 by_cases h2:kind=2
 ·subst h2;obtain ⟨r,hr⟩:∃ r,doD d ⟨2,one,two,body⟩=r:=⟨_,rfl⟩;rw [hr];have HRR:=(show Hid _ from hr);clear hr
  cases r with
  | error er =>
   go_enter func53,ntmps53
   go_wp2_with (go_at_call 32;refine (qO ⟨ga,gl,gc,na,nl,nc,wa,wl,wc⟩ d one two w1 hW1).mono ?_;rintro e w3 hR3;obtain ⟨rfl,hS3⟩:=hR3.out.1 er HRR.out;obtain ⟨lt,r0,r1,r2,r3,r4,r5⟩:=hNB.since hS3)
   refine bodyPost_ret (v:=.tuple #[.agg #[.slice none 0 0,.slice none 0 0,.slice none 0 0],.int .i64 er]) ?_ rfl (dS (aM hSp.size (hS1.trans hS3)));simp [results,results53,go_sem,r0,r1,r2]
  | ok d' =>
   go_enter func53,ntmps53
   go_wp2_with (go_at_call 32;refine (qO ⟨ga,gl,gc,na,nl,nc,wa,wl,wc⟩ d one two w1 hW1).mono ?_;rintro e w3 hR3;obtain ⟨L,rfl,hO,hS3⟩:=hR3.out.2 d' HRR.out;simp only [aS];obtain ⟨lt,r0,r1,r2,r3,r4,r5⟩:=hNB.since hS3)
   obtain ⟨hO2,hSf⟩:=hO.result (w0:=w) (p:=wp.heap.size) hNB.lt hSp.size (hS1.trans hS3) hS1.size;refine bodyPost_ret (v:=.tuple #[aS L d',.int .i64 0]) ?_ rfl (iB hO2 hSf);simp [results,results53,go_sem,r0,r1,r2,aS]
 by_cases h3:kind=3
 ·subst h3;obtain ⟨r,hr⟩:∃ r,doD d ⟨3,one,two,body⟩=r:=⟨_,rfl⟩;rw [hr];have HRR:=(show Hid _ from hr);clear hr
  cases r with
  | error er =>
   go_enter func53,ntmps53
   go_wp2_with (go_at_call 33;refine (rY ⟨ga,gl,gc,na,nl,nc,wa,wl,wc⟩ d one two w1 hW1).mono ?_;rintro e w3 hR3;obtain ⟨rfl,hS3⟩:=hR3.out.1 er HRR.out;obtain ⟨lt,r0,r1,r2,r3,r4,r5⟩:=hNB.since hS3)
   refine bodyPost_ret (v:=.tuple #[.agg #[.slice none 0 0,.slice none 0 0,.slice none 0 0],.int .i64 er]) ?_ rfl (dS (aM hSp.size (hS1.trans hS3)));simp [results,results53,go_sem,r0,r1,r2]
  | ok d' =>
   go_enter func53,ntmps53
   go_wp2_with (go_at_call 33;refine (rY ⟨ga,gl,gc,na,nl,nc,wa,wl,wc⟩ d one two w1 hW1).mono ?_;rintro e w3 hR3;obtain ⟨L,rfl,hO,hS3⟩:=hR3.out.2 d' HRR.out;simp only [aS];obtain ⟨lt,r0,r1,r2,r3,r4,r5⟩:=hNB.since hS3)
   obtain ⟨hO2,hSf⟩:=hO.result (w0:=w) (p:=wp.heap.size) hNB.lt hSp.size (hS1.trans hS3) hS1.size;refine bodyPost_ret (v:=.tuple #[aS L d',.int .i64 0]) ?_ rfl (iB hO2 hSf);simp [results,results53,go_sem,r0,r1,r2,aS]
 by_cases h4:kind=4
 ·subst h4;obtain ⟨r,hr⟩:∃ r,doD d ⟨4,one,two,body⟩=r:=⟨_,rfl⟩;rw [hr];have HRR:=(show Hid _ from hr);clear hr
  cases r with
  | error er =>
   go_enter func53,ntmps53
   go_wp2_with (go_at_call 46;refine (wW ⟨ga,gl,gc,na,nl,nc,wa,wl,wc⟩ d w1 hW1).mono ?_;rintro e w3 hR3;obtain ⟨rfl,hS3⟩:=hR3.out.1 er HRR.out;obtain ⟨lt,r0,r1,r2,r3,r4,r5⟩:=hNB.since hS3)
   refine bodyPost_ret (v:=.tuple #[.agg #[.slice none 0 0,.slice none 0 0,.slice none 0 0],.int .i64 er]) ?_ rfl (dS (aM hSp.size (hS1.trans hS3)));simp [results,results53,go_sem,r0,r1,r2]
  | ok d' =>
   go_enter func53,ntmps53
   go_wp2_with (go_at_call 46;refine (wW ⟨ga,gl,gc,na,nl,nc,wa,wl,wc⟩ d w1 hW1).mono ?_;rintro e w3 hR3;obtain ⟨L,rfl,hO,hS3⟩:=hR3.out.2 d' HRR.out;simp only [aS];obtain ⟨lt,r0,r1,r2,r3,r4,r5⟩:=hNB.since hS3)
   obtain ⟨hO2,hSf⟩:=hO.result (w0:=w) (p:=wp.heap.size) hNB.lt hSp.size (hS1.trans hS3) hS1.size;refine bodyPost_ret (v:=.tuple #[aS L d',.int .i64 0]) ?_ rfl (iB hO2 hSf);simp [results,results53,go_sem,r0,r1,r2,aS]
 have b1:(kind == 1)=false:=by simpa using h1
 have b2:(kind == 2)=false:=by simpa using h2
 have b3:(kind == 3)=false:=by simpa using h3
 have b4:(kind == 4)=false:=by simpa using h4
 have HF:Hid (doD d ⟨kind,one,two,body⟩=.error 6):=by unfold Hid doD;dsimp only;rw [if_neg h1,if_neg h2,if_neg h3,if_neg h4]
 clear h1 h2 h3 h4;obtain ⟨lt,r0,r1,r2,r3,r4,r5⟩:=hNB
 go_enter func53,ntmps53
 go_wp2
 refine bodyPost_ret (v:=.tuple #[.agg #[.slice none 0 0,.slice none 0 0,.slice none 0 0],.int .i64 6]) ?_ rfl (by unfold Hid;rw [HF.out];exact dS (aM hSp.size hS1));simp [results,results53,go_sem,r0,r1,r2]
theorem Fu (cnt nodes:Nat) (hc:cnt<=1000) (hn:nodes<=1000) (w:World) :
  Calls prog 165 #[.int .i64 cnt,.int .i64 nodes] w fun e w'=>∃ (s:Sl) (rs:Nat->Sl),e=.returned (s.v cnt)/\bC 1 qw w.heap.size w' s rs (List.replicate cnt (List.replicate nodes (0:Int)))/\Since w w':=by
 obtain ⟨xss,hxs⟩:∃ xss:List (List Int),List.replicate cnt (List.replicate nodes (0:Int))=xss:=⟨_,rfl⟩;have hlen:xss.length=cnt:=by rw [<-hxs];simp
 have HAT:Hid (∀ j,j < cnt->xss[j]? = some (List.replicate nodes (0:Int))):=fun j hj=>by rw [<-hxs,List.getElem?_replicate,if_pos hj]
 rw [hxs];clear hxs;subst hlen;have QZ:=fun y=>run_make_row' (P:=prog) 43 22 (.slice none 0 0) 24 (by kernel_rfl) (by kernel_rfl) rfl .i64 .i64 xss.length (by omega) (by omega) y;have QD:=fun y=>run_make_row' (P:=prog) 22 3 (.int .i64 0) 8 (by kernel_rfl) (by kernel_rfl) rfl .i64 .i64 nodes (by omega) (by omega) y;obtain ⟨w1,hw1⟩:∃ w1,w.alloc (.cells (madeCells #[.slice none 0 0] xss.length) 22)=w1:=⟨_,rfl⟩;have hS1:=ay hw1
 have ze:bC 1 qw w.heap.size w1 ⟨some ⟨w.heap.size,0,none⟩,xss.length⟩ (fun _=>⟨none,0⟩) (List.replicate xss.length ([]:List Int)):=by
  rw [<-hw1];exact bC.made rfl w.heap.size w xss.length _ (Nat.le_refl _) (by unfold maxLen;omega)
 go_enter func165,ntmps165
 go_wp2
 go_loopw [11] (fun i wr=>∃ (j:Nat) (rs:Nat->Sl),j<=xss.length/\i=.int .i64 j/\bC 1 qw w.heap.size wr ⟨some ⟨w.heap.size,0,none⟩,xss.length⟩ rs (xss.take j++List.replicate (xss.length - j) [])/\Since w wr) (fun i _=>xss.length - (intOf i).toNat)
 case atStart=>exact ⟨0,_,Nat.zero_le _,rfl,by simpa using ze,hS1⟩
 case round =>
  clear ze hw1 hS1 QZ;obtain ⟨wo,rfl⟩:∃ wo,wo=wr:=⟨_,rfl⟩;obtain ⟨j,rs,hj,rfl,hLL,hS⟩:=hrel;by_cases hlt:j < xss.length
  ·have n1:(j:Int) < (xss.length:Int):=by omega
   have hlen:(xss.take j++List.replicate (xss.length - j) ([]:List Int)).length=xss.length:=by simp;omega
   obtain ⟨w2,hw2⟩:∃ y,wo.alloc (.cells (madeCells #[.int .i64 0] nodes) 3)=y:=⟨_,rfl⟩;have hS2:=ay hw2
   have mO:Row w2 wo.heap.size 1 ⟨some ⟨wo.heap.size,0,none⟩,nodes⟩ (List.replicate nodes (0:Int)).length (qw (List.replicate nodes 0)):=by
    have:=Row.new wo wo.heap.size 1 (madeCells #[.int .i64 0] nodes) 3 nodes (Nat.le_refl _) (by rw [size_madeCells];omega) (by unfold maxLen;omega);rw [uh,hw2] at this;unfold qw;rw [List.map_replicate,List.length_replicate];exact this
   have Fv:=hLL.since hS2;obtain ⟨b',o',e',_,hblt,hall,_⟩:=Fv.top.body (by show 0 < xss.length;omega);dsimp only at e';cases e';obtain ⟨q1,q2⟩:=hall j (by show j < xss.length*1;omega);rw [Nat.zero_add] at q1 q2;obtain ⟨u,hu⟩:=Option.isSome_iff_exists.1 q1;have HL:Hid ((xss.take j++List.replicate (xss.length - j) ([]:List Int)).length=xss.length):=hlen;clear hall q1 hlen
   go_wp2
   go_roundw
   case rel =>
    have hput:=Fv.put (k:=j) (by rw [HL.out];exact hlt) rfl (mO.mono hS.size) (fun c hc=>by
     have hge:=mO.iX c hc;refine ⟨fun e=>?_,fun i _ hi e=>?_⟩
     ·have:=(hLL.blk (.inl e)).2;omega
     ·have:=(hLL.blk (.inr ⟨i,hi,e⟩)).2;omega)
    rw [take_set xss j _ (HAT.out j hlt),Nat.zero_add,List.length_replicate] at hput;exact ⟨j+1,_,by omega,by go_num,hput,⟨(hS.trans hS2).below.setCell (p:=⟨w.heap.size,j,none⟩) (Nat.le_refl _) _⟩⟩
   case measure=>simp [intOf];omega
  ·obtain rfl:j=xss.length:=by omega
   rw [Nat.sub_self,List.replicate_zero,List.append_nil,List.take_of_length_le (Nat.le_refl _)] at hLL
   go_wp2
   go_ret
   exact ⟨⟨some ⟨w.heap.size,0,none⟩,xss.length⟩,rs,rfl,hLL,hS⟩
theorem zH (nodes:Int) (a:Option Addr) (len cap:Nat) (l:List Int) (w:World) (hI:Ints w a len l) (hE:¬ dF nodes l=0) :
  Calls prog 108 #[.int .i64 nodes,.slice a len cap] w fun e w'=>Hid (rX w (.error (dF nodes l)) e w'):=by
 obtain ⟨w1,hw1⟩:∃ w1,w.alloc (.cells #[.slice none 0 0,.slice none 0 0,.slice none 0 0] 26)=w1:=⟨_,rfl⟩;have hNB:aD w1 w.heap.size:=by rw [<-hw1];exact aD.new w _
 have hS1:=ay hw1;have hI1:=hI.since hS1;obtain ⟨er,her⟩:∃ er,dF nodes l=er:=⟨_,rfl⟩;have hC:=uj nodes a len cap l w1 hI1;rw [her] at hC hE ⊢;have hE':(er != 0)=true:=by simpa using hE
 obtain ⟨w2,hw2⟩:∃ y,w1.alloc (.cells #[.int .i64 nodes] 3)=y:=⟨_,rfl⟩;have hS2:=ay hw2;rw [hw2] at hC;obtain ⟨lt,r0,r1,r2,r3,r4,r5⟩:=hNB.since hS2;clear hE her
 go_enter func108,ntmps108
 go_wp2_with (go_at_call 158;refine hC.mono ?_;rintro e w3 ⟨rfl,hw3⟩;obtain rfl:=hw3.symm)
 refine bodyPost_ret (v:=.tuple #[.agg #[.slice none 0 0,.slice none 0 0,.slice none 0 0],.int .i64 er]) ?_ rfl (dS (aM (Nat.le_refl _) (hS1.trans hS2)));simp [results,results108,go_sem,r0,r1,r2]
theorem uM (nodes:Nat) (hn:nodes<=4) (l:List Int) (hl:l.length<=3) (a:Option Addr) (cap:Nat) (w:World) (hI:Ints w a l.length l) (hE:dF (nodes:Int) l=0) :
  Calls prog 108 #[.int .i64 nodes,.slice a l.length cap] w fun e w'=>Hid (rX w (.ok (dw nodes l)) e w'):=by
 obtain ⟨w1,hw1⟩:∃ w1,w.alloc (.cells #[.slice none 0 0,.slice none 0 0,.slice none 0 0] 26)=w1:=⟨_,rfl⟩;have hNB:aD w1 w.heap.size:=by rw [<-hw1];exact aD.new w _
 have hS1:=ay hw1;have hI1:=hI.since hS1;have hC:=uj nodes a l.length cap l w1 hI1;rw [hE] at hC;obtain ⟨w2,hw2⟩:∃ y,w1.alloc (.cells #[.int .i64 nodes] 3)=y:=⟨_,rfl⟩;have dn:=ay hw2;rw [hw2] at hC;have hS2:=hS1.trans dn;have hCl:=pO a l.length cap l w2 (hI1.since dn) (by omega);clear hE hw2
 go_enter func108,ntmps108
 go_wp2_with (first
  | (go_at_call 158;refine hC.mono ?_;rintro e w3 ⟨rfl,hw3⟩;obtain rfl:=hw3.symm)
  | (go_at_call 164;refine hCl.mono ?_;rintro e w3 ⟨⟨ga,gc⟩,rfl,hR3,EY⟩;unfold Sl.v;dsimp only))
 obtain ⟨w4,hw4⟩:∃ w4,w3.alloc (.cells #[.slice ga l.length gc,.slice none 0 0,.slice none 0 0] 26)=w4:=⟨_,rfl⟩;rw [hw4];have j4:=ay hw4
 have hM0:cu w2.heap.size w4 w3.heap.size (fD nodes l 0) (fun ix=>if ix=(0,0,0) then ⟨ga,gc⟩ else ⟨none,0⟩):=by
  have hO:=bE.start (gs:=l) hR3 (by omega);refine ⟨hO.since j4, ?_,fun hb=>?_⟩
  ·rw [<-hw4];constructor <;> simp [go_sem,fD]
  ·have:=(hO.blk hb).2;omega
 have Vg:=EY.trans j4;have hp3:w2.heap.size<=w3.heap.size:=EY.size;have SS:=hNB.since dn;have QD:=fun y=>run_make_row' (P:=prog) 40 39 (.slice none 0 0) 24 (by kernel_rfl) (by kernel_rfl) rfl .i64 .i64 nodes (by omega) (by omega) y;clear hw4 hR3 j4 hC hCl hw1
 go_loopw [19] (fun i wr=>∃ k:Nat,k<=nodes/\i=.int .i64 k/\(∃ L,cu w2.heap.size wr w3.heap.size (fD nodes l k) L)/\Since w2 wr) (fun i _=>nodes - (intOf i).toNat)
 case atStart=>exact ⟨0,Nat.zero_le _,rfl,⟨_,hM0⟩,Vg⟩
 case round =>
  obtain ⟨wo,rfl⟩:∃ wo,wo=wr:=⟨_,rfl⟩;obtain ⟨k,hk,rfl,⟨L,hM⟩,hSr⟩:=hrel;clear hM0;by_cases hlt:k < nodes
  ·obtain ⟨x,hx⟩:∃ x:Nd,x=⟨0,List.replicate l.length (List.replicate nodes 0),[],[]⟩:=⟨_,rfl⟩;obtain ⟨na,nc,hL1⟩:∃ na nc,L (1,0,0)=⟨na,nc⟩:=⟨_,_,rfl⟩;have n1:(k:Int) < (nodes:Int):=by omega
   have b1:wo.cell? ⟨w3.heap.size,1,none⟩=some (.slice na k nc):=by have:=hM.box.c1;rw [hL1] at this;simpa [fD] using this
   have hpl:w3.heap.size < wo.heap.size:=hM.box.lt
   have hRn:Row wo w2.heap.size 4 ⟨na,nc⟩ k (dM (fD nodes l k) L (1,0,0)):=by
    have:Row wo w2.heap.size 4 (L (1,0,0)) (fD nodes l k).nodes.length (dM (fD nodes l k) L (1,0,0)):=hM.own.row (1,0,0) ⟨rfl,rfl⟩;rw [hL1] at this;simpa [fD] using this
   obtain ⟨S0,hS0⟩:∃ S0:World->Prop,∀ w',S0 w'↔Since wo w':=⟨_,fun _=>Iff.rfl⟩;have c1:∀ y:ak S0,y.w.cell? ⟨w3.heap.size,1,none⟩=some (.slice na k nc):=fun y=>(((hS0 _).1 y.h).cellAt hpl _).trans b1;obtain ⟨W0,hW0⟩:∃ y,wo.drew=y:=⟨_,rfl⟩;have hs0:=aQ hW0;have au:=(hS0 W0).2 hs0;have hne:Nonempty (ak S0):=⟨⟨_,au⟩⟩;have dH:=aI w
   go_wp2_with fail
   refine aK (fun w'=>∃ x:ak S0,w'=x.w) (by kernel_rfl) ?_;rw [hW0];clear hW0;refine tW 0 rfl ?_;go_big_quiet_op;refine tM 1 rfl (aj au) ?_;go_big_quiet_op;refine tW 2 rfl ?_;go_big_quiet_op;refine tM 3 rfl (aj au) ?_;go_big_quiet_op;refine tW 4 rfl ?_;go_big_quiet_op;refine aR 5 rfl (by kernel_rfl) ?_;intro K hK;go_simp;refine (Fu l.length nodes (by omega) (by omega) W0).mono ?_;rintro e W1 ⟨⟨sa,sc⟩,rs,rfl,hLL,hs1⟩;unfold Sl.v;dsimp only;have SV:=hs0.trans hs1;have wX:=(hS0 W1).2 SV;refine hK _ _ (fun _ _=>aj wX) ?_;clear hK K;refine tW 6 rfl ?_;go_big_quiet_op;refine aR 7 rfl (by kernel_rfl) ?_;intro K hK;go_simp;have hs2:Since W1 (W1.alloc (.cells #[.int .i64 0,.slice sa l.length sc,.slice none 0 0,.slice none 0 0] 45)):=(Since.refl W1).alloc _
   have hsrc:=fM (size:=4) (T:=45) (w:=W1) mP.und [.int .i64 0,.slice sa l.length sc,.slice none 0 0,.slice none 0 0] rfl (fun u hu=>by simp at hu;rcases hu with rfl | rfl | rfl <;> rfl) 1
   have KP:=SV.trans hs2;have zS:=(hS0 _).2 KP;refine hK _ _ (fun _ _=>aj zS) ?_;clear hK K;refine aR 8 rfl (by kernel_rfl) ?_;intro K hK;refine fF mP (by rfl) _ _ 23 (by rfl) (by rfl) (hRn.since KP) (by rfl) hsrc (by omega) (zQ5 hSr.size KP.size) ?_;intro na' nc' w10 xX xY Il;have BO:=(hM.box.since KP).fr xY (fun e=>hM.off ⟨(1,0,0),⟨rfl,rfl⟩,by rw [hL1];exact e⟩);have q1:=BO.c1;have q2:=BO.z1;refine hK _ _ (fun h=>absurd h (by decide +kernel)) ?_;clear hK K;simp only [Act.put,zQ7,zQ8,zQ9];refine tW 9 rfl ?_;go_big_quiet_op;refine aR 10 rfl (by kernel_rfl) ?_;intro K hK;go_simp;refine hK _ _ (fun h=>absurd h (by decide +kernel)) ?_;clear hK K;refine bH (by kernel_rfl) ?_
   have hNd:nN wo.heap.size (W1.alloc (.cells #[.int .i64 0,.slice sa l.length sc,.slice none 0 0,.slice none 0 0] 45)) x ⟨sa,sc⟩ rs ⟨none,0⟩ ⟨none,0⟩:=by
    rw [hx];exact ⟨(hLL.since hs2).mono hs0.size,Row.nil _ _ _,Row.nil _ _ _,fun b e=>(by cases e),fun b e=>(by cases e)⟩
   have kL:=hM.addNode (a':=na') (c':=nc') (w':=w10) KP hNd hSr.size (by rw [hx];refine ⟨by simp;omega,fun i r hr=>?_,by simp,by simp⟩;(have:=zQ2.1 hr;obtain ⟨h1,h2⟩:=this;simp at h2;rw [<-h2];simp;omega)) (by simp [fD];omega)
    (by rw [hx];simpa [fD,Sl.v] using xX) (by rw [hL1];exact xY) (by rw [hL1];exact Il)
   obtain ⟨w11,Fw⟩:∃ w11,w10.setCell ⟨w3.heap.size,1,none⟩ (.slice na' (k+1) nc')=w11:=⟨_,rfl⟩;have Q0:(fD nodes l k).nodes.length=k:=by simp [fD]
   rw [Q0,Fw] at kL
   have qP:Since w2 w11:=by
    rw [<-Fw];refine Fr.aC (B:=fun i=>¬ i < w2.heap.size) ((xY.mono (fun i _ e=>?_)).setCell _ _ ?_) (hSr.trans KP) (fun i hi h=>h hi)
    ·have:=(hM.own.blk ⟨(1,0,0),⟨rfl,rfl⟩,by rw [hL1];exact e⟩).1;omega
    ·intro _;show ¬ w3.heap.size < _;omega
   obtain ⟨d11,Im⟩:∃ d:Wd,{ (fD nodes l k) with nodes:=(fD nodes l k).nodes++[x] }=d:=⟨_,rfl⟩
   rw [Im] at kL;obtain ⟨L11,MZ⟩:∃ L':Lay,dD L k ⟨na',nc'⟩ ⟨sa,sc⟩ rs ⟨none,0⟩ ⟨none,0⟩=L':=⟨_,rfl⟩;rw [MZ] at kL;obtain ⟨ra,rc,hL2⟩:∃ ra rc,L11 (2,0,0)=⟨ra,rc⟩:=⟨_,_,rfl⟩;have hwl:d11.wires.length=k:=by rw [<-Im];simp [fD]
   have b2:w11.cell? ⟨w3.heap.size,2,none⟩=some (.slice ra k rc):=by have:=kL.box.c2;rw [hL2,hwl] at this;exact this
   have hRw:Row w11 w2.heap.size 1 ⟨ra,rc⟩ k (dM d11 L11 (2,0,0)):=by
    have:Row w11 w2.heap.size 1 (L11 (2,0,0)) d11.wires.length (dM d11 L11 (2,0,0)):=kL.own.row (2,0,0) ⟨rfl,rfl⟩;rw [hL2,hwl] at this;exact this
   have Q5:w3.heap.size < w11.heap.size:=kL.box.lt;clear hL1 b1 hRn hsrc xX xY Il BO q1 q2 hNd hLL hM MZ hne dH c1 hS0 S0 au wX zS;obtain ⟨S0,hS0⟩:∃ S0:World->Prop,∀ w',S0 w'↔Since w11 w':=⟨_,fun _=>Iff.rfl⟩;have c2:∀ y:ak S0,y.w.cell? ⟨w3.heap.size,2,none⟩=some (.slice ra k rc):=fun y=>(((hS0 _).1 y.h).cellAt Q5 _).trans b2;obtain ⟨V0,hV0⟩:∃ y,w11.drew=y:=⟨_,rfl⟩;have ht0:=aQ hV0;have au:=(hS0 V0).2 ht0;have hne:Nonempty (ak S0):=⟨⟨_,au⟩⟩;have dH:=aI w
   go_wp2_with fail
   refine aK (fun w'=>∃ x:ak S0,w'=x.w) (by kernel_rfl) ?_;rw [hV0];clear hV0 Fw;refine tW 0 rfl ?_;go_big_quiet_op;refine tM 1 rfl (aj au) ?_;go_big_quiet_op;refine tW 2 rfl ?_;go_big_quiet_op;refine aR 3 rfl (by kernel_rfl) ?_;intro K hK;go_simp;have ht1:Since V0 (V0.alloc (.cells (madeCells #[.slice none 0 0] nodes) 39)):=(Since.refl V0).alloc _;have wX:=(hS0 _).2 (ht0.trans ht1);refine hK _ _ (fun _ _=>aj wX) ?_;clear hK K;refine aR 4 rfl (by kernel_rfl) ?_;intro K hK;go_simp;have ht2:Since w11 ((V0.alloc (.cells (madeCells #[.slice none 0 0] nodes) 39)).alloc (.cells #[.slice (some ⟨V0.heap.size,0,none⟩) nodes nodes] 40)):=(ht0.trans ht1).alloc _;have Fx:=fM (size:=1) (T:=40) (w:=V0.alloc (.cells (madeCells #[.slice none 0 0] nodes) 39)) oF.und [.slice (some ⟨V0.heap.size,0,none⟩) nodes nodes] rfl (fun u hu=>by simp at hu;subst hu;rfl) 1;simp only [World.size_alloc] at Fx;have zS:=(hS0 _).2 ht2;refine hK _ _ (fun _ _=>aj zS) ?_;clear hK K;refine aR 5 rfl (by kernel_rfl) ?_;intro K hK;refine fF oF (by rfl) _ _ 24 (by rfl) (by rfl) (hRw.since ht2) (by rfl) Fx (by omega) (zQ5 qP.size ht2.size) ?_;intro ra' rc' w12 Q6 BI Q7;have KQ:=(kL.box.since ht2).fr BI (fun e=>kL.off ⟨(2,0,0),⟨rfl,rfl⟩,by rw [hL2];exact e⟩);have q1:=KQ.c2;have q2:=KQ.z2;refine hK _ _ (fun h=>absurd h (by decide +kernel)) ?_;clear hK K;simp only [Act.put,zQ7,zQ8,zQ9];refine tW 6 rfl ?_;go_big_quiet_op;refine aR 7 rfl (by kernel_rfl) ?_;intro K hK;go_simp;refine hK _ _ (fun h=>absurd h (by decide +kernel)) ?_;clear hK K;refine bH (by kernel_rfl) ?_
   have Io:=kL.yc (a':=ra') (c':=rc') (w':=w12) (x:=List.replicate nodes []) ht2 (((bC.made (α:=Mg) (sz:=5) (enc:=flat) rfl V0.heap.size V0 nodes 39 (Nat.le_refl _) (by unfold maxLen;omega)).since ((Since.refl _).alloc _)).mono ht0.size) qP.size
    ⟨by simp;omega,fun i r hr=>by have:=zQ2.1 hr;obtain ⟨h1,h2⟩:=this;simp at h2;first | (rw [h2];simp) | (rw [<-h2];simp)⟩ (by omega) (by rw [hwl,List.length_replicate];exact Q6) (by rw [hL2];exact BI) (by rw [hL2];exact Q7)
   rw [hwl] at Io
   have hdE:({ d11 with wires:=d11.wires++[List.replicate nodes []] }:Wd)=fD nodes l (k+1):=by
    rw [<-Im,hx];simp [fD,List.replicate_succ']
   rw [hdE] at Io
   have qg:Since w2 (w12.setCell ⟨w3.heap.size,2,none⟩ (.slice ra' (k+1) rc')):=by
    refine Fr.aC (B:=fun i=>¬ i < w2.heap.size) ((BI.mono (fun i _ e=>?_)).setCell _ _ ?_) (qP.trans ht2) (fun i hi h=>h hi)
    ·have:=(kL.own.blk ⟨(2,0,0),⟨rfl,rfl⟩,by rw [hL2];exact e⟩).1;omega
    ·intro _;show ¬ w3.heap.size < _;omega
   clear c2 hne dH
   go_wp2
   exact ⟨⟨k+1,by omega,by go_num,⟨_,Io⟩,qg⟩,by simp [intOf];omega⟩
  ·obtain rfl:k=nodes:=by omega
   obtain ⟨lt,r0,r1,r2,r3,r4,r5⟩:=SS.since hSr;have b0:=hM.box.c0;have b1:=hM.box.c1;have b2:=hM.box.c2
   go_wp2
   obtain ⟨hO,hSf⟩:=hM.own.result (w0:=w) (p:=w.heap.size) SS.lt (Nat.le_refl _) (hS2.trans hSr) hS2.size;refine bodyPost_ret (v:=.tuple #[aS L (dw k l),.int .i64 0]) ?_ rfl (iB hO hSf);simp [results,results108,go_sem,r0,r1,r2,aS,fD,dw]
end Go.Proofs.YtiiifecfdkjmbaaGreat
namespace Go.Proofs.YtiiifecfdkjmbaaGreat
set_option maxRecDepth 8000
open Go.RowKit Go.Shelf
open Pu
set_option linter.unusedVariables false
set_option linter.unusedSimpArgs false
attribute [local go_sem] Oper.semAt_some
end Go.Proofs.YtiiifecfdkjmbaaGreat
namespace Go.Proofs.YtiiifecfdkjmbaaGreat
set_option maxRecDepth 8000
open Go.RowKit Go.Shelf
open Pu
set_option linter.unusedVariables false
set_option linter.unusedSimpArgs false
attribute [local go_sem] Oper.semAt_some
end Go.Proofs.YtiiifecfdkjmbaaGreat
namespace Go.Proofs.YtiiifecfdkjmbaaGreat
set_option maxRecDepth 8000
open Go.RowKit Go.Shelf
open Pu
set_option linter.unusedVariables false
set_option linter.unusedSimpArgs false
attribute [local go_sem] Oper.semAt_some
end Go.Proofs.YtiiifecfdkjmbaaGreat
namespace Go.Proofs.YtiiifecfdkjmbaaGreat
set_option maxRecDepth 8000
open Go.RowKit Go.Shelf
open Pu
set_option linter.unusedVariables false
set_option linter.unusedSimpArgs false
attribute [local go_sem] Oper.semAt_some
end Go.Proofs.YtiiifecfdkjmbaaGreat
namespace Go.Proofs.YtiiifecfdkjmbaaGreat
set_option maxRecDepth 8000
open Go.RowKit Go.Shelf
open Pu
set_option linter.unusedVariables false
set_option linter.unusedSimpArgs false
def gB:Ac:=⟨3,0,1,⟨#[]⟩⟩
end Go.Proofs.YtiiifecfdkjmbaaGreat
namespace Go.Proofs.YtiiifecfdkjmbaaGreat
open _root_.Go.Proofs.Tryz hiding checked
set_option maxRecDepth 8000
open Go.RowKit Go.Shelf
set_option linter.unusedVariables false
set_option linter.unusedSimpArgs false
attribute [local go_sem] Oper.semAt_some
end Go.Proofs.YtiiifecfdkjmbaaGreat
namespace Go.Proofs.YtiiifecfdkjmbaaGreat
open _root_.Go.Proofs.Tryz hiding checked
set_option maxRecDepth 8000
open Go.RowKit Go.Shelf
set_option linter.unusedVariables false
set_option linter.unusedSimpArgs false
attribute [local go_sem] Oper.semAt_some
end Go.Proofs.YtiiifecfdkjmbaaGreat
namespace Go.Proofs.YtiiifecfdkjmbaaGreat
open _root_.Go.Proofs.Tryz hiding checked
set_option maxRecDepth 8000
open Go.RowKit Go.Shelf
open Go.ChangeMaps (setBlock)
set_option linter.unusedVariables false
set_option linter.unusedSimpArgs false
attribute [local go_sem] Oper.semAt_some
end Go.Proofs.YtiiifecfdkjmbaaGreat
namespace Go.Proofs
open Go.Shelf
shelf_lay_g SlLaysF0.n6 Slsf 6 at Tryz 167 as Tryz.UL
end Go.Proofs
namespace Go.Proofs.YtiiifecfdkjmbaaGreat
open _root_.Go.Proofs.Tryz hiding checked
set_option maxRecDepth 8000
open Go.RowKit Go.Shelf
open Go.Sort (grow alloc_eq_grow grow_grow SWO HoldsK PermIn SortedIn)
set_option linter.unusedVariables false
set_option linter.unusedSimpArgs false
end Go.Proofs.YtiiifecfdkjmbaaGreat
namespace Go.Proofs.YtiiifecfdkjmbaaGreat
open _root_.Go.Proofs.Tryz hiding checked
set_option maxRecDepth 8000
open Go.RowKit Go.Shelf
set_option linter.unusedVariables false
set_option linter.unusedSimpArgs false
attribute [local go_sem] Oper.semAt_some
end Go.Proofs.YtiiifecfdkjmbaaGreat
namespace Go.Proofs.YtiiifecfdkjmbaaGreat
open _root_.Go.Proofs.Tryz hiding checked
set_option maxRecDepth 8000
open Go.RowKit Go.Shelf
open Pu
set_option linter.unusedVariables false
set_option linter.unusedSimpArgs false
theorem yI (a b:Mg) (v:Bool) (h:eU a b=v) (w:World):(binOp .eql 42 (.agg #[.int .i64 a.fr,.int .i64 a.gr,.int .i64 a.st,.bool a.nul,.string a.body]) (.agg #[.int .i64 b.fr,.int .i64 b.gr,.int .i64 b.st,.bool b.nul,.string b.body])).run prog w=.ok (.bool v) w:=by
 subst h;obtain ⟨af,ag,at1,an,ab⟩:=a;obtain ⟨bf,bg,bt,bn,bb⟩:=b;simp only [eU]
 by_cases h1:af=bf <;> by_cases h2:ag=bg <;> by_cases h3:at1=bt <;> by_cases h4:an=bn <;> by_cases h5:ab.toList=bb.toList <;>
  simp [go_sem,underlying42,h1,h2,h3,h4,h5,beq_toListBytes]
end Go.Proofs.YtiiifecfdkjmbaaGreat
