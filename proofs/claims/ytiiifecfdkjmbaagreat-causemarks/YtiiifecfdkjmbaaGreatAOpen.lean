/- Lemmas. Lemmas. Lemmas. Lemmas. Lemmas. Lemmas. -/
import Derived.Test.YtiiifecfdkjmbaaGreatRegM
import Derived.Test.YtiiifecfdkjmbaaGreatOwnX
import Derived.Test.YtiiifecfdkjmbaaGreatRMoveX
import Derived.Test.YtiiifecfdkjmbaaGreatCsMem
import Derived.Test.YtiiifecfdkjmbaaGreatMsgB
import Derived.ProofKit
import Derived.OpenShut
import Derived.ShutString
import Derived.ChangeOld
import Derived.SizedLaws
import Derived.Test.YtiiifecfdkjmbaaGreatRange
import Derived.Deep.Slices
set_option maxHeartbeats 1000000
namespace Go.Proofs.YtiiifecfdkjmbaaGreat
open _root_.Go.Proofs.Tryz hiding checked
set_option maxRecDepth 8000
open Go.RowKit Go.Shelf
open Pu
def fD (nodes:Nat) (l:List Int) (k:Nat):Wd:=⟨l,List.replicate k ⟨0,List.replicate l.length (List.replicate nodes 0),[],[]⟩,List.replicate k (List.replicate nodes [])⟩
theorem Gm (nodes:Nat) (hn:nodes<=4) (l:List Int) (hl:l.length<=3) (a:Option Addr) (cap:Nat) (w:World) (hI:Ints w a l.length l) :
  Calls prog 129 #[.int .i64 nodes,.slice a l.length cap] w fun e w'=>∃ L,e=.returned (aS L (dw nodes l))/\bE w.heap.size w' (dw nodes l) L/\Since w w':=by
 obtain ⟨w1,hw1⟩:∃ w1,w.alloc (.cells #[.slice none 0 0,.slice none 0 0,.slice none 0 0] 26)=w1:=⟨_,rfl⟩;have hS1:=ay hw1;obtain ⟨w2,hw2⟩:∃ w2,w1.alloc (.cells #[] 3)=w2:=⟨_,rfl⟩;have dn:=ay hw2;have hS2:=hS1.trans dn;have hR2:Row w2 w1.heap.size 1 ⟨some ⟨w1.heap.size,0,none⟩,0⟩ 0 []:=by rw [<-hw2];exact Row.empty w1 _ 1 _
 have hsz2:w1.heap.size < w2.heap.size:=by rw [<-hw2];simp
 have Vp:w.heap.size < w1.heap.size:=by rw [<-hw1];simp
 have RB0:∀ y,Since w1 y->y.cell? ⟨w.heap.size,0,none⟩=some (.slice none 0 0)/\y.cell? ⟨w.heap.size,1,none⟩=some (.slice none 0 0)/\y.cell? ⟨w.heap.size,2,none⟩=some (.slice none 0 0)/\y.frozen? ⟨w.heap.size,0,none⟩=false/\y.frozen? ⟨w.heap.size,1,none⟩=false/\y.frozen? ⟨w.heap.size,2,none⟩=false:=by
  intro y hy;have hl:w.heap.size < w1.heap.size:=by rw [<-hw1];simp
  have hc:∀ o,y.cell? ⟨w.heap.size,o,none⟩=w1.cell? ⟨w.heap.size,o,none⟩:=fun o=>hy.cellAt hl o;have hz:∀ o,y.frozen? ⟨w.heap.size,o,none⟩=w1.frozen? ⟨w.heap.size,o,none⟩:=fun o=>hy.below.frozen (p:=⟨w.heap.size,o,none⟩) hl;rw [hc,hc,hc,hz,hz,hz,<-hw1];simp [go_sem]
 go_enter func129,ntmps129
 go_wp2_with (at_builtin;refine gQ FU rfl _ _ 22 rfl rfl hR2 rfl (xu (hI.since hS2)) (by omega) dn.size ?_;intro ga gc w3 hR3 hF3 hB3)
 clear hw1 hw2;simp only [Nat.zero_add,List.nil_append] at hR3
 have hS3:Since w2 w3:=by
  refine hF3.since (fun i _ e=>?_);unfold Sl.blk at e;simp at e
 obtain ⟨w4,hw4⟩:∃ w4,w3.alloc (.cells #[.slice ga l.length gc,.slice none 0 0,.slice none 0 0] 26)=w4:=⟨_,rfl⟩;rw [hw4];have j4:=ay hw4
 have hM0:cu w1.heap.size w4 w3.heap.size (fD nodes l 0) (fun ix=>if ix=(0,0,0) then ⟨ga,gc⟩ else ⟨none,0⟩):=by
  have hO:=bE.start (gs:=l) hR3 (by omega);refine ⟨hO.since j4, ?_,fun hb=>?_⟩
  ·rw [<-hw4];constructor <;> simp [go_sem,fD]
  ·have:=(hO.blk hb).2;omega
 have xC:Since w1 w4:=(dn.trans hS3).trans j4;have hp3:w1.heap.size<=w3.heap.size:=(dn.trans hS3).size;have RB:Hid (∀ y,Since w1 y->y.cell? ⟨w.heap.size,0,none⟩=some (.slice none 0 0)/\y.cell? ⟨w.heap.size,1,none⟩=some (.slice none 0 0)/\y.cell? ⟨w.heap.size,2,none⟩=some (.slice none 0 0)/\y.frozen? ⟨w.heap.size,0,none⟩=false/\y.frozen? ⟨w.heap.size,1,none⟩=false/\y.frozen? ⟨w.heap.size,2,none⟩=false):=RB0;have hI4:=(hI.since hS1).since xC;have QZ:=fun y=>run_make_row' (P:=prog) 22 3 (.int .i64 0) 8 (by kernel_rfl) (by kernel_rfl) rfl .i64 .i64 nodes (by omega) (by omega) y;have QD:=fun y=>run_make_row' (P:=prog) 40 39 (.slice none 0 0) 24 (by kernel_rfl) (by kernel_rfl) rfl .i64 .i64 nodes (by omega) (by omega) y;clear hw4 hR3 hF3 hB3 j4 hS3 hR2 dn hsz2 hS2 RB0
 go_loopw [6] (fun i wr=>∃ k:Nat,k<=nodes/\i=.int .i64 k/\(∃ L,cu w1.heap.size wr w3.heap.size (fD nodes l k) L)/\Since w1 wr) (fun i _=>nodes - (intOf i).toNat)
 case atStart=>exact ⟨0,Nat.zero_le _,rfl,⟨_,hM0⟩,xC⟩
 case round =>
  obtain ⟨wo,rfl⟩:∃ wo,wo=wr:=⟨_,rfl⟩;obtain ⟨k,hk,rfl,⟨L,hM⟩,hSr⟩:=hrel;clear hM0;by_cases hlt:k < nodes
  ·go_wp2
   go_loopw [7,8] (fun v i wi=>∃ (j:Nat) (sa:Option Addr) (sc:Nat) (rs:Nat->Sl),j<=l.length/\i=.int .i64 j/\v=.slice sa j sc/\bC 1 qw wo.heap.size wi ⟨sa,sc⟩ rs (List.replicate j (List.replicate nodes 0))/\Since wo wi) (fun _ i _=>l.length - (intOf i).toNat)
   case atStart=>exact ⟨0,none,0,fun _=>⟨none,0⟩,Nat.zero_le _,rfl,rfl,bC.nil,Since.refl _⟩
   case round =>
    obtain ⟨wi,rfl⟩:∃ wi,wi=wr:=⟨_,rfl⟩;obtain ⟨j,sa,sc,rs,hj,rfl,rfl,hLL,hSi⟩:=hrel;by_cases hjl:j < l.length
    ·have hbb:∀ b,Sl.blk ⟨some ⟨wi.heap.size,0,none⟩,nodes⟩=some b->b=wi.heap.size:=by
      intro b e;unfold Sl.blk at e;split at e
      ·cases e
      ·cases e;rfl
     have hS6:Since wi (wi.alloc (.cells (madeCells #[.int .i64 0] nodes) 3)):=(Since.refl wi).alloc _;have hS7:Since wi ((wi.alloc (.cells (madeCells #[.int .i64 0] nodes) 3)).alloc (.cells #[.slice (some ⟨wi.heap.size,0,none⟩) nodes nodes] 22)):=hS6.alloc _
     have hrow:Row (wi.alloc (.cells (madeCells #[.int .i64 0] nodes) 3)) wo.heap.size 1 ⟨some ⟨wi.heap.size,0,none⟩,nodes⟩ nodes (qw (List.replicate nodes 0)):=by
      have:=Row.new wi wo.heap.size 1 (madeCells #[.int .i64 0] nodes) 3 nodes hSi.size (by rw [size_madeCells];omega) (by unfold maxLen;omega);rw [uh] at this;unfold qw;rw [List.map_replicate];exact this
     have hsrc:=fM (size:=1) (T:=22) (w:=wi.alloc (.cells (madeCells #[.int .i64 0] nodes) 3)) DL.und [.slice (some ⟨wi.heap.size,0,none⟩) nodes nodes] rfl (fun u hu=>by simp at hu;subst hu;rfl) 1;have Tq:=hLL.since hS7;have htop:=Tq.top;simp only [List.length_replicate] at htop;simp only [World.size_alloc] at hsrc
     go_wp2_with (at_builtin;refine gQ DL rfl _ _ 43 rfl rfl htop rfl hsrc ?_ ?_ ?_;omega;exact (zQ5 hSi.size hS7.size);intro sa' sc' w8 hR8 hF8 hB8)
     go_roundw
     case rel =>
      have hp:=Tq.push (xs:=List.replicate nodes 0) (r:=⟨some ⟨wi.heap.size,0,none⟩,nodes⟩) (w':=w8) (s':=⟨sa',sc'⟩) (by simpa using hrow.since ((Since.refl _).alloc _))
       (fun b e hb=>by have:=hbb b e;have:=(hLL.blk hb).2;omega) (by simpa [Sl.v] using hR8) hF8 hB8
      refine ⟨j+1,sa',sc',kQ rs j ⟨some ⟨wi.heap.size,0,none⟩,nodes⟩,by omega,by go_num,by go_num, ?_, ?_⟩
      ·rw [List.replicate_succ'];simpa using hp
      ·exact hF8.aC (hSi.trans hS7) (fun i hi e=>by have:=(hLL.blk (.inl e)).1;omega)
     case measure=>simp [intOf];omega
    ·obtain rfl:j=l.length:=by omega
     obtain ⟨x,hx⟩:∃ x:Nd,x=⟨0,List.replicate l.length (List.replicate nodes 0),[],[]⟩:=⟨_,rfl⟩;obtain ⟨na,nc,hL1⟩:∃ na nc,L (1,0,0)=⟨na,nc⟩:=⟨_,_,rfl⟩;obtain ⟨ra,rc,hL2⟩:∃ ra rc,L (2,0,0)=⟨ra,rc⟩:=⟨_,_,rfl⟩;have hMi:=hM.since hSi;have b1:wi.cell? ⟨w3.heap.size,1,none⟩=some (.slice na k nc):=by have:=hMi.box.c1;rw [hL1] at this;simpa [fD] using this
     have z1:=hMi.box.z1;have hpl:=hMi.box.lt
     have hRn:Row wi w1.heap.size 4 ⟨na,nc⟩ k (dM (fD nodes l k) L (1,0,0)):=by
      have:Row wi w1.heap.size 4 (L (1,0,0)) (fD nodes l k).nodes.length (dM (fD nodes l k) L (1,0,0)):=hMi.own.row (1,0,0) ⟨rfl,rfl⟩;rw [hL1] at this;simpa [fD] using this
     have hsrc:=fM (size:=4) (T:=45) (w:=wi) mP.und [.int .i64 0,.slice sa l.length sc,.slice none 0 0,.slice none 0 0] rfl (fun u hu=>by simp at hu;rcases hu with rfl | rfl | rfl <;> rfl) 1
     have hS9:Since wi (wi.alloc (.cells #[.int .i64 0,.slice sa l.length sc,.slice none 0 0,.slice none 0 0] 45)):=(Since.refl wi).alloc _;have BG:=hSr.trans (hSi.trans hS9)
     go_wp2_with (at_builtin;refine gQ mP rfl _ _ 23 rfl rfl (hRn.since hS9) rfl hsrc ?_ ?_ ?_;omega;exact BG.size;intro na' nc' w10 xX xY Il;have BO:=(hMi.box.since hS9).fr xY (fun e=>hM.off ⟨(1,0,0),⟨rfl,rfl⟩,by rw [hL1];exact e⟩);have q1:=BO.c1;have q2:=BO.z1)
     have hNd:nN wo.heap.size (wi.alloc (.cells #[.int .i64 0,.slice sa l.length sc,.slice none 0 0,.slice none 0 0] 45)) x ⟨sa,sc⟩ rs ⟨none,0⟩ ⟨none,0⟩:=by
      rw [hx];exact ⟨hLL.since hS9,Row.nil _ _ _,Row.nil _ _ _,fun b e=>(by cases e),fun b e=>(by cases e)⟩
     have kL:=hM.addNode (a':=na') (c':=nc') (w':=w10) (hSi.trans hS9) hNd hSr.size (by rw [hx];refine ⟨by simp;omega,fun i r hr=>?_,by simp,by simp⟩;(have:=zQ2.1 hr;obtain ⟨h1,h2⟩:=this;simp at h2;rw [<-h2];simp;omega)) (by simp [fD];omega)
      (by rw [hx];simpa [fD,Sl.v] using xX) (by rw [hL1];exact xY) (by rw [hL1];exact Il)
     obtain ⟨w11,Fw⟩:∃ w11,w10.setCell ⟨w3.heap.size,1,none⟩ (.slice na' (k+1) nc')=w11:=⟨_,rfl⟩;have Q0:(fD nodes l k).nodes.length=k:=by simp [fD]
     rw [Q0,Fw] at kL;rw [Fw]
     have qP:Since w1 w11:=by
      rw [<-Fw];refine Fr.aC (B:=fun i=>¬ i < w1.heap.size) ((xY.mono (fun i _ e=>?_)).setCell _ _ ?_) BG (fun i hi h=>h hi)
      ·have:=(hM.own.blk ⟨(1,0,0),⟨rfl,rfl⟩,by rw [hL1];exact e⟩).1;omega
      ·intro _;show ¬ w3.heap.size < _;omega
     obtain ⟨d11,Im⟩:∃ d:Wd,{ (fD nodes l k) with nodes:=(fD nodes l k).nodes++[x] }=d:=⟨_,rfl⟩
     rw [Im] at kL;obtain ⟨L11,MZ⟩:∃ L':Lay,dD L k ⟨na',nc'⟩ ⟨sa,sc⟩ rs ⟨none,0⟩ ⟨none,0⟩=L':=⟨_,rfl⟩;rw [MZ] at kL;obtain ⟨ra,rc,hL2⟩:∃ ra rc,L11 (2,0,0)=⟨ra,rc⟩:=⟨_,_,rfl⟩;have hwl:d11.wires.length=k:=by rw [<-Im];simp [fD]
     have b2:w11.cell? ⟨w3.heap.size,2,none⟩=some (.slice ra k rc):=by have:=kL.box.c2;rw [hL2,hwl] at this;exact this
     have z2:=kL.box.z2
     have hRw:Row w11 w1.heap.size 1 ⟨ra,rc⟩ k (dM d11 L11 (2,0,0)):=by
      have:Row w11 w1.heap.size 1 (L11 (2,0,0)) d11.wires.length (dM d11 L11 (2,0,0)):=kL.own.row (2,0,0) ⟨rfl,rfl⟩;rw [hL2,hwl] at this;exact this
     clear hL1 hMi b1 z1 hRn hsrc xX xY Il BO q1 q2 hNd hLL hM Fw MZ hS9 BG hSi QZ;have dn:Since w11 ((w11.alloc (.cells (madeCells #[.slice none 0 0] nodes) 39)).alloc (.cells #[.slice (some ⟨w11.heap.size,0,none⟩) nodes nodes] 40)).drew:=Since.drew (((Since.refl _).alloc _).alloc _);have Fx:=DN (size:=1) (T:=40) (w:=w11.alloc (.cells (madeCells #[.slice none 0 0] nodes) 39)) oF.und [.slice (some ⟨w11.heap.size,0,none⟩) nodes nodes] rfl (fun u hu=>by simp at hu;subst hu;rfl) 1;simp only [World.size_alloc] at Fx;have Tt:=zQ5 qP.size dn.size;obtain ⟨S0,hS0⟩:∃ S0:World->Prop,∀ w',S0 w'↔w'.cell? ⟨w3.heap.size,2,none⟩=some (.slice ra k rc):=⟨_,fun _=>Iff.rfl⟩;have hc2:∀ x:ak S0,x.w.cell? ⟨w3.heap.size,2,none⟩=some (.slice ra k rc):=fun x=>(hS0 _).1 x.h;have Q5:w3.heap.size < w11.heap.size:=kL.box.lt;have KS:Hid (∀ y,Since w11 y->S0 y):=fun y hy=>(hS0 y).2 ((hy.cellAt Q5 _).trans b2);have hSi:=KS.out w11.drew (Since.drew (Since.refl _));have hne:Nonempty (ak S0):=⟨⟨_,hSi⟩⟩;refine sU (fun w'=>∃ x:ak S0,w'=x.w) (by kernel_rfl) ?_;refine tL 0 rfl (aj hSi) ?_;go_big_quiet_op;refine tL 1 rfl (aj hSi) ?_;go_big_quiet_op;refine tL 2 rfl (aj hSi) ?_;go_big_quiet_op;refine kT 3 rfl (by kernel_rfl) ?_;intro K hK;go_simp;refine hK _ _ (fun _ _=>aj (KS.out _ (Since.drew ((Since.refl _).alloc _)))) ?_;clear hK K;refine kT 4 rfl (by kernel_rfl) ?_;intro K hK;go_simp;refine hK _ _ (fun _ _=>aj (KS.out _ dn)) ?_;clear hK K;refine kT 5 rfl (by kernel_rfl) ?_;intro K hK;refine fF oF (by rfl) _ _ 24 (by rfl) (by rfl) (hRw.since dn) (by rfl) Fx (by omega) Tt ?_;intro ra' rc' w12 Q6 BI Q7;have KQ:=(kL.box.since dn).fr BI (fun e=>kL.off ⟨(2,0,0),⟨rfl,rfl⟩,by rw [hL2];exact e⟩);have hSj:S0 w12:=(hS0 _).2 (by have:=KQ.c2;rw [hL2,hwl] at this;exact this);have q2:=KQ.c2;have q3:=KQ.z2;refine hK _ _ (fun _ _=>aj hSj) ?_;clear hK K;simp only [Act.put,zQ7,zQ8,zQ9];refine tL 6 rfl (aj hSj) ?_;go_big_quiet_op;refine kT 7 rfl (by kernel_rfl) ?_;intro K hK;go_simp;refine hK _ _ (fun h=>absurd h (by decide +kernel)) ?_;clear hK K
     have Io:=kL.yc (a':=ra') (c':=rc') (w':=w12) (x:=List.replicate nodes []) dn ((bC.made (α:=Mg) (sz:=5) (enc:=flat) rfl w11.heap.size w11 nodes 39 (Nat.le_refl _) (by unfold maxLen;omega)).since (Since.drew ((Since.refl _).alloc _))) qP.size
      ⟨by simp;omega,fun i r hr=>by have:=zQ2.1 hr;obtain ⟨h1,h2⟩:=this;simp at h2;first | (rw [h2];simp) | (rw [<-h2];simp)⟩ (by omega) (by rw [hwl,List.length_replicate];exact Q6) (by rw [hL2];exact BI) (by rw [hL2];exact Q7)
     rw [hwl] at Io
     have hdE:({ d11 with wires:=d11.wires++[List.replicate nodes []] }:Wd)=fD nodes l (k+1):=by
      rw [<-Im,hx];simp [fD,List.replicate_succ']
     rw [hdE] at Io
     have qg:Since w1 (w12.setCell ⟨w3.heap.size,2,none⟩ (.slice ra' (k+1) rc')):=by
      refine Fr.aC (B:=fun i=>¬ i < w1.heap.size) ((BI.mono (fun i _ e=>?_)).setCell _ _ ?_) (qP.trans dn) (fun i hi h=>h hi)
      ·have:=(kL.own.blk ⟨(2,0,0),⟨rfl,rfl⟩,by rw [hL2];exact e⟩).1;omega
      ·intro _;show ¬ w3.heap.size < _;omega
     refine uW (by kernel_rfl) ?_
     go_wp2
     exact ⟨⟨k+1,by omega,by go_num,⟨_,Io⟩,qg⟩,by simp [intOf];omega⟩
  ·obtain rfl:k=nodes:=by omega
   obtain ⟨r0,r1,r2,r3,r4,r5⟩:=RB.out _ hSr;have b0:=hM.box.c0;have b1:=hM.box.c1;have b2:=hM.box.c2
   go_wp2
   have hrl:w.heap.size < w1.heap.size:=Vp;have hoff:¬ gF (fD k l k) L w.heap.size:=fun hb=>by have:=(hM.own.blk hb).1;omega
   have hO:=((hM.own.jW (p:=⟨w.heap.size,0,none⟩) hoff (.slice (L (0,0,0)).a (fD k l k).groups.length (L (0,0,0)).cap)).jW (p:=⟨w.heap.size,1,none⟩) hoff (.slice (L (1,0,0)).a (fD k l k).nodes.length (L (1,0,0)).cap)).jW (p:=⟨w.heap.size,2,none⟩) hoff (.slice (L (2,0,0)).a (fD k l k).wires.length (L (2,0,0)).cap);refine bodyPost_ret (v:=aS L (fD k l k)) ?_ rfl ⟨L,rfl,hO.mono hS1.size, ?_⟩
   ·simp [results,results129,go_sem,r0,r1,r2,aS]
   ·have hF:Fr (fun i=>i=w.heap.size) wo wo:=Fr.refl _ _;exact (((hF.setCell ⟨w.heap.size,0,none⟩ _ (fun _=>rfl)).setCell ⟨w.heap.size,1,none⟩ _ (fun _=>rfl)).setCell ⟨w.heap.size,2,none⟩ _ (fun _=>rfl)).aC (hS1.trans hSr) (fun i hi e=>by omega)
set_option linter.unusedVariables false
set_option linter.unusedSimpArgs false
structure OE (w:World) (b o:Nat) (x:Ac):Prop where
 c0:w.cell? ⟨b,o,none⟩=some (.int .i64 x.kind)
 c1:w.cell? ⟨b,o+1,none⟩=some (.int .i64 x.one)
 c2:w.cell? ⟨b,o+2,none⟩=some (.int .i64 x.two)
 c3:w.cell? ⟨b,o+3,none⟩=some (.string x.body)
structure vk (w:World) (a:Option Addr) (len:Nat) (xs:List Ac):Prop where
 hlen:xs.length=len
 hmax:len<=3518437208780
 cells:0 < len->∃ b off,a=some ⟨b,off,none⟩/\b < w.heap.size/\∀ (i:Nat) (x:Ac),xs[i]? = some x->OE w b (off+i*4) x
theorem vk.since {w W:World} {a:Option Addr} {len:Nat} {xs:List Ac} (h:vk w a len xs) (k:Since w W):vk W a len xs :=
 ⟨h.hlen,h.hmax,fun hp=>by
  obtain ⟨b,off,e,hb,hc⟩:=h.cells hp;exact ⟨b,off,e,zQ4 hb k.size,fun i x hx=>let g:=hc i x hx;⟨(k.cellAt hb _).trans g.c0,(k.cellAt hb _).trans g.c1,(k.cellAt hb _).trans g.c2,(k.cellAt hb _).trans g.c3⟩⟩⟩
theorem Gt {m:Mg} {n:Nat} {d:Wd} {e:Int}:∀ i:Nat,fI m n d i=.error e->e≠0
 | 0,h=>by cases h
 | i+1,h=>by
  rw [jc] at h;rcases jC h with h | ⟨d1,_,h2⟩
  ·exact Gt i h
  ·unfold gX at h2;split at h2
   ·cases h2
   ·split at h2
    ·cases h2;simp
    ·split at h2
     ·cases h2;simp
     ·cases h2
theorem Ny {d:Wd} {n:Nat} {e:Int} (h:eX d n=.error e):e≠0:=by
 unfold eX at h;split at h
 ·cases h;simp
 ·split at h
  ·cases h;simp
  ·split at h
   ·cases h;simp
   ·cases h
theorem Lm {d:Wd} {n:Nat} {m:Mg} {e:Int} (h:dZ d n m=.error e):e≠0:=by
 unfold dZ at h;split at h
 ·cases h
 ·unfold uT at h;split at h
  ·cases h;simp
  ·split at h
   ·cases h
   ·rename_i hz;cases h;exact hz
theorem Gu {d:Wd} {n:Nat} {m:Mg} {e:Int} (h:((dZ d n m).bind fun d3=>(eX d3 n).bind fun p=>.ok p.1)=.error e):e≠0:=by
 rcases jC h with h | ⟨d3,_,h⟩
 ·exact Lm h
 ·rcases jC h with h | ⟨p,_,h⟩
  ·exact Ny h
  ·cases h
theorem tq {d:Wd} {n g:Int} {nul:Bool} {body:ByteArray} {e:Int} (h:fH d n g nul body=.error e):e≠0:=by
 unfold fH at h;split at h
 ·rcases jC h with h | ⟨d2,_,h⟩
  ·exact Gt _ h
  ·exact Gu h
 ·rename_i hz;cases h;exact hz
theorem xD {d:Wd} {f t:Nat} {e:Int} (h:fO d f t=.error e):e≠0:=by
 unfold fO at h;split at h
 ·cases h;simp
 ·exact Gu h
theorem QY {d:Wd} {a:Ac} (h4:a.kind≠4) {e:Int} (h:doD d a=.error e):e≠0:=by
 unfold doD checked jr at h;split at h
 ·split at h
  ·exact tq h
  ·rename_i hz;cases h;exact hz
 ·split at h
  ·split at h
   ·exact tq h
   ·rename_i hz;cases h;exact hz
  ·split at h
   ·split at h
    ·split at h
     ·exact xD h
     ·cases h;simp
    ·rename_i hz;cases h;exact hz
   ·cases h;simp
theorem Ns {lo lo':Nat} {w:World} {p:Nat} {d d':Wd} {L L':Lay} (hO:bE lo' w d' L') (hB:jV w p L d) (hl:lo<=lo') (hp:p < lo') :
  cu lo (((w.setCell ⟨p,0,none⟩ (.slice (L' (0,0,0)).a d'.groups.length (L' (0,0,0)).cap)).setCell ⟨p,1,none⟩ (.slice (L' (1,0,0)).a d'.nodes.length (L' (1,0,0)).cap)).setCell ⟨p,2,none⟩ (.slice (L' (2,0,0)).a d'.wires.length (L' (2,0,0)).cap)) p d' L':=by
 have hoff:¬ gF d' L' p:=fun hb=>by have:=(hO.blk hb).1;omega
 refine ⟨(((hO.jW (p:=⟨p,0,none⟩) hoff _).jW (p:=⟨p,1,none⟩) hoff _).jW (p:=⟨p,2,none⟩) hoff _).mono hl, ?_,hoff⟩;have h0:=hB.c0;have h1:=hB.c1;have h2:=hB.c2;have z0:=hB.z0;have z1:=hB.z1;have z2:=hB.z2;have lt:=hB.lt
 constructor <;> simp [go_sem,h0,h1,h2,z0,z1,z2,lt]
theorem OG {w:World} {p:Nat} {d:Wd} {L:Lay} (h:aD w p) :
  jV (((w.setCell ⟨p,0,none⟩ (.slice (L (0,0,0)).a d.groups.length (L (0,0,0)).cap)).setCell ⟨p,1,none⟩ (.slice (L (1,0,0)).a d.nodes.length (L (1,0,0)).cap)).setCell ⟨p,2,none⟩ (.slice (L (2,0,0)).a d.wires.length (L (2,0,0)).cap)) p L d:=by
 obtain ⟨lt,r0,r1,r2,r3,r4,r5⟩:=h
 constructor <;> simp [go_sem,lt,r0,r1,r2,r3,r4,r5]
theorem OU (k n g:Int) (body:ByteArray) (w:World) :
  Calls prog 94 #[.int .i64 k,.int .i64 n,.int .i64 g,.string body] w fun e w'=>e=.returned (.agg #[.int .i64 k,.int .i64 n,.int .i64 g,.string body])/\Since w w':=by
 go_enter func94,ntmps94
 go_wp2
 refine bodyPost_ret (v:=.agg #[.int .i64 k,.int .i64 n,.int .i64 g,.string body]) (by simp [results,results94,go_sem]) rfl ?_;exact ⟨rfl,(Since.refl _).alloc _⟩
def nC (x:Ac):List Value:=[.int .i64 x.kind,.int .i64 x.one,.int .i64 x.two,.string x.body]
theorem MV (w:World) (acts:List Ac) (hl:acts.length<=1000000) (T:TypeId):vk (w.alloc (.cells (acts.flatMap nC).toArray T)) (some ⟨w.heap.size,0,none⟩) acts.length acts:=by
 refine ⟨rfl,by omega,fun hp=>⟨_,_,rfl,by simp,fun i x hx=>?_⟩⟩
 have key:∀ (l:List Ac) (i:Nat) (x:Ac),l[i]? = some x->∀ j,j < 4->(l.flatMap nC)[i*4+j]? = (nC x)[j]?:=by
  intro l
  induction l with
  | nil=>intro i x h;simp at h
  | cons y ys ih =>
   intro i x h j hj
   cases i with
   | zero =>
    simp at h;subst h;rw [List.flatMap_cons,List.getElem?_append_left (by simp [nC];omega)];simp
   | succ i =>
    simp at h;rw [List.flatMap_cons,List.getElem?_append_right (by simp [nC];omega)];have:=ih i x h j hj;rw [<-this];congr 1;simp [nC];omega
 have hc:∀ o v,(acts.flatMap nC)[o]? = some v->(w.alloc (.cells (acts.flatMap nC).toArray T)).cell? ⟨w.heap.size,o,none⟩=some v:=by
  intro o v hv;unfold World.cell?;have hh:=World.alloc_heap_new w (.cells (acts.flatMap nC).toArray T);simp only [hh];simpa using hv
 have k0:=key acts i x hx;refine ⟨?_, ?_, ?_, ?_⟩
 ·rw [Nat.zero_add];exact hc _ _ (k0 0 (by omega))
 ·rw [Nat.zero_add];exact hc _ _ (k0 1 (by omega))
 ·rw [Nat.zero_add];exact hc _ _ (k0 2 (by omega))
 ·rw [Nat.zero_add];exact hc _ _ (k0 3 (by omega))
end Go.Proofs.YtiiifecfdkjmbaaGreat
set_option maxHeartbeats 2000000
namespace Go.Proofs.YtiiifecfdkjmbaaGreat
open _root_.Go.Proofs.Tryz hiding checked
set_option maxRecDepth 8000
open Go.RowKit Go.Shelf
open Pu
set_option linter.unusedVariables false
set_option linter.unusedSimpArgs false
attribute [local go_sem] Oper.semAt_some
def JC (L:List Ac) (h:List Ac) (x:Ac):Prop:=L[h.length]? = some x/\h=L.take h.length
def fu (L:List Ac):List Ac:=L.filter fun x=>x.kind != 4
theorem ER {L:List Ac} {k:Nat} {x:Ac} (hx:L[k]? = some x) (h4:(x.kind != 4)=true):JC (fu L) (fu (L.take k)) x:=by
 have hk:=(zQ2.1 hx).1
 have e:fu L=fu (L.take k)++(x::fu (L.drop (k+1))):=by
  unfold fu
  have e0:L=L.take k++(x::L.drop (k+1)):=by
   conv=>lhs;rw [<-List.take_append_drop k L]
   rw [List.drop_eq_getElem_cons hk];have:=(zQ2.1 hx).2;rw [this]
  conv=>lhs;rw [e0]
  rw [List.filter_append,List.filter_cons,if_pos h4]
 obtain ⟨A,hA⟩:∃ A,fu (L.take k)=A:=⟨_,rfl⟩;rw [hA] at e ⊢;constructor
 ·rw [e,List.getElem?_append_right (Nat.le_refl _),Nat.sub_self];rfl
 ·rw [e,List.take_left'];rfl
theorem ES {L:List Ac} {k:Nat} {x:Ac} (hx:L[k]? = some x):fu (L.take (k+1))=fu (L.take k)++(if (x.kind != 4)=true then [x] else []):=by
 unfold fu;rw [List.take_add_one,hx,List.filter_append]
 congr 1
 cases h:(x.kind != 4) <;> simp [h]
theorem Dk (a:Option Addr) (n c:Nat) (w:World) :
  Calls prog 131 #[.slice a n c] w fun e w'=>e=.returned (.func (.func 176) #[] #[.pointer (some ⟨w.heap.size,0,none⟩)])/\w'=w.alloc (.cells #[.slice a n c] 50):=by
 go_enter func131,ntmps131
 go_wp2
 go_ret
 exact ⟨rfl,rfl⟩
set_option maxRecDepth 100000 in
theorem Dl (m:Nat) (Bj n0 base:Nat) (w:World) (hn0:n0<=w.heap.size) (hBj:Bj < w.heap.size) (a:Option Addr) (c:Nat) (L:List Ac) (hM:∀ W',Below n0 w W'->vk W' a L.length L) (c0:w.cell? ⟨Bj,0,none⟩=some (.slice a L.length c)) :
  Qy prog m 176 #[.pointer (some ⟨Bj,0,none⟩)] (fun x:Ac=>#[acV x]) (KH n0 Bj base) (JC (fu L)) (fun h=>h=fu L) w:=by
 intro l J Jp W hW hJ hY h0
 have C:∀ W',KH n0 Bj base W W'->W.heap.size<=W'.heap.size/\W'.cell? ⟨Bj,0,none⟩=some (.slice a L.length c)/\vk W' a L.length L:=fun W' h =>
  ⟨h.kb.below.size,(h.kb.cell 0).trans ((hW.cellAt hBj _).trans c0),hM W' ((hW.below.mono hn0).trans h.kb.below)⟩
 obtain ⟨-,d0,hM0⟩:=C W (KH.refl _ _ _ _);have hmax:=hM0.hmax;have hWs:=hW.size;refine callsIn_of_wp func176 rfl trivial ?_ rfl;simp only [ntmps176,List.size_toArray,List.length_cons,List.length_nil,Nat.reduceAdd,Nat.reduceSub,Array.replicate_succ,Array.replicate_zero,List.push_toArray,List.append_toArray,List.nil_append,List.cons_append]
 gi_wp2
 gi_loopw [7] (fun i wr=>∃ k:Nat,k<=L.length/\i=.int .i64 k/\J (fu (L.take k)) wr/\KH n0 Bj base W wr) (fun i _=>L.length - (intOf i).toNat)
 case atStart=>exact ⟨0,Nat.zero_le _,rfl,h0,KH.refl _ _ _ _⟩
 case round =>
  obtain ⟨k,hk,rfl,hJs,hB⟩:=hrel;obtain ⟨hSr,f0,hMr⟩:=C wr hB;by_cases hlt:k < L.length
  ·obtain ⟨x,hx⟩:∃ x,L[k]? = some x:=⟨_,zQ1 hlt⟩;obtain ⟨b,off,rfl,hbb,hcell⟩:=hMr.cells (by omega);obtain ⟨e0,e1,e2,e3⟩:=hcell k x hx;have HT:=(show Hid _ from ES hx);obtain ⟨W2,hW2⟩:∃ y,wr.alloc (.cells #[.int .i64 x.kind,.int .i64 x.one,.int .i64 x.two,.string x.body] 58)=y:=⟨_,rfl⟩;have hS2:=ay hW2;have z0:W2.cell? ⟨wr.heap.size,0,none⟩=some (.int .i64 x.kind):=by rw [<-hW2];simp [go_sem]
   have z1:W2.cell? ⟨wr.heap.size,1,none⟩=some (.int .i64 x.one):=by rw [<-hW2];simp [go_sem]
   have z2:W2.cell? ⟨wr.heap.size,2,none⟩=some (.int .i64 x.two):=by rw [<-hW2];simp [go_sem]
   have z3:W2.cell? ⟨wr.heap.size,3,none⟩=some (.string x.body):=by rw [<-hW2];simp [go_sem]
   cases h4:(x.kind != 4)
   ·have HT2:Hid (fu (L.take (k+1))=fu (L.take k)):=by unfold Hid;have:=HT.out;rw [h4] at this;simpa using this
    have hJ2:=hJ _ _ _ hJs (KM.dR hS2 hSr);rw [<-HT2.out] at hJ2;have hB2:KH n0 Bj base W W2:=hB.trans (KH.dR hS2 (by omega) (by omega));clear hY hcell hx hM0 hMr HT
    gi_wp2
    refine ⟨fun f hf=>(by cases hf), ?_⟩;clear hW2 z0 z1 z2 z3
    gi_wp2
    go_roundw
    case rel=>exact ⟨k+1,by omega,by simp,hJ2,hB2⟩
    case measure=>simp [intOf];omega
   ·have HT2:Hid (fu (L.take (k+1))=fu (L.take k)++[x]):=by unfold Hid;have:=HT.out;rw [h4] at this;simpa using this
    have hNX:=ER hx h4;obtain ⟨fn,tmps,assign,body,hy,hR⟩:=hY (fu (L.take k)) x W2 (hJ _ _ _ hJs (KM.dR hS2 hSr)) hNX;simp only [acV] at hy;clear hY hcell hx hNX hM0 hMr HT
    gi_wp2
    refine ⟨fun h=>(by cases h), ?_⟩;refine hR.mono ?_;rintro e W3 (⟨rfl,hJ3,hk3⟩ | ⟨ch,rfl,hp3⟩)
    ·have hB3:KH n0 Bj base W W3:=(hB.trans (KH.dR hS2 (by omega) (by omega))).trans hk3;rw [<-HT2.out] at hJ3;clear hy hR z0 z1 z2 z3 hW2
     gi_wp2
     go_roundw
     case rel=>exact ⟨k+1,by omega,by simp,hJ3,hB3⟩
     case measure=>simp [intOf];omega
    ·exact ⟨rfl,.inr ⟨ch,rfl,hp3⟩⟩
  ·obtain rfl:k=L.length:=by omega
   rw [List.take_length] at hJs;clear hM0 hMr
   gi_wp2
   go_end0
   exact .inl ⟨_,_,rfl,rfl,hJs⟩
end Go.Proofs.YtiiifecfdkjmbaaGreat
namespace Go.Proofs.YtiiifecfdkjmbaaGreat
open _root_.Go.Proofs.Tryz hiding checked
set_option maxRecDepth 8000
open Go.ChangeShapes Go.WideShapes Go.ChangeAt Go.RowKit
set_option linter.unusedVariables false
theorem own:ownKnob prog.godebug=none:=by kernel_rfl
theorem laidOut:laidOutB prog=true:=by kernel_rfl
theorem Mi:prog.bytesOf 3=8:=by kernel_rfl
theorem block_lt {w:World} {b o:Nat} {v:Value} (h:w.cell? ⟨b,o,none⟩=some v):b < w.heap.size:=by
 rcases Nat.lt_or_ge b w.heap.size with h1 | h1
 ·exact h1
 ·simp [World.cell?,Array.getElem?_eq_none h1] at h
theorem Di {H:Type} {enc:TypeId × Value->H} {W:World} {a:Option Addr} {len cap:Nat} {d:DataW H} {p:List MemPlace} (h:DataW.Trod enc prog W 0 (fun _=>true) true 22 (.slice a len cap) d p)
  (hsz:∀ el sp,d=.slice el sp->(el.length+sp.length)*8<=reachBytes):∃ xs,Ints W a len xs:=by
 obtain ⟨fuel,hf⟩:=h;rcases open_ints underlying22 underlying3 (by kernel_rfl) hf with ⟨hcs,_⟩ | ⟨x,l,c,zs,hcs,_,hl,hm,hz,hx,hcell,hwz⟩
 ·simp [Value.cells] at hcs;obtain ⟨rfl,rfl,rfl⟩:=hcs;exact ⟨[],E9⟩
 ·simp [Value.cells] at hcs;obtain ⟨rfl,rfl,rfl⟩:=hcs;simp at hz;have hd:=(Prod.mk.inj hx).1;have h8:=hsz _ _ hd;simp only [lits,List.length_map,List.length_take,List.length_drop,reachBytes] at h8;refine ⟨zs.take len,by simp;omega,by omega,fun hp=>?_⟩;obtain ⟨b,off,spot⟩:=x;have hc0:=hcell 0 (by omega);have hspot:spot=none:=by simpa [Addr.add] using World.cell?_spot hc0
  subst hspot;refine ⟨b,off,rfl,block_lt hc0,fun i hi=>?_⟩;have hci:=hcell i (by omega)
  have e:(zs.take len)[i]?.getD 0=zs.getD i 0:=by
   rw [List.getElem?_take,if_pos hi];rfl
  have ea:(⟨b,off,none⟩:Addr).add i=⟨b,off+i,none⟩:=by
   by_cases h0:i=0
   ·subst h0;simp [Addr.add]
   ·simp [Addr.add,h0]
  rw [e,<-ea];exact hci
end Go.Proofs.YtiiifecfdkjmbaaGreat
namespace Go.Proofs.YtiiifecfdkjmbaaGreat
open _root_.Go.Proofs.Tryz hiding checked
set_option maxRecDepth 8000
open Go.ChangeShapes Go.WideShapes Go.ChangeAt Go.RowKit Go.Deep
set_option linter.unusedVariables false
theorem Mc:prog.cellsOf 3=1:=by kernel_rfl
theorem Md:prog.cellsOf 9=1:=by kernel_rfl
theorem wh {α:Type} {P:Nat->α->Prop}:∀ (n:Nat),(∀ i,i < n->∃ m,P i m)->∃ ms:List α,ms.length=n/\∀ i m,ms[i]? = some m->P i m
 | 0,_=>⟨[],rfl,fun i m h=>by simp at h⟩
 | n+1,h=>by
  obtain ⟨ms,hl,hp⟩:=wh n (fun i hi=>h i (by omega));obtain ⟨m,hm⟩:=h n (by omega);refine ⟨ms++[m],by simp [hl],fun i x hx=>?_⟩;by_cases hi:i < ms.length
  ·exact hp i x (by rw [List.getElem?_append_left hi] at hx;exact hx)
  ·rw [List.getElem?_append_right (by omega)] at hx
   have hi2:i - ms.length=0:=by
    have:=(zQ2.1 hx).1;simp at this;omega
   rw [hi2] at hx;simp at hx;obtain rfl:i=n:=by omega
   rw [<-hx];exact hm
open Pu
theorem Ma:prog.bytesOf 58=40:=by kernel_rfl
theorem EG:prog.cellsOf 58=4:=by kernel_rfl
def Qx (x:Ac):List Value:=[.int .i64 x.kind,.int .i64 x.one,.int .i64 x.two,.string x.body]
theorem EH {H:Type} {enc:TypeId × Value->H} {W:World} {base fuel:Nat} {spare:Nat->Bool} {held:Bool} {cs:List Value} {x:DataW H × List MemPlace}
  (h:DataW.trod enc prog W base spare held fuel 58 cs=some x):∃ m:Ac,cs=Qx m:=by
 obtain ⟨xs,n,_,_,hl,hlen,hf⟩:=DataW.trod_struct underlying58 h;rw [EG] at hl
 match cs,hl with
 | [c0,c1,c2,c3],_ =>
  have g0:=hf 0 _ rfl;have g1:=hf 1 _ rfl;have g2:=hf 2 _ rfl;have g3:=hf 3 _ rfl;simp [Mc] at g0 g1 g2;simp [Md] at g3;simp at hlen;rw [zQ1 (by rw [hlen];omega)] at g0 g1 g2 g3;obtain ⟨a0,e0,_⟩:=DataW.trod_int underlying3 g0;obtain ⟨a1,e1,_⟩:=DataW.trod_int underlying3 g1;obtain ⟨a2,e2,_⟩:=DataW.trod_int underlying3 g2;obtain ⟨a3,e3,_⟩:=DataW.trod_string underlying9 g3;simp at e0 e1 e2 e3;exact ⟨⟨a0,a1,a2,a3⟩,by rw [e0,e1,e2,e3];rfl⟩
theorem Dc {H:Type} {enc:TypeId × Value->H} {W:World} {a:Option Addr} {len cap:Nat} {d:DataW H} {p:List MemPlace} (h:DataW.Trod enc prog W 0 (fun _=>true) true 50 (.slice a len cap) d p)
  (hsz:∀ el sp,d=.slice el sp->(el.length+sp.length)*40<=reachBytes):∃ ms,vk W a len ms/\len<=cap:=by
 obtain ⟨fuel,hf⟩:=h;rcases open_slice underlying50 hf with ⟨hcs,_⟩ | ⟨x,l,c,m,n,D,Pl,hcs,_,hl,hm,hmm,hx,hall⟩
 ·simp [Value.cells] at hcs;obtain ⟨rfl,rfl,rfl⟩:=hcs;exact ⟨[],⟨rfl,Nat.zero_le _,fun h=>absurd h (Nat.lt_irrefl _)⟩,Nat.le_refl _⟩
 ·simp [Value.cells] at hcs;obtain ⟨rfl,rfl,rfl⟩:=hcs;simp at hmm;subst hmm;have hd:=(Prod.mk.inj hx).1;have h8:=hsz _ _ hd;simp only [List.length_map,List.length_range,reachBytes] at h8
  have hmg:∀ i,i < len->∃ mg:Ac,∀ r u,(Qx mg)[r]? = some u->W.cell? ((x.add (i*4)).add r)=some u:=by
   intro i hi;obtain ⟨cs',h1,h2⟩:=hall i (by omega);obtain ⟨mg,rfl⟩:=EH h2;rw [EG] at h1;refine ⟨mg,fun r u hr=>?_⟩;have:=(World.cells?_some h1).2.2 r (by have:=(zQ2.1 hr).1;simpa [Qx] using this);rw [this];exact hr
  obtain ⟨ms,hl2,hms⟩:=wh len hmg;refine ⟨ms,⟨hl2,by omega,fun hp=>?_⟩,hl⟩;obtain ⟨b,off,spot⟩:=x;obtain ⟨m0,hm0⟩:∃ m,ms[0]? = some m:=⟨_,zQ1 (by omega)⟩;have hc0:=hms 0 m0 hm0 0 _ rfl;simp [Addr.add] at hc0;have hspot:spot=none:=by simpa using World.cell?_spot hc0
  subst hspot;refine ⟨b,off,rfl,block_lt hc0,fun i y hy=>?_⟩;have k0:=hms i y hy 0 _ rfl;have k1:=hms i y hy 1 _ rfl;have k2:=hms i y hy 2 _ rfl;have k3:=hms i y hy 3 _ rfl;rw [o9,o9] at k0 k1 k2 k3;exact ⟨k0,k1,k2,k3⟩
end Go.Proofs.YtiiifecfdkjmbaaGreat
