/- Lemmas. -/
import Derived.Test.YtiiifecfdkjmbaaRegK
import Derived.Test.YtiiifecfdkjmbaaOwnX
set_option maxHeartbeats 1000000
namespace Go.Proofs.Ytiiifecfdkjmbaa
open _root_.Go.Proofs.Try hiding checked
set_option maxRecDepth 8000
open Go.RowKit Go.Shelf
open Pu
def fQ (nodes:Nat) (l:List Int) (k:Nat):Wd:=⟨l,List.replicate k ⟨0,List.replicate l.length (List.replicate nodes 0),[],[]⟩,List.replicate k (List.replicate nodes [])⟩
theorem wE (nodes:Nat) (hn:nodes<=4) (l:List Int) (hl:l.length<=3) (a:Option Addr) (cap:Nat) (w:World) (hI:Ints w a l.length l) :
  Calls prog 14 #[.int .i64 nodes,.slice a l.length cap] w fun e w'=>∃ L,e=.returned (bS L (mY nodes l))/\aP w.heap.size w' (mY nodes l) L/\Since w w':=by
 obtain ⟨w1,hw1⟩:∃ w1,w.alloc (.cells #[.slice none 0 0,.slice none 0 0,.slice none 0 0] 26)=w1:=⟨_,rfl⟩
 have hS1:=au hw1
 obtain ⟨w2,hw2⟩:∃ w2,w1.alloc (.cells #[] 3)=w2:=⟨_,rfl⟩
 have aY:=au hw2
 have hS2:=hS1.trans aY
 have hR2:Row w2 w1.heap.size 1 ⟨some ⟨w1.heap.size,0,none⟩,0⟩ 0 []:=by rw [<-hw2];exact Row.empty w1 _ 1 _
 have hsz2:w1.heap.size < w2.heap.size:=by rw [<-hw2];simp
 have Ii:w.heap.size < w1.heap.size:=by rw [<-hw1];simp
 have RB0:∀ y,Since w1 y->y.cell? ⟨w.heap.size,0,none⟩=some (.slice none 0 0)/\y.cell? ⟨w.heap.size,1,none⟩=some (.slice none 0 0)/\y.cell? ⟨w.heap.size,2,none⟩=some (.slice none 0 0)/\y.frozen? ⟨w.heap.size,0,none⟩=false/\y.frozen? ⟨w.heap.size,1,none⟩=false/\y.frozen? ⟨w.heap.size,2,none⟩=false:=by
  intro y hy
  have hl:w.heap.size < w1.heap.size:=by rw [<-hw1];simp
  have hc:∀ o,y.cell? ⟨w.heap.size,o,none⟩=w1.cell? ⟨w.heap.size,o,none⟩:=fun o=>hy.cellAt hl o
  have hz:∀ o,y.frozen? ⟨w.heap.size,o,none⟩=w1.frozen? ⟨w.heap.size,o,none⟩:=fun o=>hy.below.frozen (p:=⟨w.heap.size,o,none⟩) hl
  rw [hc,hc,hc,hz,hz,hz,<-hw1]
  simp [go_sem]
 go_enter func14,ntmps14
 go_wp2_with (at_builtin;refine dW mM rfl _ _ 22 rfl rfl hR2 rfl (qy (hI.since hS2)) (by omega) aY.size ?_;intro ga gc w3 hR3 hF3 hB3)
 clear hw1 hw2
 simp only [Nat.zero_add,List.nil_append] at hR3
 have hS3:Since w2 w3:=by
  refine hF3.since (fun i _ e=>?_)
  unfold Sl.blk at e;simp at e
 obtain ⟨w4,hw4⟩:∃ w4,w3.alloc (.cells #[.slice ga l.length gc,.slice none 0 0,.slice none 0 0] 26)=w4:=⟨_,rfl⟩
 rw [hw4]
 have rM:=au hw4
 have hM0:bD w1.heap.size w4 w3.heap.size (fQ nodes l 0) (fun ix=>if ix=(0,0,0) then ⟨ga,gc⟩ else ⟨none,0⟩):=by
  have hO:=aP.start (gs:=l) hR3 (by omega)
  refine ⟨hO.since rM, ?_,fun hb=>?_⟩
  ·rw [<-hw4];constructor <;> simp [go_sem,fQ]
  ·have:=(hO.blk hb).2;omega
 have nY:Since w1 w4:=(aY.trans hS3).trans rM
 have hp3:w1.heap.size<=w3.heap.size:=(aY.trans hS3).size
 have RB:Hid (∀ y,Since w1 y->y.cell? ⟨w.heap.size,0,none⟩=some (.slice none 0 0)/\y.cell? ⟨w.heap.size,1,none⟩=some (.slice none 0 0)/\y.cell? ⟨w.heap.size,2,none⟩=some (.slice none 0 0)/\y.frozen? ⟨w.heap.size,0,none⟩=false/\y.frozen? ⟨w.heap.size,1,none⟩=false/\y.frozen? ⟨w.heap.size,2,none⟩=false):=RB0
 have hI4:=(hI.since hS1).since nY
 have Ij:=fun y=>run_make_row' (P:=prog) 22 3 (.int .i64 0) 8 (by kernel_rfl) (by kernel_rfl) rfl .i64 .i64 nodes (by omega) (by omega) y
 have JB:=fun y=>run_make_row' (P:=prog) 53 39 (.slice none 0 0) 24 (by kernel_rfl) (by kernel_rfl) rfl .i64 .i64 nodes (by omega) (by omega) y
 clear hw4 hR3 hF3 hB3 rM hS3 hR2 aY hsz2 hS2 RB0
 go_loopw [6] (fun i wr=>∃ k:Nat,k<=nodes/\i=.int .i64 k/\(∃ L,bD w1.heap.size wr w3.heap.size (fQ nodes l k) L)/\Since w1 wr) (fun i _=>nodes - (intOf i).toNat)
 case atStart=>exact ⟨0,Nat.zero_le _,rfl,⟨_,hM0⟩,nY⟩
 case round =>
  obtain ⟨wo,rfl⟩:∃ wo,wo=wr:=⟨_,rfl⟩
  obtain ⟨k,hk,rfl,⟨L,hM⟩,hSr⟩:=hrel
  clear hM0
  by_cases hlt:k < nodes
  ·go_wp2
   go_loopw [7,8] (fun v i wi=>∃ (j:Nat) (sa:Option Addr) (sc:Nat) (rs:Nat->Sl),j<=l.length/\i=.int .i64 j/\v=.slice sa j sc/\dJ 1 vT wo.heap.size wi ⟨sa,sc⟩ rs (List.replicate j (List.replicate nodes 0))/\Since wo wi) (fun _ i _=>l.length - (intOf i).toNat)
   case atStart=>exact ⟨0,none,0,fun _=>⟨none,0⟩,Nat.zero_le _,rfl,rfl,dJ.nil,Since.refl _⟩
   case round =>
    obtain ⟨wi,rfl⟩:∃ wi,wi=wr:=⟨_,rfl⟩
    obtain ⟨j,sa,sc,rs,hj,rfl,rfl,hLL,hSi⟩:=hrel
    by_cases hjl:j < l.length
    ·have hbb:∀ b,Sl.blk ⟨some ⟨wi.heap.size,0,none⟩,nodes⟩=some b->b=wi.heap.size:=by
      intro b e;unfold Sl.blk at e;split at e
      ·cases e
      ·cases e;rfl
     have hS6:Since wi (wi.alloc (.cells (madeCells #[.int .i64 0] nodes) 3)):=(Since.refl wi).alloc _
     have hS7:Since wi ((wi.alloc (.cells (madeCells #[.int .i64 0] nodes) 3)).alloc (.cells #[.slice (some ⟨wi.heap.size,0,none⟩) nodes nodes] 22)):=hS6.alloc _
     have hrow:Row (wi.alloc (.cells (madeCells #[.int .i64 0] nodes) 3)) wo.heap.size 1 ⟨some ⟨wi.heap.size,0,none⟩,nodes⟩ nodes (vT (List.replicate nodes 0)):=by
      have:=Row.new wi wo.heap.size 1 (madeCells #[.int .i64 0] nodes) 3 nodes hSi.size (by rw [size_madeCells];omega) (by unfold maxLen;omega)
      rw [sG] at this
      unfold vT;rw [List.map_replicate];exact this
     have hsrc:=dB (size:=1) (T:=22) (w:=wi.alloc (.cells (madeCells #[.int .i64 0] nodes) 3)) mW.und [.slice (some ⟨wi.heap.size,0,none⟩) nodes nodes] rfl (fun u hu=>by simp at hu;subst hu;rfl) 1
     have F3:=hLL.since hS7
     have htop:=F3.top
     simp only [List.length_replicate] at htop
     simp only [World.size_alloc] at hsrc
     go_wp2_with (at_builtin;refine dW mW rfl _ _ 43 rfl rfl htop rfl hsrc ?_ ?_ ?_;omega;exact (zQ5 hSi.size hS7.size);intro sa' sc' w8 hR8 hF8 hB8)
     go_roundw
     case rel =>
      have hp:=F3.push (xs:=List.replicate nodes 0) (r:=⟨some ⟨wi.heap.size,0,none⟩,nodes⟩) (w':=w8) (s':=⟨sa',sc'⟩) (by simpa using hrow.since ((Since.refl _).alloc _))
       (fun b e hb=>by have:=hbb b e;have:=(hLL.blk hb).2;omega) (by simpa [Sl.v] using hR8) hF8 hB8
      refine ⟨j+1,sa',sc',tX rs j ⟨some ⟨wi.heap.size,0,none⟩,nodes⟩,by omega,by go_num,by go_num, ?_, ?_⟩
      ·rw [List.replicate_succ'];simpa using hp
      ·exact hF8.aC (hSi.trans hS7) (fun i hi e=>by have:=(hLL.blk (.inl e)).1;omega)
     case measure=>simp [intOf];omega
    ·obtain rfl:j=l.length:=by omega
     obtain ⟨x,hx⟩:∃ x:Nd,x=⟨0,List.replicate l.length (List.replicate nodes 0),[],[]⟩:=⟨_,rfl⟩
     obtain ⟨na,nc,hL1⟩:∃ na nc,L (1,0,0)=⟨na,nc⟩:=⟨_,_,rfl⟩
     obtain ⟨ra,rc,hL2⟩:∃ ra rc,L (2,0,0)=⟨ra,rc⟩:=⟨_,_,rfl⟩
     have hMi:=hM.since hSi
     have b1:wi.cell? ⟨w3.heap.size,1,none⟩=some (.slice na k nc):=by have:=hMi.box.c1;rw [hL1] at this;simpa [fQ] using this
     have z1:=hMi.box.z1
     have hpl:=hMi.box.lt
     have hRn:Row wi w1.heap.size 4 ⟨na,nc⟩ k (bY (fQ nodes l k) L (1,0,0)):=by
      have:Row wi w1.heap.size 4 (L (1,0,0)) (fQ nodes l k).nodes.length (bY (fQ nodes l k) L (1,0,0)):=hMi.own.row (1,0,0) ⟨rfl,rfl⟩
      rw [hL1] at this;simpa [fQ] using this
     have hsrc:=dB (size:=4) (T:=45) (w:=wi) jC.und [.int .i64 0,.slice sa l.length sc,.slice none 0 0,.slice none 0 0] rfl (fun u hu=>by simp at hu;rcases hu with rfl | rfl | rfl <;> rfl) 1
     have hS9:Since wi (wi.alloc (.cells #[.int .i64 0,.slice sa l.length sc,.slice none 0 0,.slice none 0 0] 45)):=(Since.refl wi).alloc _
     have zH:=hSr.trans (hSi.trans hS9)
     go_wp2_with (at_builtin;refine dW jC rfl _ _ 23 rfl rfl (hRn.since hS9) rfl hsrc ?_ ?_ ?_;omega;exact zH.size;intro na' nc' w10 Aa Ab CZ;have Ad:=(hMi.box.since hS9).fr Ab (fun e=>hM.off ⟨(1,0,0),⟨rfl,rfl⟩,by rw [hL1];exact e⟩);have q1:=Ad.c1;have q2:=Ad.z1)
     have hNd:lH wo.heap.size (wi.alloc (.cells #[.int .i64 0,.slice sa l.length sc,.slice none 0 0,.slice none 0 0] 45)) x ⟨sa,sc⟩ rs ⟨none,0⟩ ⟨none,0⟩:=by
      rw [hx]
      exact ⟨hLL.since hS9,Row.nil _ _ _,Row.nil _ _ _,fun b e=>(by cases e),fun b e=>(by cases e)⟩
     have qG:=hM.addNode (a':=na') (c':=nc') (w':=w10) (hSi.trans hS9) hNd hSr.size (by rw [hx];refine ⟨by simp;omega,fun i r hr=>?_,by simp,by simp⟩;(have:=zQ2.1 hr;obtain ⟨h1,h2⟩:=this;simp at h2;rw [<-h2];simp;omega)) (by simp [fQ];omega)
      (by rw [hx];simpa [fQ,Sl.v] using Aa) (by rw [hL1];exact Ab) (by rw [hL1];exact CZ)
     obtain ⟨w11,C8⟩:∃ w11,w10.setCell ⟨w3.heap.size,1,none⟩ (.slice na' (k+1) nc')=w11:=⟨_,rfl⟩
     have Ik:(fQ nodes l k).nodes.length=k:=by simp [fQ]
     rw [Ik,C8] at qG
     rw [C8]
     have ni:Since w1 w11:=by
      rw [<-C8]
      refine Fr.aC (B:=fun i=>¬ i < w1.heap.size) ((Ab.mono (fun i _ e=>?_)).setCell _ _ ?_) zH (fun i hi h=>h hi)
      ·have:=(hM.own.blk ⟨(1,0,0),⟨rfl,rfl⟩,by rw [hL1];exact e⟩).1;omega
      ·intro _;show ¬ w3.heap.size < _;omega
     obtain ⟨d11,Ei⟩:∃ d:Wd,{ (fQ nodes l k) with nodes:=(fQ nodes l k).nodes++[x] }=d:=⟨_,rfl⟩
     rw [Ei] at qG
     obtain ⟨L11,F4⟩:∃ L':Lay,cB L k ⟨na',nc'⟩ ⟨sa,sc⟩ rs ⟨none,0⟩ ⟨none,0⟩=L':=⟨_,rfl⟩
     rw [F4] at qG
     obtain ⟨ra,rc,hL2⟩:∃ ra rc,L11 (2,0,0)=⟨ra,rc⟩:=⟨_,_,rfl⟩
     have hwl:d11.wires.length=k:=by rw [<-Ei];simp [fQ]
     have b2:w11.cell? ⟨w3.heap.size,2,none⟩=some (.slice ra k rc):=by have:=qG.box.c2;rw [hL2,hwl] at this;exact this
     have z2:=qG.box.z2
     have hRw:Row w11 w1.heap.size 1 ⟨ra,rc⟩ k (bY d11 L11 (2,0,0)):=by
      have:Row w11 w1.heap.size 1 (L11 (2,0,0)) d11.wires.length (bY d11 L11 (2,0,0)):=qG.own.row (2,0,0) ⟨rfl,rfl⟩
      rw [hL2,hwl] at this;exact this
     clear hL1 hMi b1 z1 hRn hsrc Aa Ab CZ Ad q1 q2 hNd hLL hM C8 F4 hS9 zH hSi Ij
     have aY:Since w11 ((w11.alloc (.cells (madeCells #[.slice none 0 0] nodes) 39)).alloc (.cells #[.slice (some ⟨w11.heap.size,0,none⟩) nodes nodes] 53)).drew:=Since.drew (((Since.refl _).alloc _).alloc _)
     have DF:=uh (size:=1) (T:=53) (w:=w11.alloc (.cells (madeCells #[.slice none 0 0] nodes) 39)) kJ.und [.slice (some ⟨w11.heap.size,0,none⟩) nodes nodes] rfl (fun u hu=>by simp at hu;subst hu;rfl) 1
     simp only [World.size_alloc] at DF
     have F5:=zQ5 ni.size aY.size
     obtain ⟨S0,hS0⟩:∃ S0:World->Prop,∀ w',S0 w'↔w'.cell? ⟨w3.heap.size,2,none⟩=some (.slice ra k rc):=⟨_,fun _=>Iff.rfl⟩
     have hc2:∀ x:aB S0,x.w.cell? ⟨w3.heap.size,2,none⟩=some (.slice ra k rc):=fun x=>(hS0 _).1 x.h
     have Il:w3.heap.size < w11.heap.size:=qG.box.lt
     have KS:Hid (∀ y,Since w11 y->S0 y):=fun y hy=>(hS0 y).2 ((hy.cellAt Il _).trans b2)
     have hSi:=KS.out w11.drew (Since.drew (Since.refl _))
     have hne:Nonempty (aB S0):=⟨⟨_,hSi⟩⟩
     refine kM (fun w'=>∃ x:aB S0,w'=x.w) (by kernel_rfl) ?_
     refine tL 0 rfl (ah hSi) ?_;go_big_quiet_op
     refine tL 1 rfl (ah hSi) ?_;go_big_quiet_op
     refine tL 2 rfl (ah hSi) ?_;go_big_quiet_op
     refine eO 3 rfl (by kernel_rfl) ?_
     intro K hK
     go_simp
     refine hK _ _ (fun _ _=>ah (KS.out _ (Since.drew ((Since.refl _).alloc _)))) ?_
     clear hK K
     refine eO 4 rfl (by kernel_rfl) ?_
     intro K hK
     go_simp
     refine hK _ _ (fun _ _=>ah (KS.out _ aY)) ?_
     clear hK K
     refine eO 5 rfl (by kernel_rfl) ?_
     intro K hK
     refine dw kJ (by rfl) _ _ 24 (by rfl) (by rfl) (hRw.since aY) (by rfl) DF (by omega) F5 ?_
     intro ra' rc' w12 Im Ej Io
     have El:=(qG.box.since aY).fr Ej (fun e=>qG.off ⟨(2,0,0),⟨rfl,rfl⟩,by rw [hL2];exact e⟩)
     have hSj:S0 w12:=(hS0 _).2 (by have:=El.c2;rw [hL2,hwl] at this;exact this)
     have q2:=El.c2
     have q3:=El.z2
     refine hK _ _ (fun _ _=>ah hSj) ?_
     clear hK K
     simp only [Act.put,zQ7,zQ8,zQ9]
     refine tL 6 rfl (ah hSj) ?_;go_big_quiet_op
     refine eO 7 rfl (by kernel_rfl) ?_
     intro K hK
     go_simp
     refine hK _ _ (fun h=>absurd h (by decide +kernel)) ?_
     clear hK K
     have Em:=qG.uf (a':=ra') (c':=rc') (w':=w12) (x:=List.replicate nodes []) aY ((dJ.made (α:=Mg) (sz:=5) (enc:=flat) rfl w11.heap.size w11 nodes 39 (Nat.le_refl _) (by unfold maxLen;omega)).since (Since.drew ((Since.refl _).alloc _))) ni.size
      ⟨by simp;omega,fun i r hr=>by have:=zQ2.1 hr;obtain ⟨h1,h2⟩:=this;simp at h2;first | (rw [h2];simp) | (rw [<-h2];simp)⟩ (by omega) (by rw [hwl,List.length_replicate];exact Im) (by rw [hL2];exact Ej) (by rw [hL2];exact Io)
     rw [hwl] at Em
     have hdE:({ d11 with wires:=d11.wires++[List.replicate nodes []] }:Wd)=fQ nodes l (k+1):=by
      rw [<-Ei,hx];simp [fQ,List.replicate_succ']
     rw [hdE] at Em
     have mI:Since w1 (w12.setCell ⟨w3.heap.size,2,none⟩ (.slice ra' (k+1) rc')):=by
      refine Fr.aC (B:=fun i=>¬ i < w1.heap.size) ((Ej.mono (fun i _ e=>?_)).setCell _ _ ?_) (ni.trans aY) (fun i hi h=>h hi)
      ·have:=(qG.own.blk ⟨(2,0,0),⟨rfl,rfl⟩,by rw [hL2];exact e⟩).1;omega
      ·intro _;show ¬ w3.heap.size < _;omega
     refine jS (by kernel_rfl) ?_
     go_wp2
     exact ⟨⟨k+1,by omega,by go_num,⟨_,Em⟩,mI⟩,by simp [intOf];omega⟩
  ·obtain rfl:k=nodes:=by omega
   obtain ⟨r0,r1,r2,r3,r4,r5⟩:=RB.out _ hSr
   have b0:=hM.box.c0
   have b1:=hM.box.c1
   have b2:=hM.box.c2
   go_wp2
   have hrl:w.heap.size < w1.heap.size:=Ii
   have hoff:¬ gJ (fQ k l k) L w.heap.size:=fun hb=>by have:=(hM.own.blk hb).1;omega
   have hO:=((hM.own.jE (p:=⟨w.heap.size,0,none⟩) hoff (.slice (L (0,0,0)).a (fQ k l k).groups.length (L (0,0,0)).cap)).jE (p:=⟨w.heap.size,1,none⟩) hoff (.slice (L (1,0,0)).a (fQ k l k).nodes.length (L (1,0,0)).cap)).jE (p:=⟨w.heap.size,2,none⟩) hoff (.slice (L (2,0,0)).a (fQ k l k).wires.length (L (2,0,0)).cap)
   refine bodyPost_ret (v:=bS L (fQ k l k)) ?_ rfl ⟨L,rfl,hO.mono hS1.size, ?_⟩
   ·simp [results,results14,go_sem,r0,r1,r2,bS]
   ·have hF:Fr (fun i=>i=w.heap.size) wo wo:=Fr.refl _ _
    exact (((hF.setCell ⟨w.heap.size,0,none⟩ _ (fun _=>rfl)).setCell ⟨w.heap.size,1,none⟩ _ (fun _=>rfl)).setCell ⟨w.heap.size,2,none⟩ _ (fun _=>rfl)).aC (hS1.trans hSr) (fun i hi e=>by omega)
end Go.Proofs.Ytiiifecfdkjmbaa
