/- Contract of furlongref.BeginOf; conditions: at most four nodes, at most three groups. -/
import Derived.Test.YtiiifecfdkjmbaaGreatBRegX
import Derived.Test.YtiiifecfdkjmbaaGreatBOwnX
namespace Go.Proofs.YtiiifecfdkjmbaaGreat
set_option maxRecDepth 8000
open Go.RowKit Go.Shelf
open _root_.Go.Proofs.YtiiifecfdkjmbaaGreat.Pure
def fu (nodes:Nat) (l:List Int) (k:Nat):Wd:=⟨l,List.replicate k ⟨0,List.replicate l.length (List.replicate nodes 0),[],[]⟩,List.replicate k (List.replicate nodes [])⟩
set_option maxHeartbeats 1000000 in
theorem yR (nodes:Nat) (hn:nodes≤4) (l:List Int) (hl:l.length≤3) (a:Option Addr) (cap:Nat) (w:World) (hI:Ints w a l.length l) :
  Calls Tryz.prog 129 #[.int .i64 nodes,.slice a l.length cap] w fun e w'=>∃ L,e=.returned (aL L (dw nodes l))∧aT w.heap.size w' (dw nodes l) L∧Since w w':=by
 obtain ⟨w1,hw1⟩:∃ w1,w.alloc (.cells #[.slice none 0 0,.slice none 0 0,.slice none 0 0] 26)=w1:=⟨_,rfl⟩
 have hS1:=av hw1
 obtain ⟨w2,hw2⟩:∃ w2,w1.alloc (.cells #[] 3)=w2:=⟨_,rfl⟩
 have dh:=av hw2
 have hS2:=hS1.trans dh
 have hR2:Row w2 w1.heap.size 1 ⟨some ⟨w1.heap.size,0,none⟩,0⟩ 0 []:=by rw [←hw2];exact Row.empty w1 _ 1 _
 have hsz2:w1.heap.size < w2.heap.size:=by rw [←hw2];simp
 have TY:w.heap.size < w1.heap.size:=by rw [←hw1];simp
 have RB0:∀ y,Since w1 y→y.cell? ⟨w.heap.size,0,none⟩=some (.slice none 0 0)∧y.cell? ⟨w.heap.size,1,none⟩=some (.slice none 0 0)∧y.cell? ⟨w.heap.size,2,none⟩=some (.slice none 0 0)∧y.frozen? ⟨w.heap.size,0,none⟩=false∧y.frozen? ⟨w.heap.size,1,none⟩=false∧y.frozen? ⟨w.heap.size,2,none⟩=false:=by
  intro y hy
  have hl:w.heap.size < w1.heap.size:=by rw [←hw1];simp
  have hc:∀ o,y.cell? ⟨w.heap.size,o,none⟩=w1.cell? ⟨w.heap.size,o,none⟩:=fun o=>hy.cellAt hl o
  have hz:∀ o,y.frozen? ⟨w.heap.size,o,none⟩=w1.frozen? ⟨w.heap.size,o,none⟩:=fun o=>hy.below.frozen (p:=⟨w.heap.size,o,none⟩) hl
  rw [hc,hc,hc,hz,hz,hz,←hw1]
  simp [go_sem]
 go_enter Tryz.func129,Tryz.ntmps129
 go_wp2_with (at_builtin;refine iU FM rfl _ _ 22 rfl rfl hR2 rfl (wP (hI.since hS2)) (by omega) dh.size ?_;intro ga gc w3 hR3 hF3 hB3)
 clear hw1 hw2
 simp only [Nat.zero_add,List.nil_append] at hR3
 have hS3:Since w2 w3:=by
  refine hF3.since (fun i _ e=>?_)
  unfold Sl.blk at e;simp at e
 obtain ⟨w4,hw4⟩:∃ w4,w3.alloc (.cells #[.slice ga l.length gc,.slice none 0 0,.slice none 0 0] 26)=w4:=⟨_,rfl⟩
 rw [hw4]
 have rG:=av hw4
 have hM0:bM w1.heap.size w4 w3.heap.size (fu nodes l 0) (fun ix=>if ix=(0,0,0) then ⟨ga,gc⟩ else ⟨none,0⟩):=by
  have hO:=aT.start (gs:=l) hR3 (by omega)
  refine ⟨hO.since rG, ?_,fun hb=>?_⟩
  ·rw [←hw4];constructor <;> simp [go_sem,fu]
  ·have:=(hO.blk hb).2;omega
 have xY:Since w1 w4:=(dh.trans hS3).trans rG
 have hp3:w1.heap.size≤w3.heap.size:=(dh.trans hS3).size
 have RB:Hid (∀ y,Since w1 y→y.cell? ⟨w.heap.size,0,none⟩=some (.slice none 0 0)∧y.cell? ⟨w.heap.size,1,none⟩=some (.slice none 0 0)∧y.cell? ⟨w.heap.size,2,none⟩=some (.slice none 0 0)∧y.frozen? ⟨w.heap.size,0,none⟩=false∧y.frozen? ⟨w.heap.size,1,none⟩=false∧y.frozen? ⟨w.heap.size,2,none⟩=false):=RB0
 have hI4:=(hI.since hS1).since xY
 have Pt:=fun y=>run_make_row' (P:=Tryz.prog) 22 3 (.int .i64 0) 8 (by kernel_rfl) (by kernel_rfl) rfl .i64 .i64 nodes (by omega) (by omega) y
 have QX:=fun y=>run_make_row' (P:=Tryz.prog) 40 39 (.slice none 0 0) 24 (by kernel_rfl) (by kernel_rfl) rfl .i64 .i64 nodes (by omega) (by omega) y
 clear hw4 hR3 hF3 hB3 rG hS3 hR2 dh hsz2 hS2 RB0
 go_loopw [6] (fun i wr=>∃ k:Nat,k≤nodes∧i=.int .i64 k∧(∃ L,bM w1.heap.size wr w3.heap.size (fu nodes l k) L)∧Since w1 wr) (fun i _=>nodes - (intOf i).toNat)
 case atStart=>exact ⟨0,Nat.zero_le _,rfl,⟨_,hM0⟩,xY⟩
 case round =>
  obtain ⟨wo,rfl⟩:∃ wo,wo=wr:=⟨_,rfl⟩
  obtain ⟨k,hk,rfl,⟨L,hM⟩,hSr⟩:=hrel
  clear hM0
  by_cases hlt:k < nodes
  ·go_wp2
   go_loopw [7,8] (fun v i wi=>∃ (j:Nat) (sa:Option Addr) (sc:Nat) (rs:Nat→Sl),j≤l.length∧i=.int .i64 j∧v=.slice sa j sc∧dZ 1 pW wo.heap.size wi ⟨sa,sc⟩ rs (List.replicate j (List.replicate nodes 0))∧Since wo wi) (fun _ i _=>l.length - (intOf i).toNat)
   case atStart=>exact ⟨0,none,0,fun _=>⟨none,0⟩,Nat.zero_le _,rfl,rfl,dZ.nil,Since.refl _⟩
   case round =>
    obtain ⟨wi,rfl⟩:∃ wi,wi=wr:=⟨_,rfl⟩
    obtain ⟨j,sa,sc,rs,hj,rfl,rfl,hLL,hSi⟩:=hrel
    by_cases hjl:j < l.length
    ·have hbb:∀ b,Sl.blk ⟨some ⟨wi.heap.size,0,none⟩,nodes⟩=some b→b=wi.heap.size:=by
      intro b e;unfold Sl.blk at e;split at e
      ·cases e
      ·cases e;rfl
     have hS6:Since wi (wi.alloc (.cells (madeCells #[.int .i64 0] nodes) 3)):=(Since.refl wi).alloc _
     have hS7:Since wi ((wi.alloc (.cells (madeCells #[.int .i64 0] nodes) 3)).alloc (.cells #[.slice (some ⟨wi.heap.size,0,none⟩) nodes nodes] 22)):=hS6.alloc _
     have hrow:Row (wi.alloc (.cells (madeCells #[.int .i64 0] nodes) 3)) wo.heap.size 1 ⟨some ⟨wi.heap.size,0,none⟩,nodes⟩ nodes (pW (List.replicate nodes 0)):=by
      have:=Row.new wi wo.heap.size 1 (madeCells #[.int .i64 0] nodes) 3 nodes hSi.size (by rw [size_madeCells];omega) (by unfold maxLen;omega)
      rw [xW] at this
      unfold pW;rw [List.map_replicate];exact this
     have hsrc:=gY (size:=1) (T:=22) (w:=wi.alloc (.cells (madeCells #[.int .i64 0] nodes) 3)) DW.und [.slice (some ⟨wi.heap.size,0,none⟩) nodes nodes] rfl (fun u hu=>by simp at hu;subst hu;rfl) 1
     have Rz:=hLL.since hS7
     have htop:=Rz.top
     simp only [List.length_replicate] at htop
     simp only [World.size_alloc] at hsrc
     go_wp2_with (at_builtin;refine iU DW rfl _ _ 43 rfl rfl htop rfl hsrc ?_ ?_ ?_;omega;exact (Nat.le_trans hSi.size hS7.size);intro sa' sc' w8 hR8 hF8 hB8)
     go_roundw
     case rel =>
      have hp:=Rz.push (xs:=List.replicate nodes 0) (r:=⟨some ⟨wi.heap.size,0,none⟩,nodes⟩) (w':=w8) (s':=⟨sa',sc'⟩) (by simpa using hrow.since ((Since.refl _).alloc _))
       (fun b e hb=>by have:=hbb b e;have:=(hLL.blk hb).2;omega) (by simpa [Sl.v] using hR8) hF8 hB8
      refine ⟨j+1,sa',sc',BN rs j ⟨some ⟨wi.heap.size,0,none⟩,nodes⟩,by omega,by go_num,by go_num, ?_, ?_⟩
      ·rw [List.replicate_succ'];simpa using hp
      ·exact hF8.aC (hSi.trans hS7) (fun i hi e=>by have:=(hLL.blk (.inl e)).1;omega)
     case measure=>simp [intOf];omega
    ·obtain rfl:j=l.length:=by omega
     obtain ⟨x,hx⟩:∃ x:Nd,x=⟨0,List.replicate l.length (List.replicate nodes 0),[],[]⟩:=⟨_,rfl⟩
     obtain ⟨na,nc,hL1⟩:∃ na nc,L (1,0,0)=⟨na,nc⟩:=⟨_,_,rfl⟩
     obtain ⟨ra,rc,hL2⟩:∃ ra rc,L (2,0,0)=⟨ra,rc⟩:=⟨_,_,rfl⟩
     have hMi:=hM.since hSi
     have b1:wi.cell? ⟨w3.heap.size,1,none⟩=some (.slice na k nc):=by have:=hMi.box.c1;rw [hL1] at this;simpa [fu] using this
     have z1:=hMi.box.z1
     have hpl:=hMi.box.lt
     have hRn:Row wi w1.heap.size 4 ⟨na,nc⟩ k (dO (fu nodes l k) L (1,0,0)):=by
      have:Row wi w1.heap.size 4 (L (1,0,0)) (fu nodes l k).nodes.length (dO (fu nodes l k) L (1,0,0)):=hMi.own.row (1,0,0) ⟨rfl,rfl⟩
      rw [hL1] at this;simpa [fu] using this
     have hsrc:=gY (size:=4) (T:=45) (w:=wi) mH.und [.int .i64 0,.slice sa l.length sc,.slice none 0 0,.slice none 0 0] rfl (fun u hu=>by simp at hu;rcases hu with rfl | rfl | rfl <;> rfl) 1
     have hS9:Since wi (wi.alloc (.cells #[.int .i64 0,.slice sa l.length sc,.slice none 0 0,.slice none 0 0] 45)):=(Since.refl wi).alloc _
     have BA:=hSr.trans (hSi.trans hS9)
     go_wp2_with (at_builtin;refine iU mH rfl _ _ 23 rfl rfl (hRn.since hS9) rfl hsrc ?_ ?_ ?_;omega;exact BA.size;intro na' nc' w10 DI zR Hu;have BK:=(hMi.box.since hS9).fr zR (fun e=>hM.off ⟨(1,0,0),⟨rfl,rfl⟩,by rw [hL1];exact e⟩);have q1:=BK.c1;have q2:=BK.z1)
     have hNd:nJ wo.heap.size (wi.alloc (.cells #[.int .i64 0,.slice sa l.length sc,.slice none 0 0,.slice none 0 0] 45)) x ⟨sa,sc⟩ rs ⟨none,0⟩ ⟨none,0⟩:=by
      rw [hx]
      exact ⟨hLL.since hS9,Row.nil _ _ _,Row.nil _ _ _,fun b e=>(by cases e),fun b e=>(by cases e)⟩
     have nY:=hM.addNode (a':=na') (c':=nc') (w':=w10) (hSi.trans hS9) hNd hSr.size (by rw [hx];refine ⟨by simp;omega,fun i r hr=>?_,by simp,by simp⟩;(have:=List.getElem?_eq_some_iff.1 hr;obtain ⟨h1,h2⟩:=this;simp at h2;rw [←h2];simp;omega)) (by simp [fu];omega)
      (by rw [hx];simpa [fu,Sl.v] using DI) (by rw [hL1];exact zR) (by rw [hL1];exact Hu)
     obtain ⟨w11,Fj⟩:∃ w11,w10.setCell ⟨w3.heap.size,1,none⟩ (.slice na' (k+1) nc')=w11:=⟨_,rfl⟩
     have Pv:(fu nodes l k).nodes.length=k:=by simp [fu]
     rw [Pv,Fj] at nY
     rw [Fj]
     have qC:Since w1 w11:=by
      rw [←Fj]
      refine Fr.aC (B:=fun i=>¬ i < w1.heap.size) ((zR.mono (fun i _ e=>?_)).setCell _ _ ?_) BA (fun i hi h=>h hi)
      ·have:=(hM.own.blk ⟨(1,0,0),⟨rfl,rfl⟩,by rw [hL1];exact e⟩).1;omega
      ·intro _;show ¬ w3.heap.size < _;omega
     obtain ⟨d11,Hw⟩:∃ d:Wd,{ (fu nodes l k) with nodes:=(fu nodes l k).nodes++[x] }=d:=⟨_,rfl⟩
     rw [Hw] at nY
     obtain ⟨L11,Mi⟩:∃ L':Lay,dB L k ⟨na',nc'⟩ ⟨sa,sc⟩ rs ⟨none,0⟩ ⟨none,0⟩=L':=⟨_,rfl⟩
     rw [Mi] at nY
     obtain ⟨ra,rc,hL2⟩:∃ ra rc,L11 (2,0,0)=⟨ra,rc⟩:=⟨_,_,rfl⟩
     have hwl:d11.wires.length=k:=by rw [←Hw];simp [fu]
     have b2:w11.cell? ⟨w3.heap.size,2,none⟩=some (.slice ra k rc):=by have:=nY.box.c2;rw [hL2,hwl] at this;exact this
     have z2:=nY.box.z2
     have hRw:Row w11 w1.heap.size 1 ⟨ra,rc⟩ k (dO d11 L11 (2,0,0)):=by
      have:Row w11 w1.heap.size 1 (L11 (2,0,0)) d11.wires.length (dO d11 L11 (2,0,0)):=nY.own.row (2,0,0) ⟨rfl,rfl⟩
      rw [hL2,hwl] at this;exact this
     clear hL1 hMi b1 z1 hRn hsrc DI zR Hu BK q1 q2 hNd hLL hM Fj Mi hS9 BA hSi Pt
     have dh:Since w11 ((w11.alloc (.cells (madeCells #[.slice none 0 0] nodes) 39)).alloc (.cells #[.slice (some ⟨w11.heap.size,0,none⟩) nodes nodes] 40)).drew:=Since.drew (((Since.refl _).alloc _).alloc _)
     have Fp:=DX (size:=1) (T:=40) (w:=w11.alloc (.cells (madeCells #[.slice none 0 0] nodes) 39)) oq.und [.slice (some ⟨w11.heap.size,0,none⟩) nodes nodes] rfl (fun u hu=>by simp at hu;subst hu;rfl) 1
     simp only [World.size_alloc] at Fp
     have RA:=Nat.le_trans qC.size dh.size
     obtain ⟨S0,hS0⟩:∃ S0:World→Prop,∀ w',S0 w'↔w'.cell? ⟨w3.heap.size,2,none⟩=some (.slice ra k rc):=⟨_,fun _=>Iff.rfl⟩
     have hc2:∀ x:aj S0,x.w.cell? ⟨w3.heap.size,2,none⟩=some (.slice ra k rc):=fun x=>(hS0 _).1 x.h
     have Pw:w3.heap.size < w11.heap.size:=nY.box.lt
     have KS:Hid (∀ y,Since w11 y→S0 y):=fun y hy=>(hS0 y).2 ((hy.cellAt Pw _).trans b2)
     have hSi:=KS.out w11.drew (Since.drew (Since.refl _))
     have hne:Nonempty (aj S0):=⟨⟨_,hSi⟩⟩
     refine nL (fun w'=>∃ x:aj S0,w'=x.w) (by kernel_rfl) ?_
     refine tL 0 rfl (ah hSi) ?_
     go_big_quiet_op
     refine tL 1 rfl (ah hSi) ?_
     go_big_quiet_op
     refine tL 2 rfl (ah hSi) ?_
     go_big_quiet_op
     refine fK 3 rfl (by kernel_rfl) ?_
     intro K hK
     go_simp
     refine hK _ _ (fun _ _=>ah (KS.out _ (Since.drew ((Since.refl _).alloc _)))) ?_
     clear hK K
     refine fK 4 rfl (by kernel_rfl) ?_
     intro K hK
     go_simp
     refine hK _ _ (fun _ _=>ah (KS.out _ dh)) ?_
     clear hK K
     refine fK 5 rfl (by kernel_rfl) ?_
     intro K hK
     refine fM oq (by rfl) _ _ 24 (by rfl) (by rfl) (hRw.since dh) (by rfl) Fp (by omega) RA ?_
     intro ra' rc' w12 Px Hy Py
     have Kn:=(nY.box.since dh).fr Hy (fun e=>nY.off ⟨(2,0,0),⟨rfl,rfl⟩,by rw [hL2];exact e⟩)
     have hSj:S0 w12:=(hS0 _).2 (by have:=Kn.c2;rw [hL2,hwl] at this;exact this)
     have q2:=Kn.c2
     have q3:=Kn.z2
     refine hK _ _ (fun _ _=>ah hSj) ?_
     clear hK K
     simp only [Act.put,List.setIfInBounds_toArray,List.set_cons_zero,List.set_cons_succ]
     refine tL 6 rfl (ah hSj) ?_
     go_big_quiet_op
     refine fK 7 rfl (by kernel_rfl) ?_
     intro K hK
     go_simp
     refine hK _ _ (fun h=>absurd h (by decide +kernel)) ?_
     clear hK K
     have Hz:=nY.xX (a':=ra') (c':=rc') (w':=w12) (x:=List.replicate nodes []) dh ((dZ.made (α:=Mg) (sz:=5) (enc:=flat) rfl w11.heap.size w11 nodes 39 (Nat.le_refl _) (by unfold maxLen;omega)).since (Since.drew ((Since.refl _).alloc _))) qC.size
      ⟨by simp;omega,fun i r hr=>by have:=List.getElem?_eq_some_iff.1 hr;obtain ⟨h1,h2⟩:=this;simp at h2;first | (rw [h2];simp) | (rw [←h2];simp)⟩ (by omega) (by rw [hwl,List.length_replicate];exact Px) (by rw [hL2];exact Hy) (by rw [hL2];exact Py)
     rw [hwl] at Hz
     have hdE:({ d11 with wires:=d11.wires++[List.replicate nodes []] }:Wd)=fu nodes l (k+1):=by
      rw [←Hw,hx];simp [fu,List.replicate_succ']
     rw [hdE] at Hz
     have nK:Since w1 (w12.setCell ⟨w3.heap.size,2,none⟩ (.slice ra' (k+1) rc')):=by
      refine Fr.aC (B:=fun i=>¬ i < w1.heap.size) ((Hy.mono (fun i _ e=>?_)).setCell _ _ ?_) (qC.trans dh) (fun i hi h=>h hi)
      ·have:=(nY.own.blk ⟨(2,0,0),⟨rfl,rfl⟩,by rw [hL2];exact e⟩).1;omega
      ·intro _;show ¬ w3.heap.size < _;omega
     refine jQ (by kernel_rfl) ?_
     go_wp2
     exact ⟨⟨k+1,by omega,by go_num,⟨_,Hz⟩,nK⟩,by simp [intOf];omega⟩
  ·obtain rfl:k=nodes:=by omega
   obtain ⟨r0,r1,r2,r3,r4,r5⟩:=RB.out _ hSr
   have b0:=hM.box.c0
   have b1:=hM.box.c1
   have b2:=hM.box.c2
   go_wp2
   have hrl:w.heap.size < w1.heap.size:=TY
   have hoff:¬ gJ (fu k l k) L w.heap.size:=fun hb=>by have:=(hM.own.blk hb).1;omega
   have hO:=((hM.own.jS (p:=⟨w.heap.size,0,none⟩) hoff (.slice (L (0,0,0)).a (fu k l k).groups.length (L (0,0,0)).cap)).jS (p:=⟨w.heap.size,1,none⟩) hoff (.slice (L (1,0,0)).a (fu k l k).nodes.length (L (1,0,0)).cap)).jS (p:=⟨w.heap.size,2,none⟩) hoff (.slice (L (2,0,0)).a (fu k l k).wires.length (L (2,0,0)).cap)
   refine bodyPost_ret (v:=aL L (fu k l k)) ?_ rfl ⟨L,rfl,hO.mono hS1.size, ?_⟩
   ·simp [results,Tryz.results129,go_sem,r0,r1,r2,aL]
   ·have hF:Fr (fun i=>i=w.heap.size) wo wo:=Fr.refl _ _
    exact (((hF.setCell ⟨w.heap.size,0,none⟩ _ (fun _=>rfl)).setCell ⟨w.heap.size,1,none⟩ _ (fun _=>rfl)).setCell ⟨w.heap.size,2,none⟩ _ (fun _=>rfl)).aC (hS1.trans hSr) (fun i hi e=>by omega)
end Go.Proofs.YtiiifecfdkjmbaaGreat
