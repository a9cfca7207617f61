/- Lemmas. Lemmas. Lemmas. Lemmas. Lemmas. Lemmas. -/
import Derived.Test.YtiiifecfdkjmbaaGreatRegM
import Derived.Test.YtiiifecfdkjmbaaGreatOwnX
import Derived.Test.YtiiifecfdkjmbaaGreatRMoveX
import Derived.Test.YtiiifecfdkjmbaaGreatMsgB
import Derived.ProofKit
import Derived.OpenShut
import Derived.ShutString
import Derived.ChangeOld
import Derived.SizedLaws
import Derived.Test.YtiiifecfdkjmbaaGreatRange
import Derived.Deep.Slices
set_option maxHeartbeats 1000000
namespace Go.Proofs.YtiiifecfdkjmbaaGreat
open _root_.Go.Proofs.Tryz hiding checked
set_option maxRecDepth 8000
open Go.RowKit Go.Shelf
open Pu
def eU (nodes:Nat) (l:List Int) (k:Nat):Wd:=⟨l,List.replicate k ⟨0,List.replicate l.length (List.replicate nodes 0),[],[]⟩,List.replicate k (List.replicate nodes [])⟩
theorem Fq (nodes:Nat) (hn:nodes<=4) (l:List Int) (hl:l.length<=3) (a:Option Addr) (cap:Nat) (w:World) (hI:Ints w a l.length l) :
  Calls prog 129 #[.int .i64 nodes,.slice a l.length cap] w fun e w'=>∃ L,e=.returned (aI L (iI nodes l))/\aU w.heap.size w' (iI nodes l) L/\Since w w':=by
 obtain ⟨w1,hw1⟩:∃ w1,w.alloc (.cells #[.slice none 0 0,.slice none 0 0,.slice none 0 0] 26)=w1:=⟨_,rfl⟩
 have hS1:=au hw1
 obtain ⟨w2,hw2⟩:∃ w2,w1.alloc (.cells #[] 3)=w2:=⟨_,rfl⟩
 have dw:=au hw2
 have hS2:=hS1.trans dw
 have hR2:Row w2 w1.heap.size 1 ⟨some ⟨w1.heap.size,0,none⟩,0⟩ 0 []:=by rw [<-hw2];exact Row.empty w1 _ 1 _
 have hsz2:w1.heap.size < w2.heap.size:=by rw [<-hw2];simp
 have Tg:w.heap.size < w1.heap.size:=by rw [<-hw1];simp
 have RB0:∀ y,Since w1 y->y.cell? ⟨w.heap.size,0,none⟩=some (.slice none 0 0)/\y.cell? ⟨w.heap.size,1,none⟩=some (.slice none 0 0)/\y.cell? ⟨w.heap.size,2,none⟩=some (.slice none 0 0)/\y.frozen? ⟨w.heap.size,0,none⟩=false/\y.frozen? ⟨w.heap.size,1,none⟩=false/\y.frozen? ⟨w.heap.size,2,none⟩=false:=by
  intro y hy
  have hl:w.heap.size < w1.heap.size:=by rw [<-hw1];simp
  have hc:∀ o,y.cell? ⟨w.heap.size,o,none⟩=w1.cell? ⟨w.heap.size,o,none⟩:=fun o=>hy.cellAt hl o
  have hz:∀ o,y.frozen? ⟨w.heap.size,o,none⟩=w1.frozen? ⟨w.heap.size,o,none⟩:=fun o=>hy.below.frozen (p:=⟨w.heap.size,o,none⟩) hl
  rw [hc,hc,hc,hz,hz,hz,<-hw1]
  simp [go_sem]
 go_enter func129,ntmps129
 go_wp2_with (at_builtin;refine iK EO rfl _ _ 22 rfl rfl hR2 rfl (vT (hI.since hS2)) (by omega) dw.size ?_;intro ga gc w3 hR3 hF3 hB3)
 clear hw1 hw2
 simp only [Nat.zero_add,List.nil_append] at hR3
 have hS3:Since w2 w3:=by
  refine hF3.since (fun i _ e=>?_)
  unfold Sl.blk at e;simp at e
 obtain ⟨w4,hw4⟩:∃ w4,w3.alloc (.cells #[.slice ga l.length gc,.slice none 0 0,.slice none 0 0] 26)=w4:=⟨_,rfl⟩
 rw [hw4]
 have qP:=au hw4
 have hM0:bQ w1.heap.size w4 w3.heap.size (eU nodes l 0) (fun ix=>if ix=(0,0,0) then ⟨ga,gc⟩ else ⟨none,0⟩):=by
  have hO:=aU.start (gs:=l) hR3 (by omega)
  refine ⟨hO.since qP, ?_,fun hb=>?_⟩
  ·rw [<-hw4];constructor <;> simp [go_sem,eU]
  ·have:=(hO.blk hb).2;omega
 have vZ:Since w1 w4:=(dw.trans hS3).trans qP
 have hp3:w1.heap.size<=w3.heap.size:=(dw.trans hS3).size
 have RB:Hid (∀ y,Since w1 y->y.cell? ⟨w.heap.size,0,none⟩=some (.slice none 0 0)/\y.cell? ⟨w.heap.size,1,none⟩=some (.slice none 0 0)/\y.cell? ⟨w.heap.size,2,none⟩=some (.slice none 0 0)/\y.frozen? ⟨w.heap.size,0,none⟩=false/\y.frozen? ⟨w.heap.size,1,none⟩=false/\y.frozen? ⟨w.heap.size,2,none⟩=false):=RB0
 have hI4:=(hI.since hS1).since vZ
 have Pg:=fun y=>run_make_row' (P:=prog) 22 3 (.int .i64 0) 8 (by kernel_rfl) (by kernel_rfl) rfl .i64 .i64 nodes (by omega) (by omega) y
 have QH:=fun y=>run_make_row' (P:=prog) 40 39 (.slice none 0 0) 24 (by kernel_rfl) (by kernel_rfl) rfl .i64 .i64 nodes (by omega) (by omega) y
 clear hw4 hR3 hF3 hB3 qP hS3 hR2 dw hsz2 hS2 RB0
 go_loopw [6] (fun i wr=>∃ k:Nat,k<=nodes/\i=.int .i64 k/\(∃ L,bQ w1.heap.size wr w3.heap.size (eU nodes l k) L)/\Since w1 wr) (fun i _=>nodes - (intOf i).toNat)
 case atStart=>exact ⟨0,Nat.zero_le _,rfl,⟨_,hM0⟩,vZ⟩
 case round =>
  obtain ⟨wo,rfl⟩:∃ wo,wo=wr:=⟨_,rfl⟩
  obtain ⟨k,hk,rfl,⟨L,hM⟩,hSr⟩:=hrel
  clear hM0
  by_cases hlt:k < nodes
  ·go_wp2
   go_loopw [7,8] (fun v i wi=>∃ (j:Nat) (sa:Option Addr) (sc:Nat) (rs:Nat->Sl),j<=l.length/\i=.int .i64 j/\v=.slice sa j sc/\dR 1 oZ wo.heap.size wi ⟨sa,sc⟩ rs (List.replicate j (List.replicate nodes 0))/\Since wo wi) (fun _ i _=>l.length - (intOf i).toNat)
   case atStart=>exact ⟨0,none,0,fun _=>⟨none,0⟩,Nat.zero_le _,rfl,rfl,dR.nil,Since.refl _⟩
   case round =>
    obtain ⟨wi,rfl⟩:∃ wi,wi=wr:=⟨_,rfl⟩
    obtain ⟨j,sa,sc,rs,hj,rfl,rfl,hLL,hSi⟩:=hrel
    by_cases hjl:j < l.length
    ·have hbb:∀ b,Sl.blk ⟨some ⟨wi.heap.size,0,none⟩,nodes⟩=some b->b=wi.heap.size:=by
      intro b e;unfold Sl.blk at e;split at e
      ·cases e
      ·cases e;rfl
     have hS6:Since wi (wi.alloc (.cells (madeCells #[.int .i64 0] nodes) 3)):=(Since.refl wi).alloc _
     have hS7:Since wi ((wi.alloc (.cells (madeCells #[.int .i64 0] nodes) 3)).alloc (.cells #[.slice (some ⟨wi.heap.size,0,none⟩) nodes nodes] 22)):=hS6.alloc _
     have hrow:Row (wi.alloc (.cells (madeCells #[.int .i64 0] nodes) 3)) wo.heap.size 1 ⟨some ⟨wi.heap.size,0,none⟩,nodes⟩ nodes (oZ (List.replicate nodes 0)):=by
      have:=Row.new wi wo.heap.size 1 (madeCells #[.int .i64 0] nodes) 3 nodes hSi.size (by rw [size_madeCells];omega) (by unfold maxLen;omega)
      rw [xq] at this
      unfold oZ;rw [List.map_replicate];exact this
     have hsrc:=gP (size:=1) (T:=22) (w:=wi.alloc (.cells (madeCells #[.int .i64 0] nodes) 3)) CX.und [.slice (some ⟨wi.heap.size,0,none⟩) nodes nodes] rfl (fun u hu=>by simp at hu;subst hu;rfl) 1
     have Q5:=hLL.since hS7
     have htop:=Q5.top
     simp only [List.length_replicate] at htop
     simp only [World.size_alloc] at hsrc
     go_wp2_with (at_builtin;refine iK CX rfl _ _ 43 rfl rfl htop rfl hsrc ?_ ?_ ?_;omega;exact (zQ5 hSi.size hS7.size);intro sa' sc' w8 hR8 hF8 hB8)
     go_roundw
     case rel =>
      have hp:=Q5.push (xs:=List.replicate nodes 0) (r:=⟨some ⟨wi.heap.size,0,none⟩,nodes⟩) (w':=w8) (s':=⟨sa',sc'⟩) (by simpa using hrow.since ((Since.refl _).alloc _))
       (fun b e hb=>by have:=hbb b e;have:=(hLL.blk hb).2;omega) (by simpa [Sl.v] using hR8) hF8 hB8
      refine ⟨j+1,sa',sc',A8 rs j ⟨some ⟨wi.heap.size,0,none⟩,nodes⟩,by omega,by go_num,by go_num, ?_, ?_⟩
      ·rw [List.replicate_succ'];simpa using hp
      ·exact hF8.aA (hSi.trans hS7) (fun i hi e=>by have:=(hLL.blk (.inl e)).1;omega)
     case measure=>simp [intOf];omega
    ·obtain rfl:j=l.length:=by omega
     obtain ⟨x,hx⟩:∃ x:Nd,x=⟨0,List.replicate l.length (List.replicate nodes 0),[],[]⟩:=⟨_,rfl⟩
     obtain ⟨na,nc,hL1⟩:∃ na nc,L (1,0,0)=⟨na,nc⟩:=⟨_,_,rfl⟩
     obtain ⟨ra,rc,hL2⟩:∃ ra rc,L (2,0,0)=⟨ra,rc⟩:=⟨_,_,rfl⟩
     have hMi:=hM.since hSi
     have b1:wi.cell? ⟨w3.heap.size,1,none⟩=some (.slice na k nc):=by have:=hMi.box.c1;rw [hL1] at this;simpa [eU] using this
     have z1:=hMi.box.z1
     have hpl:=hMi.box.lt
     have hRn:Row wi w1.heap.size 4 ⟨na,nc⟩ k (dF (eU nodes l k) L (1,0,0)):=by
      have:Row wi w1.heap.size 4 (L (1,0,0)) (eU nodes l k).nodes.length (dF (eU nodes l k) L (1,0,0)):=hMi.own.row (1,0,0) ⟨rfl,rfl⟩
      rw [hL1] at this;simpa [eU] using this
     have hsrc:=gP (size:=4) (T:=45) (w:=wi) mo.und [.int .i64 0,.slice sa l.length sc,.slice none 0 0,.slice none 0 0] rfl (fun u hu=>by simp at hu;rcases hu with rfl | rfl | rfl <;> rfl) 1
     have hS9:Since wi (wi.alloc (.cells #[.int .i64 0,.slice sa l.length sc,.slice none 0 0,.slice none 0 0] 45)):=(Since.refl wi).alloc _
     have AO:=hSr.trans (hSi.trans hS9)
     go_wp2_with (at_builtin;refine iK mo rfl _ _ 23 rfl rfl (hRn.since hS9) rfl hsrc ?_ ?_ ?_;omega;exact AO.size;intro na' nc' w10 CP zi Gx;have AY:=(hMi.box.since hS9).fr zi (fun e=>hM.off ⟨(1,0,0),⟨rfl,rfl⟩,by rw [hL1];exact e⟩);have q1:=AY.c1;have q2:=AY.z1)
     have hNd:mY wo.heap.size (wi.alloc (.cells #[.int .i64 0,.slice sa l.length sc,.slice none 0 0,.slice none 0 0] 45)) x ⟨sa,sc⟩ rs ⟨none,0⟩ ⟨none,0⟩:=by
      rw [hx]
      exact ⟨hLL.since hS9,Row.nil _ _ _,Row.nil _ _ _,fun b e=>(by cases e),fun b e=>(by cases e)⟩
     have nK:=hM.addNode (a':=na') (c':=nc') (w':=w10) (hSi.trans hS9) hNd hSr.size (by rw [hx];refine ⟨by simp;omega,fun i r hr=>?_,by simp,by simp⟩;(have:=zQ2.1 hr;obtain ⟨h1,h2⟩:=this;simp at h2;rw [<-h2];simp;omega)) (by simp [eU];omega)
      (by rw [hx];simpa [eU,Sl.v] using CP) (by rw [hL1];exact zi) (by rw [hL1];exact Gx)
     obtain ⟨w11,Ev⟩:∃ w11,w10.setCell ⟨w3.heap.size,1,none⟩ (.slice na' (k+1) nc')=w11:=⟨_,rfl⟩
     have Ph:(eU nodes l k).nodes.length=k:=by simp [eU]
     rw [Ph,Ev] at nK
     rw [Ev]
     have p8:Since w1 w11:=by
      rw [<-Ev]
      refine Fr.aA (B:=fun i=>¬ i < w1.heap.size) ((zi.mono (fun i _ e=>?_)).setCell _ _ ?_) AO (fun i hi h=>h hi)
      ·have:=(hM.own.blk ⟨(1,0,0),⟨rfl,rfl⟩,by rw [hL1];exact e⟩).1;omega
      ·intro _;show ¬ w3.heap.size < _;omega
     obtain ⟨d11,Gy⟩:∃ d:Wd,{ (eU nodes l k) with nodes:=(eU nodes l k).nodes++[x] }=d:=⟨_,rfl⟩
     rw [Gy] at nK
     obtain ⟨L11,LP⟩:∃ L':Lay,dz L k ⟨na',nc'⟩ ⟨sa,sc⟩ rs ⟨none,0⟩ ⟨none,0⟩=L':=⟨_,rfl⟩
     rw [LP] at nK
     obtain ⟨ra,rc,hL2⟩:∃ ra rc,L11 (2,0,0)=⟨ra,rc⟩:=⟨_,_,rfl⟩
     have hwl:d11.wires.length=k:=by rw [<-Gy];simp [eU]
     have b2:w11.cell? ⟨w3.heap.size,2,none⟩=some (.slice ra k rc):=by have:=nK.box.c2;rw [hL2,hwl] at this;exact this
     have z2:=nK.box.z2
     have hRw:Row w11 w1.heap.size 1 ⟨ra,rc⟩ k (dF d11 L11 (2,0,0)):=by
      have:Row w11 w1.heap.size 1 (L11 (2,0,0)) d11.wires.length (dF d11 L11 (2,0,0)):=nK.own.row (2,0,0) ⟨rfl,rfl⟩
      rw [hL2,hwl] at this;exact this
     clear hL1 hMi b1 z1 hRn hsrc CP zi Gx AY q1 q2 hNd hLL hM Ev LP hS9 AO hSi Pg
     have dw:Since w11 ((w11.alloc (.cells (madeCells #[.slice none 0 0] nodes) 39)).alloc (.cells #[.slice (some ⟨w11.heap.size,0,none⟩) nodes nodes] 40)).drew:=Since.drew (((Since.refl _).alloc _).alloc _)
     have Ew:=CY (size:=1) (T:=40) (w:=w11.alloc (.cells (madeCells #[.slice none 0 0] nodes) 39)) nP.und [.slice (some ⟨w11.heap.size,0,none⟩) nodes nodes] rfl (fun u hu=>by simp at hu;subst hu;rfl) 1
     simp only [World.size_alloc] at Ew
     have Q6:=zQ5 p8.size dw.size
     obtain ⟨S0,hS0⟩:∃ S0:World->Prop,∀ w',S0 w'↔w'.cell? ⟨w3.heap.size,2,none⟩=some (.slice ra k rc):=⟨_,fun _=>Iff.rfl⟩
     have hc2:∀ x:aj S0,x.w.cell? ⟨w3.heap.size,2,none⟩=some (.slice ra k rc):=fun x=>(hS0 _).1 x.h
     have Pj:w3.heap.size < w11.heap.size:=nK.box.lt
     have KS:Hid (∀ y,Since w11 y->S0 y):=fun y hy=>(hS0 y).2 ((hy.cellAt Pj _).trans b2)
     have hSi:=KS.out w11.drew (Since.drew (Since.refl _))
     have hne:Nonempty (aj S0):=⟨⟨_,hSi⟩⟩
     refine qh (fun w'=>∃ x:aj S0,w'=x.w) (by kernel_rfl) ?_
     refine tL 0 rfl (ah hSi) ?_;go_big_quiet_op
     refine tL 1 rfl (ah hSi) ?_;go_big_quiet_op
     refine tL 2 rfl (ah hSi) ?_;go_big_quiet_op
     refine iW 3 rfl (by kernel_rfl) ?_
     intro K hK
     go_simp
     refine hK _ _ (fun _ _=>ah (KS.out _ (Since.drew ((Since.refl _).alloc _)))) ?_
     clear hK K
     refine iW 4 rfl (by kernel_rfl) ?_
     intro K hK
     go_simp
     refine hK _ _ (fun _ _=>ah (KS.out _ dw)) ?_
     clear hK K
     refine iW 5 rfl (by kernel_rfl) ?_
     intro K hK
     refine bF nP (by rfl) _ _ 24 (by rfl) (by rfl) (hRw.since dw) (by rfl) Ew (by omega) Q6 ?_
     intro ra' rc' w12 Pk Gz Pm
     have JW:=(nK.box.since dw).fr Gz (fun e=>nK.off ⟨(2,0,0),⟨rfl,rfl⟩,by rw [hL2];exact e⟩)
     have hSj:S0 w12:=(hS0 _).2 (by have:=JW.c2;rw [hL2,hwl] at this;exact this)
     have q2:=JW.c2
     have q3:=JW.z2
     refine hK _ _ (fun _ _=>ah hSj) ?_
     clear hK K
     simp only [Act.put,zQ7,zQ8,zQ9]
     refine tL 6 rfl (ah hSj) ?_;go_big_quiet_op
     refine iW 7 rfl (by kernel_rfl) ?_
     intro K hK
     go_simp
     refine hK _ _ (fun h=>absurd h (by decide +kernel)) ?_
     clear hK K
     have GA:=nK.xu (a':=ra') (c':=rc') (w':=w12) (x:=List.replicate nodes []) dw ((dR.made (α:=Mg) (sz:=5) (enc:=flat) rfl w11.heap.size w11 nodes 39 (Nat.le_refl _) (by unfold maxLen;omega)).since (Since.drew ((Since.refl _).alloc _))) p8.size
      ⟨by simp;omega,fun i r hr=>by have:=zQ2.1 hr;obtain ⟨h1,h2⟩:=this;simp at h2;first | (rw [h2];simp) | (rw [<-h2];simp)⟩ (by omega) (by rw [hwl,List.length_replicate];exact Pk) (by rw [hL2];exact Gz) (by rw [hL2];exact Pm)
     rw [hwl] at GA
     have hdE:({ d11 with wires:=d11.wires++[List.replicate nodes []] }:Wd)=eU nodes l (k+1):=by
      rw [<-Gy,hx];simp [eU,List.replicate_succ']
     rw [hdE] at GA
     have nL:Since w1 (w12.setCell ⟨w3.heap.size,2,none⟩ (.slice ra' (k+1) rc')):=by
      refine Fr.aA (B:=fun i=>¬ i < w1.heap.size) ((Gz.mono (fun i _ e=>?_)).setCell _ _ ?_) (p8.trans dw) (fun i hi h=>h hi)
      ·have:=(nK.own.blk ⟨(2,0,0),⟨rfl,rfl⟩,by rw [hL2];exact e⟩).1;omega
      ·intro _;show ¬ w3.heap.size < _;omega
     refine nV (by kernel_rfl) ?_
     go_wp2
     exact ⟨⟨k+1,by omega,by go_num,⟨_,GA⟩,nL⟩,by simp [intOf];omega⟩
  ·obtain rfl:k=nodes:=by omega
   obtain ⟨r0,r1,r2,r3,r4,r5⟩:=RB.out _ hSr
   have b0:=hM.box.c0
   have b1:=hM.box.c1
   have b2:=hM.box.c2
   go_wp2
   have hrl:w.heap.size < w1.heap.size:=Tg
   have hoff:¬ gy (eU k l k) L w.heap.size:=fun hb=>by have:=(hM.own.blk hb).1;omega
   have hO:=((hM.own.jK (p:=⟨w.heap.size,0,none⟩) hoff (.slice (L (0,0,0)).a (eU k l k).groups.length (L (0,0,0)).cap)).jK (p:=⟨w.heap.size,1,none⟩) hoff (.slice (L (1,0,0)).a (eU k l k).nodes.length (L (1,0,0)).cap)).jK (p:=⟨w.heap.size,2,none⟩) hoff (.slice (L (2,0,0)).a (eU k l k).wires.length (L (2,0,0)).cap)
   refine bodyPost_ret (v:=aI L (eU k l k)) ?_ rfl ⟨L,rfl,hO.mono hS1.size, ?_⟩
   ·simp [results,results129,go_sem,r0,r1,r2,aI]
   ·have hF:Fr (fun i=>i=w.heap.size) wo wo:=Fr.refl _ _
    exact (((hF.setCell ⟨w.heap.size,0,none⟩ _ (fun _=>rfl)).setCell ⟨w.heap.size,1,none⟩ _ (fun _=>rfl)).setCell ⟨w.heap.size,2,none⟩ _ (fun _=>rfl)).aA (hS1.trans hSr) (fun i hi e=>by omega)
set_option linter.unusedVariables false
set_option linter.unusedSimpArgs false
structure Tp (w:World) (b o:Nat) (x:Ac):Prop where
 c0:w.cell? ⟨b,o,none⟩=some (.int .i64 x.kind)
 c1:w.cell? ⟨b,o+1,none⟩=some (.int .i64 x.one)
 c2:w.cell? ⟨b,o+2,none⟩=some (.int .i64 x.two)
 c3:w.cell? ⟨b,o+3,none⟩=some (.string x.body)
structure yh (w:World) (a:Option Addr) (len:Nat) (xs:List Ac):Prop where
 hlen:xs.length=len
 hmax:len<=3518437208780
 cells:0 < len->∃ b off,a=some ⟨b,off,none⟩/\b < w.heap.size/\∀ (i:Nat) (x:Ac),xs[i]? = some x->Tp w b (off+i*4) x
theorem yh.since {w W:World} {a:Option Addr} {len:Nat} {xs:List Ac} (h:yh w a len xs) (k:Since w W):yh W a len xs :=
 ⟨h.hlen,h.hmax,fun hp=>by
  obtain ⟨b,off,e,hb,hc⟩:=h.cells hp
  exact ⟨b,off,e,zQ4 hb k.size,fun i x hx=>let g:=hc i x hx;⟨(k.cellAt hb _).trans g.c0,(k.cellAt hb _).trans g.c1,(k.cellAt hb _).trans g.c2,(k.cellAt hb _).trans g.c3⟩⟩⟩
theorem Fz {m:Mg} {n:Nat} {d:Wd} {e:Int}:∀ i:Nat,eZ m n d i=.error e->e≠0
 | 0,h=>by cases h
 | i+1,h=>by
  rw [iL] at h
  rcases iQ h with h | ⟨d1,_,h2⟩
  ·exact Fz i h
  ·unfold gF at h2
   split at h2
   ·cases h2
   ·split at h2
    ·cases h2;simp
    ·split at h2
     ·cases h2;simp
     ·cases h2
theorem Mw {d:Wd} {n:Nat} {e:Int} (h:eB d n=.error e):e≠0:=by
 unfold eB at h
 split at h
 ·cases h;simp
 ·split at h
  ·cases h;simp
  ·split at h
   ·cases h;simp
   ·cases h
theorem Ko {d:Wd} {n:Nat} {m:Mg} {e:Int} (h:dW d n m=.error e):e≠0:=by
 unfold dW at h
 split at h
 ·cases h
 ·unfold tV at h
  split at h
  ·cases h;simp
  ·split at h
   ·cases h
   ·rename_i hz;cases h;exact hz
theorem FB {d:Wd} {n:Nat} {m:Mg} {e:Int} (h:((dW d n m).bind fun d3=>(eB d3 n).bind fun p=>.ok p.1)=.error e):e≠0:=by
 rcases iQ h with h | ⟨d3,_,h⟩
 ·exact Ko h
 ·rcases iQ h with h | ⟨p,_,h⟩
  ·exact Mw h
  ·cases h
theorem rQ {d:Wd} {n g:Int} {nul:Bool} {body:ByteArray} {e:Int} (h:fI d n g nul body=.error e):e≠0:=by
 unfold fI at h
 split at h
 ·rcases iQ h with h | ⟨d2,_,h⟩
  ·exact Fz _ h
  ·exact FB h
 ·rename_i hz;cases h;exact hz
theorem wm {d:Wd} {f t:Nat} {e:Int} (h:fJ d f t=.error e):e≠0:=by
 unfold fJ at h
 split at h
 ·cases h;simp
 ·exact FB h
theorem LM {d:Wd} {a:Ac} (h4:a.kind≠4) {e:Int} (h:doD d a=.error e):e≠0:=by
 unfold doD checked jW at h
 split at h
 ·split at h
  ·exact rQ h
  ·rename_i hz;cases h;exact hz
 ·split at h
  ·split at h
   ·exact rQ h
   ·rename_i hz;cases h;exact hz
  ·split at h
   ·split at h
    ·split at h
     ·exact wm h
     ·cases h;simp
    ·rename_i hz;cases h;exact hz
   ·cases h;simp
theorem BS {lo lo':Nat} {w:World} {p:Nat} {d d':Wd} {L L':Lay} (hO:aU lo' w d' L') (hB:iA w p L d) (hl:lo<=lo') (hp:p < lo') :
  bQ lo (((w.setCell ⟨p,0,none⟩ (.slice (L' (0,0,0)).a d'.groups.length (L' (0,0,0)).cap)).setCell ⟨p,1,none⟩ (.slice (L' (1,0,0)).a d'.nodes.length (L' (1,0,0)).cap)).setCell ⟨p,2,none⟩ (.slice (L' (2,0,0)).a d'.wires.length (L' (2,0,0)).cap)) p d' L':=by
 have hoff:¬ gy d' L' p:=fun hb=>by have:=(hO.blk hb).1;omega
 refine ⟨(((hO.jK (p:=⟨p,0,none⟩) hoff _).jK (p:=⟨p,1,none⟩) hoff _).jK (p:=⟨p,2,none⟩) hoff _).mono hl, ?_,hoff⟩
 have h0:=hB.c0
 have h1:=hB.c1
 have h2:=hB.c2
 have z0:=hB.z0
 have z1:=hB.z1
 have z2:=hB.z2
 have lt:=hB.lt
 constructor <;> simp [go_sem,h0,h1,h2,z0,z1,z2,lt]
theorem Oe {w:World} {p:Nat} {d:Wd} {L:Lay} (h:aC w p) :
  iA (((w.setCell ⟨p,0,none⟩ (.slice (L (0,0,0)).a d.groups.length (L (0,0,0)).cap)).setCell ⟨p,1,none⟩ (.slice (L (1,0,0)).a d.nodes.length (L (1,0,0)).cap)).setCell ⟨p,2,none⟩ (.slice (L (2,0,0)).a d.wires.length (L (2,0,0)).cap)) p L d:=by
 obtain ⟨lt,r0,r1,r2,r3,r4,r5⟩:=h
 constructor <;> simp [go_sem,lt,r0,r1,r2,r3,r4,r5]
theorem Bc (nodes:Nat) (hn:nodes<=4) (l:List Int) (hl:l.length<=3) (a:Option Addr) (cap:Nat) (ac:Option Addr) (Mx:Nat) (acts:List Ac) (h4:∀ x∈acts,x.kind≠4) (w:World) (hI:Ints w a l.length l) (hA:yh w ac acts.length acts) :
  Calls prog 70 #[.int .i64 nodes,.slice a l.length cap,.slice ac acts.length Mx] w fun e w'=>∃ L,e=.returned (aI L (doneD nodes l acts))/\aU w.heap.size w' (doneD nodes l acts) L/\Since w w':=by
 have hmax:=hA.hmax
 obtain ⟨w1,hw1⟩:∃ w1,w.alloc (.cells #[.slice none 0 0,.slice none 0 0,.slice none 0 0] 26)=w1:=⟨_,rfl⟩
 have hNB:aC w1 w.heap.size:=by rw [<-hw1];exact aC.new w _
 have hS1:=au hw1
 have hI1:=hI.since hS1
 have hA1:=hA.since hS1
 go_enter func70,ntmps70
 go_wp2_with (go_at_call 129;refine (Fq nodes hn l hl a cap w1 hI1).mono ?_;rintro e w2 ⟨L,rfl,hO2,dw⟩;simp only [aI];obtain ⟨w3,hw3⟩:∃ y,w2.alloc (.cells #[.slice (L (0,0,0)).a (iI nodes l).groups.length (L (0,0,0)).cap,.slice (L (1,0,0)).a (iI nodes l).nodes.length (L (1,0,0)).cap,.slice (L (2,0,0)).a (iI nodes l).wires.length (L (2,0,0)).cap] 26)=y:=⟨_,rfl⟩)
 have Eu:=au hw3
 have hM3:bQ w1.heap.size w3 w2.heap.size (iI nodes l) L:=by
  refine ⟨hO2.since Eu, ?_,fun hb=>?_⟩
  ·rw [<-hw3];constructor <;> simp [go_sem]
  ·have:=(hO2.blk hb).2;omega
 have nL:=dw.trans Eu
 have hge:w1.heap.size<=w2.heap.size:=dw.size
 clear hw1 hw3 hO2
 go_loopw [8] (fun i wr=>∃ (k:Nat) (Lk:Lay),k<=acts.length/\i=.int .i64 k/\bQ w1.heap.size wr w2.heap.size (doneD nodes l (acts.take k)) Lk/\Since w1 wr) (fun i _=>acts.length - (intOf i).toNat)
 case atStart=>exact ⟨0,L,Nat.zero_le _,rfl,by simpa [doneD] using hM3,nL⟩
 case round =>
  obtain ⟨wo,rfl⟩:∃ wo,wo=wr:=⟨_,rfl⟩
  obtain ⟨k,Lk,hk,rfl,hM,hSr⟩:=hrel
  by_cases hlt:k < acts.length
  ·obtain ⟨x,hx⟩:∃ x,acts[k]? = some x:=⟨_,zQ1 hlt⟩
   have hx4:=h4 x (List.mem_of_getElem? hx)
   obtain ⟨dk,hdk⟩:∃ y,doneD nodes l (acts.take k)=y:=⟨_,rfl⟩
   have hnext:doneD nodes l (acts.take (k+1))=qg dk x:=by
    rw [<-hdk,List.take_add_one,hx];unfold doneD;rw [List.foldl_append];rfl
   rw [hdk] at hM
   have HNX:=(show Hid _ from hnext)
   obtain ⟨bA,oA,rfl,hbA,hcA⟩:=hA1.cells (by omega)
   obtain ⟨e0,e1,e2,e3⟩:=hcA k x hx
   have hWk:=hM.own.wat
   have n1:(k:Int) < (acts.length:Int):=by omega
   obtain ⟨W0,hW0⟩:∃ y,wo.drew=y:=⟨_,rfl⟩
   have hs0:=bM hW0
   obtain ⟨S0,hS0⟩:∃ S0:World->Prop,∀ w',S0 w'↔Since wo w':=⟨_,fun _=>Iff.rfl⟩
   have c0:∀ y:aj S0,y.w.cell? ⟨w2.heap.size,0,none⟩=some (.slice (Lk (0,0,0)).a dk.groups.length (Lk (0,0,0)).cap):=fun y=>(hM.since ((hS0 _).1 y.h)).box.c0
   have c1:∀ y:aj S0,y.w.cell? ⟨w2.heap.size,1,none⟩=some (.slice (Lk (1,0,0)).a dk.nodes.length (Lk (1,0,0)).cap):=fun y=>(hM.since ((hS0 _).1 y.h)).box.c1
   have c2:∀ y:aj S0,y.w.cell? ⟨w2.heap.size,2,none⟩=some (.slice (Lk (2,0,0)).a dk.wires.length (Lk (2,0,0)).cap):=fun y=>(hM.since ((hS0 _).1 y.h)).box.c2
   have c3:∀ y:aj S0,y.w.cell? ⟨bA,oA+k*4,none⟩=some (.int .i64 x.kind):=fun y=>((hSr.trans ((hS0 _).1 y.h)).cellAt hbA _).trans e0
   have c4:∀ y:aj S0,y.w.cell? ⟨bA,oA+k*4+1,none⟩=some (.int .i64 x.one):=fun y=>((hSr.trans ((hS0 _).1 y.h)).cellAt hbA _).trans e1
   have c5:∀ y:aj S0,y.w.cell? ⟨bA,oA+k*4+2,none⟩=some (.int .i64 x.two):=fun y=>((hSr.trans ((hS0 _).1 y.h)).cellAt hbA _).trans e2
   have c6:∀ y:aj S0,y.w.cell? ⟨bA,oA+k*4+3,none⟩=some (.string x.body):=fun y=>((hSr.trans ((hS0 _).1 y.h)).cellAt hbA _).trans e3
   have av:=(hS0 W0).2 hs0
   have hne:Nonempty (aj S0):=⟨⟨_,av⟩⟩
   obtain ⟨WA,hWA⟩:∃ y,W0.alloc (.cells #[.slice none 0 0,.slice none 0 0,.slice none 0 0] 26)=y:=⟨_,rfl⟩
   have hsA:=au hWA
   have hNA:aC WA W0.heap.size:=by rw [<-hWA];exact aC.new W0 _
   have yw:=(hS0 WA).2 (hs0.trans hsA)
   have MB:=xZ (fP Lk dk) dk x hx4 W0 (hWk.since hs0)
   have MC:=xZ (fP Lk dk) dk x hx4 WA (hWk.since (hs0.trans hsA))
   unfold fP acV at MB MC
   dsimp only at MB MC
   obtain ⟨r,hr⟩:∃ r,doD dk x=r:=⟨_,rfl⟩
   rw [hr] at MB MC
   clear hnext hdk hcA e0 e1 e2 e3 hx
   go_wp2_with fail
   refine qh (fun w'=>∃ x:aj S0,w'=x.w) (by kernel_rfl) ?_
   rw [hW0]
   clear hW0
   refine tL 0 rfl (ah av) ?_;go_big_quiet_op
   refine tL 1 rfl (ah av) ?_;go_big_quiet_op
   refine tL 2 rfl (ah av) ?_;go_big_quiet_op
   refine tL 3 rfl (ah av) ?_;go_big_quiet_op
   refine tL 4 rfl (ah av) ?_;go_big_quiet_op
   cases r with
   | error er =>
    have her:(er == 0)=false:=by simpa using LM hx4 hr
    have HN:Hid (doneD nodes l (acts.take (k+1))=dk):=by unfold Hid;rw [HNX.out];unfold qg;rw [hr]
    clear hr
    refine Je 5 9 rfl rfl (by kernel_rfl) ?_ ?_
    ·intro K hK
     go_simp
     refine MB.mono ?_
     rintro e wC hR3
     obtain ⟨rfl,hS3⟩:=hR3.out.1 er rfl
     dsimp only
     have hsC:=hs0.trans hS3
     have qm:=(hS0 wC).2 hsC
     refine hK _ _ (fun _ _=>ah qm) ?_
     clear hK K
     refine tL 6 rfl (ah qm) ?_;go_big_quiet_op
     refine tL 7 rfl (ah qm) ?_;go_big_quiet_op
     refine tL 8 rfl (ah qm) ?_;go_big_quiet_op
     refine iW 9 rfl (by kernel_rfl) ?_
     intro K hK
     go_simp
     refine hK _ _ (fun _ _=>ah ((hS0 _).2 (hsC.alloc _))) ?_
     clear hK K
     refine iW 10 rfl (by kernel_rfl) ?_
     intro K hK
     go_simp
     have hsF:Since wo (wC.alloc (.cells #[.slice none 0 0,.slice none 0 0,.slice none 0 0] 26)):=hsC.alloc _
     refine hK _ _ (fun _ _=>ah ((hS0 _).2 hsF)) ?_
     clear hK K
     refine tL 11 rfl (ah ((hS0 _).2 hsF)) ?_
     go_big_quiet_op
     refine nV (by kernel_rfl) ?_
     clear c0 c1 c2 c3 c4 c5 c6 hne
     go_wp2
     exact ⟨⟨k+1,Lk,by omega,by go_num,by rw [HN.out];exact hM.since hsF,hSr.trans hsF⟩,by simp [intOf];omega⟩
    ·intro K hK
     go_simp
     refine hK _ _ (fun _ _=>ah yw) ?_
     clear hK K
     refine iW 5 rfl (by kernel_rfl) ?_
     intro K hK
     go_simp
     refine MC.mono ?_
     rintro e wC hR3
     obtain ⟨rfl,hS3⟩:=hR3.out.1 er rfl
     dsimp only
     have hsC:=(hs0.trans hsA).trans hS3
     have qm:=(hS0 wC).2 hsC
     refine hK _ _ (fun _ _=>ah qm) ?_
     clear hK K
     refine tL 6 rfl (ah qm) ?_;go_big_quiet_op
     refine tL 7 rfl (ah qm) ?_;go_big_quiet_op
     refine tL 8 rfl (ah qm) ?_;go_big_quiet_op
     obtain ⟨lt,r0,r1,r2,r3,r4,r5⟩:=hNA.since hS3
     refine iW 10 rfl (by kernel_rfl) ?_
     intro K hK
     go_simp
     have hsF:=aK (w:=wo) (p:=W0.heap.size) hs0.size hsC
     refine hK _ _ (fun _ _=>ah ((hS0 _).2 hsF)) ?_
     clear hK K
     refine tL 11 rfl (ah ((hS0 _).2 hsF)) ?_
     go_big_quiet_op
     refine nV (by kernel_rfl) ?_
     clear c0 c1 c2 c3 c4 c5 c6 hne
     go_wp2
     exact ⟨⟨k+1,Lk,by omega,by go_num,by rw [HN.out];exact hM.since hsF,hSr.trans hsF⟩,by simp [intOf];omega⟩
   | ok d' =>
    have HN:Hid (doneD nodes l (acts.take (k+1))=d'):=by unfold Hid;rw [HNX.out];unfold qg;rw [hr]
    clear hr
    have hpw:w2.heap.size < W0.heap.size:=zQ4 hM.box.lt hs0.size
    have hlo:w1.heap.size<=W0.heap.size:=zQ5 hSr.size hs0.size
    refine Je 5 9 rfl rfl (by kernel_rfl) ?_ ?_
    ·intro K hK
     go_simp
     refine MB.mono ?_
     rintro e wC hR3
     obtain ⟨L',rfl,hO,hS3⟩:=hR3.out.2 d' rfl
     simp only [aI]
     have hsC:=hs0.trans hS3
     have qm:=(hS0 wC).2 hsC
     refine hK _ _ (fun _ _=>ah qm) ?_
     clear hK K
     refine tL 6 rfl (ah qm) ?_;go_big_quiet_op
     refine tL 7 rfl (ah qm) ?_;go_big_quiet_op
     refine tL 8 rfl (ah qm) ?_;go_big_quiet_op
     refine iW 9 rfl (by kernel_rfl) ?_
     intro K hK
     go_simp
     refine hK _ _ (fun _ _=>ah ((hS0 _).2 (hsC.alloc _))) ?_
     clear hK K
     obtain ⟨WF,hWF⟩:∃ y,wC.alloc (.cells #[.slice (L' (0,0,0)).a d'.groups.length (L' (0,0,0)).cap,.slice (L' (1,0,0)).a d'.nodes.length (L' (1,0,0)).cap,.slice (L' (2,0,0)).a d'.wires.length (L' (2,0,0)).cap] 26)=y:=⟨_,rfl⟩
     have ME:=au hWF
     have q0:WF.cell? ⟨wC.heap.size,0,none⟩=some (.slice (L' (0,0,0)).a d'.groups.length (L' (0,0,0)).cap):=by rw [<-hWF];simp [go_sem]
     have q1:WF.cell? ⟨wC.heap.size,1,none⟩=some (.slice (L' (1,0,0)).a d'.nodes.length (L' (1,0,0)).cap):=by rw [<-hWF];simp [go_sem]
     have q2:WF.cell? ⟨wC.heap.size,2,none⟩=some (.slice (L' (2,0,0)).a d'.wires.length (L' (2,0,0)).cap):=by rw [<-hWF];simp [go_sem]
     have hsF:=hsC.trans ME
     refine iW 10 rfl (by kernel_rfl) ?_
     intro K hK
     go_simp
     refine hK _ _ (fun _ _=>ah ((hS0 _).2 hsF)) ?_
     clear hK K
     refine tL 11 rfl (ah ((hS0 _).2 hsF)) ?_
     go_big_quiet_op
     refine nV (by kernel_rfl) ?_
     have hMF:=hM.since hsF
     obtain ⟨bl,b0,b1,b2,z0,z1,z2⟩:=hMF.box
     have MF:=BS (lo:=w1.heap.size) (hO.since ME) hMF.box hlo hpw
     have hSg:Since w1 (((WF.setCell ⟨w2.heap.size,0,none⟩ (.slice (L' (0,0,0)).a d'.groups.length (L' (0,0,0)).cap)).setCell ⟨w2.heap.size,1,none⟩ (.slice (L' (1,0,0)).a d'.nodes.length (L' (1,0,0)).cap)).setCell ⟨w2.heap.size,2,none⟩ (.slice (L' (2,0,0)).a d'.wires.length (L' (2,0,0)).cap)):=by
      have hF:Fr (fun i=>i=w2.heap.size) WF WF:=Fr.refl _ _
      exact (((hF.setCell ⟨w2.heap.size,0,none⟩ _ (fun _=>rfl)).setCell ⟨w2.heap.size,1,none⟩ _ (fun _=>rfl)).setCell ⟨w2.heap.size,2,none⟩ _ (fun _=>rfl)).aA (hSr.trans hsF) (fun i hi e=>by omega)
     clear c0 c1 c2 c3 c4 c5 c6 hne hWF
     go_wp2
     exact ⟨⟨k+1,L',by omega,by go_num,by rw [HN.out];exact MF,hSg⟩,by simp [intOf];omega⟩
    ·intro K hK
     go_simp
     refine hK _ _ (fun _ _=>ah yw) ?_
     clear hK K
     refine iW 5 rfl (by kernel_rfl) ?_
     intro K hK
     go_simp
     refine MC.mono ?_
     rintro e wC hR3
     obtain ⟨L',rfl,hO,hS3⟩:=hR3.out.2 d' rfl
     simp only [aI]
     have hsC:=(hs0.trans hsA).trans hS3
     have qm:=(hS0 wC).2 hsC
     refine hK _ _ (fun _ _=>ah qm) ?_
     clear hK K
     refine tL 6 rfl (ah qm) ?_;go_big_quiet_op
     refine tL 7 rfl (ah qm) ?_;go_big_quiet_op
     refine tL 8 rfl (ah qm) ?_;go_big_quiet_op
     have hNC:=hNA.since hS3
     obtain ⟨hOF,Rh⟩:=hO.result (w0:=W0) (p:=W0.heap.size) hNA.lt (Nat.le_refl _) (hsA.trans hS3) hsA.size
     have hbx:=Oe (d:=d') (L:=L') hNC
     obtain ⟨lt,r0,r1,r2,r3,r4,r5⟩:=hNC
     obtain ⟨WF,hWF⟩:∃ y,((wC.setCell ⟨W0.heap.size,0,none⟩ (.slice (L' (0,0,0)).a d'.groups.length (L' (0,0,0)).cap)).setCell ⟨W0.heap.size,1,none⟩ (.slice (L' (1,0,0)).a d'.nodes.length (L' (1,0,0)).cap)).setCell ⟨W0.heap.size,2,none⟩ (.slice (L' (2,0,0)).a d'.wires.length (L' (2,0,0)).cap)=y:=⟨_,rfl⟩
     rw [hWF] at hOF Rh hbx
     obtain ⟨_,q0,q1,q2,_,_,_⟩:=hbx
     have hsF:=hs0.trans Rh
     refine iW 10 rfl (by kernel_rfl) ?_
     intro K hK
     go_simp
     refine hK _ _ (fun _ _=>ah ((hS0 _).2 hsF)) ?_
     clear hK K
     refine tL 11 rfl (ah ((hS0 _).2 hsF)) ?_
     go_big_quiet_op
     refine nV (by kernel_rfl) ?_
     have hMF:=hM.since hsF
     obtain ⟨bl,b0,b1,b2,z0,z1,z2⟩:=hMF.box
     have MF:=BS (lo:=w1.heap.size) hOF hMF.box hlo hpw
     have hSg:Since w1 (((WF.setCell ⟨w2.heap.size,0,none⟩ (.slice (L' (0,0,0)).a d'.groups.length (L' (0,0,0)).cap)).setCell ⟨w2.heap.size,1,none⟩ (.slice (L' (1,0,0)).a d'.nodes.length (L' (1,0,0)).cap)).setCell ⟨w2.heap.size,2,none⟩ (.slice (L' (2,0,0)).a d'.wires.length (L' (2,0,0)).cap)):=by
      have hF:Fr (fun i=>i=w2.heap.size) WF WF:=Fr.refl _ _
      exact (((hF.setCell ⟨w2.heap.size,0,none⟩ _ (fun _=>rfl)).setCell ⟨w2.heap.size,1,none⟩ _ (fun _=>rfl)).setCell ⟨w2.heap.size,2,none⟩ _ (fun _=>rfl)).aA (hSr.trans hsF) (fun i hi e=>by omega)
     clear c0 c1 c2 c3 c4 c5 c6 hne hWF
     go_wp2
     exact ⟨⟨k+1,L',by omega,by go_num,by rw [HN.out];exact MF,hSg⟩,by simp [intOf];omega⟩
  ·obtain rfl:k=acts.length:=by omega
   rw [List.take_length] at hM
   obtain ⟨lt,r0,r1,r2,r3,r4,r5⟩:=hNB.since hSr
   have b0:=hM.box.c0
   have b1:=hM.box.c1
   have b2:=hM.box.c2
   obtain ⟨hO,hSf⟩:=hM.own.result (w0:=w) (p:=w.heap.size) hNB.lt (Nat.le_refl _) (hS1.trans hSr) hS1.size
   go_wp2
   refine bodyPost_ret (v:=aI Lk (doneD nodes l acts)) ?_ rfl ⟨Lk,rfl,hO,hSf⟩
   simp [results,results70,go_sem,r0,r1,r2,aI]
theorem Dj (k n g:Int) (body:ByteArray) (w:World) :
  Calls prog 94 #[.int .i64 k,.int .i64 n,.int .i64 g,.string body] w fun e w'=>e=.returned (.agg #[.int .i64 k,.int .i64 n,.int .i64 g,.string body])/\Since w w':=by
 go_enter func94,ntmps94
 go_wp2
 refine bodyPost_ret (v:=.agg #[.int .i64 k,.int .i64 n,.int .i64 g,.string body]) (by simp [results,results94,go_sem]) rfl ?_
 exact ⟨rfl,(Since.refl _).alloc _⟩
theorem Kq (ac:Option Addr) (Mx:Nat) (acts:List Ac) (h4:∀ x∈acts,x.kind≠4) (w:World) (hA:yh w ac acts.length acts) :
  Calls prog 83 #[.slice ac acts.length Mx] w fun e w'=>∃ L,e=.returned (aI L (doneD 3 [3,6] acts))/\aU w.heap.size w' (doneD 3 [3,6] acts) L/\Since w w':=by
 obtain ⟨w1,hw1⟩:∃ w1,w.alloc (.cells #[.slice none 0 0,.slice none 0 0,.slice none 0 0] 26)=w1:=⟨_,rfl⟩
 have hNB:aC w1 w.heap.size:=by rw [<-hw1];exact aC.new w _
 have hS1:=au hw1
 have hA1:=hA.since hS1
 go_enter func83,ntmps83
 go_wp2_with (first
  | (go_at_call 125;refine (OD w1 w1 (Since.refl _)).mono ?_;rintro e w2 ⟨b,cap,rfl,hI,hS2⟩)
  | (go_at_call 70;refine (Bc 3 (by omega) [3,6] (by simp) (some ⟨b,0,none⟩) cap ac Mx acts h4 w2 hI (hA1.since hS2)).mono ?_;rintro e w3 ⟨L,rfl,hO,hS3⟩;simp only [aI];have hSr:=hS2.trans hS3;obtain ⟨lt,r0,r1,r2,r3,r4,r5⟩:=hNB.since hSr))
 obtain ⟨hO2,hSf⟩:=hO.result (w0:=w) (p:=w.heap.size) (zQ4 hNB.lt hS2.size) (Nat.le_refl _) (hS1.trans hSr) (zQ5 hS1.size hS2.size)
 refine bodyPost_ret (v:=aI L (doneD 3 [3,6] acts)) ?_ rfl ⟨L,rfl,hO2,hSf⟩
 simp [results,results83,go_sem,r0,r1,r2,aI]
def iN (x:Ac):List Value:=[.int .i64 x.kind,.int .i64 x.one,.int .i64 x.two,.string x.body]
open Go.ChangeShapes Go.WideShapes Go.ChangeAt Go.RowKit
theorem own:ownKnob prog.godebug=none:=by kernel_rfl
theorem laidOut:laidOutB prog=true:=by kernel_rfl
theorem LW:prog.bytesOf 3=8:=by kernel_rfl
theorem block_lt {w:World} {b o:Nat} {v:Value} (h:w.cell? ⟨b,o,none⟩=some v):b < w.heap.size:=by
 rcases Nat.lt_or_ge b w.heap.size with h1 | h1
 ·exact h1
 ·simp [World.cell?,Array.getElem?_eq_none h1] at h
open Go.ChangeShapes Go.WideShapes Go.ChangeAt Go.RowKit Go.Deep
theorem LU:prog.bytesOf 42=48:=by kernel_rfl
theorem EA:prog.cellsOf 42=5:=by kernel_rfl
theorem vg:prog.cellsOf 3=1:=by kernel_rfl
theorem J4:prog.cellsOf 4=1:=by kernel_rfl
theorem DY:prog.cellsOf 9=1:=by kernel_rfl
theorem EB {H:Type} {enc:TypeId × Value->H} {W:World} {base fuel:Nat} {spare:Nat->Bool} {held:Bool} {cs:List Value} {x:DataW H × List MemPlace}
  (h:DataW.trod enc prog W base spare held fuel 42 cs=some x):∃ m:Mg,cs=m.cells:=by
 obtain ⟨xs,n,_,_,hl,hlen,hf⟩:=DataW.trod_struct underlying42 h
 rw [EA] at hl
 match cs,hl with
 | [c0,c1,c2,c3,c4],_ =>
  have g0:=hf 0 _ rfl
  have g1:=hf 1 _ rfl
  have g2:=hf 2 _ rfl
  have g3:=hf 3 _ rfl
  have g4:=hf 4 _ rfl
  simp [vg] at g0 g1 g2
  simp [J4] at g3
  simp [DY] at g4
  simp at hlen
  rw [zQ1 (by rw [hlen];omega)] at g0 g1 g2 g3 g4
  obtain ⟨a0,e0,_⟩:=DataW.trod_int underlying3 g0
  obtain ⟨a1,e1,_⟩:=DataW.trod_int underlying3 g1
  obtain ⟨a2,e2,_⟩:=DataW.trod_int underlying3 g2
  obtain ⟨a3,e3,_⟩:=DataW.trod_bool underlying4 g3
  obtain ⟨a4,e4,_⟩:=DataW.trod_string underlying9 g4
  simp at e0 e1 e2 e3 e4
  exact ⟨⟨a0,a1,a2,a3,a4⟩,by rw [e0,e1,e2,e3,e4];rfl⟩
theorem kM {α:Type} {P:Nat->α->Prop}:∀ (n:Nat),(∀ i,i < n->∃ m,P i m)->∃ ms:List α,ms.length=n/\∀ i m,ms[i]? = some m->P i m
 | 0,_=>⟨[],rfl,fun i m h=>by simp at h⟩
 | n+1,h=>by
  obtain ⟨ms,hl,hp⟩:=kM n (fun i hi=>h i (by omega))
  obtain ⟨m,hm⟩:=h n (by omega)
  refine ⟨ms++[m],by simp [hl],fun i x hx=>?_⟩
  by_cases hi:i < ms.length
  ·exact hp i x (by rw [List.getElem?_append_left hi] at hx;exact hx)
  ·rw [List.getElem?_append_right (by omega)] at hx
   have hi2:i - ms.length=0:=by
    have:=(zQ2.1 hx).1
    simp at this;omega
   rw [hi2] at hx
   simp at hx
   obtain rfl:i=n:=by omega
   rw [<-hx];exact hm
theorem La:prog.cellsOf 58=4:=by kernel_rfl
def Qw (x:Ac):List Value:=[.int .i64 x.kind,.int .i64 x.one,.int .i64 x.two,.string x.body]
theorem DX {H:Type} {enc:TypeId × Value->H} {W:World} {base fuel:Nat} {spare:Nat->Bool} {held:Bool} {cs:List Value} {x:DataW H × List MemPlace}
  (h:DataW.trod enc prog W base spare held fuel 58 cs=some x):∃ m:Ac,cs=Qw m:=by
 obtain ⟨xs,n,_,_,hl,hlen,hf⟩:=DataW.trod_struct underlying58 h
 rw [La] at hl
 match cs,hl with
 | [c0,c1,c2,c3],_ =>
  have g0:=hf 0 _ rfl
  have g1:=hf 1 _ rfl
  have g2:=hf 2 _ rfl
  have g3:=hf 3 _ rfl
  simp [vg] at g0 g1 g2
  simp [DY] at g3
  simp at hlen
  rw [zQ1 (by rw [hlen];omega)] at g0 g1 g2 g3
  obtain ⟨a0,e0,_⟩:=DataW.trod_int underlying3 g0
  obtain ⟨a1,e1,_⟩:=DataW.trod_int underlying3 g1
  obtain ⟨a2,e2,_⟩:=DataW.trod_int underlying3 g2
  obtain ⟨a3,e3,_⟩:=DataW.trod_string underlying9 g3
  simp at e0 e1 e2 e3
  exact ⟨⟨a0,a1,a2,a3⟩,by rw [e0,e1,e2,e3];rfl⟩
theorem DZ {H:Type} {enc:TypeId × Value->H} {W:World} {base:Nat} {v:Value} {d:DataW H} {p:List MemPlace} (hv:Value.okWide prog W .any base 58 v) (h:DataW.Trod enc prog W 0 (fun _=>true) true 58 v d p) :
  ∃ m:Ac,v=acV m:=by
 obtain ⟨cs,rfl,_⟩:=okWide_struct underlying58 hv
 obtain ⟨fuel,hf⟩:=h
 obtain ⟨m,hm⟩:=DX hf
 refine ⟨m, ?_⟩
 have:cs=(Qw m).toArray:=by rw [<-hm];simp [Value.cells]
 rw [this];rfl
def Szd {H:Type} (t:TypeId) (d:DataW H):Prop:=∀ n∈d.weights prog t,n<=reachBytes
theorem szd_all {H : Type} {e : TypeId} : ∀ {l : List (DataW H)} {d : DataW H}, d ∈ l → ∀ n ∈ d.weights prog e, n ∈ DataW.weightsAll prog e l
  | d' :: r, d, hd, n, hn => by
    simp only [DataW.weightsAll, List.mem_append]
    rcases List.mem_cons.1 hd with rfl | h
    · exact Or.inl hn
    · exact Or.inr (szd_all h n hn)
theorem Szd.len {H : Type} {t e : TypeId} {el sp : List (DataW H)} (h : Szd t (.slice el sp)) (hu : prog.underlying t = some (.slice e)) : (el.length + sp.length) * prog.bytesOf e ≤ reachBytes :=
  h _ (by simp [DataW.weights, hu])
theorem Szd.elem {H : Type} {t e : TypeId} {el sp : List (DataW H)} (h : Szd t (.slice el sp)) (hu : prog.underlying t = some (.slice e)) {d : DataW H} (hd : d ∈ el) : Szd e d := fun n hn =>
  h n (by simp only [DataW.weights, hu, List.mem_cons, List.mem_append]; exact .inr (.inl (szd_all hd n hn)))
theorem szd_each {H : Type} : ∀ {ts : List TypeId} {ds : List (DataW H)} {j : Nat} {t : TypeId} {d : DataW H}, ts[j]? = some t → ds[j]? = some d → ∀ n ∈ d.weights prog t, n ∈ DataW.weightsEach prog ts ds :=
  fun ht hd n hn => DataW.weights_mem_each ht hd n hn
theorem Szd.field {H : Type} {t : TypeId} {fs : Array Field} {parts : List (DataW H)} (h : Szd t (.agg parts)) (hu : prog.underlying t = some (.struct fs)) {j : Nat} {f : Field} {d : DataW H} (hf : fs[j]? = some f) (hd : parts[j]? = some d) : Szd f.type d := fun n hn =>
  h n (by
    simp only [DataW.weights, hu]
    exact szd_each (j := j) (by simp [hf]) hd n hn)
theorem Lx {H:Type}:∀ {ts:List TypeId} {ds:List (DataW H)} {j:Nat} {t:TypeId} {d:DataW H},ts[j]? = some t->ds[j]? = some d->∀ n∈d.weights prog t,n∈DataW.weightsEach prog ts ds :=
 fun ht hd n hn=>DataW.weights_mem_each ht hd n hn
section
variable {H:Type} {enc:TypeId × Value->H} {W:World} {spare:Nat->Bool} {held:Bool}
theorem Ch {fuel:Nat} {v:Value} {x:DataW H × List MemPlace} (h:DataW.trod enc prog W 0 spare held fuel 22 [v]=some x) (hs:Szd 22 x.1):∃ xs,qW W v xs:=by
 rcases open_slice1 underlying22 vg h with ⟨hcs,_⟩ | ⟨a,l,c,m,n,V,D,Pl,hcs,_,hl,hm,hmm,hx,hall⟩
 ·simp at hcs;subst hcs
  exact ⟨[],none,0,rfl,Nat.le_refl _,LB⟩
 ·simp at hcs;subst hcs
  have hlm:l<=m:=by rw [hmm];split <;> omega
  have h8:=(show Szd 22 (.slice _ _) from (by rw [hx] at hs;exact hs)).len underlying22
  rw [LW] at h8
  simp only [List.length_map,List.length_range,reachBytes] at h8
  obtain ⟨xs,hl2,hxs⟩:=kM (P:=fun i (z:Int)=>W.cell? (a.add i)=some (.int .i64 z)) l (fun i hi=>by
   obtain ⟨h1,h2⟩:=hall i (by omega)
   obtain ⟨z,e,_⟩:=DataW.trod_int underlying3 h2
   simp at e
   exact ⟨z,by rw [h1,e]⟩)
  subst hl2
  refine ⟨xs,some a,c,rfl,hl,rfl,by omega,fun hp=>?_⟩
  obtain ⟨b,off,spot⟩:=a
  obtain ⟨m0,hm0⟩:∃ m,xs[0]? = some m:=⟨_,zQ1 hp⟩
  have hc0:=hxs 0 m0 hm0
  simp [Addr.add] at hc0
  have hspot:spot=none:=by simpa using World.cell?_spot hc0
  subst hspot
  refine ⟨b,off,rfl,block_lt hc0,fun i hi=>?_⟩
  have:=hxs i _ (zQ1 hi)
  rw [kN] at this
  rw [this,zQ1 hi];rfl
theorem xQ {fuel:Nat} {v:Value} {x:DataW H × List MemPlace} (h:DataW.trod enc prog W 0 spare held fuel 39 [v]=some x) (hs:Szd 39 x.1):∃ ms,ko W v ms:=by
 rcases open_slice underlying39 h with ⟨hcs,_⟩ | ⟨x0,len,cap,m,n,D,Pl,hcs,_,hl,hm,hmm,hx,hall⟩
 ·simp at hcs;subst hcs
  exact ⟨[],none,0,rfl,Nat.le_refl _,fq⟩
 ·simp at hcs;subst hcs
  have hlm:len<=m:=by rw [hmm];split <;> omega
  have h8:=(show Szd 39 (.slice _ _) from (by rw [hx] at hs;exact hs)).len underlying39
  rw [LU] at h8
  simp only [List.length_map,List.length_range,reachBytes] at h8
  have hmg:∀ i,i < len->∃ mg:Mg,∀ r u,mg.cells[r]? = some u->W.cell? ((x0.add (i*5)).add r)=some u:=by
   intro i hi
   obtain ⟨cs',h1,h2⟩:=hall i (by omega)
   obtain ⟨mg,rfl⟩:=EB h2
   rw [EA] at h1
   refine ⟨mg,fun r u hr=>?_⟩
   have:=(World.cells?_some h1).2.2 r (by have:=(zQ2.1 hr).1;simpa [Mg.cells] using this)
   rw [this];exact hr
  obtain ⟨ms,hl2,hms⟩:=kM len hmg
  subst hl2
  refine ⟨ms,some x0,cap,rfl,hl,rfl,by omega,fun hp=>?_⟩
  obtain ⟨b,off,spot⟩:=x0
  obtain ⟨m0,hm0⟩:∃ m,ms[0]? = some m:=⟨_,zQ1 (by omega)⟩
  have hc0:=hms 0 m0 hm0 0 _ rfl
  simp [Addr.add] at hc0
  have hspot:spot=none:=by simpa using World.cell?_spot hc0
  subst hspot
  refine ⟨b,off,rfl,block_lt hc0,fun j u hj=>?_⟩
  have hjl:=(zQ2.1 hj).1
  rw [bB] at hjl
  obtain ⟨mg,Sm⟩:∃ m,ms[j / 5]? = some m:=⟨_,zQ1 (by omega)⟩
  have hg:=flat_get ms (j / 5) (j % 5) mg Sm (by omega)
  rw [show j / 5*5+j % 5=j from by omega,hj] at hg
  have:=hms (j / 5) mg Sm (j % 5) u hg.symm
  rw [kN,kN,show off+j / 5*5+j % 5=off+j from by omega] at this
  exact this
theorem sD {α:Type} {t e:TypeId} {PV:World->Value->α->Prop} (hu:prog.underlying t=some (.slice e)) (hc:prog.cellsOf e=1) (hb:prog.bytesOf e=24)
  (hin:∀ (fuel:Nat) (v:Value) (x:DataW H × List MemPlace),DataW.trod enc prog W 0 spare held fuel e [v]=some x->Szd e x.1->∃ y,PV W v y)
  {fuel:Nat} {v:Value} {x:DataW H × List MemPlace} (h:DataW.trod enc prog W 0 spare held fuel t [v]=some x) (hs:Szd t x.1):∃ ys,kQ PV W v ys:=by
 rcases open_slice1 hu hc h with ⟨hcs,_⟩ | ⟨a,l,c,m,n,V,D,Pl,hcs,_,hl,hm,hmm,hx,hall⟩
 ·simp at hcs;subst hcs
  exact ⟨[],none,0,rfl,Nat.le_refl _,rfl,by simp,fun hp=>absurd hp (by simp)⟩
 ·simp at hcs;subst hcs
  have hlm:l<=m:=by rw [hmm];split <;> omega
  have hs':Szd t (.slice ((List.range l).map D) ((List.range (m - l)).map fun j=>D (l+j))):=by rw [hx] at hs;exact hs
  have h8:=hs'.len hu
  rw [hb] at h8
  simp only [List.length_map,List.length_range,reachBytes] at h8
  obtain ⟨ys,hl2,hys⟩:=kM (P:=fun i (y:α)=>∃ u,W.cell? (a.add i)=some u/\PV W u y) l (fun i hi=>by
   obtain ⟨h1,h2⟩:=hall i (by omega)
   obtain ⟨y,hy⟩:=hin _ _ _ h2 (hs'.elem hu (by simp only [List.mem_map,List.mem_range];exact ⟨i,hi,rfl⟩))
   exact ⟨y,_,h1,hy⟩)
  subst hl2
  refine ⟨ys,some a,c,rfl,hl,rfl,by omega,fun hp=>?_⟩
  obtain ⟨b,off,spot⟩:=a
  obtain ⟨m0,hm0⟩:∃ m,ys[0]? = some m:=⟨_,zQ1 hp⟩
  obtain ⟨u0,hc0,_⟩:=hys 0 m0 hm0
  simp [Addr.add] at hc0
  have hspot:spot=none:=by simpa using World.cell?_spot hc0
  subst hspot
  refine ⟨b,off,rfl,block_lt hc0,fun i y hy=>?_⟩
  obtain ⟨u,h1,h2⟩:=hys i y hy
  rw [kN] at h1
  exact ⟨u,h1,h2⟩
theorem Ci:prog.cellsOf 22=1:=by kernel_rfl
theorem IG:prog.cellsOf 43=1:=by kernel_rfl
theorem Cj:prog.cellsOf 39=1:=by kernel_rfl
theorem II:prog.cellsOf 40=1:=by kernel_rfl
theorem F7:prog.cellsOf 24=1:=by kernel_rfl
theorem Ck:prog.cellsOf 45=4:=by kernel_rfl
theorem IJ:prog.cellsOf 23=1:=by kernel_rfl
theorem IK:prog.cellsOf 26=3:=by kernel_rfl
theorem K7:prog.bytesOf 22=24:=by kernel_rfl
theorem K8:prog.bytesOf 39=24:=by kernel_rfl
theorem IL:prog.bytesOf 40=24:=by kernel_rfl
theorem K9:prog.bytesOf 45=80:=by kernel_rfl
theorem F8 {fuel:Nat} {cs:List Value} {x:DataW H × List MemPlace} (h:DataW.trod enc prog W 0 spare held fuel 45 cs=some x) (hs:Szd 45 x.1) :
  ∃ (nd:Nd) (v1 v2 v3:Value),cs=[.int .i64 nd.clock,v1,v2,v3]/\kQ qW W v1 nd.last/\ko W v2 nd.held/\ko W v3 nd.told:=by
 obtain ⟨xs,n,_,hx,hl,hlen,hf⟩:=DataW.trod_struct underlying45 h
 rw [Ck] at hl
 match cs,hl with
 | [c0,c1,c2,c3],_ =>
  have g0:=hf 0 _ rfl
  have g1:=hf 1 _ rfl
  have g2:=hf 2 _ rfl
  have g3:=hf 3 _ rfl
  simp [vg] at g0
  simp [IG] at g1
  simp [Cj] at g2 g3
  simp at hlen
  match xs,hlen with
  | [x0,x1,x2,x3],_ =>
   simp at g0 g1 g2 g3
   have hs':Szd 45 (.agg [x0.1,x1.1,x2.1,x3.1]):=by rw [hx] at hs;exact hs
   obtain ⟨a0,e0,_⟩:=DataW.trod_int underlying3 g0
   obtain ⟨l1,h1⟩:=sD underlying43 Ci K7 (fun _ _ _ h hs=>Ch h hs) g1 (hs'.field underlying45 (j:=1) rfl rfl)
   obtain ⟨l2,h2⟩:=xQ g2 (hs'.field underlying45 (j:=2) rfl rfl)
   obtain ⟨l3,h3⟩:=xQ g3 (hs'.field underlying45 (j:=3) rfl rfl)
   simp at e0
   exact ⟨⟨a0,l1,l2,l3⟩,c1,c2,c3,by rw [e0],h1,h2,h3⟩
theorem IQ {fuel:Nat} {v:Value} {x:DataW H × List MemPlace} (h:DataW.trod enc prog W 0 spare held fuel 23 [v]=some x) (hs:Szd 23 x.1) :
  ∃ (a:Option Addr) (cap:Nat) (ns:List Nd),v=.slice a ns.length cap/\ns.length<=cap/\Nodes W a ns.length ns:=by
 rcases open_slice underlying23 h with ⟨hcs,_⟩ | ⟨x0,len,cap,m,n,D,Pl,hcs,_,hl,hm,hmm,hx,hall⟩
 ·simp at hcs;subst hcs
  exact ⟨none,0,[],rfl,Nat.le_refl _,rfl,by simp,fun hp=>absurd hp (by simp)⟩
 ·simp at hcs;subst hcs
  have hlm:len<=m:=by rw [hmm];split <;> omega
  have hs':Szd 23 (.slice ((List.range len).map D) ((List.range (m - len)).map fun j=>D (len+j))):=by rw [hx] at hs;exact hs
  have h8:=hs'.len underlying23
  rw [K9] at h8
  simp only [List.length_map,List.length_range,reachBytes] at h8
  obtain ⟨ns,hl2,hns⟩:=kM (P:=fun i (nd:Nd)=>∃ v1 v2 v3:Value,W.cell? ((x0.add (i*4)).add 0)=some (.int .i64 nd.clock)/\W.cell? ((x0.add (i*4)).add 1)=some v1/\W.cell? ((x0.add (i*4)).add 2)=some v2/\W.cell? ((x0.add (i*4)).add 3)=some v3
    /\ kQ qW W v1 nd.last/\ko W v2 nd.held/\ko W v3 nd.told) len (fun i hi=>by
   obtain ⟨cs',h1,h2⟩:=hall i (by omega)
   obtain ⟨nd,v1,v2,v3,rfl,k1,k2,k3⟩:=F8 h2 (hs'.elem underlying23 (by simp only [List.mem_map,List.mem_range];exact ⟨i,hi,rfl⟩))
   rw [Ck] at h1
   have hc:=(World.cells?_some h1).2.2
   exact ⟨nd,v1,v2,v3,hc 0 (by simp),hc 1 (by simp),hc 2 (by simp),hc 3 (by simp),k1,k2,k3⟩)
  subst hl2
  refine ⟨some x0,cap,ns,rfl,hl,rfl,by omega,fun hp=>?_⟩
  obtain ⟨b,off,spot⟩:=x0
  obtain ⟨m0,hm0⟩:∃ m,ns[0]? = some m:=⟨_,zQ1 hp⟩
  obtain ⟨_,_,_,hc0,_⟩:=hns 0 m0 hm0
  simp [Addr.add] at hc0
  have hspot:spot=none:=by simpa using World.cell?_spot hc0
  subst hspot
  refine ⟨b,off,rfl,block_lt hc0,fun i nd hnd=>?_⟩
  obtain ⟨v1,v2,v3,c0,c1,c2,c3,k1,k2,k3⟩:=hns i nd hnd
  rw [kN,kN] at c0 c1 c2 c3
  exact ⟨c0,⟨v1,c1,k1⟩,⟨v2,c2,k2⟩,⟨v3,c3,k3⟩⟩
end
theorem Ef {H:Type} {enc:TypeId × Value->H} {W:World} {base:Nat} {v:Value} {d:DataW H} {p:List MemPlace} (hv:Value.okWide prog W .any base 26 v) (h:DataW.Trod enc prog W 0 (fun _=>true) true 26 v d p) (hs:Szd 26 d) :
  ∃ (x:WV) (dd:Wd),v=.agg #[.slice x.ga x.gl x.gc,.slice x.na x.nl x.nc,.slice x.wa x.wl x.wc]/\WAt W x dd:=by
 obtain ⟨cs,rfl,_⟩:=okWide_struct underlying26 hv
 obtain ⟨fuel,hf0⟩:=h
 have hf1:DataW.trod enc prog W 0 (fun _=>true) true fuel 26 cs.toList=some (d,p):=by simpa [Value.cells] using hf0
 obtain ⟨xs,n,_,hx,hl,hlen,hf⟩:=DataW.trod_struct underlying26 hf1
 rw [IK] at hl
 obtain ⟨l⟩:=cs
 simp only at hl hf
 match l,hl with
 | [c0,c1,c2],_ =>
  have g0:=hf 0 _ rfl
  have g1:=hf 1 _ rfl
  have g2:=hf 2 _ rfl
  simp [Ci] at g0
  simp [IJ] at g1
  simp [F7] at g2
  simp at hlen
  match xs,hlen with
  | [x0,x1,x2],_ =>
   simp at g0 g1 g2
   have hd:=(Prod.mk.inj hx).1
   have hs':Szd 26 (.agg [x0.1,x1.1,x2.1]):=by rw [hd] at hs;exact hs
   obtain ⟨gs,ga,gc,rfl,hg,hG⟩:=Ch g0 (hs'.field underlying26 (j:=0) rfl rfl)
   obtain ⟨na,nc,ns,rfl,hn,hN⟩:=IQ g1 (hs'.field underlying26 (j:=1) rfl rfl)
   obtain ⟨ws,wa,wc,rfl,hw,hR⟩:=sD underlying24 II IL (fun _ _ _ h hs=>sD underlying40 Cj K8 (fun _ _ _ h hs=>xQ h hs) h hs) g2 (hs'.field underlying26 (j:=2) rfl rfl)
   exact ⟨⟨ga,gs.length,gc,na,ns.length,nc,wa,ws.length,wc⟩,⟨gs,ns,ws⟩,rfl,hG,hg,hN,hn,hR,hw⟩
end Go.Proofs.YtiiifecfdkjmbaaGreat
