/- Lemmas. Lemmas. -/
import Derived.Test.YtediempflagfkaaGreatDoorRegM
import Derived.Test.YtediempflagfkaaGreatDoorOwnX
import Derived.Test.YtediempflagfkaaGreatDoorRMoveX
set_option linter.unusedVariables false
set_option linter.unusedSimpArgs false
set_option linter.unnecessarySimpa false
set_option maxHeartbeats 1000000
namespace Go.Proofs.YtediempflagfkaaGreatDoor
open _root_.Go.Proofs.Tryz hiding checked
set_option maxRecDepth 8000
open Go.RowKit Go.Shelf
open Pu
def fH(ah:Nat)(l:List Int)(k:Nat):Wd:=⟨l,List.replicate k ⟨0,List.replicate l.length (List.replicate ah 0),[],[]⟩,List.replicate k (List.replicate ah [])⟩
theorem Ga(ah:Nat)(hn:ah<=4)(l:List Int)(hl:l.length<=3)(a:Option Addr)(cap:Nat)(w:World)(hI:Ints w a l.length l) :
  Calls prog 16 #[.int .i64 ah,.slice a l.length cap] w fun e w'=>∃L,e=.returned (bF L (eG ah l))/\bG w.heap.size w' (eG ah l) L/\ak w w':=by
 obtain⟨w1,hw1⟩:∃w1,w.alloc (.cells #[.slice none 0 0,.slice none 0 0,.slice none 0 0] 31)=w1:=⟨_,rfl⟩;have hS1:=aF hw1;obtain⟨w2,hw2⟩:∃w2,w1.alloc (.cells #[] 3)=w2:=⟨_,rfl⟩;have dO:=aF hw2;have hS2:=hS1.trans dO;have hR2:Row w2 w1.heap.size 1 ⟨some ⟨w1.heap.size,0,none⟩,0⟩ 0 []:=by rw[<-hw2];exact Row.empty w1 _ 1 _
 have hsz2:w1.heap.size < w2.heap.size:=by rw[<-hw2];simp
 have U8:w.heap.size < w1.heap.size:=by rw[<-hw1];simp
 have RB0:∀y,ak w1 y->y.cell? ⟨w.heap.size,0,none⟩=some (.slice none 0 0)/\y.cell? ⟨w.heap.size,1,none⟩=some (.slice none 0 0)/\y.cell? ⟨w.heap.size,2,none⟩=some (.slice none 0 0)/\y.frozen? ⟨w.heap.size,0,none⟩=false/\y.frozen? ⟨w.heap.size,1,none⟩=false/\y.frozen? ⟨w.heap.size,2,none⟩=false:=by
  intro y hy;have hl:w.heap.size < w1.heap.size:=by rw[<-hw1];simp
  have hc:∀o,y.cell? ⟨w.heap.size,o,none⟩=w1.cell? ⟨w.heap.size,o,none⟩:=fun o=>hy.av hl o;have hz:∀o,y.frozen? ⟨w.heap.size,o,none⟩=w1.frozen? ⟨w.heap.size,o,none⟩:=fun o=>hy.below.frozen (p:=⟨w.heap.size,o,none⟩) hl;rw[hc,hc,hc,hz,hz,hz,<-hw1];simp[go_sem]
 go_enter func16,ntmps16
 go_wp2_with (at_builtin;refine iK xJ rfl _ _ 22 rfl rfl hR2 rfl (yc (hI.ay hS2)) (by omega) dO.size ?_;intro ga gc w3 hR3 hF3 hB3)
 clear hw1 hw2;simp only[Nat.zero_add,List.nil_append]at hR3
 have hS3:ak w2 w3:=by
  refine hF3.ay (fun i _ e=>?_);unfold Sl.blk at e;simp at e
 obtain⟨w4,hw4⟩:∃w4,w3.alloc (.cells #[.slice ga l.length gc,.slice none 0 0,.slice none 0 0] 31)=w4:=⟨_,rfl⟩;rw[hw4];have xW:=aF hw4
 have hM0:dF w1.heap.size w4 w3.heap.size (fH ah l 0) (fun ix=>if ix=(0,0,0) then ⟨ga,gc⟩ else ⟨none,0⟩):=by
  have hO:=bG.start (gs:=l) hR3 (by omega);refine⟨hO.ay xW, ?_,fun hb=>?_⟩
  ·rw[<-hw4];constructor <;> simp[go_sem,fH]
  ·have:=(hO.blk hb).2;omega
 have Bw:ak w1 w4:=(dO.trans hS3).trans xW;have hp3:w1.heap.size<=w3.heap.size:=(dO.trans hS3).size;have RB:Hid (∀y,ak w1 y->y.cell? ⟨w.heap.size,0,none⟩=some (.slice none 0 0)/\y.cell? ⟨w.heap.size,1,none⟩=some (.slice none 0 0)/\y.cell? ⟨w.heap.size,2,none⟩=some (.slice none 0 0)/\y.frozen? ⟨w.heap.size,0,none⟩=false/\y.frozen? ⟨w.heap.size,1,none⟩=false/\y.frozen? ⟨w.heap.size,2,none⟩=false):=RB0;have hI4:=(hI.ay hS1).ay Bw;have QV:=fun y=>run_make_row' (P:=prog) 22 3 (.int .i64 0) 8 (by kernel_rfl) (by kernel_rfl) rfl .i64 .i64 ah (by omega) (by omega) y;have SB:=fun y=>run_make_row' (P:=prog) 65 62 (.slice none 0 0) 24 (by kernel_rfl) (by kernel_rfl) rfl .i64 .i64 ah (by omega) (by omega) y;clear hw4 hR3 hF3 hB3 xW hS3 hR2 dO hsz2 hS2 RB0
 go_loopw [6] (fun i wr=>∃k:Nat,k<=ah/\i=.int .i64 k/\(∃L,dF w1.heap.size wr w3.heap.size (fH ah l k) L)/\ak w1 wr) (fun i _=>ah - (intOf i).toNat)
 case atStart=>exact⟨0,Nat.zero_le _,rfl,⟨_,hM0⟩,Bw⟩
 case round =>
  obtain⟨wo,rfl⟩:∃wo,wo=wr:=⟨_,rfl⟩;obtain⟨k,hk,rfl,⟨L,hM⟩,hSr⟩:=hrel;clear hM0;by_cases hlt:k < ah
  ·go_wp2
   go_loopw [7,8] (fun v i wi=>∃(j:Nat) (sa:Option Addr) (sc:Nat) (rs:Nat->Sl),j<=l.length/\i=.int .i64 j/\v=.slice sa j sc/\eU 1 qP wo.heap.size wi ⟨sa,sc⟩ rs (List.replicate j (List.replicate ah 0))/\ak wo wi) (fun _ i _=>l.length - (intOf i).toNat)
   case atStart=>exact⟨0,none,0,fun _=>⟨none,0⟩,Nat.zero_le _,rfl,rfl,eU.nil,ak.refl _⟩
   case round =>
    obtain⟨wi,rfl⟩:∃wi,wi=wr:=⟨_,rfl⟩;obtain⟨j,sa,sc,rs,hj,rfl,rfl,hLL,hSi⟩:=hrel;by_cases hjl:j < l.length
    ·have hbb:∀b,Sl.blk ⟨some ⟨wi.heap.size,0,none⟩,ah⟩=some b->b=wi.heap.size:=by
      intro b e;unfold Sl.blk at e;split at e
      ·cases e
      ·cases e;rfl
     have hS6:ak wi (wi.alloc (.cells (madeCells #[.int .i64 0] ah) 3)):=(ak.refl wi).alloc _;have hS7:ak wi ((wi.alloc (.cells (madeCells #[.int .i64 0] ah) 3)).alloc (.cells #[.slice (some ⟨wi.heap.size,0,none⟩) ah ah] 22)):=hS6.alloc _
     have hrow:Row (wi.alloc (.cells (madeCells #[.int .i64 0] ah) 3)) wo.heap.size 1 ⟨some ⟨wi.heap.size,0,none⟩,ah⟩ ah (qP (List.replicate ah 0)):=by
      have:=Row.new wi wo.heap.size 1 (madeCells #[.int .i64 0] ah) 3 ah hSi.size (by rw[size_madeCells];omega) (by unfold maxLen;omega);rw[yQ]at this;unfold qP;rw[List.map_replicate];exact this
     have hsrc:=iy (size:=1) (T:=22) (w:=wi.alloc (.cells (madeCells #[.int .i64 0] ah) 3)) EL.und [.slice (some ⟨wi.heap.size,0,none⟩) ah ah] rfl (fun u hu=>by simp at hu;subst hu;rfl) 1;have Tf:=hLL.ay hS7;have htop:=Tf.top;simp only[List.length_replicate]at htop;simp only[World.size_alloc]at hsrc
     go_wp2_with (at_builtin;refine iK EL rfl _ _ 60 rfl rfl htop rfl hsrc ?_ ?_ ?_;omega;exact(zQ5 hSi.size hS7.size);intro sa' sc' w8 hR8 hF8 hB8)
     go_roundw
     case rel =>
      have hp:=Tf.push (xs:=List.replicate ah 0) (r:=⟨some ⟨wi.heap.size,0,none⟩,ah⟩) (w':=w8) (s':=⟨sa',sc'⟩) (by simpa using hrow.ay ((ak.refl _).alloc _))
       (fun b e hb=>by have:=hbb b e;have:=(hLL.blk hb).2;omega) (by simpa[Sl.v] using hR8) hF8 hB8
      refine⟨j+1,sa',sc',CY rs j ⟨some ⟨wi.heap.size,0,none⟩,ah⟩,by omega,by go_num,by go_num, ?_, ?_⟩
      ·rw[List.replicate_succ'];simpa using hp
      ·exact hF8.aI (hSi.trans hS7) (fun i hi e=>by have:=(hLL.blk (.inl e)).1;omega)
     case measure=>simp[intOf];omega
    ·obtain rfl:j=l.length:=by omega
     obtain⟨x,hx⟩:∃x:Nd,x=⟨0,List.replicate l.length (List.replicate ah 0),[],[]⟩:=⟨_,rfl⟩;obtain⟨na,nc,hL1⟩:∃na nc,L (1,0,0)=⟨na,nc⟩:=⟨_,_,rfl⟩;obtain⟨ra,rc,hL2⟩:∃ra rc,L (2,0,0)=⟨ra,rc⟩:=⟨_,_,rfl⟩;have hMi:=hM.ay hSi;have b1:wi.cell? ⟨w3.heap.size,1,none⟩=some (.slice na k nc):=by have:=hMi.box.c1;rw[hL1]at this;simpa[fH] using this
     have z1:=hMi.box.z1;have hpl:=hMi.box.lt
     have hRn:Row wi w1.heap.size 4 ⟨na,nc⟩ k (dX (fH ah l k) L (1,0,0)):=by
      have:Row wi w1.heap.size 4 (L (1,0,0)) (fH ah l k).ah.length (dX (fH ah l k) L (1,0,0)):=hMi.own.row (1,0,0) ⟨rfl,rfl⟩;rw[hL1]at this;simpa[fH] using this
     have hsrc:=iy (size:=4) (T:=64) (w:=wi) ny.und [.int .i64 0,.slice sa l.length sc,.slice none 0 0,.slice none 0 0] rfl (fun u hu=>by simp at hu;rcases hu with rfl | rfl | rfl <;> rfl) 1
     have hS9:ak wi (wi.alloc (.cells #[.int .i64 0,.slice sa l.length sc,.slice none 0 0,.slice none 0 0] 64)):=(ak.refl wi).alloc _;have Co:=hSr.trans (hSi.trans hS9)
     go_wp2_with (at_builtin;refine iK ny rfl _ _ 28 rfl rfl (hRn.ay hS9) rfl hsrc ?_ ?_ ?_;omega;exact Co.size;intro na' nc' w10 EG AO JA;have tu:=(hMi.box.ay hS9).fr AO (fun e=>hM.off ⟨(1,0,0),⟨rfl,rfl⟩,by rw[hL1];exact e⟩);have q1:=tu.c1;have q2:=tu.z1)
     have hNd:oo wo.heap.size (wi.alloc (.cells #[.int .i64 0,.slice sa l.length sc,.slice none 0 0,.slice none 0 0] 64)) x ⟨sa,sc⟩ rs ⟨none,0⟩ ⟨none,0⟩:=by
      rw[hx];exact⟨hLL.ay hS9,Row.nil _ _ _,Row.nil _ _ _,fun b e=>(by cases e),fun b e=>(by cases e)⟩
     have oU:=hM.addNode (a':=na') (c':=nc') (w':=w10) (hSi.trans hS9) hNd hSr.size (by rw[hx];refine⟨by simp;omega,fun i r hr=>?_,by simp,by simp⟩;(have:=zQ2.1 hr;obtain⟨h1,h2⟩:=this;simp at h2;rw[<-h2];simp;omega)) (by simp[fH];omega)
      (by rw[hx];simpa[fH,Sl.v] using EG) (by rw[hL1];exact AO) (by rw[hL1];exact JA)
     obtain⟨w11,Gt⟩:∃w11,w10.setCell ⟨w3.heap.size,1,none⟩ (.slice na' (k+1) nc')=w11:=⟨_,rfl⟩;have QW:(fH ah l k).ah.length=k:=by simp[fH]
     rw[QW,Gt]at oU;rw[Gt]
     have rH:ak w1 w11:=by
      rw[<-Gt];refine Fr.aI (B:=fun i=>¬ i < w1.heap.size) ((AO.mono (fun i _ e=>?_)).setCell _ _ ?_) Co (fun i hi h=>h hi)
      ·have:=(hM.own.blk ⟨(1,0,0),⟨rfl,rfl⟩,by rw[hL1];exact e⟩).1;omega
      ·intro _;show ¬ w3.heap.size < _;omega
     obtain⟨d11,JB⟩:∃d:Wd,{ (fH ah l k) with ah:=(fH ah l k).ah++[x] }=d:=⟨_,rfl⟩
     rw[JB]at oU;obtain⟨L11,Ob⟩:∃L':Lay,dL L k ⟨na',nc'⟩ ⟨sa,sc⟩ rs ⟨none,0⟩ ⟨none,0⟩=L':=⟨_,rfl⟩;rw[Ob]at oU;obtain⟨ra,rc,hL2⟩:∃ra rc,L11 (2,0,0)=⟨ra,rc⟩:=⟨_,_,rfl⟩;have hwl:d11.aB.length=k:=by rw[<-JB];simp[fH]
     have b2:w11.cell? ⟨w3.heap.size,2,none⟩=some (.slice ra k rc):=by have:=oU.box.c2;rw[hL2,hwl]at this;exact this
     have z2:=oU.box.z2
     have hRw:Row w11 w1.heap.size 1 ⟨ra,rc⟩ k (dX d11 L11 (2,0,0)):=by
      have:Row w11 w1.heap.size 1 (L11 (2,0,0)) d11.aB.length (dX d11 L11 (2,0,0)):=oU.own.row (2,0,0) ⟨rfl,rfl⟩;rw[hL2,hwl]at this;exact this
     clear hL1 hMi b1 z1 hRn hsrc EG AO JA tu q1 q2 hNd hLL hM Gt Ob hS9 Co hSi QV;have dO:ak w11 ((w11.alloc (.cells (madeCells #[.slice none 0 0] ah) 62)).alloc (.cells #[.slice (some ⟨w11.heap.size,0,none⟩) ah ah] 65)).drew:=ak.drew (((ak.refl _).alloc _).alloc _);have Gu:=EM (size:=1) (T:=65) (w:=w11.alloc (.cells (madeCells #[.slice none 0 0] ah) 62)) pE.und [.slice (some ⟨w11.heap.size,0,none⟩) ah ah] rfl (fun u hu=>by simp at hu;subst hu;rfl) 1;simp only[World.size_alloc]at Gu;have Tg:=zQ5 rH.size dO.size;obtain⟨S0,hS0⟩:∃S0:World->Prop,∀w',S0 w'↔w'.cell? ⟨w3.heap.size,2,none⟩=some (.slice ra k rc):=⟨_,fun _=>Iff.rfl⟩;have hc2:∀x:aA S0,x.w.cell? ⟨w3.heap.size,2,none⟩=some (.slice ra k rc):=fun x=>(hS0 _).1 x.h;have QX:w3.heap.size < w11.heap.size:=oU.box.lt;have KS:Hid (∀y,ak w11 y->S0 y):=fun y hy=>(hS0 y).2 ((hy.av QX _).trans b2);have hSi:=KS.out w11.drew (ak.drew (ak.refl _));have hne:Nonempty (aA S0):=⟨⟨_,hSi⟩⟩;refine uq (fun w'=>∃x:aA S0,w'=x.w) (by kernel_rfl) ?_;refine tL 0 rfl (aj hSi) ?_;go_big_quiet_op;refine tL 1 rfl (aj hSi) ?_;go_big_quiet_op;refine tL 2 rfl (aj hSi) ?_;go_big_quiet_op;refine kY 3 rfl (by kernel_rfl) ?_;intro K hK;go_simp;refine hK _ _ (fun _ _=>aj (KS.out _ (ak.drew ((ak.refl _).alloc _)))) ?_;clear hK K;refine kY 4 rfl (by kernel_rfl) ?_;intro K hK;go_simp;refine hK _ _ (fun _ _=>aj (KS.out _ dO)) ?_;clear hK K;refine kY 5 rfl (by kernel_rfl) ?_;intro K hK;refine fU pE (by rfl) _ _ 29 (by rfl) (by rfl) (hRw.ay dO) (by rfl) Gu (by omega) Tg ?_;intro ra' rc' w12 QY JC QZ;have Mi:=(oU.box.ay dO).fr JC (fun e=>oU.off ⟨(2,0,0),⟨rfl,rfl⟩,by rw[hL2];exact e⟩);have hSj:S0 w12:=(hS0 _).2 (by have:=Mi.c2;rw[hL2,hwl]at this;exact this);have q2:=Mi.c2;have q3:=Mi.z2;refine hK _ _ (fun _ _=>aj hSj) ?_;clear hK K;simp only[Act.put,zQ7,zQ8,zQ9];refine tL 6 rfl (aj hSj) ?_;go_big_quiet_op;refine kY 7 rfl (by kernel_rfl) ?_;intro K hK;go_simp;refine hK _ _ (fun h=>absurd h (by decide +kernel)) ?_;clear hK K
     have JD:=oU.yR (a':=ra') (c':=rc') (w':=w12) (x:=List.replicate ah []) dO ((eU.made (α:=Mg) (sz:=5) (enc:=flat) rfl w11.heap.size w11 ah 62 (Nat.le_refl _) (by unfold maxLen;omega)).ay (ak.drew ((ak.refl _).alloc _))) rH.size
      ⟨by simp;omega,fun i r hr=>by have:=zQ2.1 hr;obtain⟨h1,h2⟩:=this;simp at h2;first | (rw[h2];simp) | (rw[<-h2];simp)⟩ (by omega) (by rw[hwl,List.length_replicate];exact QY) (by rw[hL2];exact JC) (by rw[hL2];exact QZ)
     rw[hwl]at JD
     have hdE:({ d11 with aB:=d11.aB++[List.replicate ah []] }:Wd)=fH ah l (k+1):=by
      rw[<-JB,hx];simp[fH,List.replicate_succ']
     rw[hdE]at JD
     have nY:ak w1 (w12.setCell ⟨w3.heap.size,2,none⟩ (.slice ra' (k+1) rc')):=by
      refine Fr.aI (B:=fun i=>¬ i < w1.heap.size) ((JC.mono (fun i _ e=>?_)).setCell _ _ ?_) (rH.trans dO) (fun i hi h=>h hi)
      ·have:=(oU.own.blk ⟨(2,0,0),⟨rfl,rfl⟩,by rw[hL2];exact e⟩).1;omega
      ·intro _;show ¬ w3.heap.size < _;omega
     refine vP (by kernel_rfl) ?_
     go_wp2
     exact⟨⟨k+1,by omega,by go_num,⟨_,JD⟩,nY⟩,by simp[intOf];omega⟩
  ·obtain rfl:k=ah:=by omega
   obtain⟨r0,r1,r2,r3,r4,r5⟩:=RB.out _ hSr;have b0:=hM.box.c0;have b1:=hM.box.c1;have b2:=hM.box.c2
   go_wp2
   have hrl:w.heap.size < w1.heap.size:=U8;have hoff:¬ gT (fH k l k) L w.heap.size:=fun hb=>by have:=(hM.own.blk hb).1;omega
   have hO:=((hM.own.ko (p:=⟨w.heap.size,0,none⟩) hoff (.slice (L (0,0,0)).a (fH k l k).au.length (L (0,0,0)).cap)).ko (p:=⟨w.heap.size,1,none⟩) hoff (.slice (L (1,0,0)).a (fH k l k).ah.length (L (1,0,0)).cap)).ko (p:=⟨w.heap.size,2,none⟩) hoff (.slice (L (2,0,0)).a (fH k l k).aB.length (L (2,0,0)).cap);refine bodyPost_ret (v:=bF L (fH k l k)) ?_ rfl ⟨L,rfl,hO.mono hS1.size, ?_⟩
   ·simp[results,results16,go_sem,r0,r1,r2,bF]
   ·have hF:Fr (fun i=>i=w.heap.size) wo wo:=Fr.refl _ _;exact(((hF.setCell ⟨w.heap.size,0,none⟩ _ (fun _=>rfl)).setCell ⟨w.heap.size,1,none⟩ _ (fun _=>rfl)).setCell ⟨w.heap.size,2,none⟩ _ (fun _=>rfl)).aI (hS1.trans hSr) (fun i hi e=>by omega)
end Go.Proofs.YtediempflagfkaaGreatDoor
namespace Go.Proofs.YtediempflagfkaaGreatDoor
set_option maxRecDepth 8000
open Go.RowKit Go.Shelf
open Pu
theorem Ia{m:Mg}{n:Nat}{d:Wd}{e:Int}:∀i:Nat,fO m n d i=.error e->e≠0
 | 0,h=>by cases h
 | i+1,h=>by
  rw[jh]at h;rcases lK h with h | ⟨d1,_,h2⟩
  ·exact Ia i h
  ·unfold fZ at h2;split at h2
   ·cases h2
   ·split at h2
    ·cases h2;simp
    ·split at h2
     ·cases h2;simp
     ·cases h2
theorem OC{d:Wd}{n:Nat}{e:Int}(h:eZ d n=.error e):e≠0:=by
 unfold eZ at h;split at h
 ·cases h;simp
 ·split at h
  ·cases h;simp
  ·split at h
   ·cases h;simp
   ·cases h
theorem MP{d:Wd}{n:Nat}{m:Mg}{e:Int}(h:eD d n m=.error e):e≠0:=by
 unfold eD at h;split at h
 ·cases h
 ·unfold sJ at h;split at h
  ·cases h;simp
  ·split at h
   ·cases h
   ·rename_i hz;cases h;exact hz
theorem Ib{d:Wd}{n:Nat}{m:Mg}{e:Int}(h:((eD d n m).bind fun d3=>(eZ d3 n).bind fun p=>.ok p.1)=.error e):e≠0:=by
 rcases lK h with h | ⟨d3,_,h⟩
 ·exact MP h
 ·rcases lK h with h | ⟨p,_,h⟩
  ·exact OC h
  ·cases h
theorem BD{d:Wd}{n g:Int}{nul:Bool}{body:ByteArray}{e:Int}(h:dR d n g nul body=.error e):e≠0:=by
 unfold dR at h;split at h
 ·rcases lK h with h | ⟨d2,_,h⟩
  ·exact Ia _ h
  ·exact Ib h
 ·rename_i hz;cases h;exact hz
theorem Bz{d:Wd}{f t:Nat}{e:Int}(h:fI d f t=.error e):e≠0:=by
 unfold fI at h;split at h
 ·cases h;simp
 ·exact Ib h
theorem Ox{lo lo':Nat}{w:World}{p:Nat}{d d':Wd}{L L':Lay}(hO:bG lo' w d' L')(hB:kF w p L d)(hl:lo<=lo')(hp:p < lo') :
  dF lo (((w.setCell ⟨p,0,none⟩ (.slice (L' (0,0,0)).a d'.au.length (L' (0,0,0)).cap)).setCell ⟨p,1,none⟩ (.slice (L' (1,0,0)).a d'.ah.length (L' (1,0,0)).cap)).setCell ⟨p,2,none⟩ (.slice (L' (2,0,0)).a d'.aB.length (L' (2,0,0)).cap)) p d' L':=by
 have hoff:¬ gT d' L' p:=fun hb=>by have:=(hO.blk hb).1;omega
 refine⟨(((hO.ko (p:=⟨p,0,none⟩) hoff _).ko (p:=⟨p,1,none⟩) hoff _).ko (p:=⟨p,2,none⟩) hoff _).mono hl, ?_,hoff⟩;have h0:=hB.c0;have h1:=hB.c1;have h2:=hB.c2;have z0:=hB.z0;have z1:=hB.z1;have z2:=hB.z2;have lt:=hB.lt
 constructor <;> simp[go_sem,h0,h1,h2,z0,z1,z2,lt]
end Go.Proofs.YtediempflagfkaaGreatDoor
