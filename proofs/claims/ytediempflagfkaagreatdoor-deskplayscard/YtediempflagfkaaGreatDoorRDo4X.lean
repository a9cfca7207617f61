/- Lemmas. Lemmas. -/
import Derived.Test.YtediempflagfkaaGreatDoorSCalmX
import Derived.Test.YtediempflagfkaaGreatDoorRCalmX
set_option linter.unusedVariables false
set_option linter.unusedSimpArgs false
set_option linter.unnecessarySimpa false
set_option maxHeartbeats 2000000
namespace Go.Proofs.YtediempflagfkaaGreatDoor
open _root_.Go.Proofs.Tryz hiding checked
set_option maxRecDepth 8000
open Go.RowKit Go.Shelf
open Pu
theorem Gq(cnt ah:Nat)(hc:cnt<=1000)(hn:ah<=1000)(w:World) :
  Calls prog 22 #[.int .i64 cnt,.int .i64 ah] w fun e w'=>∃(s:Sl) (rs:Nat->Sl),e=.returned (s.v cnt)/\eU 1 qP w.heap.size w' s rs (List.replicate cnt (List.replicate ah (0:Int)))/\ak w w':=by
 obtain⟨xss,hxs⟩:∃xss:List (List Int),List.replicate cnt (List.replicate ah (0:Int))=xss:=⟨_,rfl⟩;have bq:xss.length=cnt:=by rw[<-hxs];simp
 have HAT:Hid (∀j,j < cnt->xss[j]? = some (List.replicate ah (0:Int))):=fun j hj=>by rw[<-hxs,List.getElem?_replicate,if_pos hj]
 rw[hxs];clear hxs;subst bq;have QV:=fun y=>run_make_row' (P:=prog) 60 22 (.slice none 0 0) 24 (by kernel_rfl) (by kernel_rfl) rfl .i64 .i64 xss.length (by omega) (by omega) y;have SB:=fun y=>run_make_row' (P:=prog) 22 3 (.int .i64 0) 8 (by kernel_rfl) (by kernel_rfl) rfl .i64 .i64 ah (by omega) (by omega) y;obtain⟨w1,hw1⟩:∃w1,w.alloc (.cells (madeCells #[.slice none 0 0] xss.length) 22)=w1:=⟨_,rfl⟩;have hS1:=aF hw1
 have Gr:eU 1 qP w.heap.size w1 ⟨some ⟨w.heap.size,0,none⟩,xss.length⟩ (fun _=>⟨none,0⟩) (List.replicate xss.length ([]:List Int)):=by
  rw[<-hw1];exact eU.made rfl w.heap.size w xss.length _ (Nat.le_refl _) (by unfold maxLen;omega)
 go_enter func22,ntmps22
 go_wp2
 go_loopw [11] (fun i wr=>∃(j:Nat) (rs:Nat->Sl),j<=xss.length/\i=.int .i64 j/\eU 1 qP w.heap.size wr ⟨some ⟨w.heap.size,0,none⟩,xss.length⟩ rs (xss.take j++List.replicate (xss.length - j) [])/\ak w wr) (fun i _=>xss.length - (intOf i).toNat)
 case atStart=>exact⟨0,_,Nat.zero_le _,rfl,by simpa using Gr,hS1⟩
 case round =>
  clear Gr hw1 hS1 QV;obtain⟨wo,rfl⟩:∃wo,wo=wr:=⟨_,rfl⟩;obtain⟨j,rs,hj,rfl,hLL,hS⟩:=hrel;by_cases hlt:j < xss.length
  ·have n1:(j:Int) < (xss.length:Int):=by omega
   have bq:(xss.take j++List.replicate (xss.length - j) ([]:List Int)).length=xss.length:=by simp;omega
   obtain⟨w2,hw2⟩:∃y,wo.alloc (.cells (madeCells #[.int .i64 0] ah) 3)=y:=⟨_,rfl⟩;have hS2:=aF hw2
   have nu:Row w2 wo.heap.size 1 ⟨some ⟨wo.heap.size,0,none⟩,ah⟩ (List.replicate ah (0:Int)).length (qP (List.replicate ah 0)):=by
    have:=Row.new wo wo.heap.size 1 (madeCells #[.int .i64 0] ah) 3 ah (Nat.le_refl _) (by rw[size_madeCells];omega) (by unfold maxLen;omega);rw[yQ,hw2]at this;unfold qP;rw[List.map_replicate,List.length_replicate];exact this
   have Gs:=hLL.ay hS2;obtain⟨b',o',e',_,hblt,hall,_⟩:=Gs.top.body (by show 0 < xss.length;omega);dsimp only at e';cases e';obtain⟨q1,q2⟩:=hall j (by show j < xss.length*1;omega);rw[Nat.zero_add]at q1 q2;obtain⟨u,hu⟩:=Option.isSome_iff_exists.1 q1;have HL:Hid ((xss.take j++List.replicate (xss.length - j) ([]:List Int)).length=xss.length):=bq;clear hall q1 bq
   go_wp2
   go_roundw
   case rel =>
    have hput:=Gs.put (k:=j) (by rw[HL.out];exact hlt) rfl (nu.mono hS.size) (fun c hc=>by
     have hge:=nu.jf c hc;refine⟨fun e=>?_,fun i _ hi e=>?_⟩
     ·have:=(hLL.blk (.inl e)).2;omega
     ·have:=(hLL.blk (.inr ⟨i,hi,e⟩)).2;omega)
    rw[take_set xss j _ (HAT.out j hlt),Nat.zero_add,List.length_replicate]at hput;exact⟨j+1,_,by omega,by go_num,hput,⟨(hS.trans hS2).below.setCell (p:=⟨w.heap.size,j,none⟩) (Nat.le_refl _) _⟩⟩
   case measure=>simp[intOf];omega
  ·obtain rfl:j=xss.length:=by omega
   rw[Nat.sub_self,List.replicate_zero,List.append_nil,List.take_of_length_le (Nat.le_refl _)]at hLL
   go_wp2
   go_ret
   exact⟨⟨some ⟨w.heap.size,0,none⟩,xss.length⟩,rs,rfl,hLL,hS⟩
def tF(ah:Int)(l:List Int):Except Int Wd:=if dS ah l=0 then .ok (eG ah.toNat l) else .error (dS ah l)
theorem AJ(ah:Int)(a:Option Addr)(len cap:Nat)(l:List Int)(w:World)(hI:Ints w a len l)(hE:¬ dS ah l=0) :
  Calls prog 7 #[.int .i64 ah,.slice a len cap] w fun e w'=>Hid (vW w (.error (dS ah l)) e w'):=by
 obtain⟨w1,hw1⟩:∃w1,w.alloc (.cells #[.slice none 0 0,.slice none 0 0,.slice none 0 0] 31)=w1:=⟨_,rfl⟩;have hNB:aU w1 w.heap.size:=by rw[<-hw1];exact aU.new w _
 have hS1:=aF hw1;have hI1:=hI.ay hS1;obtain⟨er,her⟩:∃er,dS ah l=er:=⟨_,rfl⟩;have hC:=u7 ah a len cap l w1 hI1;rw[her]at hC hE ⊢;have hE':(er != 0)=true:=by simpa using hE
 obtain⟨w2,hw2⟩:∃y,w1.alloc (.cells #[.int .i64 ah] 3)=y:=⟨_,rfl⟩;have hS2:=aF hw2;rw[hw2]at hC;obtain⟨lt,r0,r1,r2,r3,r4,r5⟩:=hNB.ay hS2;clear hE her
 go_enter func7,ntmps7
 go_wp2_with (go_at_call 20;refine hC.mono ?_;rintro e w3 ⟨rfl,hw3⟩;obtain rfl:=hw3.symm)
 refine bodyPost_ret (v:=.tuple #[.agg #[.slice none 0 0,.slice none 0 0,.slice none 0 0],.int .i64 er]) ?_ rfl (iU (cu (Nat.le_refl _) (hS1.trans hS2)));simp[results,results7,go_sem,r0,r1,r2]
theorem CW(ah:Nat)(hn:ah<=4)(l:List Int)(hl:l.length<=3)(a:Option Addr)(cap:Nat)(w:World)(hI:Ints w a l.length l)(hE:dS (ah:Int) l=0) :
  Calls prog 7 #[.int .i64 ah,.slice a l.length cap] w fun e w'=>Hid (vW w (.ok (eG ah l)) e w'):=by
 obtain⟨w1,hw1⟩:∃w1,w.alloc (.cells #[.slice none 0 0,.slice none 0 0,.slice none 0 0] 31)=w1:=⟨_,rfl⟩;have hNB:aU w1 w.heap.size:=by rw[<-hw1];exact aU.new w _
 have hS1:=aF hw1;have hI1:=hI.ay hS1;have hC:=u7 ah a l.length cap l w1 hI1;rw[hE]at hC;obtain⟨w2,hw2⟩:∃y,w1.alloc (.cells #[.int .i64 ah] 3)=y:=⟨_,rfl⟩;have dO:=aF hw2;rw[hw2]at hC;have hS2:=hS1.trans dO;have hCl:=ql a l.length cap l w2 (hI1.ay dO) (by omega);clear hE hw2
 go_enter func7,ntmps7
 go_wp2_with (first
  | (go_at_call 20;refine hC.mono ?_;rintro e w3 ⟨rfl,hw3⟩;obtain rfl:=hw3.symm)
  | (go_at_call 21;refine hCl.mono ?_;rintro e w3 ⟨⟨ga,gc⟩,rfl,hR3,SC⟩;unfold Sl.v;dsimp only))
 obtain⟨w4,hw4⟩:∃w4,w3.alloc (.cells #[.slice ga l.length gc,.slice none 0 0,.slice none 0 0] 31)=w4:=⟨_,rfl⟩;rw[hw4];have xW:=aF hw4
 have hM0:dF w2.heap.size w4 w3.heap.size (fH ah l 0) (fun ix=>if ix=(0,0,0) then ⟨ga,gc⟩ else ⟨none,0⟩):=by
  have hO:=bG.start (gs:=l) hR3 (by omega);refine⟨hO.ay xW, ?_,fun hb=>?_⟩
  ·rw[<-hw4];constructor <;> simp[go_sem,fH]
  ·have:=(hO.blk hb).2;omega
 have fK:=SC.trans xW;have hp3:w2.heap.size<=w3.heap.size:=SC.size;have SE:=hNB.ay dO;have SB:=fun y=>run_make_row' (P:=prog) 65 62 (.slice none 0 0) 24 (by kernel_rfl) (by kernel_rfl) rfl .i64 .i64 ah (by omega) (by omega) y;clear hw4 hR3 xW hC hCl hw1
 go_loopw [19] (fun i wr=>∃k:Nat,k<=ah/\i=.int .i64 k/\(∃L,dF w2.heap.size wr w3.heap.size (fH ah l k) L)/\ak w2 wr) (fun i _=>ah - (intOf i).toNat)
 case atStart=>exact⟨0,Nat.zero_le _,rfl,⟨_,hM0⟩,fK⟩
 case round =>
  obtain⟨wo,rfl⟩:∃wo,wo=wr:=⟨_,rfl⟩;obtain⟨k,hk,rfl,⟨L,hM⟩,hSr⟩:=hrel;clear hM0;by_cases hlt:k < ah
  ·obtain⟨x,hx⟩:∃x:Nd,x=⟨0,List.replicate l.length (List.replicate ah 0),[],[]⟩:=⟨_,rfl⟩;obtain⟨na,nc,hL1⟩:∃na nc,L (1,0,0)=⟨na,nc⟩:=⟨_,_,rfl⟩;have n1:(k:Int) < (ah:Int):=by omega
   have b1:wo.cell? ⟨w3.heap.size,1,none⟩=some (.slice na k nc):=by have:=hM.box.c1;rw[hL1]at this;simpa[fH] using this
   have hpl:w3.heap.size < wo.heap.size:=hM.box.lt
   have hRn:Row wo w2.heap.size 4 ⟨na,nc⟩ k (dX (fH ah l k) L (1,0,0)):=by
    have:Row wo w2.heap.size 4 (L (1,0,0)) (fH ah l k).ah.length (dX (fH ah l k) L (1,0,0)):=hM.own.row (1,0,0) ⟨rfl,rfl⟩;rw[hL1]at this;simpa[fH] using this
   obtain⟨S0,hS0⟩:∃S0:World->Prop,∀w',S0 w'↔ak wo w':=⟨_,fun _=>Iff.rfl⟩;have c1:∀y:aA S0,y.w.cell? ⟨w3.heap.size,1,none⟩=some (.slice na k nc):=fun y=>(((hS0 _).1 y.h).av hpl _).trans b1;obtain⟨W0,hW0⟩:∃y,wo.drew=y:=⟨_,rfl⟩;have hs0:=aY hW0;have aC:=(hS0 W0).2 hs0;have hne:Nonempty (aA S0):=⟨⟨_,aC⟩⟩;have cB:=aO w
   go_wp2_with fail
   refine aW (fun w'=>∃x:aA S0,w'=x.w) (by kernel_rfl) ?_;rw[hW0];clear hW0;refine tW 0 rfl ?_;go_big_quiet_op;refine tM 1 rfl (aj aC) ?_;go_big_quiet_op;refine tW 2 rfl ?_;go_big_quiet_op;refine tM 3 rfl (aj aC) ?_;go_big_quiet_op;refine tW 4 rfl ?_;go_big_quiet_op;refine aV 5 rfl (by kernel_rfl) ?_;intro K hK;go_simp;refine(Gq l.length ah (by omega) (by omega) W0).mono ?_;rintro e W1 ⟨⟨sa,sc⟩,rs,rfl,hLL,hs1⟩;unfold Sl.v;dsimp only;have SG:=hs0.trans hs1;have xX:=(hS0 W1).2 SG;refine hK _ _ (fun _ _=>aj xX) ?_;clear hK K;refine tW 6 rfl ?_;go_big_quiet_op;refine aV 7 rfl (by kernel_rfl) ?_;intro K hK;go_simp;have hs2:ak W1 (W1.alloc (.cells #[.int .i64 0,.slice sa l.length sc,.slice none 0 0,.slice none 0 0] 64)):=(ak.refl W1).alloc _
   have hsrc:=iy (size:=4) (T:=64) (w:=W1) ny.und [.int .i64 0,.slice sa l.length sc,.slice none 0 0,.slice none 0 0] rfl (fun u hu=>by simp at hu;rcases hu with rfl | rfl | rfl <;> rfl) 1
   have Mh:=SG.trans hs2;have AL:=(hS0 _).2 Mh;refine hK _ _ (fun _ _=>aj AL) ?_;clear hK K;refine aV 8 rfl (by kernel_rfl) ?_;intro K hK;refine fU ny (by rfl) _ _ 28 (by rfl) (by rfl) (hRn.ay Mh) (by rfl) hsrc (by omega) (zQ5 hSr.size Mh.size) ?_;intro na' nc' w10 EG AO JA;have tu:=(hM.box.ay Mh).fr AO (fun e=>hM.off ⟨(1,0,0),⟨rfl,rfl⟩,by rw[hL1];exact e⟩);have q1:=tu.c1;have q2:=tu.z1;refine hK _ _ (fun h=>absurd h (by decide +kernel)) ?_;clear hK K;simp only[Act.put,zQ7,zQ8,zQ9];refine tW 9 rfl ?_;go_big_quiet_op;refine aV 10 rfl (by kernel_rfl) ?_;intro K hK;go_simp;refine hK _ _ (fun h=>absurd h (by decide +kernel)) ?_;clear hK K;refine bE (by kernel_rfl) ?_
   have hNd:oo wo.heap.size (W1.alloc (.cells #[.int .i64 0,.slice sa l.length sc,.slice none 0 0,.slice none 0 0] 64)) x ⟨sa,sc⟩ rs ⟨none,0⟩ ⟨none,0⟩:=by
    rw[hx];exact⟨(hLL.ay hs2).mono hs0.size,Row.nil _ _ _,Row.nil _ _ _,fun b e=>(by cases e),fun b e=>(by cases e)⟩
   have oU:=hM.addNode (a':=na') (c':=nc') (w':=w10) Mh hNd hSr.size (by rw[hx];refine⟨by simp;omega,fun i r hr=>?_,by simp,by simp⟩;(have:=zQ2.1 hr;obtain⟨h1,h2⟩:=this;simp at h2;rw[<-h2];simp;omega)) (by simp[fH];omega)
    (by rw[hx];simpa[fH,Sl.v] using EG) (by rw[hL1];exact AO) (by rw[hL1];exact JA)
   obtain⟨w11,Gt⟩:∃w11,w10.setCell ⟨w3.heap.size,1,none⟩ (.slice na' (k+1) nc')=w11:=⟨_,rfl⟩;have QW:(fH ah l k).ah.length=k:=by simp[fH]
   rw[QW,Gt]at oU
   have rH:ak w2 w11:=by
    rw[<-Gt];refine Fr.aI (B:=fun i=>¬ i < w2.heap.size) ((AO.mono (fun i _ e=>?_)).setCell _ _ ?_) (hSr.trans Mh) (fun i hi h=>h hi)
    ·have:=(hM.own.blk ⟨(1,0,0),⟨rfl,rfl⟩,by rw[hL1];exact e⟩).1;omega
    ·intro _;show ¬ w3.heap.size < _;omega
   obtain⟨d11,JB⟩:∃d:Wd,{ (fH ah l k) with ah:=(fH ah l k).ah++[x] }=d:=⟨_,rfl⟩
   rw[JB]at oU;obtain⟨L11,Ob⟩:∃L':Lay,dL L k ⟨na',nc'⟩ ⟨sa,sc⟩ rs ⟨none,0⟩ ⟨none,0⟩=L':=⟨_,rfl⟩;rw[Ob]at oU;obtain⟨ra,rc,hL2⟩:∃ra rc,L11 (2,0,0)=⟨ra,rc⟩:=⟨_,_,rfl⟩;have hwl:d11.aB.length=k:=by rw[<-JB];simp[fH]
   have b2:w11.cell? ⟨w3.heap.size,2,none⟩=some (.slice ra k rc):=by have:=oU.box.c2;rw[hL2,hwl]at this;exact this
   have hRw:Row w11 w2.heap.size 1 ⟨ra,rc⟩ k (dX d11 L11 (2,0,0)):=by
    have:Row w11 w2.heap.size 1 (L11 (2,0,0)) d11.aB.length (dX d11 L11 (2,0,0)):=oU.own.row (2,0,0) ⟨rfl,rfl⟩;rw[hL2,hwl]at this;exact this
   have QX:w3.heap.size < w11.heap.size:=oU.box.lt;clear hL1 b1 hRn hsrc EG AO JA tu q1 q2 hNd hLL hM Ob hne cB c1 hS0 S0 aC xX AL;obtain⟨S0,hS0⟩:∃S0:World->Prop,∀w',S0 w'↔ak w11 w':=⟨_,fun _=>Iff.rfl⟩;have c2:∀y:aA S0,y.w.cell? ⟨w3.heap.size,2,none⟩=some (.slice ra k rc):=fun y=>(((hS0 _).1 y.h).av QX _).trans b2;obtain⟨V0,hV0⟩:∃y,w11.drew=y:=⟨_,rfl⟩;have ht0:=aY hV0;have aC:=(hS0 V0).2 ht0;have hne:Nonempty (aA S0):=⟨⟨_,aC⟩⟩;have cB:=aO w
   go_wp2_with fail
   refine aW (fun w'=>∃x:aA S0,w'=x.w) (by kernel_rfl) ?_;rw[hV0];clear hV0 Gt;refine tW 0 rfl ?_;go_big_quiet_op;refine tM 1 rfl (aj aC) ?_;go_big_quiet_op;refine tW 2 rfl ?_;go_big_quiet_op;refine aV 3 rfl (by kernel_rfl) ?_;intro K hK;go_simp;have ht1:ak V0 (V0.alloc (.cells (madeCells #[.slice none 0 0] ah) 62)):=(ak.refl V0).alloc _;have xX:=(hS0 _).2 (ht0.trans ht1);refine hK _ _ (fun _ _=>aj xX) ?_;clear hK K;refine aV 4 rfl (by kernel_rfl) ?_;intro K hK;go_simp;have ht2:ak w11 ((V0.alloc (.cells (madeCells #[.slice none 0 0] ah) 62)).alloc (.cells #[.slice (some ⟨V0.heap.size,0,none⟩) ah ah] 65)):=(ht0.trans ht1).alloc _;have Gu:=iy (size:=1) (T:=65) (w:=V0.alloc (.cells (madeCells #[.slice none 0 0] ah) 62)) pE.und [.slice (some ⟨V0.heap.size,0,none⟩) ah ah] rfl (fun u hu=>by simp at hu;subst hu;rfl) 1;simp only[World.size_alloc]at Gu;have AL:=(hS0 _).2 ht2;refine hK _ _ (fun _ _=>aj AL) ?_;clear hK K;refine aV 5 rfl (by kernel_rfl) ?_;intro K hK;refine fU pE (by rfl) _ _ 29 (by rfl) (by rfl) (hRw.ay ht2) (by rfl) Gu (by omega) (zQ5 rH.size ht2.size) ?_;intro ra' rc' w12 QY JC QZ;have Mi:=(oU.box.ay ht2).fr JC (fun e=>oU.off ⟨(2,0,0),⟨rfl,rfl⟩,by rw[hL2];exact e⟩);have q1:=Mi.c2;have q2:=Mi.z2;refine hK _ _ (fun h=>absurd h (by decide +kernel)) ?_;clear hK K;simp only[Act.put,zQ7,zQ8,zQ9];refine tW 6 rfl ?_;go_big_quiet_op;refine aV 7 rfl (by kernel_rfl) ?_;intro K hK;go_simp;refine hK _ _ (fun h=>absurd h (by decide +kernel)) ?_;clear hK K;refine bE (by kernel_rfl) ?_
   have JD:=oU.yR (a':=ra') (c':=rc') (w':=w12) (x:=List.replicate ah []) ht2 (((eU.made (α:=Mg) (sz:=5) (enc:=flat) rfl V0.heap.size V0 ah 62 (Nat.le_refl _) (by unfold maxLen;omega)).ay ((ak.refl _).alloc _)).mono ht0.size) rH.size
    ⟨by simp;omega,fun i r hr=>by have:=zQ2.1 hr;obtain⟨h1,h2⟩:=this;simp at h2;first | (rw[h2];simp) | (rw[<-h2];simp)⟩ (by omega) (by rw[hwl,List.length_replicate];exact QY) (by rw[hL2];exact JC) (by rw[hL2];exact QZ)
   rw[hwl]at JD
   have hdE:({ d11 with aB:=d11.aB++[List.replicate ah []] }:Wd)=fH ah l (k+1):=by
    rw[<-JB,hx];simp[fH,List.replicate_succ']
   rw[hdE]at JD
   have nY:ak w2 (w12.setCell ⟨w3.heap.size,2,none⟩ (.slice ra' (k+1) rc')):=by
    refine Fr.aI (B:=fun i=>¬ i < w2.heap.size) ((JC.mono (fun i _ e=>?_)).setCell _ _ ?_) (rH.trans ht2) (fun i hi h=>h hi)
    ·have:=(oU.own.blk ⟨(2,0,0),⟨rfl,rfl⟩,by rw[hL2];exact e⟩).1;omega
    ·intro _;show ¬ w3.heap.size < _;omega
   clear c2 hne cB
   go_wp2
   exact⟨⟨k+1,by omega,by go_num,⟨_,JD⟩,nY⟩,by simp[intOf];omega⟩
  ·obtain rfl:k=ah:=by omega
   obtain⟨lt,r0,r1,r2,r3,r4,r5⟩:=SE.ay hSr;have b0:=hM.box.c0;have b1:=hM.box.c1;have b2:=hM.box.c2
   go_wp2
   obtain⟨hO,hSf⟩:=hM.own.result (w0:=w) (p:=w.heap.size) SE.lt (Nat.le_refl _) (hS2.trans hSr) hS2.size;refine bodyPost_ret (v:=.tuple #[bF L (eG k l),.int .i64 0]) ?_ rfl (mH hO hSf);simp[results,results7,go_sem,r0,r1,r2,bF,fH,eG]
theorem nZ(ah:Int)(a:Option Addr)(len cap:Nat)(l:List Int)(w:World)(hI:Ints w a len l) :
  Calls prog 7 #[.int .i64 ah,.slice a len cap] w fun e w'=>Hid (vW w (tF ah l) e w'):=by
 unfold tF;by_cases hE:dS ah l=0
 ·rw[if_pos hE];obtain⟨h1,h2,h3,h4⟩:=jQ hE;obtain⟨k,rfl⟩:∃k:Nat,ah=(k:Int):=⟨ah.toNat,by omega⟩;have hl:=hI.bq;subst hl;rw[Int.toNat_natCast];exact CW k (by omega) l h4 a cap w hI hE
 ·rw[if_neg hE];exact AJ ah a len cap l w hI hE
end Go.Proofs.YtediempflagfkaaGreatDoor
set_option maxHeartbeats 2000000
namespace Go.Proofs.YtediempflagfkaaGreatDoor
open _root_.Go.Proofs.Tryz hiding checked
set_option maxRecDepth 8000
open Go.RowKit Go.Shelf
open Pu
theorem Da(x:WV)(d:Wd)(w:World)(hW:WAt w x d)(T:Except Int Wd)(hT:checked d (lD d)=T)(Post:Ending->World->Prop)
  (jv:∀er,T=.error er->∀w',ak w w'->Post (.returned (.tuple #[.agg #[.slice none 0 0,.slice none 0 0,.slice none 0 0],.int .i64 er])) w')
  (hOk:∀d' L' w',T=.ok d'->bG w.heap.size w' d' L'->ak w w'->Post (.returned (.tuple #[bF L' d',.int .i64 0])) w') :
  Calls prog 37 #[.agg #[.slice x.ga x.gl x.gc,.slice x.na x.nl x.nc,.slice x.wa x.wl x.wc]] w fun e w'=>Hid (Post e w'):=by
 obtain⟨ga,gl,gc,na,nl,nc,wa,wl,wc⟩:=x;dsimp only;have jB:=(show Hid _ from jv);have HOK:=(show Hid _ from hOk);have HT:Hid (T=checked d ((gY d).bind fun r=>jE 4 r.1)):=hT.symm;clear jv hOk hT;obtain⟨wp,hwp⟩:∃wp,w.alloc (.cells #[.slice ga gl gc,.slice na nl nc,.slice wa wl wc] 31)=wp:=⟨_,rfl⟩;have hPp:aP wp w.heap.size ⟨ga,gl,gc,na,nl,nc,wa,wl,wc⟩:=by rw[<-hwp];exact aP.new w ⟨ga,gl,gc,na,nl,nc,wa,wl,wc⟩ _
 have hSp:=aF hwp;obtain⟨w1,hw1⟩:∃w1,wp.alloc (.cells #[.slice none 0 0,.slice none 0 0,.slice none 0 0] 31)=w1:=⟨_,rfl⟩;have hNB:aU w1 wp.heap.size:=by rw[<-hw1];exact aU.new wp _
 have dZ:=aF hw1;have hP1:=hPp.ay dZ;have hS1:=hSp.trans dZ;have hW1:=hW.ay hS1;have hlt1:=hNB.lt;have p0:=hP1.c0;have p1:=hP1.c1;have p2:=hP1.c2;dsimp only at p0 p1 p2;have hDr:=BF ⟨ga,gl,gc,na,nl,nc,wa,wl,wc⟩ d w1 hW1;dsimp only at hDr;obtain⟨r,hr⟩:∃r,checked d (fq d)=r:=⟨_,rfl⟩;rw[hr]at hDr
 have HTE:Hid (∀er,r=.error er->T=.error er/\(er == 0)=false):=fun er h=>by
  rw[h]at hr;rw[HT.out];unfold checked fq at *;by_cases hz:aZ d=0
  ·rw[if_pos hz]at hr ⊢
   cases hd:gY d with
   | error e=>rw[hd]at hr;cases hr;exact⟨rfl,by have:=vv hd;simpa using this⟩
   | ok s=>rw[hd]at hr;cases hr
  ·rw[if_neg hz]at hr ⊢;cases hr;exact⟨rfl,by simpa using hz⟩
 have HTK:Hid (∀d' m,r=.ok (d',m)->T=jE 4 d'/\aL d'):=fun d' m h=>by
  rw[h]at hr;rw[HT.out];obtain⟨R,h2⟩:=rO hr;unfold fq at h2;obtain⟨s,h3,h4⟩:=bind_ok h2;cases h4;unfold checked;rw[if_pos ((cZ d).2 R),h3];exact⟨rfl,(mW R (m:=s.2) h3).1⟩
 clear hr
 cases r with
 | error er =>
  obtain⟨hTe,her⟩:=HTE.out er rfl;have HTe:Hid (T=.error er):=hTe;have Ve:(er != 0)=true:=by simp[bne,her]
  clear hTe
  go_enter func37,ntmps37
  go_wp2_with fail
  refine hDr.mono ?_;rintro e w2 hR2;obtain⟨rfl,hF2⟩:=hR2.out.1 er rfl;have hS2:=hF2.none;clear hR2 hDr p0 p1 p2 hw1 hwp;obtain⟨w3,hw3⟩:∃y,w2.alloc (.cells #[.slice none 0 0,.slice none 0 0,.slice none 0 0] 31)=y:=⟨_,rfl⟩;have JX:=aF hw3;have hN3:aU w3 w2.heap.size:=by rw[<-hw3];exact aU.new w2 _
  obtain⟨w4,hw4⟩:∃y,((w3.setCell ⟨w2.heap.size,0,none⟩ (.slice none 0 0)).setCell ⟨w2.heap.size,1,none⟩ (.slice none 0 0)).setCell ⟨w2.heap.size,2,none⟩ (.slice none 0 0)=y:=⟨_,rfl⟩;have hS4:ak w2 w4:=by rw[<-hw4];exact(aS w3 w2.heap.size _ _ _).aI JX (fun i hi e=>by omega)
  obtain⟨_,z0,z1,z2,z3,z4,z5⟩:=hN3;have h14:=hS2.trans hS4;have hN4:=hNB.ay h14
  go_wp2_with fail
  clear hw3 hw4 z0 z1 z2 z3 z4 z5
  go_loopw [6,7] (fun e i wr=>e=.int .i64 er/\i=.int .i64 0/\wr=w4) (fun _ _ _=>0)
  case atStart=>exact⟨rfl,rfl,rfl⟩
  case round =>
   obtain⟨rfl,rfl,hwr⟩:=hrel;obtain rfl:=hwr.symm;obtain⟨_,r0,r1,r2,r3,r4,r5⟩:=hN4
   go_wp2_with fail
   refine bodyPost_ret (v:=.tuple #[.agg #[.slice none 0 0,.slice none 0 0,.slice none 0 0],.int .i64 er]) ?_ rfl (jB.out er HTe.out _ (cu hSp.size (hS1.trans h14)));simp[results,results37,go_sem,r0,r1,r2]
 | ok dm =>
  obtain⟨d0,m0⟩:=dm;obtain⟨hTk,hR0⟩:=HTK.out d0 m0 rfl;have HT0:Hid (T=jE 4 d0):=hTk;have HR0:Hid (aL d0):=hR0;clear hTk hR0
  go_enter func37,ntmps37
  go_wp2_with fail
  refine hDr.mono ?_;rintro e w2 hR2;obtain⟨L,rfl,hO2,hF2⟩:=hR2.out.2 d0 m0 rfl;have hS2:=hF2.none;simp only[bF];clear hR2 hDr p0 p1 p2 hw1 hwp;obtain⟨w3,hw3⟩:∃y,w2.alloc (.cells #[.slice (L (0,0,0)).a d0.au.length (L (0,0,0)).cap,.slice (L (1,0,0)).a d0.ah.length (L (1,0,0)).cap,.slice (L (2,0,0)).a d0.aB.length (L (2,0,0)).cap] 31)=y:=⟨_,rfl⟩;have hS3:=aF hw3
  have hB3:kF w3 w2.heap.size L d0:=by rw[<-hw3];constructor <;> simp[go_sem]
  have hM3:dF w1.heap.size w3 w2.heap.size d0 L:=⟨hO2.ay hS3,hB3,fun hb=>by have:=(hO2.blk hb).2;omega⟩;have h13:=hS2.trans hS3;have hq:w1.heap.size<=w2.heap.size:=hS2.size;clear hB3 hO2
  go_wp2_with fail
  clear hw3
  go_loopw [6,7] (fun e i wr=>∃(k:Nat),k<=4/\i=.int .i64 k/\ak w1 wr/\((e=.int .i64 0/\∃(dk:Wd) (Lk:Lay),Hid (T=jE (4 - k) dk)/\Hid (aL dk)/\dF w1.heap.size wr w2.heap.size dk Lk)\/(∃er,e=.int .i64 er/\(er == 0)=false/\Hid (T=.error er)))) (fun _ i _=>4 - (intOf i).toNat)
  case atStart=>exact⟨0,by omega,rfl,h13,.inl ⟨rfl,d0,L,HT0,HR0,hM3⟩⟩
  case round =>
   clear hM3 h13 HT0 HR0;obtain⟨wo,rfl⟩:∃wo,wo=wr:=⟨_,rfl⟩;obtain⟨k,hk,rfl,hSo,hcase⟩:=hrel;have HK:Hid (k<=4):=hk;have hNo:=hNB.ay hSo;rcases hcase with ⟨rfl,dk,Lk,HTk,HRk,hM⟩ | ⟨er,rfl,her,HTe⟩
   ·by_cases hlt:k < 4
    ·have h1:(k:Int) < 4:=by omega
     have c0:=hM.box.c0;have c1:=hM.box.c1;have c2:=hM.box.c2;have hRd:=EX (fE Lk dk) dk wo hM.own.wat HRk.out;unfold fE ji at hRd;dsimp only at hRd;obtain⟨r,hr⟩:∃r,fJ dk=r:=⟨_,rfl⟩;have HNZ:Hid (∀e,r=.error e->(e == 0)=false):=fun e h=>by rw[h]at hr;have:=D6 hr;simpa using this
     have HSM:Hid (∀d' m,r=.ok (d',m)->aL d'):=fun d' m h=>by rw[h]at hr;exact(uI HRk.out hr).1
     have HRR:Hid (T=r.bind fun r=>jE (4 - (k+1)) r.1):=by
      unfold Hid;rw[HTk.out,show 4 - k=(4 - (k+1))+1 from by omega];show(fJ dk).bind _=_;rw[hr]
     rw[hr]at hRd;clear hr
     cases r with
     | error er =>
      have her:=HNZ.out er rfl
      go_wp2_with fail
      refine hRd.mono ?_;rintro e w4 hR4;obtain⟨rfl,hF4⟩:=hR4.out.1 er rfl;have hS4:=hF4.none;clear hR4 hRd c0 c1 c2;obtain⟨_,x0,x1,x2,x3,x4,x5⟩:=(hM.ay hS4).box;obtain⟨w6,hw6⟩:∃y,((w4.setCell ⟨w2.heap.size,0,none⟩ (.slice none 0 0)).setCell ⟨w2.heap.size,1,none⟩ (.slice none 0 0)).setCell ⟨w2.heap.size,2,none⟩ (.slice none 0 0)=y:=⟨_,rfl⟩;have hS6:ak w1 w6:=by rw[<-hw6];exact(aS w4 w2.heap.size _ _ _).aI (hSo.trans hS4) (fun i hi e=>by omega)
      go_wp2
      go_roundw
      case rel=>exact⟨k+1,by omega,by go_num,hS6,.inr ⟨er,rfl,her,HRR.out⟩⟩
      case measure=>simp[intOf];omega
     | ok dm =>
      obtain⟨d2,m⟩:=dm;have HR2:Hid (aL d2):=HSM.out d2 m rfl
      go_wp2_with fail
      refine hRd.mono ?_;rintro e w4 hR4;obtain⟨L4,rfl,hO4,hF4⟩:=hR4.out.2 d2 m rfl;have hS4:=hF4.none;simp only[bF];clear hR4 hRd c0 c1 c2;have hMo:=hM.ay hS4;have hMb:=hM.box.lt;obtain⟨w6,hw6⟩:∃y,((w4.setCell ⟨w2.heap.size,0,none⟩ (.slice (L4 (0,0,0)).a d2.au.length (L4 (0,0,0)).cap)).setCell ⟨w2.heap.size,1,none⟩ (.slice (L4 (1,0,0)).a d2.ah.length (L4 (1,0,0)).cap)).setCell ⟨w2.heap.size,2,none⟩ (.slice (L4 (2,0,0)).a d2.aB.length (L4 (2,0,0)).cap)=y:=⟨_,rfl⟩;have hM6:=Ox (lo:=w1.heap.size) hO4 hMo.box hSo.size hMb;rw[hw6]at hM6;have hS6:ak w1 w6:=by rw[<-hw6];exact(aS w4 w2.heap.size _ _ _).aI (hSo.trans hS4) (fun i hi e=>by omega)
      obtain⟨_,x0,x1,x2,x3,x4,x5⟩:=hMo.box
      go_wp2
      go_roundw
      case rel=>exact⟨k+1,by omega,by go_num,hS6,.inl ⟨rfl,d2,L4,HRR.out,HR2,hM6⟩⟩
      case measure=>simp[intOf];omega
    ·have HE:Hid (k=4):=by unfold Hid;have:=HK.out;omega
     have h1:¬ (k:Int) < 4:=by omega
     have c0:=hM.box.c0;have c1:=hM.box.c1;have c2:=hM.box.c2;obtain⟨_,r0,r1,r2,r3,r4,r5⟩:=hNo;obtain⟨hO9,hSf⟩:=hM.own.result (w0:=w) (p:=wp.heap.size) hlt1 hSp.size (hS1.trans hSo) hS1.size;clear hlt
     go_wp2_with fail
     refine bodyPost_ret (v:=.tuple #[bF Lk dk,.int .i64 0]) ?_ rfl (HOK.out dk Lk _ (by have h:=HTk.out;rw[HE.out]at h;exact h) hO9 hSf);simp[results,results37,go_sem,r0,r1,r2,bF]
   ·obtain⟨_,r0,r1,r2,r3,r4,r5⟩:=hNo;have Ve:(er != 0)=true:=by simp[bne,her]
    by_cases hlt:k < 4
    ·have h1:(k:Int) < 4:=by omega
     go_wp2_with fail
     refine bodyPost_ret (v:=.tuple #[.agg #[.slice none 0 0,.slice none 0 0,.slice none 0 0],.int .i64 er]) ?_ rfl (jB.out er HTe.out _ (cu hSp.size (hS1.trans hSo)));simp[results,results37,go_sem,r0,r1,r2]
    ·have h1:¬ (k:Int) < 4:=by omega
     go_wp2_with fail
     refine bodyPost_ret (v:=.tuple #[.agg #[.slice none 0 0,.slice none 0 0,.slice none 0 0],.int .i64 er]) ?_ rfl (jB.out er HTe.out _ (cu hSp.size (hS1.trans hSo)));simp[results,results37,go_sem,r0,r1,r2]
theorem Cy(x:WV)(d:Wd)(w:World)(hW:WAt w x d) :
  Calls prog 37 #[.agg #[.slice x.ga x.gl x.gc,.slice x.na x.nl x.nc,.slice x.wa x.wl x.wc]] w fun e w'=>Hid (vW w (checked d (lD d)) e w') :=
 Da x d w hW _ rfl (fun e w'=>vW w (checked d (lD d)) e w') (fun er h w' hS=>by rw[h];exact iU hS) (fun d' L' w' h hO hS=>by rw[h];exact mH hO hS)
end Go.Proofs.YtediempflagfkaaGreatDoor
