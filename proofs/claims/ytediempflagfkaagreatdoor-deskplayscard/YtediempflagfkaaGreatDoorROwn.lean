/- Lemmas. -/
import Derived.Test.YtediempflagfkaaGreatDoorRegM
import Derived.Test.YtediempflagfkaaGreatDoorOwnX
set_option linter.unusedVariables false
set_option linter.unusedSimpArgs false
set_option linter.unnecessarySimpa false
set_option maxHeartbeats 2000000
namespace Go.Proofs.YtediempflagfkaaGreatDoor
open _root_.Go.Proofs.Tryz hiding checked
set_option maxRecDepth 8000
open Go.RowKit Go.Shelf
open Pu
theorem nM(x:WV)(d:Wd)(w:World)(hW:WAt w x d)(hs:JG d) :
  Calls prog 85 #[.agg #[.slice x.ga x.gl x.gc,.slice x.na x.nl x.nc,.slice x.wa x.wl x.wc]] w fun e w'=>∃L,e=.returned (bF L d)/\bG w.heap.size w' d L/\ak w w':=by
 have s0:d.au.length<=100:=hs (0,0,0) ⟨rfl,rfl⟩;have s1:d.ah.length<=100:=hs (1,0,0) ⟨rfl,rfl⟩;have s2:d.aB.length<=100:=hs (2,0,0) ⟨rfl,rfl⟩;obtain⟨ga,gl,gc,na,nl,nc,wa,wl,wc⟩:=x;have hgl:=hW.g.bq;have hnl:=hW.n.bq;have hwl:=hW.r.bq;dsimp only at hgl hnl hwl ⊢;subst hgl hnl hwl;obtain⟨wp,hwp⟩:∃wp,w.alloc (.cells #[.slice ga d.au.length gc,.slice na d.ah.length nc,.slice wa d.aB.length wc] 31)=wp:=⟨_,rfl⟩;have hPp:aP wp w.heap.size ⟨ga,d.au.length,gc,na,d.ah.length,nc,wa,d.aB.length,wc⟩:=by rw[<-hwp];exact aP.new w ⟨ga,d.au.length,gc,na,d.ah.length,nc,wa,d.aB.length,wc⟩ _
 have hSp:=aF hwp;obtain⟨w1,hw1⟩:∃w1,wp.alloc (.cells #[.slice none 0 0,.slice none 0 0,.slice none 0 0] 31)=w1:=⟨_,rfl⟩;have hNB:aU w1 wp.heap.size:=by rw[<-hw1];exact aU.new wp _
 have dZ:=aF hw1;have hP1:=hPp.ay dZ;have hS1:=hSp.trans dZ;have hG1:=hW.g.ay hS1;obtain⟨w2,hw2⟩:∃w2,w1.alloc (.cells #[] 3)=w2:=⟨_,rfl⟩;have dO:=aF hw2;have hR2:Row w2 w1.heap.size 1 ⟨some ⟨w1.heap.size,0,none⟩,0⟩ 0 []:=by rw[<-hw2];exact Row.empty w1 _ 1 _
 have p0:=(hP1.ay dO).c0;dsimp only at p0
 go_enter func85,ntmps85
 go_wp2_with (at_builtin;refine iK xJ rfl _ _ 22 rfl rfl hR2 rfl (yc (hG1.ay dO)) ?_ dO.size ?_;omega;intro ga2 gc2 w3 hR3 hF3 hB3)
 simp only[Nat.zero_add,List.nil_append]at hR3
 have hS3:ak w2 w3:=by
  refine hF3.ay (fun i _ e=>?_);unfold Sl.blk at e;simp at e
 obtain⟨w4,hw4⟩:∃w4,w3.alloc (.cells #[.slice ga2 d.au.length gc2,.slice none 0 0,.slice none 0 0] 31)=w4:=⟨_,rfl⟩;rw[hw4];have xW:=aF hw4
 have hM0:dF w1.heap.size w4 w3.heap.size ⟨d.au,[],[]⟩ (fun ix=>if ix=(0,0,0) then ⟨ga2,gc2⟩ else ⟨none,0⟩):=by
  have hO:=bG.start (gs:=d.au) hR3 (by omega);refine⟨hO.ay xW, ?_,fun hb=>?_⟩
  ·rw[<-hw4];constructor <;> simp[go_sem]
  ·have:=(hO.blk hb).2;omega
 have Bw:ak w1 w4:=(dO.trans hS3).trans xW;have hp3:w1.heap.size<=w3.heap.size:=(dO.trans hS3).size;have hW1:=hW.ay hS1;have hN1:=hW1.n;have hR1:=hW1.r;dsimp only at hN1 hR1;clear hw4 hR3 hF3 hB3 xW hS3 hR2 dO hwp hw1 hw2 p0 hG1 hW1
 go_loopw [4] (fun i wr=>∃k:Nat,k<=d.ah.length/\i=.int .i64 k/\(∃L,dF w1.heap.size wr w3.heap.size ⟨d.au,d.ah.take k,[]⟩ L)/\ak w1 wr) (fun i _=>d.ah.length - (intOf i).toNat)
 case atStart=>exact⟨0,Nat.zero_le _,rfl,⟨_,by simpa using hM0⟩,Bw⟩
 case round =>
  obtain⟨wo,rfl⟩:∃wo,wo=wr:=⟨_,rfl⟩;obtain⟨k,hk,rfl,⟨L,hM⟩,hSr⟩:=hrel;clear hM0;have hPr:=hP1.ay hSr;have p1:=hPr.c1;have p2:=hPr.c2;dsimp only at p1 p2;by_cases hlt:k < d.ah.length
  ·obtain⟨nd,hnd⟩:∃nd,d.ah[k]? = some nd:=⟨_,zQ1 hlt⟩;obtain⟨bn,on,rfl,hbn,hcn⟩:=hN1.cells (by omega);obtain⟨k0,⟨v1,k1,la,lc,rfl,hlc,hL⟩,⟨v2,k2,ha,hc,rfl,hhc,hH⟩,⟨v3,k3,ta,tc,rfl,htc,hT⟩⟩:=hcn k nd hnd;have j0:=(hSr.av hbn _).trans k0;have j1:=(hSr.av hbn _).trans k1;have j2:=(hSr.av hbn _).trans k2;have j3:=(hSr.av hbn _).trans k3;have n1:(k:Int) < (d.ah.length:Int):=by omega
   clear hcn k0 k1 k2 k3;obtain⟨w5,hw5⟩:∃w5,wo.alloc (.cells #[.int .i64 nd.aK,.slice la nd.last.length lc,.slice ha nd.held.length hc,.slice ta nd.aG.length tc] 64)=w5:=⟨_,rfl⟩;have hS5:=aF hw5;have hl5:wo.heap.size < w5.heap.size:=by rw[<-hw5];simp
   have NB:Hid (∀y,ak w5 y->y.cell? ⟨wo.heap.size,0,none⟩=some (.int .i64 nd.aK)/\y.cell? ⟨wo.heap.size,1,none⟩=some (.slice la nd.last.length lc)/\y.cell? ⟨wo.heap.size,2,none⟩=some (.slice ha nd.held.length hc)/\y.cell? ⟨wo.heap.size,3,none⟩=some (.slice ta nd.aG.length tc)):=by
    intro y hy;have hcc:∀o,y.cell? ⟨wo.heap.size,o,none⟩=w5.cell? ⟨wo.heap.size,o,none⟩:=fun o=>hy.av hl5 o;rw[hcc,hcc,hcc,hcc,<-hw5];simp[go_sem]
   have xS:=hSr.trans hS5
   have sN:x9 nd:=by
    have e:=dh hnd;refine⟨?_,fun g r hr=>?_, ?_, ?_⟩
    ·have:(bD d k).last.length<=100:=hs (3,k,0) ⟨hlt,rfl⟩;rw[e]at this;omega
    ·have:(fA d k g).length<=100:=hs (4,k,g) ⟨hlt,by rw[e];exact(zQ2.1 hr).1⟩;unfold fA at this;rw[e,hr]at this;simp at this;omega
    ·have:(bD d k).held.length<=100:=hs (5,k,0) ⟨hlt,rfl⟩;rw[e]at this;omega
    ·have:(bD d k).aG.length<=100:=hs (6,k,0) ⟨hlt,rfl⟩;rw[e]at this;omega
   have sL:=sN.1;have sH:=sN.2.2.1;have sT:=sN.2.2.2
   go_wp2
   clear hw5
   go_loopw [6,7] (fun v i wi=>∃(j:Nat) (sa:Option Addr) (sc:Nat) (rs:Nat->Sl),j<=nd.last.length/\i=.int .i64 j/\v=.slice sa j sc/\eU 1 qP w5.heap.size wi ⟨sa,sc⟩ rs (nd.last.take j)/\ak w5 wi) (fun _ i _=>nd.last.length - (intOf i).toNat)
   case atStart=>exact⟨0,none,0,fun _=>⟨none,0⟩,Nat.zero_le _,rfl,rfl,eU.nil,ak.refl _⟩
   case round =>
    obtain⟨wi,rfl⟩:∃wi,wi=wr:=⟨_,rfl⟩;obtain⟨j,sa,sc,rs,hj,rfl,rfl,hLL,hSi⟩:=hrel;obtain⟨e0,f1,e2,e3⟩:=NB.out _ hSi;have qC:=xS.trans hSi;by_cases hjl:j < nd.last.length
    ·obtain⟨row,hrow⟩:∃row,nd.last[j]? = some row:=⟨_,zQ1 hjl⟩;obtain⟨bL,oL,rfl,hbL,hcL⟩:=hL.cells (by omega);obtain⟨v4,k4,ra,rc,rfl,hrc,hRo⟩:=hcL j row hrow;have hrl:=sN.2.1 j row hrow;obtain⟨wA,hwA⟩:∃wA,wi.alloc (.cells #[] 3)=wA:=⟨_,rfl⟩;have hSa:=aF hwA;have hRe:Row wA w5.heap.size 1 ⟨some ⟨wi.heap.size,0,none⟩,0⟩ 0 []:=by rw[<-hwA];exact Row.empty wi _ 1 _
     have hsr:=yc (c:=rc) (hRo.ay (qC.trans hSa));have htl:(nd.last.take j).length=j:=by rw[List.length_take];omega
     have j1':(j:Int) < (nd.last.length:Int):=by omega
     have hlo:=zQ5 hSi.size hSa.size;have htop:=hLL.top;rw[htl]at htop;obtain⟨f0,f1',f2,f3⟩:=NB.out _ (hSi.trans hSa);have k5:=((qC.trans hSa).av hbL _).trans k4;clear hcL k4 htl
     go_wp2_with (first
      | (at_builtin;refine iK xJ rfl _ _ 22 rfl rfl hRe rfl hsr ?_ hlo ?_;omega;intro na2 nc2 w7 hR7 hF7 hB7;simp only[Nat.zero_add,List.nil_append]at hR7;have hS7:ak wA w7:=hF7.ay (fun i _ e=>by unfold Sl.blk at e;simp at e);have hS8:ak w7 (w7.alloc (.cells #[.slice na2 row.length nc2] 22)):=(ak.refl w7).alloc _;have Rq:=iy (size:=1) (T:=22) (w:=w7) EL.und [.slice na2 row.length nc2] rfl (fun u hu=>by simp at hu;subst hu;rfl) 1;have OM:=hSi.trans ((hSa.trans hS7).trans hS8))
      | (at_builtin;refine iK EL rfl _ _ 60 rfl rfl (htop.ay ((hSa.trans hS7).trans hS8)) rfl Rq ?_ OM.size ?_;omega;intro sa' sc' w9 hR9 hF9 hB9))
     have htl:(nd.last.take j).length=j:=by rw[List.length_take];omega
     go_roundw
     case rel =>
      have hnew:∀b,Sl.blk ⟨na2,nc2⟩=some b->wi.heap.size<=b:=by
       intro b e;rcases hB7 with e2 | ⟨_,e2⟩
       ·rw[e2]at e;unfold Sl.blk at e;simp at e
       ·rw[e2]at e;cases e;exact hSa.size
      have hp:=(hLL.ay ((hSa.trans hS7).trans hS8)).push (xs:=row) (r:=⟨na2,nc2⟩) (w':=w9) (s':=⟨sa',sc'⟩) (hR7.ay hS8)
       (fun b e hb=>by have:=hnew b e;have:=(hLL.blk hb).2;omega) (by rw[htl];simpa[Sl.v] using hR9) hF9 hB9
      rw[htl]at hp;refine⟨j+1,sa',sc',CY rs j ⟨na2,nc2⟩,by omega,by go_num,by go_num, ?_, ?_⟩
      ·rw[List.take_add_one,hrow];exact hp
      ·exact hF9.aI OM (fun i hi e=>by have:=(hLL.blk (.inl e)).1;omega)
     case measure=>simp[intOf];omega
    ·obtain rfl:j=nd.last.length:=by omega
     rw[List.take_length]at hLL;obtain⟨na3,nc3,hL1⟩:∃na nc,L (1,0,0)=⟨na,nc⟩:=⟨_,_,rfl⟩;have mX:(d.ah.take k).length=k:=by rw[List.length_take];omega
     have hMi:=hM.ay (hS5.trans hSi);have b1:wi.cell? ⟨w3.heap.size,1,none⟩=some (.slice na3 k nc3):=by have:=hMi.box.c1;rw[hL1]at this;dsimp only at this;rw[mX]at this;exact this
     have hpi:=hMi.box.lt
     have hRn:Row wi w1.heap.size 4 ⟨na3,nc3⟩ k (dX ⟨d.au,d.ah.take k,[]⟩ L (1,0,0)):=by
      have:Row wi w1.heap.size 4 (L (1,0,0)) (d.ah.take k).length (dX ⟨d.au,d.ah.take k,[]⟩ L (1,0,0)):=hMi.own.row (1,0,0) ⟨rfl,rfl⟩;rw[hL1,mX]at this;exact this
     obtain⟨S0,hS0⟩:∃S0:World->Prop,∀w',S0 w'↔(w'.cell? ⟨w3.heap.size,1,none⟩=some (.slice na3 k nc3)/\w'.cell? ⟨wo.heap.size,0,none⟩=some (.int .i64 nd.aK)/\w'.cell? ⟨wo.heap.size,2,none⟩=some (.slice ha nd.held.length hc)/\w'.cell? ⟨wo.heap.size,3,none⟩=some (.slice ta nd.aG.length tc)):=⟨_,fun _=>Iff.rfl⟩;have c1:∀x:aA S0,x.w.cell? ⟨w3.heap.size,1,none⟩=some (.slice na3 k nc3):=fun x=>((hS0 _).1 x.h).1;have c2:∀x:aA S0,x.w.cell? ⟨wo.heap.size,0,none⟩=some (.int .i64 nd.aK):=fun x=>((hS0 _).1 x.h).2.1;have c3:∀x:aA S0,x.w.cell? ⟨wo.heap.size,2,none⟩=some (.slice ha nd.held.length hc):=fun x=>((hS0 _).1 x.h).2.2.1;have c4:∀x:aA S0,x.w.cell? ⟨wo.heap.size,3,none⟩=some (.slice ta nd.aG.length tc):=fun x=>((hS0 _).1 x.h).2.2.2;have KS:Hid (∀y,ak wi y->S0 y):=fun y hy=>(hS0 y).2 ⟨(hy.av hpi _).trans b1,(NB.out _ (hSi.trans hy)).1,(NB.out _ (hSi.trans hy)).2.2.1,(NB.out _ (hSi.trans hy)).2.2.2⟩;obtain⟨W0,hW0⟩:∃y,wi.drew=y:=⟨_,rfl⟩;have hs0:=aY hW0;have aC:=KS.out W0 hs0;have hne:Nonempty (aA S0):=⟨⟨_,aC⟩⟩;clear e0 e2 e3
     go_wp2_with fail
     refine uq (fun w'=>∃x:aA S0,w'=x.w) (by kernel_rfl) ?_;rw[hW0];clear hW0 f1 b1;refine tL 0 rfl (aj aC) ?_;go_big_quiet_op;refine tL 1 rfl (aj aC) ?_;go_big_quiet_op;refine tL 2 rfl (aj aC) ?_;go_big_quiet_op;refine tL 3 rfl (aj aC) ?_;go_big_quiet_op;refine tL 4 rfl (aj aC) ?_;go_big_quiet_op;refine tL 6 rfl (aj aC) ?_;go_big_quiet_op;refine tL 7 rfl (aj aC) ?_;go_big_quiet_op;refine tL 10 rfl (aj aC) ?_;go_big_quiet_op;refine tL 11 rfl (aj aC) ?_;go_big_quiet_op;refine Qw 5 9 rfl rfl (by kernel_rfl) ?_ ?_
     ·skip
      intro K hK;obtain⟨X1,hX1⟩:∃y,W0.alloc (.cells #[] 95)=y:=⟨_,rfl⟩;have Vn:=aF hX1;have hE1:Row X1 w5.heap.size 5 ⟨some ⟨W0.heap.size,0,none⟩,0⟩ 0 []:=by rw[<-hX1];exact Row.empty W0 _ 5 _
      have hs1:=hs0.trans Vn;go_simp;refine hK _ _ (fun _ _=>aj (KS.out _ hs1)) ?_;clear hK K hX1;refine Qw 8 9 rfl rfl (by kernel_rfl) ?_ ?_
      ·skip
       intro K hK;refine fU jo (by rfl) _ _ 62 (by rfl) (by rfl) hE1 (by rfl) (jq (c:=hc) (hH.ay (qC.trans hs1))) (by omega) (zQ5 hSi.size hs1.size) ?_;intro A2 C2 X2 hR2 hF2 hB2;simp only[Nat.zero_add,List.nil_append]at hR2;have Vo:ak X1 X2:=hF2.ay (fun i _ e=>by unfold Sl.blk at e;simp at e);have hs2:=hs1.trans Vo
       have hb2:∀b,Sl.blk ⟨A2,C2⟩=some b->X1.heap.size=b:=by
        intro b e;rcases hB2 with e2 | ⟨_,e2⟩
        ·rw[e2]at e;unfold Sl.blk at e;simp at e
        ·rw[e2]at e;cases e;rfl
       refine hK _ _ (fun _ _=>aj (KS.out _ hs2)) ?_;clear hK K;simp only[Act.put,zQ7,zQ8,zQ9,Nat.zero_add];refine kY 9 rfl (by kernel_rfl) ?_;intro K hK;obtain⟨X3,hX3⟩:∃y,X2.alloc (.cells #[] 95)=y:=⟨_,rfl⟩;have Rs:=aF hX3;have hE3:Row X3 w5.heap.size 5 ⟨some ⟨X2.heap.size,0,none⟩,0⟩ 0 []:=by rw[<-hX3];exact Row.empty X2 _ 5 _
       have hs3:=hs2.trans Rs;go_simp;refine hK _ _ (fun _ _=>aj (KS.out _ hs3)) ?_;clear hK K hX3;refine kY 12 rfl (by kernel_rfl) ?_;intro K hK;refine fU jo (by rfl) _ _ 62 (by rfl) (by rfl) hE3 (by rfl) (jq (c:=tc) (hT.ay (qC.trans hs3))) (by omega) (zQ5 hSi.size hs3.size) ?_;intro A4 C4 X4 hR4 hF4 hB4;simp only[Nat.zero_add,List.nil_append]at hR4;have Tv:ak X3 X4:=hF4.ay (fun i _ e=>by unfold Sl.blk at e;simp at e);have hs4:=hs3.trans Tv
       have hb4:∀b,Sl.blk ⟨A4,C4⟩=some b->X3.heap.size=b:=by
        intro b e;rcases hB4 with e2 | ⟨_,e2⟩
        ·rw[e2]at e;unfold Sl.blk at e;simp at e
        ·rw[e2]at e;cases e;rfl
       refine hK _ _ (fun _ _=>aj (KS.out _ hs4)) ?_;clear hK K;simp only[Act.put,zQ7,zQ8,zQ9,Nat.zero_add]
       -- leaf
       obtain⟨W,rfl⟩:∃W,W=X4:=⟨_,rfl⟩;have hHR:Row W w5.heap.size 5 ⟨A2,C2⟩ nd.held.length (flat nd.held):=((hR2.ay Rs).ay Tv);have hTR:Row W w5.heap.size 5 ⟨A4,C4⟩ nd.aG.length (flat nd.aG):=hR4;have hSW:ak wi W:=hs4;have hDh:∀b,Sl.blk ⟨A2,C2⟩=some b->wi.heap.size<=b:=fun b e=>by have:=hb2 b e;have:=hs1.size;omega
       have hDt:∀b,Sl.blk ⟨A4,C4⟩=some b->wi.heap.size<=b:=fun b e=>by have:=hb4 b e;have:=hs3.size;omega
       have hDD:∀b,Sl.blk ⟨A2,C2⟩=some b->Sl.blk ⟨A4,C4⟩≠some b:=fun b e1 e2=>by
        have f1:=hb2 b e1;have f2:=hb4 b e2;have f3:X1.heap.size < X3.heap.size:=zQ4 (by have:=(hR2.gW e1).2.2.1;omega) (((ak.refl X2).trans Rs)).size;omega
       obtain⟨hA,hC,hAe⟩:∃a c,A2=a/\C2=c:=⟨_,_,rfl,rfl⟩;obtain⟨tA,tC,tAe⟩:∃a c,A4=a/\C4=c:=⟨_,_,rfl,rfl⟩;rw[hAe.1,hAe.2]at hHR hDh hDD;rw[tAe.1,tAe.2]at hTR hDt hDD;simp only[hAe.1,hAe.2,tAe.1,tAe.2];clear hAe tAe;have OO:=KS.out _ hSW;refine tL 13 rfl (aj OO) ?_;go_big_quiet_op;refine kY 14 rfl (by kernel_rfl) ?_;intro K hK;obtain⟨V,hV⟩:∃y,W.alloc (.cells #[.int .i64 nd.aK,.slice sa nd.last.length sc,.slice hA nd.held.length hC,.slice tA nd.aG.length tC] 64)=y:=⟨_,rfl⟩;have hSV:=aF hV
       have hsrc:=iy (size:=4) (T:=64) (w:=W) ny.und [.int .i64 nd.aK,.slice sa nd.last.length sc,.slice hA nd.held.length hC,.slice tA nd.aG.length tC] rfl (fun u hu=>by simp at hu;rcases hu with rfl | rfl | rfl | rfl <;> rfl) 1
       rw[show(W.alloc (.cells [Value.int .i64 nd.aK,.slice sa nd.last.length sc,.slice hA nd.held.length hC,.slice tA nd.aG.length tC].toArray 64))=V from hV]at hsrc;have kI:=hSW.trans hSV;go_simp;refine hK _ _ (fun _ _=>aj (KS.out _ kI)) ?_;clear hK K hV;refine kY 15 rfl (by kernel_rfl) ?_;intro K hK;refine fU ny (by rfl) _ _ 28 (by rfl) (by rfl) (hRn.ay kI) (by rfl) hsrc (by omega) (zQ5 qC.size kI.size) ?_;intro na' nc' Y hRY hFY hBY;have hbY:=(hMi.box.ay kI).fr hFY (fun e=>hM.off ⟨(1,0,0),⟨rfl,rfl⟩,by rw[hL1];exact e⟩);have q1:=hbY.c1;have q2:=hbY.z1
       have OP:oo wo.heap.size V nd ⟨sa,sc⟩ rs ⟨hA,hC⟩ ⟨tA,tC⟩ :=
        ⟨((hLL.ay hSW).ay hSV).mono (Nat.le_of_lt hl5),(hHR.ay hSV).mono (Nat.le_of_lt hl5),(hTR.ay hSV).mono (Nat.le_of_lt hl5),fun b e=>⟨fun hb=>by have:=hDh b e;have:=(hLL.blk hb).2;omega,hDD b e⟩,fun b e hb=>by have:=hDt b e;have:=(hLL.blk hb).2;omega⟩
       have hMY:=hM.addNode (a':=na') (c':=nc') (w':=Y) ((hS5.trans hSi).trans kI) OP hSr.size sN (by rw[mX];omega) (by rw[mX];exact hRY) (by rw[hL1];exact hFY) (by rw[hL1];exact hBY);rw[mX]at hMY
       have hSY:ak w1 (Y.setCell ⟨w3.heap.size,1,none⟩ (.slice na' (k+1) nc')):=by
        refine Fr.aI (B:=fun i=>¬ i < w1.heap.size) ((hFY.mono (fun i _ e=>?_)).setCell _ _ ?_) (qC.trans kI) (fun i hi h=>h hi)
        ·have:=(hM.own.blk ⟨(1,0,0),⟨rfl,rfl⟩,by rw[hL1];exact e⟩).1;omega
        ·intro _;show ¬ w3.heap.size < _;omega
       have hlV:wo.heap.size < V.heap.size:=by have:=hSi.size;have:=kI.size;omega
       have hnB:¬ Sl.blk ⟨na3,nc3⟩=some wo.heap.size:=fun e=>by have:=(hM.own.blk ⟨(1,0,0),⟨rfl,rfl⟩,by rw[hL1];exact e⟩).2;omega
       have Ih:S0 Y:=(hS0 _).2 ⟨by have:=hbY.c1;rw[hL1]at this;rw[<-mX];exact this,(hFY.cell (p:=⟨wo.heap.size,0,none⟩) hlV hnB).trans (NB.out _ (hSi.trans kI)).1,(hFY.cell (p:=⟨wo.heap.size,2,none⟩) hlV hnB).trans (NB.out _ (hSi.trans kI)).2.2.1,(hFY.cell (p:=⟨wo.heap.size,3,none⟩) hlV hnB).trans (NB.out _ (hSi.trans kI)).2.2.2⟩;refine hK _ _ (fun _ _=>aj Ih) ?_;clear hK K;simp only[Act.put,zQ7,zQ8,zQ9];refine tL 16 rfl (aj Ih) ?_;go_big_quiet_op;refine kY 17 rfl (by kernel_rfl) ?_;intro K hK;go_simp;refine hK _ _ (fun h=>absurd h (by decide +kernel)) ?_;clear hK K;refine vP (by kernel_rfl) ?_
       go_wp2
       refine⟨⟨k+1,by omega,by go_num,⟨dL L k ⟨na',nc'⟩ ⟨sa,sc⟩ rs ⟨hA,hC⟩ ⟨tA,tC⟩, ?_⟩,hSY⟩,by simp[intOf];omega⟩;rw[List.take_add_one,hnd];exact hMY
      ·skip
       intro K hK;obtain⟨X5,hX5⟩:∃y,X1.alloc (.cells #[] 95)=y:=⟨_,rfl⟩;have Tw:=aF hX5;have hE5:Row X5 w5.heap.size 5 ⟨some ⟨X1.heap.size,0,none⟩,0⟩ 0 []:=by rw[<-hX5];exact Row.empty X1 _ 5 _
       have hs5:=hs1.trans Tw;go_simp;refine hK _ _ (fun _ _=>aj (KS.out _ hs5)) ?_;clear hK K hX5;refine kY 8 rfl (by kernel_rfl) ?_;intro K hK;refine fU jo (by rfl) _ _ 62 (by rfl) (by rfl) (hE1.ay Tw) (by rfl) (jq (c:=hc) (hH.ay (qC.trans hs5))) (by omega) (zQ5 hSi.size hs5.size) ?_;intro A6 C6 X6 hR6 hF6 hB6;simp only[Nat.zero_add,List.nil_append]at hR6;have Tx:ak X5 X6:=hF6.ay (fun i _ e=>by unfold Sl.blk at e;simp at e);have hs6:=hs5.trans Tx
       have hb6:∀b,Sl.blk ⟨A6,C6⟩=some b->X5.heap.size=b:=by
        intro b e;rcases hB6 with e2 | ⟨_,e2⟩
        ·rw[e2]at e;unfold Sl.blk at e;simp at e
        ·rw[e2]at e;cases e;rfl
       refine hK _ _ (fun _ _=>aj (KS.out _ hs6)) ?_;clear hK K;simp only[Act.put,zQ7,zQ8,zQ9,Nat.zero_add];refine kY 12 rfl (by kernel_rfl) ?_;intro K hK;refine fU jo (by rfl) _ _ 62 (by rfl) (by rfl) (hE5.ay Tx) (by rfl) (jq (c:=tc) (hT.ay (qC.trans hs6))) (by omega) (zQ5 hSi.size hs6.size) ?_;intro A7 C7 X7 hR7 hF7 hB7;simp only[Nat.zero_add,List.nil_append]at hR7;have Tz:ak X6 X7:=hF7.ay (fun i _ e=>by unfold Sl.blk at e;simp at e);have hs7:=hs6.trans Tz
       have hb7:∀b,Sl.blk ⟨A7,C7⟩=some b->X6.heap.size=b:=by
        intro b e;rcases hB7 with e2 | ⟨_,e2⟩
        ·rw[e2]at e;unfold Sl.blk at e;simp at e
        ·rw[e2]at e;cases e;rfl
       refine hK _ _ (fun _ _=>aj (KS.out _ hs7)) ?_;clear hK K;simp only[Act.put,zQ7,zQ8,zQ9,Nat.zero_add]
       -- leaf
       obtain⟨W,rfl⟩:∃W,W=X7:=⟨_,rfl⟩;have hHR:Row W w5.heap.size 5 ⟨A6,C6⟩ nd.held.length (flat nd.held):=(hR6.ay Tz);have hTR:Row W w5.heap.size 5 ⟨A7,C7⟩ nd.aG.length (flat nd.aG):=hR7;have hSW:ak wi W:=hs7;have hDh:∀b,Sl.blk ⟨A6,C6⟩=some b->wi.heap.size<=b:=fun b e=>by have:=hb6 b e;have:=hs5.size;omega
       have hDt:∀b,Sl.blk ⟨A7,C7⟩=some b->wi.heap.size<=b:=fun b e=>by have:=hb7 b e;have:=hs6.size;omega
       have hDD:∀b,Sl.blk ⟨A6,C6⟩=some b->Sl.blk ⟨A7,C7⟩≠some b:=fun b e1 e2=>by
        have f1:=hb6 b e1;have f2:=hb7 b e2;have f3:X5.heap.size < X6.heap.size:=zQ4 (by have:=(hR6.gW e1).2.2.1;omega) ((ak.refl X6)).size;omega
       obtain⟨hA,hC,hAe⟩:∃a c,A6=a/\C6=c:=⟨_,_,rfl,rfl⟩;obtain⟨tA,tC,tAe⟩:∃a c,A7=a/\C7=c:=⟨_,_,rfl,rfl⟩;rw[hAe.1,hAe.2]at hHR hDh hDD;rw[tAe.1,tAe.2]at hTR hDt hDD;simp only[hAe.1,hAe.2,tAe.1,tAe.2];clear hAe tAe;have OO:=KS.out _ hSW;refine tL 13 rfl (aj OO) ?_;go_big_quiet_op;refine kY 14 rfl (by kernel_rfl) ?_;intro K hK;obtain⟨V,hV⟩:∃y,W.alloc (.cells #[.int .i64 nd.aK,.slice sa nd.last.length sc,.slice hA nd.held.length hC,.slice tA nd.aG.length tC] 64)=y:=⟨_,rfl⟩;have hSV:=aF hV
       have hsrc:=iy (size:=4) (T:=64) (w:=W) ny.und [.int .i64 nd.aK,.slice sa nd.last.length sc,.slice hA nd.held.length hC,.slice tA nd.aG.length tC] rfl (fun u hu=>by simp at hu;rcases hu with rfl | rfl | rfl | rfl <;> rfl) 1
       rw[show(W.alloc (.cells [Value.int .i64 nd.aK,.slice sa nd.last.length sc,.slice hA nd.held.length hC,.slice tA nd.aG.length tC].toArray 64))=V from hV]at hsrc;have kI:=hSW.trans hSV;go_simp;refine hK _ _ (fun _ _=>aj (KS.out _ kI)) ?_;clear hK K hV;refine kY 15 rfl (by kernel_rfl) ?_;intro K hK;refine fU ny (by rfl) _ _ 28 (by rfl) (by rfl) (hRn.ay kI) (by rfl) hsrc (by omega) (zQ5 qC.size kI.size) ?_;intro na' nc' Y hRY hFY hBY;have hbY:=(hMi.box.ay kI).fr hFY (fun e=>hM.off ⟨(1,0,0),⟨rfl,rfl⟩,by rw[hL1];exact e⟩);have q1:=hbY.c1;have q2:=hbY.z1
       have OP:oo wo.heap.size V nd ⟨sa,sc⟩ rs ⟨hA,hC⟩ ⟨tA,tC⟩ :=
        ⟨((hLL.ay hSW).ay hSV).mono (Nat.le_of_lt hl5),(hHR.ay hSV).mono (Nat.le_of_lt hl5),(hTR.ay hSV).mono (Nat.le_of_lt hl5),fun b e=>⟨fun hb=>by have:=hDh b e;have:=(hLL.blk hb).2;omega,hDD b e⟩,fun b e hb=>by have:=hDt b e;have:=(hLL.blk hb).2;omega⟩
       have hMY:=hM.addNode (a':=na') (c':=nc') (w':=Y) ((hS5.trans hSi).trans kI) OP hSr.size sN (by rw[mX];omega) (by rw[mX];exact hRY) (by rw[hL1];exact hFY) (by rw[hL1];exact hBY);rw[mX]at hMY
       have hSY:ak w1 (Y.setCell ⟨w3.heap.size,1,none⟩ (.slice na' (k+1) nc')):=by
        refine Fr.aI (B:=fun i=>¬ i < w1.heap.size) ((hFY.mono (fun i _ e=>?_)).setCell _ _ ?_) (qC.trans kI) (fun i hi h=>h hi)
        ·have:=(hM.own.blk ⟨(1,0,0),⟨rfl,rfl⟩,by rw[hL1];exact e⟩).1;omega
        ·intro _;show ¬ w3.heap.size < _;omega
       have hlV:wo.heap.size < V.heap.size:=by have:=hSi.size;have:=kI.size;omega
       have hnB:¬ Sl.blk ⟨na3,nc3⟩=some wo.heap.size:=fun e=>by have:=(hM.own.blk ⟨(1,0,0),⟨rfl,rfl⟩,by rw[hL1];exact e⟩).2;omega
       have Ih:S0 Y:=(hS0 _).2 ⟨by have:=hbY.c1;rw[hL1]at this;rw[<-mX];exact this,(hFY.cell (p:=⟨wo.heap.size,0,none⟩) hlV hnB).trans (NB.out _ (hSi.trans kI)).1,(hFY.cell (p:=⟨wo.heap.size,2,none⟩) hlV hnB).trans (NB.out _ (hSi.trans kI)).2.2.1,(hFY.cell (p:=⟨wo.heap.size,3,none⟩) hlV hnB).trans (NB.out _ (hSi.trans kI)).2.2.2⟩;refine hK _ _ (fun _ _=>aj Ih) ?_;clear hK K;simp only[Act.put,zQ7,zQ8,zQ9];refine tL 16 rfl (aj Ih) ?_;go_big_quiet_op;refine kY 17 rfl (by kernel_rfl) ?_;intro K hK;go_simp;refine hK _ _ (fun h=>absurd h (by decide +kernel)) ?_;clear hK K;refine vP (by kernel_rfl) ?_
       go_wp2
       refine⟨⟨k+1,by omega,by go_num,⟨dL L k ⟨na',nc'⟩ ⟨sa,sc⟩ rs ⟨hA,hC⟩ ⟨tA,tC⟩, ?_⟩,hSY⟩,by simp[intOf];omega⟩;rw[List.take_add_one,hnd];exact hMY
     ·skip
      intro K hK;obtain⟨X8,hX8⟩:∃y,W0.alloc (.cells #[] 95)=y:=⟨_,rfl⟩;have Vp:=aF hX8;have hE8:Row X8 w5.heap.size 5 ⟨some ⟨W0.heap.size,0,none⟩,0⟩ 0 []:=by rw[<-hX8];exact Row.empty W0 _ 5 _
      have hs8:=hs0.trans Vp;go_simp;refine hK _ _ (fun _ _=>aj (KS.out _ hs8)) ?_;clear hK K hX8;refine kY 5 rfl (by kernel_rfl) ?_;intro K hK;obtain⟨X9,hX9⟩:∃y,X8.alloc (.cells #[] 95)=y:=⟨_,rfl⟩;have TA:=aF hX9;have hE9:Row X9 w5.heap.size 5 ⟨some ⟨X8.heap.size,0,none⟩,0⟩ 0 []:=by rw[<-hX9];exact Row.empty X8 _ 5 _
      have hs9:=hs8.trans TA;go_simp;refine hK _ _ (fun _ _=>aj (KS.out _ hs9)) ?_;clear hK K hX9;refine kY 8 rfl (by kernel_rfl) ?_;intro K hK;refine fU jo (by rfl) _ _ 62 (by rfl) (by rfl) hE9 (by rfl) (jq (c:=hc) (hH.ay (qC.trans hs9))) (by omega) (zQ5 hSi.size hs9.size) ?_;intro A10 C10 X10 EG AO JA;simp only[Nat.zero_add,List.nil_append]at EG;have Qx:ak X9 X10:=AO.ay (fun i _ e=>by unfold Sl.blk at e;simp at e);have OQ:=hs9.trans Qx
      have tu:∀b,Sl.blk ⟨A10,C10⟩=some b->X9.heap.size=b:=by
       intro b e;rcases JA with e2 | ⟨_,e2⟩
       ·rw[e2]at e;unfold Sl.blk at e;simp at e
       ·rw[e2]at e;cases e;rfl
      refine hK _ _ (fun _ _=>aj (KS.out _ OQ)) ?_;clear hK K;simp only[Act.put,zQ7,zQ8,zQ9,Nat.zero_add];refine kY 12 rfl (by kernel_rfl) ?_;intro K hK;refine fU jo (by rfl) _ _ 62 (by rfl) (by rfl) ((hE8.ay TA).ay Qx) (by rfl) (jq (c:=tc) (hT.ay (qC.trans OQ))) (by omega) (zQ5 hSi.size OQ.size) ?_;intro A11 C11 X11 TB Vq Vr;simp only[Nat.zero_add,List.nil_append]at TB;have Qy:ak X10 X11:=Vq.ay (fun i _ e=>by unfold Sl.blk at e;simp at e);have TD:=OQ.trans Qy
      have TF:∀b,Sl.blk ⟨A11,C11⟩=some b->X10.heap.size=b:=by
       intro b e;rcases Vr with e2 | ⟨_,e2⟩
       ·rw[e2]at e;unfold Sl.blk at e;simp at e
       ·rw[e2]at e;cases e;rfl
      refine hK _ _ (fun _ _=>aj (KS.out _ TD)) ?_;clear hK K;simp only[Act.put,zQ7,zQ8,zQ9,Nat.zero_add]
      -- leaf
      obtain⟨W,rfl⟩:∃W,W=X11:=⟨_,rfl⟩;have hHR:Row W w5.heap.size 5 ⟨A10,C10⟩ nd.held.length (flat nd.held):=(EG.ay Qy);have hTR:Row W w5.heap.size 5 ⟨A11,C11⟩ nd.aG.length (flat nd.aG):=TB;have hSW:ak wi W:=TD;have hDh:∀b,Sl.blk ⟨A10,C10⟩=some b->wi.heap.size<=b:=fun b e=>by have:=tu b e;have:=hs9.size;omega
      have hDt:∀b,Sl.blk ⟨A11,C11⟩=some b->wi.heap.size<=b:=fun b e=>by have:=TF b e;have:=OQ.size;omega
      have hDD:∀b,Sl.blk ⟨A10,C10⟩=some b->Sl.blk ⟨A11,C11⟩≠some b:=fun b e1 e2=>by
       have f1:=tu b e1;have f2:=TF b e2;have f3:X9.heap.size < X10.heap.size:=zQ4 (by have:=(EG.gW e1).2.2.1;omega) ((ak.refl X10)).size;omega
      obtain⟨hA,hC,hAe⟩:∃a c,A10=a/\C10=c:=⟨_,_,rfl,rfl⟩;obtain⟨tA,tC,tAe⟩:∃a c,A11=a/\C11=c:=⟨_,_,rfl,rfl⟩;rw[hAe.1,hAe.2]at hHR hDh hDD;rw[tAe.1,tAe.2]at hTR hDt hDD;simp only[hAe.1,hAe.2,tAe.1,tAe.2];clear hAe tAe;have OO:=KS.out _ hSW;refine tL 13 rfl (aj OO) ?_;go_big_quiet_op;refine kY 14 rfl (by kernel_rfl) ?_;intro K hK;obtain⟨V,hV⟩:∃y,W.alloc (.cells #[.int .i64 nd.aK,.slice sa nd.last.length sc,.slice hA nd.held.length hC,.slice tA nd.aG.length tC] 64)=y:=⟨_,rfl⟩;have hSV:=aF hV
      have hsrc:=iy (size:=4) (T:=64) (w:=W) ny.und [.int .i64 nd.aK,.slice sa nd.last.length sc,.slice hA nd.held.length hC,.slice tA nd.aG.length tC] rfl (fun u hu=>by simp at hu;rcases hu with rfl | rfl | rfl | rfl <;> rfl) 1
      rw[show(W.alloc (.cells [Value.int .i64 nd.aK,.slice sa nd.last.length sc,.slice hA nd.held.length hC,.slice tA nd.aG.length tC].toArray 64))=V from hV]at hsrc;have kI:=hSW.trans hSV;go_simp;refine hK _ _ (fun _ _=>aj (KS.out _ kI)) ?_;clear hK K hV;refine kY 15 rfl (by kernel_rfl) ?_;intro K hK;refine fU ny (by rfl) _ _ 28 (by rfl) (by rfl) (hRn.ay kI) (by rfl) hsrc (by omega) (zQ5 qC.size kI.size) ?_;intro na' nc' Y hRY hFY hBY;have hbY:=(hMi.box.ay kI).fr hFY (fun e=>hM.off ⟨(1,0,0),⟨rfl,rfl⟩,by rw[hL1];exact e⟩);have q1:=hbY.c1;have q2:=hbY.z1
      have OP:oo wo.heap.size V nd ⟨sa,sc⟩ rs ⟨hA,hC⟩ ⟨tA,tC⟩ :=
       ⟨((hLL.ay hSW).ay hSV).mono (Nat.le_of_lt hl5),(hHR.ay hSV).mono (Nat.le_of_lt hl5),(hTR.ay hSV).mono (Nat.le_of_lt hl5),fun b e=>⟨fun hb=>by have:=hDh b e;have:=(hLL.blk hb).2;omega,hDD b e⟩,fun b e hb=>by have:=hDt b e;have:=(hLL.blk hb).2;omega⟩
      have hMY:=hM.addNode (a':=na') (c':=nc') (w':=Y) ((hS5.trans hSi).trans kI) OP hSr.size sN (by rw[mX];omega) (by rw[mX];exact hRY) (by rw[hL1];exact hFY) (by rw[hL1];exact hBY);rw[mX]at hMY
      have hSY:ak w1 (Y.setCell ⟨w3.heap.size,1,none⟩ (.slice na' (k+1) nc')):=by
       refine Fr.aI (B:=fun i=>¬ i < w1.heap.size) ((hFY.mono (fun i _ e=>?_)).setCell _ _ ?_) (qC.trans kI) (fun i hi h=>h hi)
       ·have:=(hM.own.blk ⟨(1,0,0),⟨rfl,rfl⟩,by rw[hL1];exact e⟩).1;omega
       ·intro _;show ¬ w3.heap.size < _;omega
      have hlV:wo.heap.size < V.heap.size:=by have:=hSi.size;have:=kI.size;omega
      have hnB:¬ Sl.blk ⟨na3,nc3⟩=some wo.heap.size:=fun e=>by have:=(hM.own.blk ⟨(1,0,0),⟨rfl,rfl⟩,by rw[hL1];exact e⟩).2;omega
      have Ih:S0 Y:=(hS0 _).2 ⟨by have:=hbY.c1;rw[hL1]at this;rw[<-mX];exact this,(hFY.cell (p:=⟨wo.heap.size,0,none⟩) hlV hnB).trans (NB.out _ (hSi.trans kI)).1,(hFY.cell (p:=⟨wo.heap.size,2,none⟩) hlV hnB).trans (NB.out _ (hSi.trans kI)).2.2.1,(hFY.cell (p:=⟨wo.heap.size,3,none⟩) hlV hnB).trans (NB.out _ (hSi.trans kI)).2.2.2⟩;refine hK _ _ (fun _ _=>aj Ih) ?_;clear hK K;simp only[Act.put,zQ7,zQ8,zQ9];refine tL 16 rfl (aj Ih) ?_;go_big_quiet_op;refine kY 17 rfl (by kernel_rfl) ?_;intro K hK;go_simp;refine hK _ _ (fun h=>absurd h (by decide +kernel)) ?_;clear hK K;refine vP (by kernel_rfl) ?_
      go_wp2
      refine⟨⟨k+1,by omega,by go_num,⟨dL L k ⟨na',nc'⟩ ⟨sa,sc⟩ rs ⟨hA,hC⟩ ⟨tA,tC⟩, ?_⟩,hSY⟩,by simp[intOf];omega⟩;rw[List.take_add_one,hnd];exact hMY
  ·obtain rfl:k=d.ah.length:=by omega
   rw[List.take_length]at hM
   go_wp2
   go_loopw [8] (fun i wr=>∃k:Nat,k<=d.aB.length/\i=.int .i64 k/\(∃L,dF w1.heap.size wr w3.heap.size ⟨d.au,d.ah,d.aB.take k⟩ L)/\ak w1 wr) (fun i _=>d.aB.length - (intOf i).toNat)
   case atStart=>exact⟨0,Nat.zero_le _,rfl,⟨_,by simpa using hM⟩,hSr⟩
   case round =>
    clear p1 p2 hPr hM hSr;obtain⟨wq,rfl⟩:∃wq,wq=wr:=⟨_,rfl⟩;obtain⟨k,hk,rfl,⟨L,hM⟩,hSr⟩:=hrel;have hPr:=hP1.ay hSr;have p2:=hPr.c2;dsimp only at p2;by_cases hlt:k < d.aB.length
    ·obtain⟨rw0,hrw⟩:∃r,d.aB[k]? = some r:=⟨_,zQ1 hlt⟩;obtain⟨bw,ow,rfl,hbw,hcw⟩:=hR1.cells (by omega);obtain⟨v1,k1,ra,rc,rfl,hrc,hRR⟩:=hcw k rw0 hrw;have j1:=(hSr.av hbw _).trans k1;have n1:(k:Int) < (d.aB.length:Int):=by omega
     have sR:rw0.length<=100:=by have:(rowAt d k).length<=100:=hs (7,k,0) ⟨hlt,rfl⟩;rw[dP hrw]at this;exact this
     have sW:∀(i:Nat) (r:List Mg),rw0[i]? = some r->r.length<=1000:=fun i r hr=>by
      have:(gF d k i).length<=100:=hs (8,k,i) ⟨hlt,by rw[dP hrw];exact(zQ2.1 hr).1⟩;rw[EI hrw hr]at this;omega
     clear hcw k1
     go_wp2
     go_loopw [9,10] (fun v i wi=>∃(j:Nat) (sa:Option Addr) (sc:Nat) (rs:Nat->Sl),j<=rw0.length/\i=.int .i64 j/\v=.slice sa j sc/\eU 5 flat wq.heap.size wi ⟨sa,sc⟩ rs (rw0.take j)/\ak wq wi) (fun _ i _=>rw0.length - (intOf i).toNat)
     case atStart=>exact⟨0,none,0,fun _=>⟨none,0⟩,Nat.zero_le _,rfl,rfl,eU.nil,ak.refl _⟩
     case round =>
      obtain⟨wi,rfl⟩:∃wi,wi=wr:=⟨_,rfl⟩;obtain⟨j,sa,sc,rs,hj,rfl,rfl,hLL,hSi⟩:=hrel;have qC:=hSr.trans hSi;have p3:=(hP1.ay qC).c2;dsimp only at p3;have j2:=(hSi.av (zQ4 hbw hSr.size) _).trans j1;by_cases hjl:j < rw0.length
      ·obtain⟨l,hl⟩:∃l,rw0[j]? = some l:=⟨_,zQ1 hjl⟩;obtain⟨bL,oL,rfl,hbL,hcL⟩:=hRR.cells (by omega);obtain⟨v4,k4,la,lc,rfl,hlc,hLo⟩:=hcL j l hl;have hll:=sW j l hl;obtain⟨wA,hwA⟩:∃wA,wi.alloc (.cells #[] 95)=wA:=⟨_,rfl⟩;have hSa:=aF hwA;have hRe:Row wA wq.heap.size 5 ⟨some ⟨wi.heap.size,0,none⟩,0⟩ 0 []:=by rw[<-hwA];exact Row.empty wi _ 5 _
       have hsr:=jq (c:=lc) (hLo.ay (qC.trans hSa));have htl:(rw0.take j).length=j:=by rw[List.length_take];omega
       have j1':(j:Int) < (rw0.length:Int):=by omega
       have hlo:=zQ5 hSi.size hSa.size;have htop:=hLL.top;rw[htl]at htop;have p4:=(hP1.ay (qC.trans hSa)).c2;dsimp only at p4;have k5:=((qC.trans hSa).av hbL _).trans k4;have j3:=((hSi.trans hSa).av (zQ4 hbw hSr.size) _).trans j1;clear hcL k4 htl
       go_wp2_with (first
        | (at_builtin;refine iK jo rfl _ _ 62 rfl rfl hRe rfl hsr ?_ hlo ?_;omega;intro na2 nc2 w7 hR7 hF7 hB7;simp only[Nat.zero_add,List.nil_append]at hR7;have hS7:ak wA w7:=hF7.ay (fun i _ e=>by unfold Sl.blk at e;simp at e);have hS8:ak w7 (w7.alloc (.cells #[.slice na2 l.length nc2] 62)):=(ak.refl w7).alloc _;have Rq:=iy (size:=1) (T:=62) (w:=w7) Oh.und [.slice na2 l.length nc2] rfl (fun u hu=>by simp at hu;subst hu;rfl) 1;have OM:=hSi.trans ((hSa.trans hS7).trans hS8))
        | (at_builtin;refine iK Oh rfl _ _ 65 rfl rfl (htop.ay ((hSa.trans hS7).trans hS8)) rfl Rq ?_ OM.size ?_;omega;intro sa' sc' w9 hR9 hF9 hB9))
       have htl:(rw0.take j).length=j:=by rw[List.length_take];omega
       go_roundw
       case rel =>
        have hnew:∀b,Sl.blk ⟨na2,nc2⟩=some b->wi.heap.size<=b:=by
         intro b e;rcases hB7 with e2 | ⟨_,e2⟩
         ·rw[e2]at e;unfold Sl.blk at e;simp at e
         ·rw[e2]at e;cases e;exact hSa.size
        have hp:=(hLL.ay ((hSa.trans hS7).trans hS8)).push (xs:=l) (r:=⟨na2,nc2⟩) (w':=w9) (s':=⟨sa',sc'⟩) (hR7.ay hS8)
         (fun b e hb=>by have:=hnew b e;have:=(hLL.blk hb).2;omega) (by rw[htl];simpa[Sl.v] using hR9) hF9 hB9
        rw[htl]at hp;refine⟨j+1,sa',sc',CY rs j ⟨na2,nc2⟩,by omega,by go_num,by go_num, ?_, ?_⟩
        ·rw[List.take_add_one,hl];exact hp
        ·exact hF9.aI OM (fun i hi e=>by have:=(hLL.blk (.inl e)).1;omega)
       case measure=>simp[intOf];omega
      ·obtain rfl:j=rw0.length:=by omega
       rw[List.take_length]at hLL;obtain⟨na3,nc3,hL1⟩:∃na nc,L (2,0,0)=⟨na,nc⟩:=⟨_,_,rfl⟩;have mX:(d.aB.take k).length=k:=by rw[List.length_take];omega
       have hMi:=hM.ay hSi;have b1:wi.cell? ⟨w3.heap.size,2,none⟩=some (.slice na3 k nc3):=by have:=hMi.box.c2;rw[hL1]at this;dsimp only at this;rw[mX]at this;exact this
       have hpi:=hMi.box.lt
       have hRn:Row wi w1.heap.size 1 ⟨na3,nc3⟩ k (dX ⟨d.au,d.ah,d.aB.take k⟩ L (2,0,0)):=by
        have:Row wi w1.heap.size 1 (L (2,0,0)) (d.aB.take k).length (dX ⟨d.au,d.ah,d.aB.take k⟩ L (2,0,0)):=hMi.own.row (2,0,0) ⟨rfl,rfl⟩;rw[hL1,mX]at this;exact this
       obtain⟨V,hV⟩:∃y,wi.alloc (.cells #[.slice sa rw0.length sc] 65)=y:=⟨_,rfl⟩;have hSV:=aF hV;have hsrc:=iy (size:=1) (T:=65) (w:=wi) pE.und [.slice sa rw0.length sc] rfl (fun u hu=>by simp at hu;subst hu;rfl) 1;rw[show(wi.alloc (.cells [Value.slice sa rw0.length sc].toArray 65))=V from hV]at hsrc
       go_wp2_with (at_builtin;refine iK pE rfl _ _ 29 rfl rfl (hRn.ay hSV) rfl hsrc ?_ (zQ5 qC.size hSV.size) ?_;omega;intro na' nc' Y hRY hFY hBY;have hbY:=(hMi.box.ay hSV).fr hFY (fun e=>hM.off ⟨(2,0,0),⟨rfl,rfl⟩,by rw[hL1];exact e⟩);have q1:=hbY.c2;have q2:=hbY.z2)
       have hMY:=hM.yR (a':=na') (c':=nc') (w':=Y) (x:=rw0) (hSi.trans hSV) (hLL.ay hSV) hSr.size ⟨by omega,sW⟩ (by rw[mX];omega) (by rw[mX];exact hRY) (by rw[hL1];exact hFY) (by rw[hL1];exact hBY);rw[mX]at hMY
       have hSY:ak w1 (Y.setCell ⟨w3.heap.size,2,none⟩ (.slice na' (k+1) nc')):=by
        refine Fr.aI (B:=fun i=>¬ i < w1.heap.size) ((hFY.mono (fun i _ e=>?_)).setCell _ _ ?_) (qC.trans hSV) (fun i hi h=>h hi)
        ·have:=(hM.own.blk ⟨(2,0,0),⟨rfl,rfl⟩,by rw[hL1];exact e⟩).1;omega
        ·intro _;show ¬ w3.heap.size < _;omega
       go_roundw
       case rel =>
        refine⟨k+1,by omega,by go_num,⟨kg L k ⟨na',nc'⟩ ⟨sa,sc⟩ rs, ?_⟩,hSY⟩;rw[List.take_add_one,hrw];exact hMY
       case measure=>simp[intOf];omega
    ·obtain rfl:k=d.aB.length:=by omega
     rw[List.take_length]at hM;obtain⟨lt,r0,r1,r2,r3,r4,r5⟩:=hNB.ay hSr;have b0:=hM.box.c0;have b1:=hM.box.c1;have b2:=hM.box.c2;obtain⟨hO,hSf⟩:=hM.own.result (w0:=w) (p:=wp.heap.size) hNB.lt hSp.size (hS1.trans hSr) hS1.size
     go_wp2
     refine bodyPost_ret (v:=bF L d) ?_ rfl ⟨L,rfl,hO,hSf⟩;simp[results,results85,go_sem,r0,r1,r2,bF]
end Go.Proofs.YtediempflagfkaaGreatDoor
