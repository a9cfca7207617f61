/- Lemmas. Lemmas. Lemmas. -/
import Derived.Test.YtediempflagfkaaGreatDoorDkPl3
import Derived.Test.YtediempflagfkaaGreatDoorDkP12
set_option linter.unusedVariables false
set_option linter.unusedSimpArgs false
set_option linter.unnecessarySimpa false
set_option maxHeartbeats 4000000
namespace Go.Proofs.YtediempflagfkaaGreatDoor
open _root_.Go.Proofs.Tryz hiding checked
set_option maxRecDepth 8000
open Go.RowKit Go.Shelf
open Pu
attribute [local go_sem] Oper.semAt_some
theorem yN{F:Fence}{n:Nat}{P:Program}{l:List Oper}{Q:Exit->Act->World->Prop}{fuel:Nat}{listed:Array Bool}{a:Act}{w:World}(i:Nat){oi:Oper}(hi:l[i]? = some oi)(hr:Region.ready .any l.toArray listed=[i])(hw:Region.wanted oi (yielded l.toArray a.tmps)=true)
  (h:∀K:Act->World->Prop,(∀a' w',wpAnyIn F n P .any l.toArray Q fuel (listed.setIfInBounds i true) a' w'->K a' w')->oi.wpIn F n P a w K Q):wpAnyIn F n P .any l.toArray Q (fuel+1) listed a w :=
 ⟨fun h0=>absurd (hr ▸ h0) (by simp),fun j hj=>by
  rw[hr,List.mem_singleton]at hj;subst hj;unfold wpOpIn;rw[show l.toArray[j]? = some oi by rw[List.getElem?_toArray];exact hi];dsimp only;rw[if_pos hw];exact h _ (fun _ _ x=>x)⟩
theorem NU{F:Fence}{n:Nat}{P:Program}{l:List Oper}{Q:Exit->Act->World->Prop}{fuel:Nat}{listed:Array Bool}{a:Act}{w:World}(i k:Nat){oi ok:Oper}(hi:l[i]? = some oi)(hk:l[k]? = some ok)(hr:Region.ready .any l.toArray listed=[i,k])(hw:Region.wanted oi (yielded l.toArray a.tmps)=true)(hw2:Region.wanted ok (yielded l.toArray a.tmps)=true)
  (h:∀K:Act->World->Prop,(∀a' w',wpAnyIn F n P .any l.toArray Q fuel (listed.setIfInBounds i true) a' w'->K a' w')->oi.wpIn F n P a w K Q)
  (h2:∀K:Act->World->Prop,(∀a' w',wpAnyIn F n P .any l.toArray Q fuel (listed.setIfInBounds k true) a' w'->K a' w')->ok.wpIn F n P a w K Q):wpAnyIn F n P .any l.toArray Q (fuel+1) listed a w :=
 ⟨fun h0=>absurd (hr ▸ h0) (by simp),fun j hj=>by
  rw[hr]at hj;simp only[List.mem_cons,List.not_mem_nil,or_false]at hj;unfold wpOpIn;rcases hj with rfl | rfl
  ·rw[show l.toArray[j]? = some oi by rw[List.getElem?_toArray];exact hi];dsimp only;rw[if_pos hw];exact h _ (fun _ _ x=>x)
  ·rw[show l.toArray[j]? = some ok by rw[List.getElem?_toArray];exact hk];dsimp only;rw[if_pos hw2];exact h2 _ (fun _ _ x=>x)⟩
theorem QO{F:Fence}{n:Nat}{P:Program}{ops:Array Oper}{Q:Exit->Act->World->Prop}{fuel:Nat}{listed:Array Bool}{a:Act}{w:World}(hr:Region.ready .any ops listed=[])(h:Q .normal a w):wpAnyIn F n P .any ops Q fuel listed a w :=
 match fuel with
 | 0=>⟨hr,h⟩
 | _+1=>⟨fun _=>h,by rw[hr];simp⟩
theorem Pw{F:Fence}{n:Nat}{P:Program}{l:List Oper}{Q:Exit->Act->World->Prop}{id:Nat}{a:Act}{w:World}(hm:P.follows .mixedOrders=true)
  (h:wpAnyIn F n P .any l.toArray Q l.length (List.replicate l.length false).toArray a w.drew):(Code.region id l.toArray true).wpIn F n P Q a w :=
 wpIn_region_any hm (by simpa using h)
set_option maxRecDepth 8000 in
theorem Px(ah:Int)(a:Option Addr)(len cap:Nat)(l:List Int)(ls:List (List UInt8))(hls:∀s∈ls,Ji s)(ht:(gX ls).length<=4096)(h80:ls.length<=80)(w:World)(hI:Ints w a len l)(hT:Tb w)(hE:dS ah l=0)(hs:jR (gX ls)=0) :
  Calls prog 4 #[.int .i64 ah,.slice a len cap,.string (bs (gX ls))] w fun e w'=>e=.returned (.tuple #[.string (bs (oQ (eG ah.toNat l) ls).2),.int .i64 0])/\ak w w':=by
 have hbg:=nZ ah a len cap l w hI;unfold tF at hbg;rw[if_pos hE]at hbg;obtain⟨d,hd⟩:∃y,eG ah.toNat l=y:=⟨_,rfl⟩
 have R:aL d:=by
  have h1:=jQ hE;rw[<-hd];exact(Dv (n:=ah.toNat) (l:=l) (by rw[show((ah.toNat:Nat):Int)=ah by omega];exact hE)).1.right
 rw[hd]at hbg ⊢;have hsc:=fun y=>Au (gX ls) (by omega) y;rw[hs]at hsc;obtain⟨T,hTd⟩:∃y,bs (gX ls)=y:=⟨_,rfl⟩;rw[hTd]at hsc ⊢;clear hE hI hs hd;refine iY func4 rfl ?_;simp only[ntmps4,List.size_toArray,List.length_cons,List.length_nil,Nat.reduceAdd,Nat.reduceSub,Array.replicate_succ,Array.replicate_zero,List.push_toArray,List.append_toArray,List.nil_append,List.cons_append];refine eY (dw ?_)
 go_wp2
 refine eY (dw ?_)
 go_wp2_with (go_at_call 7;refine hbg.mono ?_;rintro e W1 hR;obtain⟨L,rfl,hO,hS1⟩:=hR.out.2 d rfl;clear hR;simp only[bF];obtain⟨W2,hW2⟩:∃y,W1.alloc (.cells #[.slice none 0 0,.slice none 0 0,.slice none 0 0] 31)=y:=⟨_,rfl⟩;have hS2:ak W1 W2:=(by rw[<-hW2];exact(ak.refl W1).alloc _);have hBa:Bx3 W2 W1.heap.size (.slice none 0 0) (.slice none 0 0) (.slice none 0 0):=(by rw[<-hW2];exact Bx3.fresh W1 _);have hBb:=hBa.all (.slice (L (0,0,0)).a d.au.length (L (0,0,0)).cap) (.slice (L (1,0,0)).a d.ah.length (L (1,0,0)).cap) (.slice (L (2,0,0)).a d.aB.length (L (2,0,0)).cap);have hpf:=aS W2 W1.heap.size (.slice (L (0,0,0)).a d.au.length (L (0,0,0)).cap) (.slice (L (1,0,0)).a d.ah.length (L (1,0,0)).cap) (.slice (L (2,0,0)).a d.aB.length (L (2,0,0)).cap);unfold iB at hpf;obtain⟨W3,hW3⟩:∃y,(((W2.setCell ⟨W1.heap.size,0,none⟩ (.slice (L (0,0,0)).a d.au.length (L (0,0,0)).cap)).setCell ⟨W1.heap.size,1,none⟩ (.slice (L (1,0,0)).a d.ah.length (L (1,0,0)).cap)).setCell ⟨W1.heap.size,2,none⟩ (.slice (L (2,0,0)).a d.aB.length (L (2,0,0)).cap))=y:=⟨_,rfl⟩;rw[hW3]at hpf hBb;have hS3:ak W1 W3:=hpf.aI hS2 (fun i hi e=>(by omega));obtain⟨_,m0,m1,m2,k0,k1,k2⟩:=hBa)
 refine eY (dw ?_)
 go_wp2
 refine eY (dw ?_)
 go_wp2_with (go_at_call 8;refine(hsc _).mono ?_;rintro e w' ⟨rfl,hw⟩;obtain rfl:=hw.symm)
 clear m0 m1 m2 k0 k1 k2 hW2 hW3;obtain⟨W4,hW4⟩:∃y,W3.alloc (.cells #[.slice (L (0,0,0)).a d.au.length (L (0,0,0)).cap,.slice (L (1,0,0)).a d.ah.length (L (1,0,0)).cap,.slice (L (2,0,0)).a d.aB.length (L (2,0,0)).cap] 37)=y:=⟨_,rfl⟩;obtain⟨W5,hW5⟩:∃y,W4.alloc (.cells #[.pointer none] 35)=y:=⟨_,rfl⟩;have e0:W5.cell? ⟨W4.heap.size,0,none⟩=some (.pointer none):=by rw[<-hW5];simp[go_sem]
 have e1:W5.frozen? ⟨W4.heap.size,0,none⟩=false:=by rw[<-hW5];simp[go_sem]
 obtain⟨W6,hW6⟩:∃y,W5.setCell ⟨W4.heap.size,0,none⟩ (.pointer (some ⟨W3.heap.size,0,none⟩))=y:=⟨_,rfl⟩;obtain⟨W7,hW7⟩:∃y,W6.alloc (.cells #[.pointer none,.slice none 0 0] 41)=y:=⟨_,rfl⟩;obtain⟨W8,hW8⟩:∃y,W7.alloc (.cells #[.string T] 9)=y:=⟨_,rfl⟩;have q0:=hBb.c0;have q1:=hBb.c1;have q2:=hBb.c2;refine eY (dw ?_)
 go_wp2
 refine eY (dw ?_)
 go_wp2
 refine eY (eY (dw ?_))
 go_wp2_with (go_at_call 9;refine(LJ T W7).mono ?_;rintro e w' ⟨rfl,hw'⟩;rw[hW8]at hw';obtain rfl:=hw'.symm)
 refine uZ ?_;have hS4:=aF hW4;have hS5:=aF hW5;have hl4:W3.heap.size < W4.heap.size:=by rw[<-hW4];simp
 have hl5:W4.heap.size < W5.heap.size:=by rw[<-hW5];simp
 have hF6:Fr (fun i=>i=W4.heap.size) W5 W6:=by rw[<-hW6];exact(Fr.refl (fun i=>i=W4.heap.size) W5).setCell ⟨W4.heap.size,0,none⟩ _ (fun _=>rfl)
 have Ct:ak W4 W6:=hF6.aI hS5 (fun i hi e=>by omega);have hS7:=aF hW7;have hS8:=aF hW8;have hl6:W4.heap.size < W6.heap.size:=zQ4 hl5 hF6.size;have hl7:W6.heap.size < W7.heap.size:=by rw[<-hW7];simp
 have hl8:W7.heap.size < W8.heap.size:=by rw[<-hW8];simp
 have hl1:W1.heap.size<=W3.heap.size:=hS3.size
 have hz4:4<=w.heap.size:=by
  obtain⟨tp,p,h⟩:=hT.rng;unfold World.var? at h;rw[Kw]at h;simp only[Option.bind_some]at h;rcases Nat.lt_or_ge 3 w.heap.size with h1 | h1
  ·omega
  ·rw[Array.getElem?_eq_none h1]at h;cases h
 have Py:=hS7.trans hS8;have hSw:ak w W8:=hS1.trans (hS3.trans (hS4.trans (Ct.trans Py)));have hw1:=hS1.size;obtain⟨q,hq⟩:∃q:Pls,q=⟨w,W3.heap.size,W4.heap.size,W6.heap.size,W7.heap.size,W8.heap.size+1⟩:=⟨_,rfl⟩
 have hk:q.Ok:=by rw[hq];constructor <;> dsimp only <;> omega
 have hP0:Pi q d [] W8:=by
  rw[hq];refine⟨fE L d,.pointer none,.slice none 0 0,hSw, ?_, ?_, ?_,⟨Nat.le_refl _, ?_, ?_, ?_,.inl rfl⟩, ?_,hT.ay hSw,fun g hg=>?_⟩
  ·have h:Ck W4 W3.heap.size (fE L d):=by rw[<-hW4];constructor <;> simp[go_sem,fE]
   exact h.fr ((Ct.trans Py).fr fun _=>False) (fun x=>x)
  ·show W4.heap.size < W8.heap.size;omega
  ·exact(Py.av hl6 _).trans (by rw[<-hW6];exact gN _ _ _ _ e0)
  ·have h:W7.heap[W6.heap.size]? = some (.cells #[.pointer none,.slice none 0 0] 41 (0,0)):=by rw[<-hW7];exact World.alloc_heap_new W6 _
   exact hS8.block h
  ·exact⟨rfl,.inl ⟨rfl,rfl⟩⟩
  ·simp[Value.ownBlock]
  ·intro w' hw;refine((hO.ay (hS3.trans (hS4.trans (Ct.trans Py)))).fr hw (fun i hi e=>?_)).wat;have:=(hO.blk hi).2;rcases e with e | e | e | e | e
   ·have e:i=W3.heap.size:=e;omega
   ·have e:i=W6.heap.size:=e;omega
   ·simp[Value.ownBlock]at e
   ·have e:i=W7.heap.size:=e;omega
   ·have e:i=W8.heap.size+1:=e;omega
  ·simp[Value.ownBlock]at hg
 have c8:W8.cell? ⟨W7.heap.size,0,none⟩=some (.string (bs (gX ls))):=by rw[hTd,<-hW8];simp[go_sem]
 have z8:W8.frozen? ⟨W7.heap.size,0,none⟩=false:=by rw[<-hW8];simp[go_sem]
 have qB:q.B=W3.heap.size:=by rw[hq]
 have qcb:q.cb=W4.heap.size:=by rw[hq]
 have qb:q.b=W6.heap.size:=by rw[hq]
 have qlb:q.lb=W7.heap.size:=by rw[hq]
 have qlp:q.lp=W8.heap.size+1:=by rw[hq]
 have qw:q.w0=w:=by rw[hq]
 clear hW4 hW5 hW6 hW7 hW8 e0 e1 q0 q1 q2 hBb hpf hO hq
 refine Js (m:=1) (bj:=W7.heap.size) func4 (gf:=25) (lb:=#[.pointer (some ⟨W7.heap.size,0,none⟩)]) rfl (enters_of func25 (by kernel_rfl) rfl) hl8
  (LK 1 W7.heap.size W8 hl8 ls hls ht c8 z8) (fun _=>rfl)
  (fun i W=>Pi q (oQ d (ls.take i)).1 (oQ d (ls.take i)).2 W)
  (fun i A B hA hF=>hA.fr hk (by rw[qlb,qlp];exact hF)) (by simpa[oQ] using hP0) ?round ?done
 case round =>
  rintro lo i x W hsz hP hiN ⟨s,hsi,rfl⟩;obtain⟨hRi,hLi⟩:=Av R ls i (by omega);have hnx:=Dz (d:=d) hsi;obtain⟨di,hdi⟩:∃y,(oQ d (ls.take i)).1=y:=⟨_,rfl⟩;obtain⟨oi,hoi⟩:∃y,(oQ d (ls.take i)).2=y:=⟨_,rfl⟩;rw[hdi]at hRi hP hnx;rw[hoi]at hLi hP hnx;obtain⟨hRs,hLs⟩:=uX hRi s
  have hsl:s.length<=4096:=by
   have h1:=zq ls i;rw[List.drop_eq_getElem_cons hiN,mR]at h1;have h2:ls[i]=s:=(zQ2.1 hsi).2;rw[h2]at h1;simp at h1;omega
  obtain⟨PP,hPP⟩:∃PP:World->World->Prop,∀A B,PP A B↔(Kpt q A B/\Pi q (qj di s) (oi++oP di s++[10]) B):=⟨_,fun _ _=>Iff.rfl⟩
  have HM:Hid (∀A B,PP A B->NC A B/\KB 0 W7.heap.size A B/\Pi q (oQ d (ls.take (i+1))).1 (oQ d (ls.take (i+1))).2 B):=fun A B hp=>by
   have hp:=(hPP A B).1 hp;rw[hnx,<-qlb];exact⟨hp.1.1,hp.1.2,hp.2⟩
  have HPP:Hid (∀A B,PP A B↔_):=hPP;obtain⟨AT,hAT⟩:∃y,oP di s=y:=⟨_,rfl⟩;have HKF:Hid (∀W',W8.heap.size+1 < W'.heap.size->Fr (fun k=>k=W8.heap.size+1) W W'->Pi q di oi W'):=fun W' _ hF=>hP.fr hk (by rw[qlb,qlp];exact hF.mono (fun _ _ x=>.inr x));have Wu:i<=80:=by omega
  clear hnx hdi hoi hPP hsi hiN
  gi_wp2
  refine⟨ak.refl _,fun W' hsz' hF=>?_⟩;refine wpIn_mono (Q:=Exit.then (fun _ B=>PP W' B) (fun _ _ _=>False)) ?_ ?mono
  case mono =>
   intro e1 a1 W5 hp1
   match e1,hp1 with
   | .normal,hp=>exact HM.out W' W5 hp
  clear HM;have hP':=HKF.out W' hsz' hF;have hb8:W7.heap.size+0 < W'.heap.size:=by omega
  gi_wp2
  obtain⟨W0,hW0⟩:∃y,W'.drew=y:=⟨_,rfl⟩;have hs0:=aY hW0;have hPz:Pi q di oi W0:=hP'.fr hk (hs0.fr _)
  have c34:W0.cell? ⟨W4.heap.size,0,none⟩=some (.pointer (some ⟨W3.heap.size,0,none⟩)):=by
   obtain⟨x,p,v,hV⟩:=hPz;have:=hV.c
   rwa[qcb,qB]at this
  refine Pw (by kernel_rfl) ?_;rw[hW0];have htr:=NQ s (by omega) W0;refine NU 0 1 rfl rfl (by kernel_rfl) rfl rfl ?oA ?oB
  case' oA =>
   intro K hK;go_simp;refine hK _ _ ?_;clear hK K;refine yN 1 rfl (by kernel_rfl) rfl ?_;intro K hK;go_simp;refine hK _ _ ?_;clear hK K;refine yN 2 rfl (by kernel_rfl) rfl ?_;intro K hK;go_simp;refine⟨trivial,rfl, ?_⟩;refine(ng htr).mono ?_;rintro e w' ⟨rfl,hw⟩;obtain rfl:=hw.symm;dsimp only;refine hK _ _ ?_;clear hK K
  case' oB =>
   intro K hK;go_simp;refine hK _ _ ?_;clear hK K;refine NU 0 2 rfl rfl (by kernel_rfl) rfl rfl ?oC ?oD
  case' oC =>
   intro K hK;go_simp;refine hK _ _ ?_;clear hK K;refine yN 2 rfl (by kernel_rfl) rfl ?_;intro K hK;go_simp;refine⟨trivial,rfl, ?_⟩;refine(ng htr).mono ?_;rintro e w' ⟨rfl,hw⟩;obtain rfl:=hw.symm;dsimp only;refine hK _ _ ?_;clear hK K
  case' oD =>
   intro K hK;go_simp;refine⟨trivial,rfl, ?_⟩;refine(ng htr).mono ?_;rintro e w' ⟨rfl,hw⟩;obtain rfl:=hw.symm;dsimp only;refine hK _ _ ?_;clear hK K;refine yN 0 rfl (by kernel_rfl) rfl ?_;intro K hK;go_simp;refine hK _ _ ?_;clear hK K
  all_goals
   have han:=LV hk hRi hPz (by rw[qlp];have:=hs0.size;omega) s (by omega);rw[qB,hAT]at han;clear htr c34;refine yN 3 rfl (by kernel_rfl) rfl ?_;intro K hK;go_simp;refine⟨trivial,rfl, ?_⟩;refine(ng han).mono ?_;rintro e V1 ⟨rfl,hP1,hK1,hz1⟩;dsimp only;refine hK _ _ ?_;clear hK K han;have hsz0:W8.heap.size+1 < W0.heap.size:=zQ4 hsz' hs0.size;have hwr:=NT hk hP1 (by rw[qlp];omega) AT (by rw[<-hAT];omega);rw[qb]at hwr;refine yN 4 rfl (by kernel_rfl) rfl ?_;intro K hK;go_simp;refine⟨trivial,rfl, ?_⟩;refine(ng hwr).mono ?_;rintro e V2 ⟨⟨y2,rfl⟩,hP2,hK2,hz2⟩;dsimp only;refine hK _ _ ?_;clear hK K hwr;refine QO (by kernel_rfl) ?_;have hby:=Pv hk hP2 (by rw[qlp];omega) 10 (by rw[List.length_append,<-hAT];omega);rw[qb]at hby
   gi_wp2_with (refine⟨trivial,rfl, ?_⟩;refine(ng hby).mono ?_;rintro e V3 ⟨⟨y3,rfl⟩,hP3,hK3,hz3⟩)
   refine(HPP.out W' _).2 ⟨?_, ?_⟩
   ·exact(Kpt.ay hs0 (by rw[qlb];omega)).trans (hK1.trans (hK2.trans hK3))
   ·rw[hAT];exact hP3
 case done =>
  rintro D W hD hP hK;rw[List.take_length]at hP;obtain⟨x,p,v,hV⟩:=hP;have hst:=IX q.b q.b p v _ W hV.bld (Nat.le_of_lt hV.bld.lt);have hSV:=hV.ay;rw[qb]at hst;rw[qw]at hSV;obtain⟨o,ho⟩:∃y,(oQ d ls).2=y:=⟨_,rfl⟩;rw[ho]at hst ⊢;refine dw (IJ ?_)
  go_wp2_with (go_at_call 14;refine hst.mono ?_;rintro e W9 ⟨rfl,hB9,hN9⟩)
  have hK9:=hN9 _ _ hK rfl;refine⟨by simp,.inl ⟨_,_,rfl,run_takeDeferred hK9, ?_⟩⟩;have hX:KX W8.heap.size none W9 (W9.putObj D (.deferred none)):=KX.put (X:=none) (.deferred none) hK9 rfl hD;refine⟨.tuple #[.string (bs o),.int .i64 0], ?_,rfl,⟨(hSV.below.trans (hB9.mono (by omega))).trans (hX.below.mono (by omega))⟩⟩;simp[results,results4,go_sem]
end Go.Proofs.YtediempflagfkaaGreatDoor
namespace Go.Proofs.YtediempflagfkaaGreatDoor
open _root_.Go.Proofs.Tryz hiding checked
set_option maxRecDepth 8000
open Go.RowKit Go.Shelf
open Pu
theorem yO(ah:Int)(l:List Int)(t:List UInt8):pq ah l t=if dS ah l=0 then jR t else dS ah l:=rfl
theorem Gf(ah:Int)(a:Option Addr)(len cap:Nat)(l:List Int)(t:List UInt8)(ht:t.length<=9223372036854775807)(w:World)(hI:Ints w a len l)(hT:Tb w) :
  Calls prog 4 #[.int .i64 ah,.slice a len cap,.string (bs t)] w fun e w'=>e=.returned (.tuple #[.string (bs (sG ah l t)),.int .i64 (pq ah l t)])/\ak w w':=by
 by_cases h1:dS ah l=0
 ·by_cases h2:jR t=0
  ·have e:pq ah l t=0:=by rw[yO,if_pos h1];exact h2
   unfold sG;rw[if_pos e,e];have h3:=h2;unfold jR at h3;split at h3
   ·cases h3
   ·split at h3
    ·cases h3
    ·rename_i hm hn;obtain⟨ls,rfl,hls⟩:=F3 t.length t (Nat.le_refl _) (fun h=>Classical.byContradiction fun k=>hn ⟨h,k⟩);have hl:=LW ls hls;rw[LX _ _ hls];exact Px ah a len cap l ls hls (by omega) (by omega) w hI hT h1 h2
  ·have e:pq ah l t=jR t:=by rw[yO,if_pos h1]
   unfold sG;rw[e,if_neg h2];exact NS ah a len cap l t ht w hI h1 h2
 ·have e:pq ah l t=dS ah l:=by rw[yO,if_neg h1]
  unfold sG;rw[e,if_neg h1];exact NR ah a len cap l t w hI h1
end Go.Proofs.YtediempflagfkaaGreatDoor
set_option maxHeartbeats 1000000
namespace Go.Proofs.YtediempflagfkaaGreatDoor
open _root_.Go.Proofs.Tryz hiding checked
set_option maxRecDepth 8000
open Go.RowKit Go.Shelf
open Pu
def dkT:List UInt8:=[115,101,110,100,32,48,32,48,32,104,105,32,121,111,117,10,104,101,108,100,32,48,10,115,101,110,100,32,50,32,49,32,98,10,109,111,118,101,32,48,32,49,10,109,111,118,101,32,48,32,49,10,104,101,108,100,32,49,10,116,111,108,100,32,49,10,99,97,108,109,10,116,111,108,100,32,49,10,116,111,108,100,32,48,10,104,101,108,100,32,49,10,110,117,108,108,32,48,32,49,10,110,117,108,108,32,48,32,48,10,109,111,118,101,32,48,32,51,10,109,111,118,101,32,48,32,49,10,116,111,108,100,32,51,10,115,101,110,100,32,48,32,48,10,120,10]
def dkO:List UInt8:=[49,10,49,32,48,10,49,10,48,10,101,114,114,111,114,32,55,10,49,32,48,10,45,10,111,107,10,104,105,32,121,111,117,32,98,10,104,105,32,121,111,117,10,48,32,55,10,101,114,114,111,114,32,53,10,57,10,101,114,114,111,114,32,52,10,48,10,101,114,114,111,114,32,52,10,101,114,114,111,114,32,49,10,101,114,114,111,114,32,49,10]
theorem UY:pq 3 [3,6] dkT=0:=by decide +kernel
theorem UZ:sG 3 [3,6] dkT=dkO:=by decide +kernel
set_option maxRecDepth 8000 in
theorem CX(w:World)(hT:Tb w):Calls prog 6 #[] w fun e w'=>e=.returned (.bool true)/\ak w w':=by
 have hpl:=fun (a:Option Addr) (cap:Nat) (y:World) (hI:Ints y a 2 [3,6]) (hy:Tb y)=>Gf 3 a 2 cap [3,6] dkT (by decide) y hI hy;rw[UY,UZ]at hpl;have HT:Hid (∀y,ak w y->Tb y):=fun y hy=>hT.ay hy;clear hT
 go_enter func6,ntmps6
 go_wp2_with (first
  | (go_at_call 19;refine(SA w w (ak.refl _)).mono ?_;rintro e w2 ⟨b,cap,rfl,hI,hS2⟩)
  | (go_at_call 4;refine(hpl _ _ w2 hI (HT.out _ hS2)).mono ?_;rintro e w3 ⟨rfl,hS3⟩))
 go_ret
 refine⟨?_,hS2.trans hS3⟩;rw[jc];rfl
set_option maxRecDepth 8000 in
theorem FL(ah:Int)(a:Option Addr)(len cap:Nat)(l:List Int)(s:ByteArray)(w:World)(hI:Ints w a len l)(hs:s.size<=140737488355328)(hT:Tb w) :
  Calls prog 3 #[.int .i64 ah,.slice a len cap,.string s] w fun e w'=>e=.returned (.bool true)/\ak w w':=by
 obtain⟨t,rfl⟩:∃t,s=bs t:=⟨_,(KE s).symm⟩;rw[bX]at hs;have hpl:=Gf ah a len cap l t (by omega) w hI hT;have hrf:=fun (y:World) (hy:ak w y)=>F9 ah a len cap l t hs y (hI.ay hy)
 generalize sG ah l t=T at hpl hrf
 generalize pq ah l t=E at hpl hrf
 have hdb:=fun (y:World) (hy:ak w y)=>CX y (hT.ay hy);have hb1:((bs T).toList == (bs T).toList)=true:=by simp
 have hb2:(E == E)=true:=by simp
 clear hI hT hs
 go_enter func3,ntmps3
 go_wp2_with (first
  | (go_at_call 4;refine hpl.mono ?_;rintro e w2 ⟨rfl,hS2⟩)
  | (go_at_call 5;refine(hrf w2 hS2).mono ?_;rintro e w3 ⟨rfl,hS3⟩)
  | (go_at_call 6;refine(hdb w3 (hS2.trans hS3)).mono ?_;rintro e w4 ⟨rfl,hS4⟩))
 go_ret
 exact⟨rfl,(hS2.trans hS3).trans hS4⟩
end Go.Proofs.YtediempflagfkaaGreatDoor
