/- Lemmas. -/
import Derived.Test.YtiiifecfdkjmbaaWrLB
set_option maxHeartbeats 2000000
namespace Go.Proofs.Ytiiifecfdkjmbaa
open _root_.Go.Proofs.Try hiding checked
set_option maxRecDepth 8000
open Go.RowKit Go.Shelf
open Pu
set_option linter.unusedVariables false
set_option linter.unusedSimpArgs false
theorem aV.s0 {w:World} {p:Nat} {a b c d:Value} (h:aV w p a b c d) (x:Value):aV (w.setCell ⟨p,0,none⟩ x) p x b c d :=
 ⟨dA h.lt,dP _ _ _ _ h.c0,(aJ _ _ _ (by decide)).trans h.c1,(aJ _ _ _ (by decide)).trans h.c2,(aJ _ _ _ (by decide)).trans h.c3,by rw [World.frozen?_setCell];exact h.z0,by rw [World.frozen?_setCell];exact h.z1,by rw [World.frozen?_setCell];exact h.z2,by rw [World.frozen?_setCell];exact h.z3⟩
theorem aV.s1 {w:World} {p:Nat} {a b c d:Value} (h:aV w p a b c d) (x:Value):aV (w.setCell ⟨p,1,none⟩ x) p a x c d :=
 ⟨dA h.lt,(aJ _ _ _ (by decide)).trans h.c0,dP _ _ _ _ h.c1,(aJ _ _ _ (by decide)).trans h.c2,(aJ _ _ _ (by decide)).trans h.c3,by rw [World.frozen?_setCell];exact h.z0,by rw [World.frozen?_setCell];exact h.z1,by rw [World.frozen?_setCell];exact h.z2,by rw [World.frozen?_setCell];exact h.z3⟩
theorem aV.s2 {w:World} {p:Nat} {a b c d:Value} (h:aV w p a b c d) (x:Value):aV (w.setCell ⟨p,2,none⟩ x) p a b x d :=
 ⟨dA h.lt,(aJ _ _ _ (by decide)).trans h.c0,(aJ _ _ _ (by decide)).trans h.c1,dP _ _ _ _ h.c2,(aJ _ _ _ (by decide)).trans h.c3,by rw [World.frozen?_setCell];exact h.z0,by rw [World.frozen?_setCell];exact h.z1,by rw [World.frozen?_setCell];exact h.z2,by rw [World.frozen?_setCell];exact h.z3⟩
theorem aV.s3 {w:World} {p:Nat} {a b c d:Value} (h:aV w p a b c d) (x:Value):aV (w.setCell ⟨p,3,none⟩ x) p a b c x :=
 ⟨dA h.lt,(aJ _ _ _ (by decide)).trans h.c0,(aJ _ _ _ (by decide)).trans h.c1,(aJ _ _ _ (by decide)).trans h.c2,dP _ _ _ _ h.c3,by rw [World.frozen?_setCell];exact h.z0,by rw [World.frozen?_setCell];exact h.z1,by rw [World.frozen?_setCell];exact h.z2,by rw [World.frozen?_setCell];exact h.z3⟩
theorem aV.all {w:World} {p:Nat} {a b c d:Value} (h:aV w p a b c d) (x y z u:Value):aV ((((w.setCell ⟨p,0,none⟩ x).setCell ⟨p,1,none⟩ y).setCell ⟨p,2,none⟩ z).setCell ⟨p,3,none⟩ u) p x y z u:=(((h.s0 x).s1 y).s2 z).s3 u
theorem aV.fresh (w:World) (T:TypeId):aV (w.alloc (.cells #[.int .i64 0,.slice none 0 0,.slice none 0 0,.slice none 0 0] T)) w.heap.size (.int .i64 0) (.slice none 0 0) (.slice none 0 0) (.slice none 0 0):=by
 constructor <;> simp [go_sem]
theorem Sg.put {lo hi:Nat} {P:World->Prop} {w:World} (h:Sg lo hi P w) (p o:Nat) (v:Value) (hp:p < lo):Sg lo hi P (w.setCell ⟨p,o,none⟩ v):=h.fr (eD w p o v) (fun i a _ e=>by omega)
theorem Sg.fb {lo hi B:Nat} {P:World->Prop} {w w':World} (h:Sg lo hi P w) (k:FB B w w') (hB:B < lo):Sg lo hi P w':=h.fr k (fun i a _ e=>by omega)
theorem Sg.G8 {lo hi:Nat} {P Q R S:World->Prop} {w:World} (h:Sg lo hi P w) (k:Sg lo hi Q w) (l:Sg lo hi R w) (f:∀ W,P W->Q W->R W->S W):Sg lo hi S w :=
 ⟨h.1,fun W a b=>f W (h.2 W a b) (k.2 W a b) (l.2 W a b)⟩
set_option maxRecDepth 8000 in
theorem yP (B G n:Nat) (hG0:G<=255) (hn0:n<=255) (s:List UInt8) (w:World) (h:RdB w B s G n) :
  Calls prog 131 #[.pointer (some ⟨B,0,none⟩)] w fun e w'=>FB B w w'/\((iA G n s=none/\e=.panicked (pan 1))\/∃ x r la lc ha hc ta tc,iA G n s=some (x,r)/\e=.returned (.agg #[.int .i64 x.clock,.slice la x.last.length lc,.slice ha x.held.length hc,.slice ta x.told.length tc])/\Sg w.heap.size w'.heap.size (fun W=>VN W (.agg #[.int .i64 x.clock,.slice la x.last.length lc,.slice ha x.held.length hc,.slice ta x.told.length tc]) x) w'/\RdB w' B r G n):=by
 obtain ⟨w1,hw1⟩:∃ y,w.alloc (.cells #[.int .i64 0,.slice none 0 0,.slice none 0 0,.slice none 0 0] 45)=y:=⟨_,rfl⟩
 obtain ⟨w2,hw2⟩:∃ y,w1.alloc (.cells #[.int .i64 0,.slice none 0 0,.slice none 0 0,.slice none 0 0] 45)=y:=⟨_,rfl⟩
 have hS1:=au hw1
 have hS2:=au hw2
 have hl1:w.heap.size < w1.heap.size:=by rw [<-hw1];simp
 have hl2:w1.heap.size < w2.heap.size:=by rw [<-hw2];simp
 have hA1:aV w1 w.heap.size (.int .i64 0) (.slice none 0 0) (.slice none 0 0) (.slice none 0 0):=by rw [<-hw1];exact aV.fresh w _
 have hA0:=hA1.fr (hS2.fr fun _=>False) (fun x=>x)
 have hP0:aV w2 w1.heap.size (.int .i64 0) (.slice none 0 0) (.slice none 0 0) (.slice none 0 0):=by rw [<-hw2];exact aV.fresh w1 _
 have hQ0:=h.since (hS1.trans hS2)
 have hF0:FB B w w2:=(hS1.trans hS2).fb
 have hB:=h.lt
 have hBp:B≠w1.heap.size:=by omega
 have hBa:B≠w.heap.size:=by omega
 obtain ⟨pl,hpl⟩:∃ y,iA G n s=y:=⟨_,rfl⟩
 have HPL:Hid (iA G n s=pl):=hpl
 rw [hpl]
 clear hA1 hpl
 go_enter func131,ntmps131
 go_wp2_with (first
  | (go_at_call 152;refine (qZ B s G n w2 hQ0).mono ?_;rintro e W1 ⟨hG1,(⟨hn,rfl⟩ | ⟨x1,r1,hs1,rfl,hR1⟩)⟩;have HNO:Hid (pl=none):=(by unfold Hid;rw [<-HPL.out];unfold iA;rw [hn];rfl);have HFX:FB B w W1:=FB.trans' hF0 hG1;rotate_left;have wZ:FB B w W1:=FB.trans' hF0 hG1;have pI:=hP0.fr hG1 (Ne.symm hBp);have xg:=hA0.fr hG1 (Ne.symm hBa);have hz1:=hG1.size;obtain ⟨U1,hU1⟩:∃ y,W1.setCell ⟨w1.heap.size,0,none⟩ (.int .i64 x1)=y:=⟨_,rfl⟩;have hP1:=pI.s0 (.int .i64 x1);have hA1:=xg.fr (eD W1 w1.heap.size 0 (.int .i64 x1)) (by omega);have hQ1:=RdB.off (p:=w1.heap.size) (o:=0) hR1 hBp (.int .i64 x1);have hF1:=FB.put (p:=w1.heap.size) (o:=0) wZ (by omega) (.int .i64 x1);have hl3:w1.heap.size < (W1.setCell ⟨w1.heap.size,0,none⟩ (.int .i64 x1)).heap.size:=dA (by omega);rw [hU1] at hP1 hA1 hQ1 hF1 hl3;have q1:=pI.c0;have z1:=pI.z0;have Js:=hQ1.c1;clear pI xg wZ)
  | (go_at_call 153;refine (uS B n hn0 G hG0 r1 G U1 hQ1).mono ?_;rintro e W2 ⟨hG2,(⟨hn,rfl⟩ | ⟨x2,r2,la,lc,hs2,rfl,hL2,hg2,hR2⟩)⟩;have HNO:Hid (pl=none):=(by unfold Hid;rw [<-HPL.out];unfold iA;rw [hs1,ak,hn];rfl);have HFX:FB B w W2:=FB.trans' hF1 hG2;rotate_left;have xk:FB B w W2:=FB.trans' hF1 hG2;have nW:=hP1.fr hG2 (Ne.symm hBp);have xq:=hA1.fr hG2 (Ne.symm hBa);have hz2:=hG2.size;obtain ⟨U2,hU2⟩:∃ y,W2.setCell ⟨w1.heap.size,1,none⟩ (.slice la x2.length lc)=y:=⟨_,rfl⟩;have hP2:=nW.s1 (.slice la x2.length lc);have hA2:=xq.fr (eD W2 w1.heap.size 1 (.slice la x2.length lc)) (by omega);have hQ2:=RdB.off (p:=w1.heap.size) (o:=1) hR2 hBp (.slice la x2.length lc);have hF2:=FB.put (p:=w1.heap.size) (o:=1) xk (by omega) (.slice la x2.length lc);have hl4:w1.heap.size < (W2.setCell ⟨w1.heap.size,1,none⟩ (.slice la x2.length lc)).heap.size:=dA (by omega);have gA:=(hg2.mono (Nat.le_refl _) (Nat.le_refl _) (Nat.le_refl _)).put w1.heap.size 1 (.slice la x2.length lc) (by omega);rw [hU2] at hP2 hA2 hQ2 hF2 hl4 gA;have q2:=nW.c1;have z2:=nW.z1;have Jt:=hQ2.c1;clear nW xq xk;have HL2:Hid (x2.length=G):=hL2;clear hL2)
  | (go_at_call 155;refine (kU B r2 G n U2 hQ2).mono ?_;rintro e W3 ⟨hG3,(⟨hn,rfl⟩ | ⟨x3,r3,ha,hc,hs3,rfl,hg3,hR3⟩)⟩;have HNO:Hid (pl=none):=(by unfold Hid;rw [<-HPL.out];unfold iA;rw [hs1,ak,hs2,ak,hn];rfl);have HFX:FB B w W3:=FB.trans' hF2 hG3;rotate_left;have xu:FB B w W3:=FB.trans' hF2 hG3;have pJ:=hP2.fr hG3 (Ne.symm hBp);have xw:=hA2.fr hG3 (Ne.symm hBa);have hz3:=hG3.size;obtain ⟨U3,hU3⟩:∃ y,W3.setCell ⟨w1.heap.size,2,none⟩ (.slice ha x3.length hc)=y:=⟨_,rfl⟩;have hP3:=pJ.s2 (.slice ha x3.length hc);have hA3:=xw.fr (eD W3 w1.heap.size 2 (.slice ha x3.length hc)) (by omega);have hQ3:=RdB.off (p:=w1.heap.size) (o:=2) hR3 hBp (.slice ha x3.length hc);have hF3:=FB.put (p:=w1.heap.size) (o:=2) xu (by omega) (.slice ha x3.length hc);have hl5:w1.heap.size < (W3.setCell ⟨w1.heap.size,2,none⟩ (.slice ha x3.length hc)).heap.size:=dA (by omega);have gA':=(Sg.fb gA hG3 (by omega)).put w1.heap.size 2 (.slice ha x3.length hc) (by omega);clear gA;have gA:=gA';clear gA';have gB:=(hg3.mono (Nat.le_refl _) (Nat.le_refl _) (Nat.le_refl _)).put w1.heap.size 2 (.slice ha x3.length hc) (by omega);rw [hU3] at hP3 hA3 hQ3 hF3 hl5 gA gB;have q3:=pJ.c2;have z3:=pJ.z2;have Ju:=hQ3.c1;clear pJ xw xu)
  | (go_at_call 155;refine (kU B r3 G n U3 hQ3).mono ?_;rintro e W4 ⟨hG4,(⟨hn,rfl⟩ | ⟨x4,r4,ta,tc,hs4,rfl,hg4,hR4⟩)⟩;have HNO:Hid (pl=none):=(by unfold Hid;rw [<-HPL.out];unfold iA;rw [hs1,ak,hs2,ak,hs3,ak,hn];rfl);have HFX:FB B w W4:=FB.trans' hF3 hG4;rotate_left;have xA:FB B w W4:=FB.trans' hF3 hG4;have pK:=hP3.fr hG4 (Ne.symm hBp);have xB:=hA3.fr hG4 (Ne.symm hBa);have hz4:=hG4.size;obtain ⟨U4,hU4⟩:∃ y,W4.setCell ⟨w1.heap.size,3,none⟩ (.slice ta x4.length tc)=y:=⟨_,rfl⟩;have hP4:=pK.s3 (.slice ta x4.length tc);have hA4:=xB.fr (eD W4 w1.heap.size 3 (.slice ta x4.length tc)) (by omega);have hQ4:=RdB.off (p:=w1.heap.size) (o:=3) hR4 hBp (.slice ta x4.length tc);have hF4:=FB.put (p:=w1.heap.size) (o:=3) xA (by omega) (.slice ta x4.length tc);have hl6:w1.heap.size < (W4.setCell ⟨w1.heap.size,3,none⟩ (.slice ta x4.length tc)).heap.size:=dA (by omega);have gA':=(Sg.fb gA hG4 (by omega)).put w1.heap.size 3 (.slice ta x4.length tc) (by omega);clear gA;have gA:=gA';clear gA';have gB':=(Sg.fb gB hG4 (by omega)).put w1.heap.size 3 (.slice ta x4.length tc) (by omega);clear gB;have gB:=gB';clear gB';have gC:=(hg4.mono (Nat.le_refl _) (Nat.le_refl _) (Nat.le_refl _)).put w1.heap.size 3 (.slice ta x4.length tc) (by omega);rw [hU4] at hP4 hA4 hQ4 hF4 hl6 gA gB gC;have q4:=pK.c3;have z4:=pK.z3;have Jv:=hQ4.c1;clear pK xB xA;obtain ⟨V,hV⟩:∃ y,((((U4.setCell ⟨w.heap.size,0,none⟩ (.int .i64 x1)).setCell ⟨w.heap.size,1,none⟩ (.slice la x2.length lc)).setCell ⟨w.heap.size,2,none⟩ (.slice ha x3.length hc)).setCell ⟨w.heap.size,3,none⟩ (.slice ta x4.length tc))=y:=⟨_,rfl⟩;have hAV:=hA4.all (.int .i64 x1) (.slice la x2.length lc) (.slice ha x3.length hc) (.slice ta x4.length tc);have hpf:=mD U4 w.heap.size (.int .i64 x1) (.slice la x2.length lc) (.slice ha x3.length hc) (.slice ta x4.length tc);have hFV:FB B w _:=Fr.trans hF4 hpf (fun _ _ e=>e) (fun i hi e=>absurd e (by omega));have hQV:=hQ4.fr hpf hBa;have gA':=gA.fr hpf (fun i a _ e=>by omega);have gB':=gB.fr hpf (fun i a _ e=>by omega);have gC':=gC.fr hpf (fun i a _ e=>by omega);unfold Cj at hFV hQV gA' gB' gC';rw [hV] at hAV hFV hQV gA' gB' gC';obtain ⟨_,e0,e1,e2,e3,_,_,_,_⟩:=hP4;obtain ⟨_,a0,a1,a2,a3,y0,y1,y2,y3⟩:=hA4;obtain ⟨_,v0,v1,v2,v3,_,_,_,_⟩:=hAV;clear gA gB gC))
 all_goals first | exact ⟨rfl,HFX,.inl ⟨HNO.out,rfl⟩⟩ | skip
 refine bodyPost_ret (v:=.agg #[.int .i64 x1,.slice la x2.length lc,.slice ha x3.length hc,.slice ta x4.length tc]) ?_ rfl ?_
 ·simp [results,results131,go_sem,v0,v1,v2,v3]
 refine ⟨hFV,.inr ⟨⟨x1,x2,x3,x4⟩,r4,la,lc,ha,hc,ta,tc, ?_,rfl, ?_,hQV⟩⟩
 ·rw [<-HPL.out];unfold iA;rw [hs1,ak,hs2,ak,hs3,ak,hs4,ak]
 ·have hle:=hFV.size
  refine Sg.G8 (gA'.mono (by omega) gA'.1 (Nat.le_refl _)) (gB'.mono (by omega) gB'.1 (Nat.le_refl _)) (gC'.mono (by omega) gC'.1 (Nat.le_refl _)) (fun W k1 k2 k3=>⟨_,_,_,⟨rfl,rfl,rfl⟩,rfl,k1,k2,k3⟩)
set_option maxRecDepth 8000 in
theorem uW (B:Nat) (G n:Nat) (hG0:G<=255) (hn0:n<=255) (N:Nat) (hN:N<=255) (s:List UInt8) (w:World) (h:RdB w B s G n) :
  Calls prog 130 #[.int .i64 N,.func (.func 131) #[.pointer (some ⟨B,0,none⟩)] #[]] w fun e w'=>FB B w w'/\((aD (iA G n) N s=none/\e=.panicked (pan 1))\/∃ xs r sa sc,aD (iA G n) N s=some (xs,r)/\e=.returned (.slice sa xs.length sc)/\xs.length=N/\Sg w.heap.size w'.heap.size (fun W=>yQ W (.slice sa xs.length sc) xs) w'/\RdB w' B r G n):=by
 obtain ⟨w1,hmk,hS1,hl1,hR1⟩:=iJ jC (by omega) (by omega) N (by omega) w
 have hB:=h.lt
 have hQ1:=h.since hS1
 have hF1:FB B w w1:=hS1.fb
 obtain ⟨pl,hpl⟩:∃ y,aD (iA G n) N s=y:=⟨_,rfl⟩
 have HPL:Hid (aD (iA G n) N s=pl):=hpl
 have HP0:Hid (pl=dK (aD (iA G n) (N - 0) s) fun ys r=>some (([]:List _)++ys,r)):=by unfold Hid;rw [<-hpl];exact fF _ N s
 rw [hpl]
 clear hpl
 go_enter func130,ntmps130
 go_wp2_with fail
 clear hmk
 go_loopw [5,9] (fun v i wr=>∃ (k:Nat) (xs:List _) (vs:List Value) (s':List UInt8) (sa:Option Addr) (sc:Nat),k<=N/\i=.int .i64 k/\v=.slice sa k sc/\xs.length=k/\Row wr w.heap.size 4 ⟨sa,sc⟩ k (bI vs)/\Els VN w.heap.size wr ⟨sa,sc⟩ vs xs/\RdB wr B s' G n/\FB B w wr/\w.heap.size < wr.heap.size/\Hid (pl=dK (aD (iA G n) (N - k) s') fun ys r=>some (xs++ys,r))) (fun _ i _=>N - (intOf i).toNat)
 case atStart=>exact ⟨0,[],[],s,_,_,Nat.zero_le _,rfl,rfl,rfl,hR1,Els.nil _ _ _ _,hQ1,hF1,hl1,HP0⟩
 case round =>
  obtain ⟨wo,rfl⟩:∃ wo,wo=wr:=⟨_,rfl⟩
  obtain ⟨k,xs,vs,s',sa,sc,hk,rfl,rfl,hxl,hR,hE,hQ,hF,hlw,HC⟩:=hrel
  have HXL:Hid (xs.length=k):=hxl
  clear hxl
  by_cases hlt:k < N
  ·have hone:=yP B G n hG0 hn0 s' wo hQ
   go_wp2_with (first
    | (go_at_call 131;refine hone.mono ?_;rintro e W2 ⟨hG,(⟨hn,rfl⟩ | ⟨x,r,la,lc,ha,hc,ta,tc,hs,rfl,hxs,hQ2⟩)⟩;have HNO:Hid (pl=none):=(by unfold Hid;rw [<-HPL.out];exact jL (HPL.out.trans HC.out) hlt hn);have HFX:FB B w W2:=FB.trans' hF hG;rotate_left;have hFX:FB B w W2:=FB.trans' hF hG;have hXB:∀ i,w.heap.size<=i->¬ (i=B):=fun i hi e=>(by omega);have hR2:=hR.fr hG (fun b hb e=>hXB b (hR.aR hb).2.1 e);have hE2:=hE.fr hG hXB;have hsg:Sg wo.heap.size W2.heap.size (fun W=>VN W (.agg #[.int .i64 x.clock,.slice la x.last.length lc,.slice ha x.held.length hc,.slice ta x.told.length tc]) x) W2:=hxs;have hsrc:=dB (size:=4) (T:=45) (w:=W2) jC.und [.int .i64 x.clock,.slice la x.last.length lc,.slice ha x.held.length hc,.slice ta x.told.length tc] rfl (fun u hu=>by simp at hu;rcases hu with rfl | rfl | rfl | rfl <;> rfl) 1;have hRa:=hR2.since ((Since.refl W2).alloc (.cells #[.int .i64 x.clock,.slice la x.last.length lc,.slice ha x.held.length hc,.slice ta x.told.length tc] 45));have hEa:=hE2.fr (((Since.refl W2).alloc (.cells #[.int .i64 x.clock,.slice la x.last.length lc,.slice ha x.held.length hc,.slice ta x.told.length tc] 45)).fr (fun _=>False)) (fun _ _ x=>x);have hsa:=hsg.fr (((Since.refl W2).alloc (.cells #[.int .i64 x.clock,.slice la x.last.length lc,.slice ha x.held.length hc,.slice ta x.told.length tc] 45)).fr (fun _=>False)) (fun _ _ _ x=>x);have hQa:=hQ2.since ((Since.refl W2).alloc (.cells #[.int .i64 x.clock,.slice la x.last.length lc,.slice ha x.held.length hc,.slice ta x.told.length tc] 45));have hFa:FB B w (W2.alloc (.cells #[.int .i64 x.clock,.slice la x.last.length lc,.slice ha x.held.length hc,.slice ta x.told.length tc] 45)):=FB.trans' hFX ((Since.refl W2).alloc _).fb;have hlo:w.heap.size<=(W2.alloc (.cells #[.int .i64 x.clock,.slice la x.last.length lc,.slice ha x.held.length hc,.slice ta x.told.length tc] 45)).heap.size:=(by have:=hG.size;simp only [World.size_alloc];omega);have hss:∀ b,Sl.blk ⟨sa,sc⟩=some b->b < wo.heap.size:=fun b hb=>(hR.aR hb).2.2.1;clear hR hE hQ hR2 hE2 hsg hQ2 hone)
    | (at_builtin;refine dW jC rfl _ _ 23 rfl rfl hRa rfl hsrc (by omega) hlo ?_;intro sa' sc' W3 hR4 hF4 hB4))
   all_goals first | exact ⟨rfl,HFX,.inl ⟨HNO.out,rfl⟩⟩ | skip
   refine ⟨⟨k+1,xs++[x],vs++[.agg #[.int .i64 x.clock,.slice la x.last.length lc,.slice ha x.held.length hc,.slice ta x.told.length tc]],r,sa',sc',by omega,by go_num,rfl, ?_, ?_, ?_, ?_, ?_, ?_, ?_⟩,by simp [intOf];omega⟩
   ·have:=HXL.out;simp;exact this
   ·rw [fG];exact hR4
   ·exact hEa.app (by omega) hsa hss hF4 hB4
   ·exact hQa.fr hF4 (fun e=>by have:=(hRa.aR e).2.1;omega)
   ·exact Fr.trans hFa hF4 (fun _ _ e=>e) (fun i hi e=>absurd hi (by have:=(hRa.aR e).2.1;omega))
   ·have:=hF4.size;simp at this;have:=hG.size;omega
   ·exact (HPL.out.symm.trans (gP (HPL.out.trans HC.out) hlt hs))
  ·obtain rfl:k=N:=by omega
   have jf:Hid (pl=some (xs,s')):=HPL.out.symm.trans (iK (HPL.out.trans HC.out))
   go_wp2
   go_ret
   have hxl:=HXL.out
   subst hxl
   refine ⟨hF,.inr ⟨xs,s',sa,sc,jf.out,rfl,rfl, ?_,hQ⟩⟩
   exact hE.read hR (fun W hRW hV=>AA hRW hE.1 (by omega) hV)
end Go.Proofs.Ytiiifecfdkjmbaa
