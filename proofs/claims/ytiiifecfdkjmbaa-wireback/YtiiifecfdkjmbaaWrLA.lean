/- Lemmas. -/
import Derived.Test.YtiiifecfdkjmbaaWrRow
set_option maxHeartbeats 2000000
namespace Go.Proofs.Ytiiifecfdkjmbaa
open _root_.Go.Proofs.Try hiding checked
set_option maxRecDepth 8000
open Go.RowKit Go.Shelf
open Pu
set_option linter.unusedVariables false
set_option linter.unusedSimpArgs false
set_option maxRecDepth 8000 in
theorem rT (B:Nat) (N:Nat) (hN:N<=255) (s:List UInt8) (g m:Int) (w:World) (h:RdB w B s g m) :
  Calls prog 129 #[.int .i64 N,.func (.func 128) #[.pointer (some ⟨B,0,none⟩)] #[]] w fun e w'=>FB B w w'/\((aD (dh 1) N s=none/\e=.panicked (pan 1))\/∃ xs r sa sc,aD (dh 1) N s=some (xs,r)/\e=.returned (.slice sa xs.length sc)/\xs.length=N/\Sg w.heap.size w'.heap.size (fun W=>iq W (.slice sa xs.length sc) xs) w'/\RdB w' B r g m):=by
 obtain ⟨w1,hmk,hS1,hl1,hR1⟩:=iJ mM (by omega) (by omega) N (by omega) w
 have hB:=h.lt
 have hQ1:=h.since hS1
 have hF1:FB B w w1:=hS1.fb
 obtain ⟨pl,hpl⟩:∃ y,aD (dh 1) N s=y:=⟨_,rfl⟩
 have HPL:Hid (aD (dh 1) N s=pl):=hpl
 have HP0:Hid (pl=dK (aD (dh 1) (N - 0) s) fun ys r=>some (([]:List _)++ys,r)):=by unfold Hid;rw [<-hpl];exact fF _ N s
 rw [hpl]
 clear hpl
 go_enter func129,ntmps129
 go_wp2_with fail
 clear hmk
 go_loopw [5,9] (fun v i wr=>∃ (k:Nat) (xs:List _) (vs:List Value) (s':List UInt8) (sa:Option Addr) (sc:Nat),k<=N/\i=.int .i64 k/\v=.slice sa k sc/\xs.length=k/\Row wr w.heap.size 1 ⟨sa,sc⟩ k (bI vs)/\Els VI w.heap.size wr ⟨sa,sc⟩ vs xs/\RdB wr B s' g m/\FB B w wr/\w.heap.size < wr.heap.size/\Hid (pl=dK (aD (dh 1) (N - k) s') fun ys r=>some (xs++ys,r))) (fun _ i _=>N - (intOf i).toNat)
 case atStart=>exact ⟨0,[],[],s,_,_,Nat.zero_le _,rfl,rfl,rfl,hR1,Els.nil _ _ _ _,hQ1,hF1,hl1,HP0⟩
 case round =>
  obtain ⟨wo,rfl⟩:∃ wo,wo=wr:=⟨_,rfl⟩
  obtain ⟨k,xs,vs,s',sa,sc,hk,rfl,rfl,hxl,hR,hE,hQ,hF,hlw,HC⟩:=hrel
  have HXL:Hid (xs.length=k):=hxl
  clear hxl
  by_cases hlt:k < N
  ·have hone:=gW B s' g m wo hQ
   go_wp2_with (first
    | (go_at_call 128;refine hone.mono ?_;rintro e W2 ⟨hG,(⟨hn,rfl⟩ | ⟨x,r,hs,rfl,hx,hQ2⟩)⟩;have HNO:Hid (pl=none):=(by unfold Hid;rw [<-HPL.out];exact jL (HPL.out.trans HC.out) hlt hn);have HFX:FB B w W2:=FB.trans' hF hG;rotate_left;have hFX:FB B w W2:=FB.trans' hF hG;have hXB:∀ i,w.heap.size<=i->¬ (i=B):=fun i hi e=>(by omega);have hR2:=hR.fr hG (fun b hb e=>hXB b (hR.aR hb).2.1 e);have hE2:=hE.fr hG hXB;have hsg:Sg wo.heap.size W2.heap.size (fun W=>VI W (.int .i64 x) x) W2:=Sg.const rfl (Nat.le_refl _);have hsrc:=dB (size:=1) (T:=3) (w:=W2) mM.und [.int .i64 x] rfl (fun u hu=>by simp at hu;subst hu;rfl) 1;have hRa:=hR2.since ((Since.refl W2).alloc (.cells #[.int .i64 x] 3));have hEa:=hE2.fr (((Since.refl W2).alloc (.cells #[.int .i64 x] 3)).fr (fun _=>False)) (fun _ _ x=>x);have hsa:=hsg.fr (((Since.refl W2).alloc (.cells #[.int .i64 x] 3)).fr (fun _=>False)) (fun _ _ _ x=>x);have hQa:=hQ2.since ((Since.refl W2).alloc (.cells #[.int .i64 x] 3));have hFa:FB B w (W2.alloc (.cells #[.int .i64 x] 3)):=FB.trans' hFX ((Since.refl W2).alloc _).fb;have hlo:w.heap.size<=(W2.alloc (.cells #[.int .i64 x] 3)).heap.size:=(by have:=hG.size;simp only [World.size_alloc];omega);have hss:∀ b,Sl.blk ⟨sa,sc⟩=some b->b < wo.heap.size:=fun b hb=>(hR.aR hb).2.2.1;clear hR hE hQ hR2 hE2 hsg hQ2 hone)
    | (at_builtin;refine dW mM rfl _ _ 22 rfl rfl hRa rfl hsrc (by omega) hlo ?_;intro sa' sc' W3 hR4 hF4 hB4))
   all_goals first | exact ⟨rfl,HFX,.inl ⟨HNO.out,rfl⟩⟩ | skip
   refine ⟨⟨k+1,xs++[x],vs++[.int .i64 x],r,sa',sc',by omega,by go_num,rfl, ?_, ?_, ?_, ?_, ?_, ?_, ?_⟩,by simp [intOf];omega⟩
   ·have:=HXL.out;simp;exact this
   ·rw [fG];exact hR4
   ·exact hEa.app (by omega) hsa hss hF4 hB4
   ·exact hQa.fr hF4 (fun e=>by have:=(hRa.aR e).2.1;omega)
   ·exact Fr.trans hFa hF4 (fun _ _ e=>e) (fun i hi e=>absurd hi (by have:=(hRa.aR e).2.1;omega))
   ·have:=hF4.size;simp at this;have:=hG.size;omega
   ·exact (HPL.out.symm.trans (gP (HPL.out.trans HC.out) hlt hs))
  ·obtain rfl:k=N:=by omega
   have jf:Hid (pl=some (xs,s')):=HPL.out.symm.trans (iK (HPL.out.trans HC.out))
   go_wp2
   go_ret
   have hxl:=HXL.out
   subst hxl
   refine ⟨hF,.inr ⟨xs,s',sa,sc,jf.out,rfl,rfl, ?_,hQ⟩⟩
   exact hE.read hR (fun W hRW hV=>wV hRW hE.1 (by omega) hV)
set_option maxRecDepth 8000 in
theorem uQ (B:Nat) (N:Nat) (hN:N<=255) (s:List UInt8) (g m:Int) (w:World) (h:RdB w B s g m) :
  Calls prog 129 #[.int .i64 N,.func (.func 152) #[.pointer (some ⟨B,0,none⟩)] #[]] w fun e w'=>FB B w w'/\((aD (dh 3) N s=none/\e=.panicked (pan 1))\/∃ xs r sa sc,aD (dh 3) N s=some (xs,r)/\e=.returned (.slice sa xs.length sc)/\xs.length=N/\Sg w.heap.size w'.heap.size (fun W=>iq W (.slice sa xs.length sc) xs) w'/\RdB w' B r g m):=by
 obtain ⟨w1,hmk,hS1,hl1,hR1⟩:=iJ mM (by omega) (by omega) N (by omega) w
 have hB:=h.lt
 have hQ1:=h.since hS1
 have hF1:FB B w w1:=hS1.fb
 obtain ⟨pl,hpl⟩:∃ y,aD (dh 3) N s=y:=⟨_,rfl⟩
 have HPL:Hid (aD (dh 3) N s=pl):=hpl
 have HP0:Hid (pl=dK (aD (dh 3) (N - 0) s) fun ys r=>some (([]:List _)++ys,r)):=by unfold Hid;rw [<-hpl];exact fF _ N s
 rw [hpl]
 clear hpl
 go_enter func129,ntmps129
 go_wp2_with fail
 clear hmk
 go_loopw [5,9] (fun v i wr=>∃ (k:Nat) (xs:List _) (vs:List Value) (s':List UInt8) (sa:Option Addr) (sc:Nat),k<=N/\i=.int .i64 k/\v=.slice sa k sc/\xs.length=k/\Row wr w.heap.size 1 ⟨sa,sc⟩ k (bI vs)/\Els VI w.heap.size wr ⟨sa,sc⟩ vs xs/\RdB wr B s' g m/\FB B w wr/\w.heap.size < wr.heap.size/\Hid (pl=dK (aD (dh 3) (N - k) s') fun ys r=>some (xs++ys,r))) (fun _ i _=>N - (intOf i).toNat)
 case atStart=>exact ⟨0,[],[],s,_,_,Nat.zero_le _,rfl,rfl,rfl,hR1,Els.nil _ _ _ _,hQ1,hF1,hl1,HP0⟩
 case round =>
  obtain ⟨wo,rfl⟩:∃ wo,wo=wr:=⟨_,rfl⟩
  obtain ⟨k,xs,vs,s',sa,sc,hk,rfl,rfl,hxl,hR,hE,hQ,hF,hlw,HC⟩:=hrel
  have HXL:Hid (xs.length=k):=hxl
  clear hxl
  by_cases hlt:k < N
  ·have hone:=qZ B s' g m wo hQ
   go_wp2_with (first
    | (go_at_call 152;refine hone.mono ?_;rintro e W2 ⟨hG,(⟨hn,rfl⟩ | ⟨x,r,hs,rfl,hQ2⟩)⟩;have HNO:Hid (pl=none):=(by unfold Hid;rw [<-HPL.out];exact jL (HPL.out.trans HC.out) hlt hn);have HFX:FB B w W2:=FB.trans' hF hG;rotate_left;have hFX:FB B w W2:=FB.trans' hF hG;have hXB:∀ i,w.heap.size<=i->¬ (i=B):=fun i hi e=>(by omega);have hR2:=hR.fr hG (fun b hb e=>hXB b (hR.aR hb).2.1 e);have hE2:=hE.fr hG hXB;have hsg:Sg wo.heap.size W2.heap.size (fun W=>VI W (.int .i64 x) x) W2:=Sg.const rfl (Nat.le_refl _);have hsrc:=dB (size:=1) (T:=3) (w:=W2) mM.und [.int .i64 x] rfl (fun u hu=>by simp at hu;subst hu;rfl) 1;have hRa:=hR2.since ((Since.refl W2).alloc (.cells #[.int .i64 x] 3));have hEa:=hE2.fr (((Since.refl W2).alloc (.cells #[.int .i64 x] 3)).fr (fun _=>False)) (fun _ _ x=>x);have hsa:=hsg.fr (((Since.refl W2).alloc (.cells #[.int .i64 x] 3)).fr (fun _=>False)) (fun _ _ _ x=>x);have hQa:=hQ2.since ((Since.refl W2).alloc (.cells #[.int .i64 x] 3));have hFa:FB B w (W2.alloc (.cells #[.int .i64 x] 3)):=FB.trans' hFX ((Since.refl W2).alloc _).fb;have hlo:w.heap.size<=(W2.alloc (.cells #[.int .i64 x] 3)).heap.size:=(by have:=hG.size;simp only [World.size_alloc];omega);have hss:∀ b,Sl.blk ⟨sa,sc⟩=some b->b < wo.heap.size:=fun b hb=>(hR.aR hb).2.2.1;clear hR hE hQ hR2 hE2 hsg hQ2 hone)
    | (at_builtin;refine dW mM rfl _ _ 22 rfl rfl hRa rfl hsrc (by omega) hlo ?_;intro sa' sc' W3 hR4 hF4 hB4))
   all_goals first | exact ⟨rfl,HFX,.inl ⟨HNO.out,rfl⟩⟩ | skip
   refine ⟨⟨k+1,xs++[x],vs++[.int .i64 x],r,sa',sc',by omega,by go_num,rfl, ?_, ?_, ?_, ?_, ?_, ?_, ?_⟩,by simp [intOf];omega⟩
   ·have:=HXL.out;simp;exact this
   ·rw [fG];exact hR4
   ·exact hEa.app (by omega) hsa hss hF4 hB4
   ·exact hQa.fr hF4 (fun e=>by have:=(hRa.aR e).2.1;omega)
   ·exact Fr.trans hFa hF4 (fun _ _ e=>e) (fun i hi e=>absurd hi (by have:=(hRa.aR e).2.1;omega))
   ·have:=hF4.size;simp at this;have:=hG.size;omega
   ·exact (HPL.out.symm.trans (gP (HPL.out.trans HC.out) hlt hs))
  ·obtain rfl:k=N:=by omega
   have jf:Hid (pl=some (xs,s')):=HPL.out.symm.trans (iK (HPL.out.trans HC.out))
   go_wp2
   go_ret
   have hxl:=HXL.out
   subst hxl
   refine ⟨hF,.inr ⟨xs,s',sa,sc,jf.out,rfl,rfl, ?_,hQ⟩⟩
   exact hE.read hR (fun W hRW hV=>wV hRW hE.1 (by omega) hV)
set_option maxRecDepth 8000 in
theorem wW (B:Nat) (N:Nat) (hN:N<=255) (s:List UInt8) (g m:Int) (w:World) (h:RdB w B s g m) :
  Calls prog 170 #[.int .i64 N,.func (.func 171) #[.pointer (some ⟨B,0,none⟩)] #[]] w fun e w'=>FB B w w'/\((aD iR N s=none/\e=.panicked (pan 1))\/∃ xs r sa sc,aD iR N s=some (xs,r)/\e=.returned (.slice sa xs.length sc)/\xs.length=N/\Sg w.heap.size w'.heap.size (fun W=>dI W (.slice sa xs.length sc) xs) w'/\RdB w' B r g m):=by
 obtain ⟨w1,hmk,hS1,hl1,hR1⟩:=iJ gq (by omega) (by omega) N (by omega) w
 have hB:=h.lt
 have hQ1:=h.since hS1
 have hF1:FB B w w1:=hS1.fb
 obtain ⟨pl,hpl⟩:∃ y,aD iR N s=y:=⟨_,rfl⟩
 have HPL:Hid (aD iR N s=pl):=hpl
 have HP0:Hid (pl=dK (aD iR (N - 0) s) fun ys r=>some (([]:List _)++ys,r)):=by unfold Hid;rw [<-hpl];exact fF _ N s
 rw [hpl]
 clear hpl
 go_enter func170,ntmps170
 go_wp2_with fail
 clear hmk
 go_loopw [5,9] (fun v i wr=>∃ (k:Nat) (xs:List _) (vs:List Value) (s':List UInt8) (sa:Option Addr) (sc:Nat),k<=N/\i=.int .i64 k/\v=.slice sa k sc/\xs.length=k/\Row wr w.heap.size 5 ⟨sa,sc⟩ k (bI vs)/\Els VM w.heap.size wr ⟨sa,sc⟩ vs xs/\RdB wr B s' g m/\FB B w wr/\w.heap.size < wr.heap.size/\Hid (pl=dK (aD iR (N - k) s') fun ys r=>some (xs++ys,r))) (fun _ i _=>N - (intOf i).toNat)
 case atStart=>exact ⟨0,[],[],s,_,_,Nat.zero_le _,rfl,rfl,rfl,hR1,Els.nil _ _ _ _,hQ1,hF1,hl1,HP0⟩
 case round =>
  obtain ⟨wo,rfl⟩:∃ wo,wo=wr:=⟨_,rfl⟩
  obtain ⟨k,xs,vs,s',sa,sc,hk,rfl,rfl,hxl,hR,hE,hQ,hF,hlw,HC⟩:=hrel
  have HXL:Hid (xs.length=k):=hxl
  clear hxl
  by_cases hlt:k < N
  ·have hone:=wX B s' g m wo hQ
   go_wp2_with (first
    | (go_at_call 171;refine hone.mono ?_;rintro e W2 ⟨hG,(⟨hn,rfl⟩ | ⟨x,r,hs,rfl,hQ2⟩)⟩;have HNO:Hid (pl=none):=(by unfold Hid;rw [<-HPL.out];exact jL (HPL.out.trans HC.out) hlt hn);have HFX:FB B w W2:=FB.trans' hF hG;rotate_left;have hFX:FB B w W2:=FB.trans' hF hG;have hXB:∀ i,w.heap.size<=i->¬ (i=B):=fun i hi e=>(by omega);have hR2:=hR.fr hG (fun b hb e=>hXB b (hR.aR hb).2.1 e);have hE2:=hE.fr hG hXB;have hsg:Sg wo.heap.size W2.heap.size (fun W=>VM W (.agg #[.int .i64 x.fr,.int .i64 x.gr,.int .i64 x.st,.bool x.nul,.string x.body]) x) W2:=Sg.const rfl (Nat.le_refl _);have hsrc:=dB (size:=5) (T:=48) (w:=W2) gq.und [.int .i64 x.fr,.int .i64 x.gr,.int .i64 x.st,.bool x.nul,.string x.body] rfl (fun u hu=>by simp at hu;rcases hu with rfl | rfl | rfl | rfl | rfl <;> rfl) 1;have hRa:=hR2.since ((Since.refl W2).alloc (.cells #[.int .i64 x.fr,.int .i64 x.gr,.int .i64 x.st,.bool x.nul,.string x.body] 48));have hEa:=hE2.fr (((Since.refl W2).alloc (.cells #[.int .i64 x.fr,.int .i64 x.gr,.int .i64 x.st,.bool x.nul,.string x.body] 48)).fr (fun _=>False)) (fun _ _ x=>x);have hsa:=hsg.fr (((Since.refl W2).alloc (.cells #[.int .i64 x.fr,.int .i64 x.gr,.int .i64 x.st,.bool x.nul,.string x.body] 48)).fr (fun _=>False)) (fun _ _ _ x=>x);have hQa:=hQ2.since ((Since.refl W2).alloc (.cells #[.int .i64 x.fr,.int .i64 x.gr,.int .i64 x.st,.bool x.nul,.string x.body] 48));have hFa:FB B w (W2.alloc (.cells #[.int .i64 x.fr,.int .i64 x.gr,.int .i64 x.st,.bool x.nul,.string x.body] 48)):=FB.trans' hFX ((Since.refl W2).alloc _).fb;have hlo:w.heap.size<=(W2.alloc (.cells #[.int .i64 x.fr,.int .i64 x.gr,.int .i64 x.st,.bool x.nul,.string x.body] 48)).heap.size:=(by have:=hG.size;simp only [World.size_alloc];omega);have hss:∀ b,Sl.blk ⟨sa,sc⟩=some b->b < wo.heap.size:=fun b hb=>(hR.aR hb).2.2.1;clear hR hE hQ hR2 hE2 hsg hQ2 hone)
    | (at_builtin;refine dW gq rfl _ _ 39 rfl rfl hRa rfl hsrc (by omega) hlo ?_;intro sa' sc' W3 hR4 hF4 hB4))
   all_goals first | exact ⟨rfl,HFX,.inl ⟨HNO.out,rfl⟩⟩ | skip
   refine ⟨⟨k+1,xs++[x],vs++[.agg #[.int .i64 x.fr,.int .i64 x.gr,.int .i64 x.st,.bool x.nul,.string x.body]],r,sa',sc',by omega,by go_num,rfl, ?_, ?_, ?_, ?_, ?_, ?_, ?_⟩,by simp [intOf];omega⟩
   ·have:=HXL.out;simp;exact this
   ·rw [fG];exact hR4
   ·exact hEa.app (by omega) hsa hss hF4 hB4
   ·exact hQa.fr hF4 (fun e=>by have:=(hRa.aR e).2.1;omega)
   ·exact Fr.trans hFa hF4 (fun _ _ e=>e) (fun i hi e=>absurd hi (by have:=(hRa.aR e).2.1;omega))
   ·have:=hF4.size;simp at this;have:=hG.size;omega
   ·exact (HPL.out.symm.trans (gP (HPL.out.trans HC.out) hlt hs))
  ·obtain rfl:k=N:=by omega
   have jf:Hid (pl=some (xs,s')):=HPL.out.symm.trans (iK (HPL.out.trans HC.out))
   go_wp2
   go_ret
   have hxl:=HXL.out
   subst hxl
   refine ⟨hF,.inr ⟨xs,s',sa,sc,jf.out,rfl,rfl, ?_,hQ⟩⟩
   exact hE.read hR (fun W hRW hV=>Cw hRW hE.1 (by omega) hV)
end Go.Proofs.Ytiiifecfdkjmbaa
