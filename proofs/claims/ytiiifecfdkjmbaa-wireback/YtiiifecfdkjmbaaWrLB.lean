/- Lemmas. -/
import Derived.Test.YtiiifecfdkjmbaaWrLA
set_option maxHeartbeats 2000000
namespace Go.Proofs.Ytiiifecfdkjmbaa
open _root_.Go.Proofs.Try hiding checked
set_option maxRecDepth 8000
open Go.RowKit Go.Shelf
open Pu
set_option linter.unusedVariables false
set_option linter.unusedSimpArgs false
theorem kU (B:Nat) (s:List UInt8) (g m:Int) (w:World) (h:RdB w B s g m) :
  Calls prog 155 #[.pointer (some ⟨B,0,none⟩)] w fun e w'=>FB B w w'/\((dS s=none/\e=.panicked (pan 1))\/∃ xs r sa sc,dS s=some (xs,r)/\e=.returned (.slice sa xs.length sc)/\Sg w.heap.size w'.heap.size (fun W=>dI W (.slice sa xs.length sc) xs) w'/\RdB w' B r g m):=by
 obtain ⟨pl,hpl⟩:∃ y,dS s=y:=⟨_,rfl⟩
 have HPL:Hid (dS s=pl):=hpl
 rw [hpl]
 clear hpl
 go_enter func155,ntmps155
 go_wp2_with (first
  | (go_at_call 128;refine (gW B s g m w h).mono ?_;rintro e w1 ⟨hF1,(⟨hn,rfl⟩ | ⟨x,r,hs,rfl,hx,hQ1⟩)⟩;have HNO:Hid (pl=none):=(by unfold Hid;rw [<-HPL.out];unfold dS;rw [hn];rfl);have HFX:FB B w w1:=hF1;rotate_left;obtain ⟨k,rfl⟩:∃ k:Nat,x=(k:Int):=⟨x.toNat,by omega⟩;have HK:Hid (pl=aD iR k r):=(by unfold Hid;rw [<-HPL.out];unfold dS;rw [hs,ak,Int.toNat_natCast]);clear hs)
  | (go_at_call 170;refine (wW B k (by omega) r g m w1 hQ1).mono ?_;rintro e w2 ⟨hF2,(⟨hn,rfl⟩ | ⟨xs,r2,sa,sc,hs,rfl,hl,hSg,hQ2⟩)⟩;have HNO:Hid (pl=none):=HK.out.trans hn;have HFX:FB B w w2:=FB.trans' hF1 hF2;rotate_left;have HOK:Hid (pl=some (xs,r2)):=HK.out.trans hs;have HL:Hid (xs.length=k):=hl;clear hs hl))
 all_goals first | exact ⟨rfl,HFX,.inl ⟨HNO.out,rfl⟩⟩ | skip
 go_ret
 exact ⟨FB.trans' hF1 hF2,.inr ⟨xs,r2,sa,sc,HOK.out,rfl,hSg.mono hF1.size (Nat.le_refl _) (Nat.le_refl _),hQ2⟩⟩
theorem yM (B n:Nat) (hn0:n<=255) (s:List UInt8) (g:Int) (w:World) (h:RdB w B s g n) :
  Calls prog 154 #[.pointer (some ⟨B,0,none⟩)] w fun e w'=>FB B w w'/\((aD (dh 3) n s=none/\e=.panicked (pan 1))\/∃ xs r sa sc,aD (dh 3) n s=some (xs,r)/\e=.returned (.slice sa xs.length sc)/\Sg w.heap.size w'.heap.size (fun W=>iq W (.slice sa xs.length sc) xs) w'/\RdB w' B r g n):=by
 obtain ⟨pl,hpl⟩:∃ y,aD (dh 3) n s=y:=⟨_,rfl⟩
 have HPL:Hid (aD (dh 3) n s=pl):=hpl
 rw [hpl]
 clear hpl
 have c2:=h.c2
 go_enter func154,ntmps154
 go_wp2_with (first
  | (go_at_call 129;refine (uQ B n (by omega) s g n w h).mono ?_;rintro e w2 ⟨hF2,(⟨hn,rfl⟩ | ⟨xs,r2,sa,sc,hs,rfl,hl,hSg,hQ2⟩)⟩;have HNO:Hid (pl=none):=HPL.out.symm.trans hn;have HFX:FB B w w2:=hF2;rotate_left;have HOK:Hid (pl=some (xs,r2)):=HPL.out.symm.trans hs;have HL:Hid (xs.length=n):=hl;clear hs hl))
 all_goals first | exact ⟨rfl,HFX,.inl ⟨HNO.out,rfl⟩⟩ | skip
 go_ret
 exact ⟨hF2,.inr ⟨xs,r2,sa,sc,HOK.out,rfl,hSg,hQ2⟩⟩
set_option maxRecDepth 8000 in
theorem uR (B:Nat) (N:Nat) (hN:N<=255) (s:List UInt8) (g m:Int) (w:World) (h:RdB w B s g m) :
  Calls prog 156 #[.int .i64 N,.func (.func 155) #[.pointer (some ⟨B,0,none⟩)] #[]] w fun e w'=>FB B w w'/\((aD dS N s=none/\e=.panicked (pan 1))\/∃ xs r sa sc,aD dS N s=some (xs,r)/\e=.returned (.slice sa xs.length sc)/\xs.length=N/\Sg w.heap.size w'.heap.size (fun W=>bW dI W (.slice sa xs.length sc) xs) w'/\RdB w' B r g m):=by
 obtain ⟨w1,hmk,hS1,hl1,hR1⟩:=iJ qx (by omega) (by omega) N (by omega) w
 have hB:=h.lt
 have hQ1:=h.since hS1
 have hF1:FB B w w1:=hS1.fb
 obtain ⟨pl,hpl⟩:∃ y,aD dS N s=y:=⟨_,rfl⟩
 have HPL:Hid (aD dS N s=pl):=hpl
 have HP0:Hid (pl=dK (aD dS (N - 0) s) fun ys r=>some (([]:List _)++ys,r)):=by unfold Hid;rw [<-hpl];exact fF _ N s
 rw [hpl]
 clear hpl
 go_enter func156,ntmps156
 go_wp2_with fail
 clear hmk
 go_loopw [5,9] (fun v i wr=>∃ (k:Nat) (xs:List _) (vs:List Value) (s':List UInt8) (sa:Option Addr) (sc:Nat),k<=N/\i=.int .i64 k/\v=.slice sa k sc/\xs.length=k/\Row wr w.heap.size 1 ⟨sa,sc⟩ k (bI vs)/\Els dI w.heap.size wr ⟨sa,sc⟩ vs xs/\RdB wr B s' g m/\FB B w wr/\w.heap.size < wr.heap.size/\Hid (pl=dK (aD dS (N - k) s') fun ys r=>some (xs++ys,r))) (fun _ i _=>N - (intOf i).toNat)
 case atStart=>exact ⟨0,[],[],s,_,_,Nat.zero_le _,rfl,rfl,rfl,hR1,Els.nil _ _ _ _,hQ1,hF1,hl1,HP0⟩
 case round =>
  obtain ⟨wo,rfl⟩:∃ wo,wo=wr:=⟨_,rfl⟩
  obtain ⟨k,xs,vs,s',sa,sc,hk,rfl,rfl,hxl,hR,hE,hQ,hF,hlw,HC⟩:=hrel
  have HXL:Hid (xs.length=k):=hxl
  clear hxl
  by_cases hlt:k < N
  ·have hone:=kU B s' g m wo hQ
   go_wp2_with (first
    | (go_at_call 155;refine hone.mono ?_;rintro e W2 ⟨hG,(⟨hn,rfl⟩ | ⟨x,r,va,vc,hs,rfl,hxs,hQ2⟩)⟩;have HNO:Hid (pl=none):=(by unfold Hid;rw [<-HPL.out];exact jL (HPL.out.trans HC.out) hlt hn);have HFX:FB B w W2:=FB.trans' hF hG;rotate_left;have hFX:FB B w W2:=FB.trans' hF hG;have hXB:∀ i,w.heap.size<=i->¬ (i=B):=fun i hi e=>(by omega);have hR2:=hR.fr hG (fun b hb e=>hXB b (hR.aR hb).2.1 e);have hE2:=hE.fr hG hXB;have hsg:Sg wo.heap.size W2.heap.size (fun W=>dI W (.slice va x.length vc) x) W2:=hxs;have hsrc:=dB (size:=1) (T:=39) (w:=W2) qx.und [.slice va x.length vc] rfl (fun u hu=>by simp at hu;subst hu;rfl) 1;have hRa:=hR2.since ((Since.refl W2).alloc (.cells #[.slice va x.length vc] 39));have hEa:=hE2.fr (((Since.refl W2).alloc (.cells #[.slice va x.length vc] 39)).fr (fun _=>False)) (fun _ _ x=>x);have hsa:=hsg.fr (((Since.refl W2).alloc (.cells #[.slice va x.length vc] 39)).fr (fun _=>False)) (fun _ _ _ x=>x);have hQa:=hQ2.since ((Since.refl W2).alloc (.cells #[.slice va x.length vc] 39));have hFa:FB B w (W2.alloc (.cells #[.slice va x.length vc] 39)):=FB.trans' hFX ((Since.refl W2).alloc _).fb;have hlo:w.heap.size<=(W2.alloc (.cells #[.slice va x.length vc] 39)).heap.size:=(by have:=hG.size;simp only [World.size_alloc];omega);have hss:∀ b,Sl.blk ⟨sa,sc⟩=some b->b < wo.heap.size:=fun b hb=>(hR.aR hb).2.2.1;clear hR hE hQ hR2 hE2 hsg hQ2 hone)
    | (at_builtin;refine dW qx rfl _ _ 53 rfl rfl hRa rfl hsrc (by omega) hlo ?_;intro sa' sc' W3 hR4 hF4 hB4))
   all_goals first | exact ⟨rfl,HFX,.inl ⟨HNO.out,rfl⟩⟩ | skip
   refine ⟨⟨k+1,xs++[x],vs++[.slice va x.length vc],r,sa',sc',by omega,by go_num,rfl, ?_, ?_, ?_, ?_, ?_, ?_, ?_⟩,by simp [intOf];omega⟩
   ·have:=HXL.out;simp;exact this
   ·rw [fG];exact hR4
   ·exact hEa.app (by omega) hsa hss hF4 hB4
   ·exact hQa.fr hF4 (fun e=>by have:=(hRa.aR e).2.1;omega)
   ·exact Fr.trans hFa hF4 (fun _ _ e=>e) (fun i hi e=>absurd hi (by have:=(hRa.aR e).2.1;omega))
   ·have:=hF4.size;simp at this;have:=hG.size;omega
   ·exact (HPL.out.symm.trans (gP (HPL.out.trans HC.out) hlt hs))
  ·obtain rfl:k=N:=by omega
   have jf:Hid (pl=some (xs,s')):=HPL.out.symm.trans (iK (HPL.out.trans HC.out))
   go_wp2
   go_ret
   have hxl:=HXL.out
   subst hxl
   refine ⟨hF,.inr ⟨xs,s',sa,sc,jf.out,rfl,rfl, ?_,hQ⟩⟩
   exact hE.read hR (fun W hRW hV=>nE (fun _ _ h=>yN h) hRW hE.1 (by omega) hV)
theorem Az (B n:Nat) (hn0:n<=255) (s:List UInt8) (g:Int) (w:World) (h:RdB w B s g n) :
  Calls prog 133 #[.pointer (some ⟨B,0,none⟩)] w fun e w'=>FB B w w'/\((aD dS n s=none/\e=.panicked (pan 1))\/∃ xs r sa sc,aD dS n s=some (xs,r)/\e=.returned (.slice sa xs.length sc)/\Sg w.heap.size w'.heap.size (fun W=>bW dI W (.slice sa xs.length sc) xs) w'/\RdB w' B r g n):=by
 obtain ⟨pl,hpl⟩:∃ y,aD dS n s=y:=⟨_,rfl⟩
 have HPL:Hid (aD dS n s=pl):=hpl
 rw [hpl]
 clear hpl
 have c2:=h.c2
 go_enter func133,ntmps133
 go_wp2_with (first
  | (go_at_call 156;refine (uR B n (by omega) s g n w h).mono ?_;rintro e w2 ⟨hF2,(⟨hn,rfl⟩ | ⟨xs,r2,sa,sc,hs,rfl,hl,hSg,hQ2⟩)⟩;have HNO:Hid (pl=none):=HPL.out.symm.trans hn;have HFX:FB B w w2:=hF2;rotate_left;have HOK:Hid (pl=some (xs,r2)):=HPL.out.symm.trans hs;have HL:Hid (xs.length=n):=hl;clear hs hl))
 all_goals first | exact ⟨rfl,HFX,.inl ⟨HNO.out,rfl⟩⟩ | skip
 go_ret
 exact ⟨hF2,.inr ⟨xs,r2,sa,sc,HOK.out,rfl,hSg,hQ2⟩⟩
set_option maxRecDepth 8000 in
theorem uS (B:Nat) (n:Nat) (hn0:n<=255) (N:Nat) (hN:N<=255) (s:List UInt8) (g:Int) (w:World) (h:RdB w B s g n) :
  Calls prog 153 #[.int .i64 N,.func (.func 154) #[.pointer (some ⟨B,0,none⟩)] #[]] w fun e w'=>FB B w w'/\((aD (aD (dh 3) n) N s=none/\e=.panicked (pan 1))\/∃ xs r sa sc,aD (aD (dh 3) n) N s=some (xs,r)/\e=.returned (.slice sa xs.length sc)/\xs.length=N/\Sg w.heap.size w'.heap.size (fun W=>bW iq W (.slice sa xs.length sc) xs) w'/\RdB w' B r g n):=by
 obtain ⟨w1,hmk,hS1,hl1,hR1⟩:=iJ mW (by omega) (by omega) N (by omega) w
 have hB:=h.lt
 have hQ1:=h.since hS1
 have hF1:FB B w w1:=hS1.fb
 obtain ⟨pl,hpl⟩:∃ y,aD (aD (dh 3) n) N s=y:=⟨_,rfl⟩
 have HPL:Hid (aD (aD (dh 3) n) N s=pl):=hpl
 have HP0:Hid (pl=dK (aD (aD (dh 3) n) (N - 0) s) fun ys r=>some (([]:List _)++ys,r)):=by unfold Hid;rw [<-hpl];exact fF _ N s
 rw [hpl]
 clear hpl
 go_enter func153,ntmps153
 go_wp2_with fail
 clear hmk
 go_loopw [5,9] (fun v i wr=>∃ (k:Nat) (xs:List _) (vs:List Value) (s':List UInt8) (sa:Option Addr) (sc:Nat),k<=N/\i=.int .i64 k/\v=.slice sa k sc/\xs.length=k/\Row wr w.heap.size 1 ⟨sa,sc⟩ k (bI vs)/\Els iq w.heap.size wr ⟨sa,sc⟩ vs xs/\RdB wr B s' g n/\FB B w wr/\w.heap.size < wr.heap.size/\Hid (pl=dK (aD (aD (dh 3) n) (N - k) s') fun ys r=>some (xs++ys,r))) (fun _ i _=>N - (intOf i).toNat)
 case atStart=>exact ⟨0,[],[],s,_,_,Nat.zero_le _,rfl,rfl,rfl,hR1,Els.nil _ _ _ _,hQ1,hF1,hl1,HP0⟩
 case round =>
  obtain ⟨wo,rfl⟩:∃ wo,wo=wr:=⟨_,rfl⟩
  obtain ⟨k,xs,vs,s',sa,sc,hk,rfl,rfl,hxl,hR,hE,hQ,hF,hlw,HC⟩:=hrel
  have HXL:Hid (xs.length=k):=hxl
  clear hxl
  by_cases hlt:k < N
  ·have hone:=yM B n hn0 s' g wo hQ
   go_wp2_with (first
    | (go_at_call 154;refine hone.mono ?_;rintro e W2 ⟨hG,(⟨hn,rfl⟩ | ⟨x,r,va,vc,hs,rfl,hxs,hQ2⟩)⟩;have HNO:Hid (pl=none):=(by unfold Hid;rw [<-HPL.out];exact jL (HPL.out.trans HC.out) hlt hn);have HFX:FB B w W2:=FB.trans' hF hG;rotate_left;have hFX:FB B w W2:=FB.trans' hF hG;have hXB:∀ i,w.heap.size<=i->¬ (i=B):=fun i hi e=>(by omega);have hR2:=hR.fr hG (fun b hb e=>hXB b (hR.aR hb).2.1 e);have hE2:=hE.fr hG hXB;have hsg:Sg wo.heap.size W2.heap.size (fun W=>iq W (.slice va x.length vc) x) W2:=hxs;have hsrc:=dB (size:=1) (T:=22) (w:=W2) mW.und [.slice va x.length vc] rfl (fun u hu=>by simp at hu;subst hu;rfl) 1;have hRa:=hR2.since ((Since.refl W2).alloc (.cells #[.slice va x.length vc] 22));have hEa:=hE2.fr (((Since.refl W2).alloc (.cells #[.slice va x.length vc] 22)).fr (fun _=>False)) (fun _ _ x=>x);have hsa:=hsg.fr (((Since.refl W2).alloc (.cells #[.slice va x.length vc] 22)).fr (fun _=>False)) (fun _ _ _ x=>x);have hQa:=hQ2.since ((Since.refl W2).alloc (.cells #[.slice va x.length vc] 22));have hFa:FB B w (W2.alloc (.cells #[.slice va x.length vc] 22)):=FB.trans' hFX ((Since.refl W2).alloc _).fb;have hlo:w.heap.size<=(W2.alloc (.cells #[.slice va x.length vc] 22)).heap.size:=(by have:=hG.size;simp only [World.size_alloc];omega);have hss:∀ b,Sl.blk ⟨sa,sc⟩=some b->b < wo.heap.size:=fun b hb=>(hR.aR hb).2.2.1;clear hR hE hQ hR2 hE2 hsg hQ2 hone)
    | (at_builtin;refine dW mW rfl _ _ 43 rfl rfl hRa rfl hsrc (by omega) hlo ?_;intro sa' sc' W3 hR4 hF4 hB4))
   all_goals first | exact ⟨rfl,HFX,.inl ⟨HNO.out,rfl⟩⟩ | skip
   refine ⟨⟨k+1,xs++[x],vs++[.slice va x.length vc],r,sa',sc',by omega,by go_num,rfl, ?_, ?_, ?_, ?_, ?_, ?_, ?_⟩,by simp [intOf];omega⟩
   ·have:=HXL.out;simp;exact this
   ·rw [fG];exact hR4
   ·exact hEa.app (by omega) hsa hss hF4 hB4
   ·exact hQa.fr hF4 (fun e=>by have:=(hRa.aR e).2.1;omega)
   ·exact Fr.trans hFa hF4 (fun _ _ e=>e) (fun i hi e=>absurd hi (by have:=(hRa.aR e).2.1;omega))
   ·have:=hF4.size;simp at this;have:=hG.size;omega
   ·exact (HPL.out.symm.trans (gP (HPL.out.trans HC.out) hlt hs))
  ·obtain rfl:k=N:=by omega
   have jf:Hid (pl=some (xs,s')):=HPL.out.symm.trans (iK (HPL.out.trans HC.out))
   go_wp2
   go_ret
   have hxl:=HXL.out
   subst hxl
   refine ⟨hF,.inr ⟨xs,s',sa,sc,jf.out,rfl,rfl, ?_,hQ⟩⟩
   exact hE.read hR (fun W hRW hV=>nE (fun _ _ h=>yO h) hRW hE.1 (by omega) hV)
set_option maxRecDepth 8000 in
theorem wY (B:Nat) (n:Nat) (hn0:n<=255) (N:Nat) (hN:N<=255) (s:List UInt8) (g:Int) (w:World) (h:RdB w B s g n) :
  Calls prog 132 #[.int .i64 N,.func (.func 133) #[.pointer (some ⟨B,0,none⟩)] #[]] w fun e w'=>FB B w w'/\((aD (aD dS n) N s=none/\e=.panicked (pan 1))\/∃ xs r sa sc,aD (aD dS n) N s=some (xs,r)/\e=.returned (.slice sa xs.length sc)/\xs.length=N/\Sg w.heap.size w'.heap.size (fun W=>bW (bW dI) W (.slice sa xs.length sc) xs) w'/\RdB w' B r g n):=by
 obtain ⟨w1,hmk,hS1,hl1,hR1⟩:=iJ kJ (by omega) (by omega) N (by omega) w
 have hB:=h.lt
 have hQ1:=h.since hS1
 have hF1:FB B w w1:=hS1.fb
 obtain ⟨pl,hpl⟩:∃ y,aD (aD dS n) N s=y:=⟨_,rfl⟩
 have HPL:Hid (aD (aD dS n) N s=pl):=hpl
 have HP0:Hid (pl=dK (aD (aD dS n) (N - 0) s) fun ys r=>some (([]:List _)++ys,r)):=by unfold Hid;rw [<-hpl];exact fF _ N s
 rw [hpl]
 clear hpl
 go_enter func132,ntmps132
 go_wp2_with fail
 clear hmk
 go_loopw [5,9] (fun v i wr=>∃ (k:Nat) (xs:List _) (vs:List Value) (s':List UInt8) (sa:Option Addr) (sc:Nat),k<=N/\i=.int .i64 k/\v=.slice sa k sc/\xs.length=k/\Row wr w.heap.size 1 ⟨sa,sc⟩ k (bI vs)/\Els (bW dI) w.heap.size wr ⟨sa,sc⟩ vs xs/\RdB wr B s' g n/\FB B w wr/\w.heap.size < wr.heap.size/\Hid (pl=dK (aD (aD dS n) (N - k) s') fun ys r=>some (xs++ys,r))) (fun _ i _=>N - (intOf i).toNat)
 case atStart=>exact ⟨0,[],[],s,_,_,Nat.zero_le _,rfl,rfl,rfl,hR1,Els.nil _ _ _ _,hQ1,hF1,hl1,HP0⟩
 case round =>
  obtain ⟨wo,rfl⟩:∃ wo,wo=wr:=⟨_,rfl⟩
  obtain ⟨k,xs,vs,s',sa,sc,hk,rfl,rfl,hxl,hR,hE,hQ,hF,hlw,HC⟩:=hrel
  have HXL:Hid (xs.length=k):=hxl
  clear hxl
  by_cases hlt:k < N
  ·have hone:=Az B n hn0 s' g wo hQ
   go_wp2_with (first
    | (go_at_call 133;refine hone.mono ?_;rintro e W2 ⟨hG,(⟨hn,rfl⟩ | ⟨x,r,va,vc,hs,rfl,hxs,hQ2⟩)⟩;have HNO:Hid (pl=none):=(by unfold Hid;rw [<-HPL.out];exact jL (HPL.out.trans HC.out) hlt hn);have HFX:FB B w W2:=FB.trans' hF hG;rotate_left;have hFX:FB B w W2:=FB.trans' hF hG;have hXB:∀ i,w.heap.size<=i->¬ (i=B):=fun i hi e=>(by omega);have hR2:=hR.fr hG (fun b hb e=>hXB b (hR.aR hb).2.1 e);have hE2:=hE.fr hG hXB;have hsg:Sg wo.heap.size W2.heap.size (fun W=>(bW dI) W (.slice va x.length vc) x) W2:=hxs;have hsrc:=dB (size:=1) (T:=53) (w:=W2) kJ.und [.slice va x.length vc] rfl (fun u hu=>by simp at hu;subst hu;rfl) 1;have hRa:=hR2.since ((Since.refl W2).alloc (.cells #[.slice va x.length vc] 53));have hEa:=hE2.fr (((Since.refl W2).alloc (.cells #[.slice va x.length vc] 53)).fr (fun _=>False)) (fun _ _ x=>x);have hsa:=hsg.fr (((Since.refl W2).alloc (.cells #[.slice va x.length vc] 53)).fr (fun _=>False)) (fun _ _ _ x=>x);have hQa:=hQ2.since ((Since.refl W2).alloc (.cells #[.slice va x.length vc] 53));have hFa:FB B w (W2.alloc (.cells #[.slice va x.length vc] 53)):=FB.trans' hFX ((Since.refl W2).alloc _).fb;have hlo:w.heap.size<=(W2.alloc (.cells #[.slice va x.length vc] 53)).heap.size:=(by have:=hG.size;simp only [World.size_alloc];omega);have hss:∀ b,Sl.blk ⟨sa,sc⟩=some b->b < wo.heap.size:=fun b hb=>(hR.aR hb).2.2.1;clear hR hE hQ hR2 hE2 hsg hQ2 hone)
    | (at_builtin;refine dW kJ rfl _ _ 24 rfl rfl hRa rfl hsrc (by omega) hlo ?_;intro sa' sc' W3 hR4 hF4 hB4))
   all_goals first | exact ⟨rfl,HFX,.inl ⟨HNO.out,rfl⟩⟩ | skip
   refine ⟨⟨k+1,xs++[x],vs++[.slice va x.length vc],r,sa',sc',by omega,by go_num,rfl, ?_, ?_, ?_, ?_, ?_, ?_, ?_⟩,by simp [intOf];omega⟩
   ·have:=HXL.out;simp;exact this
   ·rw [fG];exact hR4
   ·exact hEa.app (by omega) hsa hss hF4 hB4
   ·exact hQa.fr hF4 (fun e=>by have:=(hRa.aR e).2.1;omega)
   ·exact Fr.trans hFa hF4 (fun _ _ e=>e) (fun i hi e=>absurd hi (by have:=(hRa.aR e).2.1;omega))
   ·have:=hF4.size;simp at this;have:=hG.size;omega
   ·exact (HPL.out.symm.trans (gP (HPL.out.trans HC.out) hlt hs))
  ·obtain rfl:k=N:=by omega
   have jf:Hid (pl=some (xs,s')):=HPL.out.symm.trans (iK (HPL.out.trans HC.out))
   go_wp2
   go_ret
   have hxl:=HXL.out
   subst hxl
   refine ⟨hF,.inr ⟨xs,s',sa,sc,jf.out,rfl,rfl, ?_,hQ⟩⟩
   exact hE.read hR (fun W hRW hV=>nE (fun _ _ h=>uT h) hRW hE.1 (by omega) hV)
end Go.Proofs.Ytiiifecfdkjmbaa
