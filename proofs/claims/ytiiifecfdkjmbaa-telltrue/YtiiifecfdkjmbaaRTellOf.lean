/- Contract of furlongref.TellOf; conditions: the world reads as one. -/
import Derived.BigQuiet
import Derived.Test.YtiiifecfdkjmbaaSTellX
import Derived.Test.YtiiifecfdkjmbaaRTellX
import Derived.Test.YtiiifecfdkjmbaaROwn
import Derived.Test.YtiiifecfdkjmbaaRCastX
namespace Go.Proofs.Ytiiifecfdkjmbaa
set_option maxRecDepth 8000
open Go.RowKit Go.Shelf
open _root_.Go.Proofs.Ytiiifecfdkjmbaa.Pure
set_option linter.unusedVariables false
set_option linter.unusedSimpArgs false

theorem tellD_E {d : Wd} {n : Nat} {x : Nd} (hx : d.nodes[n]? = some x) : tellD d n = if tellE d n x = 0 then .ok (setNode d n (toldNd d n x), (readyL d n x).length) else .error (tellE d n x) := by
  unfold tellD tellE toldNd
  rw [hx]
  dsimp only
  by_cases h : 40 < (x.told ++ readyL d n x).length
  · rw [if_pos h, if_pos h]; rfl
  · rw [if_neg h, if_neg h]
    by_cases h' : risesM (x.told ++ readyL d n x) = false
    · rw [if_pos h', if_pos h']; rfl
    · rw [if_neg h', if_neg h']; rfl

set_option maxHeartbeats 1000000 in
theorem refTellOf_any (x : WV) (d : Wd) (n : Int) (w : World) (hW : WAt w x d) :
    Calls Try.prog 27 #[.agg #[.slice x.ga x.gl x.gc, .slice x.na x.nl x.nc, .slice x.wa x.wl x.wc], .int .i64 n] w fun e w' => Hid (Res3 w (checked d (tellOfD d n)) e w') := by
  obtain ⟨ga, gl, gc, na, nl, nc, wa, wl, wc⟩ := x
  dsimp only
  obtain ⟨wp, hwp⟩ : ∃ wp, w.alloc (.cells #[.slice ga gl gc, .slice na nl nc, .slice wa wl wc] 26) = wp := ⟨_, rfl⟩
  have hPp : ParBox wp w.heap.size ⟨ga, gl, gc, na, nl, nc, wa, wl, wc⟩ := by rw [← hwp]; exact ParBox.new w ⟨ga, gl, gc, na, nl, nc, wa, wl, wc⟩ _
  have hSp : Since w wp := by rw [← hwp]; exact (Since.refl w).alloc _
  obtain ⟨w1, hw1⟩ : ∃ w1, wp.alloc (.cells #[.slice none 0 0, .slice none 0 0, .slice none 0 0] 26) = w1 := ⟨_, rfl⟩
  have hNB : NilBox w1 wp.heap.size := by rw [← hw1]; exact NilBox.new wp _
  have hSp1 : Since wp w1 := by rw [← hw1]; exact (Since.refl wp).alloc _
  have hP1 := hPp.since hSp1
  have hS1 := hSp.trans hSp1
  have hW1 := hW.since hS1
  have p0 := hP1.c0
  have p1 := hP1.c1
  have p2 := hP1.c2
  dsimp only at p0 p1 p2
  have PF : Hid (∀ y, Since w1 y → ParBox y w.heap.size ⟨ga, gl, gc, na, nl, nc, wa, wl, wc⟩) := fun y hy => hP1.since hy
  cases hE : (nodeErr d n != 0)
  · have h0 : nodeErr d n = 0 := by simpa using hE
    obtain ⟨hW0, k, nd, rfl, hn⟩ := nodeErr_zero h0
    have R := (right_iff d).1 hW0
    have hin : inB (k : Int) 0 ((d.nodes.length : Int) - 1) = true := by have := node_lt hn; simp [inB]; omega
    have HE : Hid (nodeErr d (k : Int) = 0) := h0
    have hL0 := lastOk_of hW0 hn
    have hh40 := held_short hW0 hn
    have HR : Hid (checked d (tellOfD d (k : Int)) = if tellE d k nd = 0 then .ok (setNode d k (toldNd d k nd), ((readyL d k nd).length : Int)) else .error (tellE d k nd)) := by
      unfold Hid checked tellOfD
      rw [if_pos hW0, hin, if_pos rfl, Int.toNat_natCast, tellD_E hn]
      by_cases h : tellE d k nd = 0
      · rw [if_pos h, if_pos h]; rfl
      · rw [if_neg h, if_neg h]; rfl
    clear h0 hin
    cases hT : (tellE d k nd != 0)
    · have HT : Hid (tellE d k nd = 0) := by unfold Hid; simpa using hT
      go_enter Try.func27, Try.ntmps27
      go_wp2_with (first
        | (go_at_call 52; refine (nodeError_any ⟨ga, gl, gc, na, nl, nc, wa, wl, wc⟩ d k w1 hW1).mono ?_; rintro e w2 ⟨rfl, hS2⟩; obtain ⟨lt2, f0, f1, f2⟩ := PF.out _ hS2; dsimp only at f0 f1 f2)
        | (go_at_call 62; refine (ownWorld_any ⟨ga, gl, gc, na, nl, nc, wa, wl, wc⟩ d w2 (hW1.since hS2) (smallW_right R)).mono ?_; rintro e w3 ⟨L, rfl, hO, hS3⟩; simp only [wval]; obtain ⟨w4, hw4⟩ : ∃ y, w3.alloc (.cells #[.slice (L (0, 0, 0)).a d.groups.length (L (0, 0, 0)).cap, .slice (L (1, 0, 0)).a d.nodes.length (L (1, 0, 0)).cap, .slice (L (2, 0, 0)).a d.wires.length (L (2, 0, 0)).cap] 26) = y := ⟨_, rfl⟩; have hS4 : Since w3 w4 := (by rw [← hw4]; exact (Since.refl w3).alloc _); have hM4 : MadeW w2.heap.size w4 w3.heap.size d L := ⟨hO.since hS4, (by rw [← hw4]; constructor <;> simp [go_sem]), fun hb => by have := (hO.blk hb).2; omega⟩)
        | (go_at_call 63; refine (refTell_any w2.heap.size w3.heap.size k d L nd w4 hM4 hn (Nat.le_trans hS3.size hS4.size) hL0 hh40).mono ?_; rintro e w5 ⟨rfl, _, hT2⟩; obtain ⟨L5, hM5, hst5⟩ := hT2 HT.out; have hS5 := hst5.fr.sinceBase (hS2.trans (hS3.trans hS4)) (fun i hi hb => by have := (hM4.own.blk hb).1; have := hS2.size; omega); obtain ⟨lt, r0, r1, r2, r3, r4, r5⟩ := hNB.since hS5; obtain ⟨bl, b0, b1, b2, bz0, bz1, bz2⟩ := hM5.box))
      obtain ⟨hO2, hSf⟩ := hM5.own.result (w0 := w) (p := wp.heap.size) (Nat.lt_of_lt_of_le hNB.lt hS2.size) hSp.size (hS1.trans hS5) (Nat.le_trans hS1.size hS2.size)
      refine bodyPost_ret (v := .tuple #[wval L5 (setNode d k (toldNd d k nd)), .int .i64 (readyL d k nd).length, .int .i64 0]) ?_ rfl (by unfold Hid; rw [HR.out, if_pos HT.out]; exact res3_ok hO2 hSf)
      simp [results, Try.results27, go_sem, r0, r1, r2, wval, HT.out]
    · have HT : Hid (¬ tellE d k nd = 0) := by unfold Hid; simpa using hT
      go_enter Try.func27, Try.ntmps27
      go_wp2_with (first
        | (go_at_call 52; refine (nodeError_any ⟨ga, gl, gc, na, nl, nc, wa, wl, wc⟩ d k w1 hW1).mono ?_; rintro e w2 ⟨rfl, hS2⟩; obtain ⟨lt2, f0, f1, f2⟩ := PF.out _ hS2; dsimp only at f0 f1 f2)
        | (go_at_call 62; refine (ownWorld_any ⟨ga, gl, gc, na, nl, nc, wa, wl, wc⟩ d w2 (hW1.since hS2) (smallW_right R)).mono ?_; rintro e w3 ⟨L, rfl, hO, hS3⟩; simp only [wval]; obtain ⟨w4, hw4⟩ : ∃ y, w3.alloc (.cells #[.slice (L (0, 0, 0)).a d.groups.length (L (0, 0, 0)).cap, .slice (L (1, 0, 0)).a d.nodes.length (L (1, 0, 0)).cap, .slice (L (2, 0, 0)).a d.wires.length (L (2, 0, 0)).cap] 26) = y := ⟨_, rfl⟩; have hS4 : Since w3 w4 := (by rw [← hw4]; exact (Since.refl w3).alloc _); have hM4 : MadeW w2.heap.size w4 w3.heap.size d L := ⟨hO.since hS4, (by rw [← hw4]; constructor <;> simp [go_sem]), fun hb => by have := (hO.blk hb).2; omega⟩)
        | (go_at_call 63; refine (refTell_any w2.heap.size w3.heap.size k d L nd w4 hM4 hn (Nat.le_trans hS3.size hS4.size) hL0 hh40).mono ?_; rintro e w5 ⟨rfl, hT1, _⟩; have hS5 := (hS2.trans (hS3.trans hS4)).trans (hT1 HT.out); obtain ⟨lt, r0, r1, r2, r3, r4, r5⟩ := hNB.since hS5))
      refine bodyPost_ret (v := .tuple #[.agg #[.slice none 0 0, .slice none 0 0, .slice none 0 0], .int .i64 0, .int .i64 (tellE d k nd)]) ?_ rfl (by unfold Hid; rw [HR.out, if_neg HT.out]; exact res3_err (nil_since hSp.size (hS1.trans hS5)))
      simp [results, Try.results27, go_sem, r0, r1, r2]
  · have hE0 : ¬ nodeErr d n = 0 := by simpa using hE
    have HF : Hid (checked d (tellOfD d n) = .error (nodeErr d n)) := by
      unfold Hid checked
      by_cases h : worldE d = 0
      · have hr := nodeErr_right ((right_iff d).1 h) n
        rw [if_pos h]
        unfold tellOfD
        cases hi : inB n 0 ((d.nodes.length : Int) - 1)
        · rw [hi] at hr; rw [hr]; rfl
        · rw [hi] at hr; exact absurd hr hE0
      · rw [if_neg h]; unfold nodeErr; rw [if_neg h]
    clear hE0
    go_enter Try.func27, Try.ntmps27
    go_wp2_with (go_at_call 52; refine (nodeError_any ⟨ga, gl, gc, na, nl, nc, wa, wl, wc⟩ d n w1 hW1).mono ?_; rintro e w2 ⟨rfl, hS2⟩; obtain ⟨lt, r0, r1, r2, r3, r4, r5⟩ := hNB.since hS2)
    refine bodyPost_ret (v := .tuple #[.agg #[.slice none 0 0, .slice none 0 0, .slice none 0 0], .int .i64 0, .int .i64 (nodeErr d n)]) ?_ rfl (by unfold Hid; rw [HF.out]; exact res3_err (nil_since hSp.size (hS1.trans hS2)))
    simp [results, Try.results27, go_sem, r0, r1, r2]
end Go.Proofs.Ytiiifecfdkjmbaa
