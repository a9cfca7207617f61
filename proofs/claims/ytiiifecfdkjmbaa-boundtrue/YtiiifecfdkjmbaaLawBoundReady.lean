/- The law BoundReady answers true; conditions: the world reads as one. -/
import Derived.BigQuiet
import Derived.Test.YtiiifecfdkjmbaaLBoundX
import Derived.Test.YtiiifecfdkjmbaaBoundS
import Derived.Test.YtiiifecfdkjmbaaBoundX
namespace Go.Proofs.Ytiiifecfdkjmbaa
set_option maxRecDepth 8000
open Go.RowKit Go.Shelf
open _root_.Go.Proofs.Ytiiifecfdkjmbaa.Pure
set_option linter.unusedVariables false
set_option linter.unusedSimpArgs false

theorem readyZ_short (d : Wd) (n : Int) : (readyZ d n).length ≤ 40 := by
  by_cases h : nodeErr d n = 0
  · obtain ⟨hE, k, nd, rfl, hn⟩ := nodeErr_zero h
    rw [readyZ_at h hn]
    have h1 := held_short hE hn
    have h2 := List.length_filter_le (fun m : Mg => decide (m.st ≤ farZ d k nd)) nd.held
    unfold readyL
    omega
  · rw [readyZ_no h]; simp

set_option maxHeartbeats 1000000 in
theorem lawBoundReady_any (x : WV) (d : Wd) (n : Int) (w : World) (hW : WAt w x d) :
    Calls Try.prog 5 #[.agg #[.slice x.ga x.gl x.gc, .slice x.na x.nl x.nc, .slice x.wa x.wl x.wc], .int .i64 n] w fun e w' => e = .returned (.bool true) ∧ Since w w' := by
  obtain ⟨ga, gl, gc, na, nl, nc, wa, wl, wc⟩ := x
  dsimp only
  obtain ⟨w1, hw1⟩ : ∃ wp, w.alloc (.cells #[.slice ga gl gc, .slice na nl nc, .slice wa wl wc] 26) = wp := ⟨_, rfl⟩
  have hP1 : ParBox w1 w.heap.size ⟨ga, gl, gc, na, nl, nc, wa, wl, wc⟩ := by rw [← hw1]; exact ParBox.new w ⟨ga, gl, gc, na, nl, nc, wa, wl, wc⟩ _
  have hS1 : Since w w1 := by rw [← hw1]; exact (Since.refl w).alloc _
  have hW1 := hW.since hS1
  have p0 := hP1.c0
  have p1 := hP1.c1
  have p2 := hP1.c2
  dsimp only at p0 p1 p2
  have PF : Hid (∀ y, Since w1 y → ParBox y w.heap.size ⟨ga, gl, gc, na, nl, nc, wa, wl, wc⟩) := fun y hy => hP1.since hy
  obtain ⟨l, hl⟩ : ∃ l, readyZ d n = l := ⟨_, rfl⟩
  have hl40 : l.length ≤ 1000 := by have := readyZ_short d n; rw [hl] at this; omega
  have hA := boundReady_any ⟨ga, gl, gc, na, nl, nc, wa, wl, wc⟩ d n w1 hW1
  have hB := fun (w2 : World) (hS2 : Since w1 w2) => refReadyOf_any ⟨ga, gl, gc, na, nl, nc, wa, wl, wc⟩ d n w2 (hW1.since hS2)
  rw [hl] at hA hB
  clear hl
  go_enter Try.func5, Try.ntmps5
  go_wp2_with (first
    | (go_at_call 22; refine hA.mono ?_; rintro e w2 ⟨v, rfl, hv, hS2⟩; obtain ⟨ra, rc, rfl, hR⟩ := row_of_owns hv; obtain ⟨lt2, f0, f1, f2⟩ := PF.out _ hS2; dsimp only at f0 f1 f2)
    | (go_at_call 23; refine (hB w2 hS2).mono ?_; rintro e w3 ⟨v, rfl, hv3, hS3⟩; obtain ⟨sa, sc, rfl, hR3⟩ := row_of_owns hv3)
    | (go_at_call 21; refine (boundBegun_any w3).mono ?_; rintro e w4 ⟨rfl, hS4⟩)
    | (go_at_call 24; refine (sameMsgs_any ra _ rc l sa _ sc l w4 ((row_msgs hR hl40).since (hS3.trans hS4)) ((row_msgs hR3 hl40).since hS4)).mono ?_; rw [sameMs_refl]; rintro e w5 ⟨rfl, hS5⟩))
  go_ret
  exact ⟨by simp, hS1.trans (hS2.trans (hS3.trans (hS4.trans hS5)))⟩
end Go.Proofs.Ytiiifecfdkjmbaa
