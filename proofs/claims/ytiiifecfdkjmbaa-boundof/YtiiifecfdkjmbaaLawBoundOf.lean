/- The law BoundOf answers true; conditions: the world reads as one. -/
import Derived.BigQuiet
import Derived.Test.YtiiifecfdkjmbaaLBoundX
import Derived.Test.YtiiifecfdkjmbaaBoundS
namespace Go.Proofs.Ytiiifecfdkjmbaa
set_option maxRecDepth 8000
open Go.RowKit Go.Shelf
open _root_.Go.Proofs.Ytiiifecfdkjmbaa.Pure
set_option linter.unusedVariables false
set_option linter.unusedSimpArgs false

set_option maxHeartbeats 1000000 in
theorem lawBoundOf_any (x : WV) (d : Wd) (n : Int) (w : World) (hW : WAt w x d) :
    Calls Try.prog 4 #[.agg #[.slice x.ga x.gl x.gc, .slice x.na x.nl x.nc, .slice x.wa x.wl x.wc], .int .i64 n] w fun e w' => e = .returned (.bool true) ∧ Since w w' := by
  obtain ⟨ga, gl, gc, na, nl, nc, wa, wl, wc⟩ := x
  dsimp only
  obtain ⟨w1, hw1⟩ : ∃ wp, w.alloc (.cells #[.slice ga gl gc, .slice na nl nc, .slice wa wl wc] 26) = wp := ⟨_, rfl⟩
  have hP1 : ParBox w1 w.heap.size ⟨ga, gl, gc, na, nl, nc, wa, wl, wc⟩ := by rw [← hw1]; exact ParBox.new w ⟨ga, gl, gc, na, nl, nc, wa, wl, wc⟩ _
  have hS1 : Since w w1 := by rw [← hw1]; exact (Since.refl w).alloc _
  have hW1 := hW.since hS1
  have p0 := hP1.c0
  have p1 := hP1.c1
  have p2 := hP1.c2
  dsimp only at p0 p1 p2
  have PF : Hid (∀ y, Since w1 y → ParBox y w.heap.size ⟨ga, gl, gc, na, nl, nc, wa, wl, wc⟩) := fun y hy => hP1.since hy
  go_enter Try.func4, Try.ntmps4
  go_wp2_with (first
    | (go_at_call 19; refine (boundOf_any ⟨ga, gl, gc, na, nl, nc, wa, wl, wc⟩ d n w1 hW1).mono ?_; rintro e w2 ⟨rfl, hS2⟩; obtain ⟨lt2, f0, f1, f2⟩ := PF.out _ hS2; dsimp only at f0 f1 f2)
    | (go_at_call 20; refine (refBoundOf_any ⟨ga, gl, gc, na, nl, nc, wa, wl, wc⟩ d n w2 (hW1.since hS2)).mono ?_; rintro e w3 ⟨rfl, hS3⟩)
    | (go_at_call 21; refine (boundBegun_any w3).mono ?_; rintro e w4 ⟨rfl, hS4⟩))
  go_ret
  exact ⟨by simp, hS1.trans (hS2.trans (hS3.trans hS4))⟩
end Go.Proofs.Ytiiifecfdkjmbaa
