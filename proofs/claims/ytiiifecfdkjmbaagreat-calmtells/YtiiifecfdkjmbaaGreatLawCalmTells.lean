/- The law CalmTells answers true; conditions: the world reads as one. -/
import Derived.Test.YtiiifecfdkjmbaaGreatLCalm
import Derived.Test.YtiiifecfdkjmbaaGreatRCalmX
import Derived.Test.YtiiifecfdkjmbaaGreatSameN
namespace Go.Proofs.YtiiifecfdkjmbaaGreat
set_option maxRecDepth 8000
open Go.RowKit Go.Shelf
open _root_.Go.Proofs.YtiiifecfdkjmbaaGreat.Pure
set_option linter.unusedVariables false
set_option linter.unusedSimpArgs false
def resD (r : Except Int (Wd × Int)) : Wd := match r with | .ok p => p.1 | .error _ => ⟨[], [], []⟩
def resM (r : Except Int (Wd × Int)) : Int := match r with | .ok p => p.2 | .error _ => 0
def resE (r : Except Int (Wd × Int)) : Int := match r with | .ok _ => 0 | .error e => e
theorem res3_uni {w : World} {r : Except Int (Wd × Int)} {e : Ending} {w' : World} (h : Res3 w r e w') : ∃ x : WV, e = .returned (.tuple #[.agg #[.slice x.ga x.gl x.gc, .slice x.na x.nl x.nc, .slice x.wa x.wl x.wc], .int .i64 (resM r), .int .i64 (resE r)]) ∧ WAt w' x (resD r) ∧ Since w w' := by
 cases r with
 | error er =>
  obtain ⟨rfl, hF⟩ := h.1 er rfl
  exact ⟨⟨none, 0, 0, none, 0, 0, none, 0, 0⟩, rfl, nil_wat w', hF.none⟩
 | ok p =>
  obtain ⟨d', m⟩ := p
  obtain ⟨L, rfl, hO, hF⟩ := h.2 d' m rfl
  exact ⟨wvOf L d', rfl, hO.wat, hF.none⟩
set_option maxHeartbeats 1000000 in
theorem lawCalmTells_any (x : WV) (d : Wd) (w : World) (hW : WAt w x d) :
  Calls Tryz.prog 8 #[.agg #[.slice x.ga x.gl x.gc, .slice x.na x.nl x.nc, .slice x.wa x.wl x.wc]] w fun e w' => e = .returned (.bool true) ∧ Since w w' := by
 obtain ⟨ga, gl, gc, na, nl, nc, wa, wl, wc⟩ := x
 dsimp only
 obtain ⟨w1, hw1⟩ : ∃ wp, w.alloc (.cells #[.slice ga gl gc, .slice na nl nc, .slice wa wl wc] 26) = wp := ⟨_, rfl⟩
 have hP1 : ParBox w1 w.heap.size ⟨ga, gl, gc, na, nl, nc, wa, wl, wc⟩ := by rw [← hw1]; exact ParBox.new w ⟨ga, gl, gc, na, nl, nc, wa, wl, wc⟩ _
 have hS1 : Since w w1 := by rw [← hw1]; exact (Since.refl w).alloc _
 have hW1 := hW.since hS1
 have PF : Hid (∀ y, Since w1 y → ParBox y w.heap.size ⟨ga, gl, gc, na, nl, nc, wa, wl, wc⟩) := fun y hy => hP1.since hy
 have hA := fun (y : World) (hy : Since w1 y) => calmDrain_any ⟨ga, gl, gc, na, nl, nc, wa, wl, wc⟩ d y (hW1.since hy)
 have hB := fun (y : World) (hy : Since w1 y) => calmRound_any ⟨ga, gl, gc, na, nl, nc, wa, wl, wc⟩ d y (hW1.since hy)
 have hC := fun (y : World) (hy : Since w1 y) => refDrainOf_any ⟨ga, gl, gc, na, nl, nc, wa, wl, wc⟩ d y (hW1.since hy)
 have hD := fun (y : World) (hy : Since w1 y) => refRoundOf_any ⟨ga, gl, gc, na, nl, nc, wa, wl, wc⟩ d y (hW1.since hy)
 obtain ⟨r1, hr1⟩ : ∃ r, checked d (drainSD d) = r := ⟨_, rfl⟩
 obtain ⟨r2, hr2⟩ : ∃ r, checked d (roundSD d) = r := ⟨_, rfl⟩
 rw [hr1] at hA hC
 rw [hr2] at hB hD
 dsimp only at hA hB hC hD
 obtain ⟨m1, hm1⟩ : ∃ m, resM r1 = m := ⟨_, rfl⟩
 obtain ⟨e1, he1⟩ : ∃ m, resE r1 = m := ⟨_, rfl⟩
 obtain ⟨m2, hm2⟩ : ∃ m, resM r2 = m := ⟨_, rfl⟩
 obtain ⟨e2, he2⟩ : ∃ m, resE r2 = m := ⟨_, rfl⟩
 clear hr1 hr2 hW
 have hcc := Since.refl w1
 obtain ⟨_, p0, p1, p2⟩ := PF.out w1 hcc
 dsimp only at p0 p1 p2
 go_enter Tryz.func8, Tryz.ntmps8
 go_wp2_with fail
 refine (hA w1 hcc).mono ?_
 rintro e w2 hR
 obtain ⟨xa, rfl, hA2, hS2⟩ := res3_uni hR.out
 simp only [hm1, he1]
 obtain ⟨w2b, hw2b⟩ : ∃ y, w2.alloc (.cells #[.slice xa.ga xa.gl xa.gc, .slice xa.na xa.nl xa.nc, .slice xa.wa xa.wl xa.wc] 26) = y := ⟨_, rfl⟩
 have hP2 : ParBox w2b w2.heap.size xa := by rw [← hw2b]; exact ParBox.new w2 xa _
 have hT2 : Since w2 w2b := by rw [← hw2b]; exact (Since.refl w2).alloc _
 have hU2 := hS2.trans hT2
 have hB2 := hA2.since hT2
 clear hR hA2 hS2 hT2 p0 p1 p2
 have h2 := hU2
 obtain ⟨_, p0, p1, p2⟩ := PF.out w2b h2
 dsimp only at p0 p1 p2
 go_wp2_with fail
 refine (hB w2b h2).mono ?_
 rintro e w3 hR
 obtain ⟨xb, rfl, hA3, hS3⟩ := res3_uni hR.out
 simp only [hm2, he2]
 obtain ⟨w3b, hw3b⟩ : ∃ y, w3.alloc (.cells #[.slice xb.ga xb.gl xb.gc, .slice xb.na xb.nl xb.nc, .slice xb.wa xb.wl xb.wc] 26) = y := ⟨_, rfl⟩
 have hP3 : ParBox w3b w3.heap.size xb := by rw [← hw3b]; exact ParBox.new w3 xb _
 have hT3 : Since w3 w3b := by rw [← hw3b]; exact (Since.refl w3).alloc _
 have hU3 := hS3.trans hT3
 have hB3 := hA3.since hT3
 clear hR hA3 hS3 hT3 p0 p1 p2
 have h3 := h2.trans hU3
 obtain ⟨_, p0, p1, p2⟩ := PF.out w3b h3
 dsimp only at p0 p1 p2
 go_wp2_with fail
 refine (hC w3b h3).mono ?_
 rintro e w4 hR
 obtain ⟨xc, rfl, hA4, hS4⟩ := res3_uni hR.out
 simp only [hm1, he1]
 obtain ⟨w4b, hw4b⟩ : ∃ y, w4.alloc (.cells #[.slice xc.ga xc.gl xc.gc, .slice xc.na xc.nl xc.nc, .slice xc.wa xc.wl xc.wc] 26) = y := ⟨_, rfl⟩
 have hP4 : ParBox w4b w4.heap.size xc := by rw [← hw4b]; exact ParBox.new w4 xc _
 have hT4 : Since w4 w4b := by rw [← hw4b]; exact (Since.refl w4).alloc _
 have hU4 := hS4.trans hT4
 have hB4 := hA4.since hT4
 clear hR hA4 hS4 hT4 p0 p1 p2
 have h4 := h3.trans hU4
 obtain ⟨_, p0, p1, p2⟩ := PF.out w4b h4
 dsimp only at p0 p1 p2
 go_wp2_with fail
 refine (hD w4b h4).mono ?_
 rintro e w5 hR
 obtain ⟨xd, rfl, hA5, hS5⟩ := res3_uni hR.out
 simp only [hm2, he2]
 obtain ⟨w5b, hw5b⟩ : ∃ y, w5.alloc (.cells #[.slice xd.ga xd.gl xd.gc, .slice xd.na xd.nl xd.nc, .slice xd.wa xd.wl xd.wc] 26) = y := ⟨_, rfl⟩
 have hP5 : ParBox w5b w5.heap.size xd := by rw [← hw5b]; exact ParBox.new w5 xd _
 have hT5 : Since w5 w5b := by rw [← hw5b]; exact (Since.refl w5).alloc _
 have hU5 := hS5.trans hT5
 have hB5 := hA5.since hT5
 clear hR hA5 hS5 hT5 p0 p1 p2
 have h5 := h4.trans hU5
 have FF : Hid (∀ y, Since w5b y → ParBox y w2.heap.size xa ∧ ParBox y w3.heap.size xb ∧ ParBox y w4.heap.size xc ∧ ParBox y w5.heap.size xd) := fun y hy =>
  ⟨hP2.since ((hU3.trans (hU4.trans hU5)).trans hy), hP3.since ((hU4.trans hU5).trans hy), hP4.since (hU5.trans hy), hP5.since hy⟩
 have S1 := fun (y : World) (hy : Since w5b y) => sameWorlds_true xa xc (resD r1) y (hB2.since ((hU3.trans (hU4.trans hU5)).trans hy)) (hB4.since (hU5.trans hy))
 have S2 := fun (y : World) (hy : Since w5b y) => sameWorlds_true xb xd (resD r2) y (hB3.since ((hU4.trans hU5).trans hy)) (hB5.since hy)
 clear hw1 hw2b hw3b hw4b hP2 hP3 hP4 hP5
 go_wp2_with fail
 refine (calmBegun_any w5b).mono ?_
 rintro e w6 ⟨rfl, hS6⟩
 obtain ⟨⟨_, a0, a1, a2⟩, _, ⟨_, c0, c1, c2⟩, _⟩ := FF.out _ hS6
 clear hw5b
 go_wp2_with fail
 refine (S1 w6 hS6).mono ?_
 rintro e w7 ⟨rfl, hS7⟩
 have h57 := hS6.trans hS7
 obtain ⟨_, ⟨_, b0, b1, b2⟩, _, ⟨_, d0, d1, d2⟩⟩ := FF.out _ h57
 clear a0 a1 a2 c0 c1 c2
 go_wp2_with fail
 refine (S2 w7 h57).mono ?_
 rintro e w8 ⟨rfl, hS8⟩
 clear b0 b1 b2 d0 d1 d2
 go_wp2
 go_ret
 exact ⟨by simp, hS1.trans (h5.trans (h57.trans hS8))⟩
end Go.Proofs.YtiiifecfdkjmbaaGreat
