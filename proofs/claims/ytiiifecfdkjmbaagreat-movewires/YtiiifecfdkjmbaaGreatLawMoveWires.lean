/- The law MoveWires answers true; conditions: the world reads as one. -/
import Derived.Test.YtiiifecfdkjmbaaGreatLMove
import Derived.Test.YtiiifecfdkjmbaaGreatRCalmX
import Derived.Test.YtiiifecfdkjmbaaGreatSameN
namespace Go.Proofs.YtiiifecfdkjmbaaGreat
set_option maxRecDepth 8000
open Go.RowKit Go.Shelf
open _root_.Go.Proofs.YtiiifecfdkjmbaaGreat.Pure
set_option linter.unusedVariables false
set_option linter.unusedSimpArgs false
set_option maxHeartbeats 1000000 in
theorem lawMoveWires_any (x : WV) (d : Wd) (f t : Int) (w : World) (hW : WAt w x d) :
  Calls Tryz.prog 6 #[.agg #[.slice x.ga x.gl x.gc, .slice x.na x.nl x.nc, .slice x.wa x.wl x.wc], .int .i64 f, .int .i64 t] w fun e w' => e = .returned (.bool true) ∧ Since w w' := by
 obtain ⟨ga, gl, gc, na, nl, nc, wa, wl, wc⟩ := x
 dsimp only
 obtain ⟨w1, hw1⟩ : ∃ wp, w.alloc (.cells #[.slice ga gl gc, .slice na nl nc, .slice wa wl wc] 26) = wp := ⟨_, rfl⟩
 have hP1 : ParBox w1 w.heap.size ⟨ga, gl, gc, na, nl, nc, wa, wl, wc⟩ := by rw [← hw1]; exact ParBox.new w ⟨ga, gl, gc, na, nl, nc, wa, wl, wc⟩ _
 have hS1 : Since w w1 := by rw [← hw1]; exact (Since.refl w).alloc _
 have hW1 := hW.since hS1
 have p0 := hP1.c0
 have p1 := hP1.c1
 have p2 := hP1.c2
 dsimp only at p0 p1 p2
 have PF : Hid (∀ y, Since w1 y → ParBox y w.heap.size ⟨ga, gl, gc, na, nl, nc, wa, wl, wc⟩) := fun y hy => hP1.since hy
 have hA := moveWire_any ⟨ga, gl, gc, na, nl, nc, wa, wl, wc⟩ d f t w1 hW1
 have hB := fun (y : World) (hy : Since w1 y) => refWireOf_any ⟨ga, gl, gc, na, nl, nc, wa, wl, wc⟩ d f t y (hW1.since hy)
 obtain ⟨r, hr⟩ : ∃ r, checked d (wireSD d f t) = r := ⟨_, rfl⟩
 rw [hr] at hA hB
 dsimp only at hA hB
 clear hr hW
 go_enter Tryz.func6, Tryz.ntmps6
 go_wp2_with fail
 refine hA.mono ?_
 rintro e w2 hR2
 cases r with
 | error er =>
  obtain ⟨rfl, hF2⟩ := hR2.out.1 er rfl
  have hS2 := hF2.none
  obtain ⟨w3, hw3⟩ : ∃ y, w2.alloc (.cells #[.slice none 0 0, .slice none 0 0, .slice none 0 0] 26) = y := ⟨_, rfl⟩
  have hS3' : Since w2 w3 := by rw [← hw3]; exact (Since.refl w2).alloc _
  have hN3 : NilBox w3 w2.heap.size := by rw [← hw3]; exact NilBox.new w2 _
  obtain ⟨w4, hw4⟩ : ∃ y, ((w3.setCell ⟨w2.heap.size, 0, none⟩ (.slice none 0 0)).setCell ⟨w2.heap.size, 1, none⟩ (.slice none 0 0)).setCell ⟨w2.heap.size, 2, none⟩ (.slice none 0 0) = y := ⟨_, rfl⟩
  have hF4 : Fr (fun i => i = w2.heap.size) w3 w4 := by rw [← hw4]; exact put3_fr w3 w2.heap.size _ _ _
  have hS4 : Since w2 w4 := hF4.sinceBase hS3' (fun i hi e => by omega)
  have hN4 : NilBox w4 w2.heap.size := by
   rw [← hw4]
   exact ⟨Nat.lt_of_lt_of_le hN3.lt (put3_fr w3 w2.heap.size _ _ _).size, put3_0 hN3.c0, put3_1 hN3.c1, put3_2 hN3.c2, (put3_z _ _ _ _ _ _).trans hN3.z0, (put3_z _ _ _ _ _ _).trans hN3.z1, (put3_z _ _ _ _ _ _).trans hN3.z2⟩
  obtain ⟨_, r0, r1, r2, r3, r4, r5⟩ := hN3
  have h14 := hS2.trans hS4
  obtain ⟨_, f0, f1, f2⟩ := PF.out _ h14
  dsimp only at f0 f1 f2
  go_wp2_with fail
  refine (hB w4 h14).mono ?_
  rintro e w5 hR5
  obtain ⟨rfl, hF5⟩ := hR5.out.1 er rfl
  have hS5 := hF5.none
  clear r0 r1 r2 r3 r4 r5 f0 f1 f2 hw3 hw4
  obtain ⟨w6, hw6⟩ : ∃ y, w5.alloc (.cells #[.slice none 0 0, .slice none 0 0, .slice none 0 0] 26) = y := ⟨_, rfl⟩
  have hS6' : Since w5 w6 := by rw [← hw6]; exact (Since.refl w5).alloc _
  have hN6 : NilBox w6 w5.heap.size := by rw [← hw6]; exact NilBox.new w5 _
  obtain ⟨w7, hw7⟩ : ∃ y, ((w6.setCell ⟨w5.heap.size, 0, none⟩ (.slice none 0 0)).setCell ⟨w5.heap.size, 1, none⟩ (.slice none 0 0)).setCell ⟨w5.heap.size, 2, none⟩ (.slice none 0 0) = y := ⟨_, rfl⟩
  have hF7 : Fr (fun i => i = w5.heap.size) w6 w7 := by rw [← hw7]; exact put3_fr w6 w5.heap.size _ _ _
  have hS7 : Since w5 w7 := hF7.sinceBase hS6' (fun i hi e => by omega)
  have hN7 : NilBox w7 w5.heap.size := by
   rw [← hw7]
   exact ⟨Nat.lt_of_lt_of_le hN6.lt (put3_fr w6 w5.heap.size _ _ _).size, put3_0 hN6.c0, put3_1 hN6.c1, put3_2 hN6.c2, (put3_z _ _ _ _ _ _).trans hN6.z0, (put3_z _ _ _ _ _ _).trans hN6.z1, (put3_z _ _ _ _ _ _).trans hN6.z2⟩
  obtain ⟨_, r0, r1, r2, r3, r4, r5⟩ := hN6
  have NF : Hid (∀ y, Since w7 y → NilBox y w2.heap.size ∧ NilBox y w5.heap.size) := fun y hy => ⟨hN4.since ((hS5.trans hS7).trans hy), hN7.since hy⟩
  go_wp2_with (first
   | (go_at_call 35; refine (moveBegun_any w7).mono ?_; rintro e w8 ⟨rfl, hS8⟩; obtain ⟨⟨_, g0, g1, g2, _, _, _⟩, ⟨_, m0, m1, m2, _, _, _⟩⟩ := NF.out _ hS8)
   | (go_at_call 31; refine (sameNil w8).mono ?_; rintro e w9 ⟨rfl, hS9⟩))
  go_ret
  exact ⟨by simp, hS1.trans (h14.trans ((hS5.trans hS7).trans (hS8.trans hS9)))⟩
 | ok dm =>
  obtain ⟨d', m⟩ := dm
  obtain ⟨L, rfl, hO2, hF2⟩ := hR2.out.2 d' m rfl
  have hS2 := hF2.none
  simp only [wval]
  obtain ⟨w3, hw3⟩ : ∃ y, w2.alloc (.cells #[.slice (L (0, 0, 0)).a d'.groups.length (L (0, 0, 0)).cap, .slice (L (1, 0, 0)).a d'.nodes.length (L (1, 0, 0)).cap, .slice (L (2, 0, 0)).a d'.wires.length (L (2, 0, 0)).cap] 26) = y := ⟨_, rfl⟩
  have hS3 : Since w2 w3 := by rw [← hw3]; exact (Since.refl w2).alloc _
  have hB3 : BoxW w3 w2.heap.size L d' := by rw [← hw3]; constructor <;> simp [go_sem]
  have h13 := hS2.trans hS3
  obtain ⟨_, f0, f1, f2⟩ := PF.out _ h13
  dsimp only at f0 f1 f2
  go_wp2_with fail
  refine (hB w3 h13).mono ?_
  rintro e w5 hR5
  obtain ⟨L', rfl, hO5, hF5⟩ := hR5.out.2 d' m rfl
  have hS5 := hF5.none
  simp only [wval]
  clear f0 f1 f2 hw3
  obtain ⟨w6, hw6⟩ : ∃ y, w5.alloc (.cells #[.slice (L' (0, 0, 0)).a d'.groups.length (L' (0, 0, 0)).cap, .slice (L' (1, 0, 0)).a d'.nodes.length (L' (1, 0, 0)).cap, .slice (L' (2, 0, 0)).a d'.wires.length (L' (2, 0, 0)).cap] 26) = y := ⟨_, rfl⟩
  have hS6 : Since w5 w6 := by rw [← hw6]; exact (Since.refl w5).alloc _
  have hB6 : BoxW w6 w5.heap.size L' d' := by rw [← hw6]; constructor <;> simp [go_sem]
  have NF : Hid (∀ y, Since w6 y → BoxW y w2.heap.size L d' ∧ BoxW y w5.heap.size L' d') := fun y hy => ⟨hB3.since ((hS5.trans hS6).trans hy), hB6.since hy⟩
  have hOA := hO2.since (hS3.trans (hS5.trans hS6))
  have hOB := hO5.since hS6
  go_wp2_with (first
   | (go_at_call 35; refine (moveBegun_any w6).mono ?_; rintro e w8 ⟨rfl, hS8⟩; obtain ⟨⟨_, g0, g1, g2, _, _, _⟩, ⟨_, m0, m1, m2, _, _, _⟩⟩ := NF.out _ hS8)
   | (go_at_call 31; refine (sameOwn (hOA.since hS8) (hOB.since hS8)).mono ?_; rintro e w9 ⟨rfl, hS9⟩))
  go_ret
  exact ⟨by simp, hS1.trans (h13.trans ((hS5.trans hS6).trans (hS8.trans hS9)))⟩
end Go.Proofs.YtiiifecfdkjmbaaGreat
