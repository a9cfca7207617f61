/- The law WorldTells answers true; conditions: the world reads as one, the groups as ints. -/
import Derived.Test.YtiiifecfdkjmbaaLWorld
namespace Go.Proofs.Ytiiifecfdkjmbaa
set_option maxRecDepth 8000
open Go.RowKit Go.Shelf
open _root_.Go.Proofs.Ytiiifecfdkjmbaa.Pure
set_option linter.unusedVariables false
set_option linter.unusedSimpArgs false
set_option maxHeartbeats 2000000 in
theorem lawWorldTells_err (nodes : Int) (a : Option Addr) (len cap : Nat) (l : List Int) (x : WV) (d : Wd) (w : World) (hI : Ints w a len l) (hW : WAt w x d) (hE : ¬ chkE nodes l = 0) :
  Calls Try.prog 3 #[.int .i64 nodes, .slice a len cap, .agg #[.slice x.ga x.gl x.gc, .slice x.na x.nl x.nc, .slice x.wa x.wl x.wc]] w fun e w' => e = .returned (.bool true) ∧ Since w w' := by
 obtain ⟨ga, gl, gc, na, nl, nc, wa, wl, wk⟩ := x
 dsimp only
 obtain ⟨w1, hw1⟩ : ∃ wp, w.alloc (.cells #[.slice ga gl gc, .slice na nl nc, .slice wa wl wk] 26) = wp := ⟨_, rfl⟩
 have hP1 : ParBox w1 w.heap.size ⟨ga, gl, gc, na, nl, nc, wa, wl, wk⟩ := by rw [← hw1]; exact ParBox.new w ⟨ga, gl, gc, na, nl, nc, wa, wl, wk⟩ _
 have hS1 : Since w w1 := by rw [← hw1]; exact (Since.refl w).alloc _
 have hW1 := hW.since hS1
 have hI1 := hI.since hS1
 have PF : Hid (∀ y, Since w1 y → ParBox y w.heap.size ⟨ga, gl, gc, na, nl, nc, wa, wl, wk⟩) := fun y hy => hP1.since hy
 have hB := worldBegin_err nodes a len cap l w1 hI1 hE
 have hG := fun (y : World) (hy : Since w1 y) => error_s y y nodes a len cap l (hI1.since hy) (Since.refl y)
 obtain ⟨er, her⟩ : ∃ er, chkE nodes l = er := ⟨_, rfl⟩
 rw [her] at hB hG hE
 have hE' : (er == 0) = false := by simpa using hE
 clear her hE
 go_enter Try.func3, Try.ntmps3
 go_wp2_with fail
 refine hB.mono ?_
 rintro e w2 hR2
 obtain ⟨rfl, hS2⟩ := hR2.out.1 er rfl
 obtain ⟨w3, hw3⟩ : ∃ y, w2.alloc (.cells #[.slice none 0 0, .slice none 0 0, .slice none 0 0] 26) = y := ⟨_, rfl⟩
 have hS3' : Since w2 w3 := by rw [← hw3]; exact (Since.refl w2).alloc _
 have hN3 : NilBox w3 w2.heap.size := by rw [← hw3]; exact NilBox.new w2 _
 obtain ⟨w4, hw4⟩ : ∃ y, ((w3.setCell ⟨w2.heap.size, 0, none⟩ (.slice none 0 0)).setCell ⟨w2.heap.size, 1, none⟩ (.slice none 0 0)).setCell ⟨w2.heap.size, 2, none⟩ (.slice none 0 0) = y := ⟨_, rfl⟩
 have hF4 : Fr (fun i => i = w2.heap.size) w3 w4 := by rw [← hw4]; exact put3_fr w3 w2.heap.size _ _ _
 have hS4 : Since w2 w4 := hF4.sinceBase hS3' (fun i hi e => by omega)
 have hN4 : NilBox w4 w2.heap.size := by
  obtain ⟨lt, r0, r1, r2, r3, r4, r5⟩ := hN3
  rw [← hw4]; constructor <;> simp [go_sem, lt, r0, r1, r2, r3, r4, r5]
 have h14 := hS2.trans hS4
 obtain ⟨_, r0, r1, r2, r3, r4, r5⟩ := hN3
 go_wp2_with (go_at_call 13; refine (hG w4 h14).mono ?_; rintro e w5 ⟨rfl, hS5⟩)
 clear r0 r1 r2 r3 r4 r5 hw3 hw4
 obtain ⟨w7, hw7⟩ : ∃ y, w5.alloc (.cells #[.slice none 0 0, .slice none 0 0, .slice none 0 0] 26) = y := ⟨_, rfl⟩
 have hS7 : Since w5 w7 := by rw [← hw7]; exact (Since.refl w5).alloc _
 have hN7 : NilBox w7 w5.heap.size := by rw [← hw7]; exact NilBox.new w5 _
 have h47 := hS5.trans hS7
 have h17 := h14.trans h47
 try rw [hw7]
 clear hw7
 obtain ⟨dE, hdE⟩ : ∃ z, worldE d = z := ⟨_, rfl⟩
 obtain ⟨S0, hS0⟩ : ∃ S0 : World → Prop, ∀ w', S0 w' ↔ Since w7 w' := ⟨_, fun _ => Iff.rfl⟩
 have p0 : ∀ y : HeldW S0, y.w.cell? ⟨w.heap.size, 0, none⟩ = some (.slice ga gl gc) := fun y => (PF.out _ (h17.trans ((hS0 _).1 y.h))).c0
 have p1 : ∀ y : HeldW S0, y.w.cell? ⟨w.heap.size, 1, none⟩ = some (.slice na nl nc) := fun y => (PF.out _ (h17.trans ((hS0 _).1 y.h))).c1
 have p2 : ∀ y : HeldW S0, y.w.cell? ⟨w.heap.size, 2, none⟩ = some (.slice wa wl wk) := fun y => (PF.out _ (h17.trans ((hS0 _).1 y.h))).c2
 have x0 : ∀ y : HeldW S0, y.w.cell? ⟨w2.heap.size, 0, none⟩ = some (.slice none 0 0) := fun y => (hN4.since (h47.trans ((hS0 _).1 y.h))).c0
 have x1 : ∀ y : HeldW S0, y.w.cell? ⟨w2.heap.size, 1, none⟩ = some (.slice none 0 0) := fun y => (hN4.since (h47.trans ((hS0 _).1 y.h))).c1
 have x2 : ∀ y : HeldW S0, y.w.cell? ⟨w2.heap.size, 2, none⟩ = some (.slice none 0 0) := fun y => (hN4.since (h47.trans ((hS0 _).1 y.h))).c2
 have u0 : ∀ y : HeldW S0, y.w.cell? ⟨w5.heap.size, 0, none⟩ = some (.slice none 0 0) := fun y => (hN7.since ((hS0 _).1 y.h)).c0
 have u1 : ∀ y : HeldW S0, y.w.cell? ⟨w5.heap.size, 1, none⟩ = some (.slice none 0 0) := fun y => (hN7.since ((hS0 _).1 y.h)).c1
 have u2 : ∀ y : HeldW S0, y.w.cell? ⟨w5.heap.size, 2, none⟩ = some (.slice none 0 0) := fun y => (hN7.since ((hS0 _).1 y.h)).c2
 obtain ⟨V0, hV0⟩ : ∃ y, w7.drew = y := ⟨_, rfl⟩
 have ht0 : Since w7 V0 := by rw [← hV0]; exact Since.drew (Since.refl _)
 have hSi0 := (hS0 V0).2 ht0
 have hne : Nonempty (HeldW S0) := ⟨⟨_, hSi0⟩⟩
 have hneT := heldTrue w
 refine beginM (fun w' => ∃ x : HeldW S0, w' = x.w) (by kernel_rfl) ?_
 rw [hV0]
 clear hV0
 refine actM 0 rfl (by kernel_rfl) ?_
 intro K hK
 go_simp
 refine (worldBegun_any V0).mono ?_
 rintro e V1 ⟨rfl, hs1⟩
 have ht1 := ht0.trans hs1
 have hSi1 := (hS0 V1).2 ht1
 refine hK _ _ (fun _ _ => heldS_mk hSi1) ?_
 clear hK K
 refine tW 1 rfl ?_
 go_big_quiet_op
 refine tM 2 rfl (heldS_mk hSi1) ?_
 go_big_quiet_op
 refine tM 3 rfl (heldS_mk hSi1) ?_
 go_big_quiet_op
 refine actM 4 rfl (by kernel_rfl) ?_
 intro K hK
 have hsw := sameNil V1
 go_simp
 refine (hsw).mono ?_
 rintro e V2 ⟨rfl, hs2⟩
 have ht2 := ht1.trans hs2
 have hSi2 := (hS0 V2).2 ht2
 refine hK _ _ (fun _ _ => heldS_mk hSi2) ?_
 clear hK K
 refine tW 5 rfl ?_
 go_big_quiet_op
 refine tW 6 rfl ?_
 go_big_quiet_op
 refine tW 7 rfl ?_
 go_big_quiet_op
 refine tW 8 rfl ?_
 go_big_quiet_op
 refine tW 9 rfl ?_
 go_big_quiet_op
 refine tW 10 rfl ?_
 go_big_quiet_op
 refine tW 11 rfl ?_
 go_big_quiet_op
 refine tM 12 rfl (heldS_mk hSi2) ?_
 go_big_quiet_op
 refine tM 14 rfl (heldS_mk hSi2) ?_
 go_big_quiet_op
 refine actM 13 rfl (by kernel_rfl) ?_
 intro K hK
 have hck := worldCheck_any ⟨ga, gl, gc, na, nl, nc, wa, wl, wk⟩ d V2 (hW1.since (h17.trans ht2))
 rw [hdE] at hck
 dsimp only at hck
 go_simp
 refine (hck).mono ?_
 rintro e V3 ⟨rfl, hs3⟩
 have ht3 := ht2.trans hs3
 have hSi3 := (hS0 V3).2 ht3
 refine hK _ _ (fun _ _ => heldS_mk hSi3) ?_
 clear hK K
 refine actM 15 rfl (by kernel_rfl) ?_
 intro K hK
 have hce := worldError_any ⟨ga, gl, gc, na, nl, nc, wa, wl, wk⟩ d V3 (hW1.since (h17.trans ht3))
 rw [hdE] at hce
 dsimp only at hce
 go_simp
 refine (hce).mono ?_
 rintro e V4 ⟨rfl, hs4⟩
 have ht4 := ht3.trans hs4
 have hSi4 := (hS0 V4).2 ht4
 refine hK _ _ (fun h => absurd h (by decide +kernel)) ?_
 clear hK K
 refine tW 16 rfl ?_
 go_big_quiet_op
 refine tW 17 rfl ?_
 go_big_quiet_op
 refine tW 18 rfl ?_
 go_big_quiet_op
 refine doneM (by kernel_rfl) ?_
 clear p0 p1 p2 x0 x1 x2 u0 u1 u2 hne hneT
 go_wp2_with fail
 go_ret
 exact ⟨by simp, hS1.trans (h17.trans ht4)⟩
set_option maxHeartbeats 2000000 in
theorem lawWorldTells_ok (nodes : Nat) (hn : nodes ≤ 4) (l : List Int) (hl : l.length ≤ 3) (a : Option Addr) (cap : Nat) (x : WV) (d : Wd) (w : World) (hI : Ints w a l.length l) (hW : WAt w x d) (hE : chkE (nodes : Int) l = 0) :
  Calls Try.prog 3 #[.int .i64 nodes, .slice a l.length cap, .agg #[.slice x.ga x.gl x.gc, .slice x.na x.nl x.nc, .slice x.wa x.wl x.wc]] w fun e w' => e = .returned (.bool true) ∧ Since w w' := by
 obtain ⟨ga, gl, gc, na, nl, nc, wa, wl, wk⟩ := x
 dsimp only
 obtain ⟨w1, hw1⟩ : ∃ wp, w.alloc (.cells #[.slice ga gl gc, .slice na nl nc, .slice wa wl wk] 26) = wp := ⟨_, rfl⟩
 have hP1 : ParBox w1 w.heap.size ⟨ga, gl, gc, na, nl, nc, wa, wl, wk⟩ := by rw [← hw1]; exact ParBox.new w ⟨ga, gl, gc, na, nl, nc, wa, wl, wk⟩ _
 have hS1 : Since w w1 := by rw [← hw1]; exact (Since.refl w).alloc _
 have hW1 := hW.since hS1
 have hI1 := hI.since hS1
 have PF : Hid (∀ y, Since w1 y → ParBox y w.heap.size ⟨ga, gl, gc, na, nl, nc, wa, wl, wk⟩) := fun y hy => hP1.since hy
 have hB := worldBegin_ok nodes hn l hl a cap w1 hI1 hE
 have hG := fun (y : World) (hy : Since w1 y) => error_s y y nodes a l.length cap l (hI1.since hy) (Since.refl y)
 rw [hE] at hG
 obtain ⟨db, hdb⟩ : ∃ z, beginD nodes l = z := ⟨_, rfl⟩
 have hF := fun (y : World) (hy : Since w1 y) => beginOf_any nodes hn l hl a cap y (hI1.since hy)
 rw [hdb] at hB hF
 clear hE hdb
 go_enter Try.func3, Try.ntmps3
 go_wp2_with fail
 refine hB.mono ?_
 rintro e w2 hR2
 obtain ⟨⟨xga, xgl, xgc, xna, xnl, xnc, xwa, xwl, xwc⟩, rfl, hX2, hS2⟩ := resW_wat hR2
 dsimp only
 obtain ⟨w3, hw3⟩ : ∃ y, w2.alloc (.cells #[.slice xga xgl xgc, .slice xna xnl xnc, .slice xwa xwl xwc] 26) = y := ⟨_, rfl⟩
 have hS3 : Since w2 w3 := by rw [← hw3]; exact (Since.refl w2).alloc _
 have hQ3 : ParBox w3 w2.heap.size ⟨xga, xgl, xgc, xna, xnl, xnc, xwa, xwl, xwc⟩ := by rw [← hw3]; exact ParBox.new w2 ⟨xga, xgl, xgc, xna, xnl, xnc, xwa, xwl, xwc⟩ _
 have hX3 := hX2.since hS3
 have h13 := hS2.trans hS3
 clear hR2
 go_wp2_with (go_at_call 13; refine (hG w3 h13).mono ?_; rintro e w4 ⟨rfl, hS4⟩)
 obtain ⟨w5, hw5⟩ : ∃ y, w4.alloc (.cells #[.slice none 0 0, .slice none 0 0, .slice none 0 0] 26) = y := ⟨_, rfl⟩
 have hS5 : Since w4 w5 := by rw [← hw5]; exact (Since.refl w4).alloc _
 have hN5 : NilBox w5 w4.heap.size := by rw [← hw5]; exact NilBox.new w4 _
 try rw [hw5]
 have h15 := (h13.trans hS4).trans hS5
 refine (hF w5 h15).mono ?_
 rintro e w6 ⟨L, rfl, hO6, hS6⟩
 simp only [wval]
 have hN6 := hN5.since hS6
 have hbx := nil_box (d := db) (L := L) hN6
 obtain ⟨hOF, hsF⟩ := hO6.result (w0 := w4) (p := w4.heap.size) hN5.lt (Nat.le_refl _) (hS5.trans hS6) hS5.size
 obtain ⟨w7, hw7⟩ : ∃ y, ((w6.setCell ⟨w4.heap.size, 0, none⟩ (.slice (L (0, 0, 0)).a db.groups.length (L (0, 0, 0)).cap)).setCell ⟨w4.heap.size, 1, none⟩ (.slice (L (1, 0, 0)).a db.nodes.length (L (1, 0, 0)).cap)).setCell ⟨w4.heap.size, 2, none⟩ (.slice (L (2, 0, 0)).a db.wires.length (L (2, 0, 0)).cap) = y := ⟨_, rfl⟩
 rw [hw7] at hbx hOF hsF
 obtain ⟨lt, r0, r1, r2, r3, r4, r5⟩ := hN6
 have h37 := hS4.trans hsF
 have h17 := h13.trans h37
 clear hw3 hw5
 go_wp2_with fail
 try rw [hw7]
 clear r0 r1 r2 r3 r4 r5 hw7
 obtain ⟨dE, hdE⟩ : ∃ z, worldE d = z := ⟨_, rfl⟩
 obtain ⟨S0, hS0⟩ : ∃ S0 : World → Prop, ∀ w', S0 w' ↔ Since w7 w' := ⟨_, fun _ => Iff.rfl⟩
 have p0 : ∀ y : HeldW S0, y.w.cell? ⟨w.heap.size, 0, none⟩ = some (.slice ga gl gc) := fun y => (PF.out _ (h17.trans ((hS0 _).1 y.h))).c0
 have p1 : ∀ y : HeldW S0, y.w.cell? ⟨w.heap.size, 1, none⟩ = some (.slice na nl nc) := fun y => (PF.out _ (h17.trans ((hS0 _).1 y.h))).c1
 have p2 : ∀ y : HeldW S0, y.w.cell? ⟨w.heap.size, 2, none⟩ = some (.slice wa wl wk) := fun y => (PF.out _ (h17.trans ((hS0 _).1 y.h))).c2
 have x0 : ∀ y : HeldW S0, y.w.cell? ⟨w2.heap.size, 0, none⟩ = some (.slice xga xgl xgc) := fun y => (hQ3.since (h37.trans ((hS0 _).1 y.h))).c0
 have x1 : ∀ y : HeldW S0, y.w.cell? ⟨w2.heap.size, 1, none⟩ = some (.slice xna xnl xnc) := fun y => (hQ3.since (h37.trans ((hS0 _).1 y.h))).c1
 have x2 : ∀ y : HeldW S0, y.w.cell? ⟨w2.heap.size, 2, none⟩ = some (.slice xwa xwl xwc) := fun y => (hQ3.since (h37.trans ((hS0 _).1 y.h))).c2
 have u0 : ∀ y : HeldW S0, y.w.cell? ⟨w4.heap.size, 0, none⟩ = _ := fun y => (hbx.since ((hS0 _).1 y.h)).c0
 have u1 : ∀ y : HeldW S0, y.w.cell? ⟨w4.heap.size, 1, none⟩ = _ := fun y => (hbx.since ((hS0 _).1 y.h)).c1
 have u2 : ∀ y : HeldW S0, y.w.cell? ⟨w4.heap.size, 2, none⟩ = _ := fun y => (hbx.since ((hS0 _).1 y.h)).c2
 obtain ⟨V0, hV0⟩ : ∃ y, w7.drew = y := ⟨_, rfl⟩
 have ht0 : Since w7 V0 := by rw [← hV0]; exact Since.drew (Since.refl _)
 have hSi0 := (hS0 V0).2 ht0
 have hne : Nonempty (HeldW S0) := ⟨⟨_, hSi0⟩⟩
 have hneT := heldTrue w
 refine beginM (fun w' => ∃ x : HeldW S0, w' = x.w) (by kernel_rfl) ?_
 rw [hV0]
 clear hV0
 refine actM 0 rfl (by kernel_rfl) ?_
 intro K hK
 go_simp
 refine (worldBegun_any V0).mono ?_
 rintro e V1 ⟨rfl, hs1⟩
 have ht1 := ht0.trans hs1
 have hSi1 := (hS0 V1).2 ht1
 refine hK _ _ (fun _ _ => heldS_mk hSi1) ?_
 clear hK K
 refine tW 1 rfl ?_
 go_big_quiet_op
 refine tM 2 rfl (heldS_mk hSi1) ?_
 go_big_quiet_op
 refine tM 3 rfl (heldS_mk hSi1) ?_
 go_big_quiet_op
 refine actM 4 rfl (by kernel_rfl) ?_
 intro K hK
 have hsw := sameWorlds_true ⟨xga, xgl, xgc, xna, xnl, xnc, xwa, xwl, xwc⟩ (wvOf L db) db V1 (hX3.since (h37.trans ht1)) (hOF.since ht1).wat
 unfold wvOf at hsw
 dsimp only at hsw
 go_simp
 refine (hsw).mono ?_
 rintro e V2 ⟨rfl, hs2⟩
 have ht2 := ht1.trans hs2
 have hSi2 := (hS0 V2).2 ht2
 refine hK _ _ (fun _ _ => heldS_mk hSi2) ?_
 clear hK K
 refine tW 5 rfl ?_
 go_big_quiet_op
 refine tW 6 rfl ?_
 go_big_quiet_op
 refine tW 7 rfl ?_
 go_big_quiet_op
 refine tW 8 rfl ?_
 go_big_quiet_op
 refine tW 9 rfl ?_
 go_big_quiet_op
 refine tW 10 rfl ?_
 go_big_quiet_op
 refine tW 11 rfl ?_
 go_big_quiet_op
 refine tM 12 rfl (heldS_mk hSi2) ?_
 go_big_quiet_op
 refine tM 14 rfl (heldS_mk hSi2) ?_
 go_big_quiet_op
 refine actM 13 rfl (by kernel_rfl) ?_
 intro K hK
 have hck := worldCheck_any ⟨ga, gl, gc, na, nl, nc, wa, wl, wk⟩ d V2 (hW1.since (h17.trans ht2))
 rw [hdE] at hck
 dsimp only at hck
 go_simp
 refine (hck).mono ?_
 rintro e V3 ⟨rfl, hs3⟩
 have ht3 := ht2.trans hs3
 have hSi3 := (hS0 V3).2 ht3
 refine hK _ _ (fun _ _ => heldS_mk hSi3) ?_
 clear hK K
 refine actM 15 rfl (by kernel_rfl) ?_
 intro K hK
 have hce := worldError_any ⟨ga, gl, gc, na, nl, nc, wa, wl, wk⟩ d V3 (hW1.since (h17.trans ht3))
 rw [hdE] at hce
 dsimp only at hce
 go_simp
 refine (hce).mono ?_
 rintro e V4 ⟨rfl, hs4⟩
 have ht4 := ht3.trans hs4
 have hSi4 := (hS0 V4).2 ht4
 refine hK _ _ (fun h => absurd h (by decide +kernel)) ?_
 clear hK K
 refine tW 16 rfl ?_
 go_big_quiet_op
 refine tW 17 rfl ?_
 go_big_quiet_op
 refine tW 18 rfl ?_
 go_big_quiet_op
 refine doneM (by kernel_rfl) ?_
 clear p0 p1 p2 x0 x1 x2 u0 u1 u2 hne hneT
 go_wp2_with fail
 go_ret
 exact ⟨by simp, hS1.trans (h17.trans ht4)⟩
theorem lawWorldTells_any (nodes : Int) (a : Option Addr) (len cap : Nat) (l : List Int) (x : WV) (d : Wd) (w : World) (hI : Ints w a len l) (hW : WAt w x d) :
  Calls Try.prog 3 #[.int .i64 nodes, .slice a len cap, .agg #[.slice x.ga x.gl x.gc, .slice x.na x.nl x.nc, .slice x.wa x.wl x.wc]] w fun e w' => e = .returned (.bool true) ∧ Since w w' := by
 by_cases hE : chkE nodes l = 0
 ·obtain ⟨h1, h2, h3, h4⟩ := chkE_zero hE
  obtain ⟨k, rfl⟩ : ∃ k : Nat, nodes = (k : Int) := ⟨nodes.toNat, by omega⟩
  have hl := hI.hlen
  subst hl
  exact lawWorldTells_ok k (by omega) l h4 a cap x d w hI hW hE
 ·exact lawWorldTells_err nodes a len cap l x d w hI hW hE
end Go.Proofs.Ytiiifecfdkjmbaa
