/- The laws' helper moveBegun answers true; no condition. -/
import Derived.Test.YtiiifecfdkjmbaaGreatLCast0
import Derived.Test.YtiiifecfdkjmbaaGreatSMoveX
namespace Go.Proofs.YtiiifecfdkjmbaaGreat
set_option maxRecDepth 8000
open Go.RowKit Go.Shelf
open _root_.Go.Proofs.YtiiifecfdkjmbaaGreat.Pure
set_option linter.unusedVariables false
set_option linter.unusedSimpArgs false
def mActs1 : List Ac := [⟨1, 0, 0, ⟨#[97]⟩⟩]
def mActs2 : List Ac := [⟨1, 0, 0, ⟨#[97]⟩⟩, ⟨2, 0, 0, ⟨#[]⟩⟩]
def mD1 : Wd := doneD 3 [3, 6] mActs1
def mD2 : Wd := doneD 3 [3, 6] mActs2
def mM1 : Wd := match moveOfD mD1 0 1 with | .ok p => p | .error _ => mD1
def mM2 : Wd := match wireSD mD2 0 1 with | .ok p => p.1 | .error _ => mD2
def mX1 : Nd := (mM1.nodes[1]?).getD ⟨0, [], [], []⟩
def mX2 : Nd := (mM2.nodes[1]?).getD ⟨0, [], [], []⟩
def mRow : List Int := (mX1.last[0]?).getD []
theorem mb_1 : moveOfD mD1 0 1 = .ok mM1 := by kernel_rfl
theorem mb_2 : moveOfD cD0 0 1 = .error 7 := by kernel_rfl
theorem mb_3 : checked mD2 (wireSD mD2 0 1) = .ok (mM2, 2) := by kernel_rfl
theorem mb_4 : moveOfD cD0 0 3 = .error 4 := by kernel_rfl
theorem mb_x1 : mM1.nodes[1]? = some mX1 ∧ mX1.clock = 1 ∧ mX1.held.length = 1 ∧ mM1.nodes.length = 3 ∧ mX1.last.length = 2 ∧ mX1.last[0]? = some mRow ∧ mRow.length = 3 ∧ mRow[0]? = some 1 := ⟨by kernel_rfl, by decide +kernel, by decide +kernel, by decide +kernel, by decide +kernel, by kernel_rfl, by decide +kernel, by kernel_rfl⟩
theorem mb_x2 : mM2.nodes[1]? = some mX2 ∧ mX2.clock = 2 ∧ mM2.nodes.length = 3 := ⟨by kernel_rfl, by decide +kernel, by decide +kernel⟩
theorem begin_m1 (w : World) : Calls Tryz.prog 83 #[.slice (some ⟨w.heap.size, 0, none⟩) 1 1] (w.alloc (.cells #[.int .i64 1, .int .i64 0, .int .i64 0, .string ⟨#[97]⟩] 58)) fun e w' => ∃ L, e = .returned (wval L mD1) ∧ OwnW w.heap.size w' mD1 L ∧ Since w w' := by
 refine (begin_any _ _ mActs1 (by decide) _ (acts_new w mActs1 (by decide) _)).mono ?_
 rintro e w' ⟨L, rfl, hO, hS⟩
 exact ⟨L, rfl, hO.mono (by simp), ((Since.refl w).alloc _).trans hS⟩
theorem begin_m2 (w : World) : Calls Tryz.prog 83 #[.slice (some ⟨w.heap.size, 0, none⟩) 2 2] (w.alloc (.cells #[.int .i64 1, .int .i64 0, .int .i64 0, .string ⟨#[97]⟩, .int .i64 2, .int .i64 0, .int .i64 0, .string ⟨#[]⟩] 58)) fun e w' => ∃ L, e = .returned (wval L mD2) ∧ OwnW w.heap.size w' mD2 L ∧ Since w w' := by
 refine (begin_any _ _ mActs2 (by decide) _ (acts_new w mActs2 (by decide) _)).mono ?_
 rintro e w' ⟨L, rfl, hO, hS⟩
 exact ⟨L, rfl, hO.mono (by simp), ((Since.refl w).alloc _).trans hS⟩
theorem one_m {D : Wd} {f t : Int} {r : Except Int Wd} (h : moveOfD D f t = r) (L : Lay) (lo : Nat) (y : World) (hO : OwnW lo y D L) : Calls Tryz.prog 33 #[.agg #[.slice (L (0, 0, 0)).a D.groups.length (L (0, 0, 0)).cap, .slice (L (1, 0, 0)).a D.nodes.length (L (1, 0, 0)).cap, .slice (L (2, 0, 0)).a D.wires.length (L (2, 0, 0)).cap], .int .i64 f, .int .i64 t] y fun e w' => Hid (ResW y r e w') := by
 have k := moveOne_any (wvOf L D) D f t y hO.wat
 rw [h] at k; exact k
theorem wire_m {D : Wd} {f t : Int} {r : Except Int (Wd × Int)} (h : checked D (wireSD D f t) = r) (L : Lay) (lo : Nat) (y : World) (hO : OwnW lo y D L) : Calls Tryz.prog 36 #[.agg #[.slice (L (0, 0, 0)).a D.groups.length (L (0, 0, 0)).cap, .slice (L (1, 0, 0)).a D.nodes.length (L (1, 0, 0)).cap, .slice (L (2, 0, 0)).a D.wires.length (L (2, 0, 0)).cap], .int .i64 f, .int .i64 t] y fun e w' => Hid (Res3 y r e w') := by
 have k := moveWire_any (wvOf L D) D f t y hO.wat
 rw [h] at k; exact k
set_option maxHeartbeats 2000000 in
theorem moveBegun_key (D0 D1 D2 M1 M2 : Wd) (X1 X2 : Nd) (row : List Int)
  (hb : Hid (∀ w : World, Calls Tryz.prog 83 #[.slice none 0 0] w fun e w' => ∃ L, e = .returned (wval L D0) ∧ OwnW w.heap.size w' D0 L ∧ Since w w')) (hb1 : Hid (∀ w : World, Calls Tryz.prog 83 #[.slice (some ⟨w.heap.size, 0, none⟩) 1 1] (w.alloc (.cells #[.int .i64 1, .int .i64 0, .int .i64 0, .string ⟨#[97]⟩] 58)) fun e w' => ∃ L, e = .returned (wval L D1) ∧ OwnW w.heap.size w' D1 L ∧ Since w w')) (hb2 : Hid (∀ w : World, Calls Tryz.prog 83 #[.slice (some ⟨w.heap.size, 0, none⟩) 2 2] (w.alloc (.cells #[.int .i64 1, .int .i64 0, .int .i64 0, .string ⟨#[97]⟩, .int .i64 2, .int .i64 0, .int .i64 0, .string ⟨#[]⟩] 58)) fun e w' => ∃ L, e = .returned (wval L D2) ∧ OwnW w.heap.size w' D2 L ∧ Since w w'))
  (f1 : Hid (∀ (L : Lay) (lo : Nat) (y : World), OwnW lo y D1 L → Calls Tryz.prog 33 #[.agg #[.slice (L (0, 0, 0)).a D1.groups.length (L (0, 0, 0)).cap, .slice (L (1, 0, 0)).a D1.nodes.length (L (1, 0, 0)).cap, .slice (L (2, 0, 0)).a D1.wires.length (L (2, 0, 0)).cap], .int .i64 0, .int .i64 1] y fun e w' => Hid (ResW y (.ok M1) e w'))) (f2 : Hid (∀ (L : Lay) (lo : Nat) (y : World), OwnW lo y D0 L → Calls Tryz.prog 33 #[.agg #[.slice (L (0, 0, 0)).a D0.groups.length (L (0, 0, 0)).cap, .slice (L (1, 0, 0)).a D0.nodes.length (L (1, 0, 0)).cap, .slice (L (2, 0, 0)).a D0.wires.length (L (2, 0, 0)).cap], .int .i64 0, .int .i64 1] y fun e w' => Hid (ResW y (.error 7) e w'))) (f3 : Hid (∀ (L : Lay) (lo : Nat) (y : World), OwnW lo y D2 L → Calls Tryz.prog 36 #[.agg #[.slice (L (0, 0, 0)).a D2.groups.length (L (0, 0, 0)).cap, .slice (L (1, 0, 0)).a D2.nodes.length (L (1, 0, 0)).cap, .slice (L (2, 0, 0)).a D2.wires.length (L (2, 0, 0)).cap], .int .i64 0, .int .i64 1] y fun e w' => Hid (Res3 y (.ok (M2, 2)) e w'))) (f4 : Hid (∀ (L : Lay) (lo : Nat) (y : World), OwnW lo y D0 L → Calls Tryz.prog 33 #[.agg #[.slice (L (0, 0, 0)).a D0.groups.length (L (0, 0, 0)).cap, .slice (L (1, 0, 0)).a D0.nodes.length (L (1, 0, 0)).cap, .slice (L (2, 0, 0)).a D0.wires.length (L (2, 0, 0)).cap], .int .i64 0, .int .i64 3] y fun e w' => Hid (ResW y (.error 4) e w')))
  (fx : Hid (M1.nodes[1]? = some X1 ∧ X1.clock = 1 ∧ X1.held.length = 1 ∧ M1.nodes.length = 3 ∧ X1.last.length = 2 ∧ X1.last[0]? = some row ∧ row.length = 3 ∧ row[0]? = some 1)) (fy : Hid (M2.nodes[1]? = some X2 ∧ X2.clock = 2 ∧ M2.nodes.length = 3)) (w : World) :
  Calls Tryz.prog 35 #[] w fun e w' => e = .returned (.bool true) ∧ Since w w' := by
 have hc : Since w w := Since.refl w
 go_enter Tryz.func35, Tryz.ntmps35
 go_wp2_with (go_at_call 94; refine (act_any _ _ _ _ _).mono ?_; rintro e w' ⟨rfl, hS⟩; have hc := hc.trans hS)
 refine (hb1.out _).mono ?_
 rintro e wb ⟨L0, rfl, hO0, hSb⟩
 simp only [wval]
 go_wp2_with fail
 refine (f1.out L0 _ wb hO0).mono ?_
 rintro e wc hRc
 obtain ⟨L1, rfl, hO1, hSc⟩ := hRc.out.2 _ rfl
 have hS1 := hc.trans (hSb.trans hSc)
 clear hRc hO0
 simp only [wval]
 obtain ⟨w1, hw1⟩ : ∃ y, wc.alloc (.cells #[.slice (L1 (0, 0, 0)).a M1.groups.length (L1 (0, 0, 0)).cap, .slice (L1 (1, 0, 0)).a M1.nodes.length (L1 (1, 0, 0)).cap, .slice (L1 (2, 0, 0)).a M1.wires.length (L1 (2, 0, 0)).cap] 26) = y := ⟨_, rfl⟩
 have hSc1 : Since wc w1 := by rw [← hw1]; exact (Since.refl wc).alloc _
 have hB1 : BoxW w1 wc.heap.size L1 M1 := by rw [← hw1]; constructor <;> simp [go_sem]
 have hM1 : MadeW wb.heap.size w1 wc.heap.size M1 L1 := ⟨hO1.since hSc1, hB1, fun hb => by have := (hO1.blk hb).2; omega⟩
 have hc1 := hS1.trans hSc1
 clear hO1 hS1 hSc hSb hSc1 hc hB1
 have h11 : Since w1 w1 := Since.refl _
 go_wp2_with fail
 clear hw1
 refine (hb.out _).mono ?_
 rintro e wb3 ⟨L3, rfl, hO3, hSb3⟩
 simp only [wval]
 go_wp2_with fail
 refine (f2.out L3 _ wb3 hO3).mono ?_
 rintro e wc3 hR3
 obtain ⟨rfl, hSc3⟩ := hR3.out.1 _ rfl
 have hSd3 := hSb3.trans hSc3
 clear hR3 hO3 hSb3 hSc3
 obtain ⟨wd3, hwd3⟩ : ∃ y, wc3.alloc (.cells #[.slice none 0 0, .slice none 0 0, .slice none 0 0] 26) = y := ⟨_, rfl⟩
 have hSe3 : Since wc3 wd3 := by rw [← hwd3]; exact (Since.refl wc3).alloc _
 have hN3 : NilBox wd3 wc3.heap.size := by rw [← hwd3]; exact NilBox.new wc3 _
 obtain ⟨we3, hwe3⟩ : ∃ y, ((wd3.setCell ⟨wc3.heap.size, 0, none⟩ (.slice none 0 0)).setCell ⟨wc3.heap.size, 1, none⟩ (.slice none 0 0)).setCell ⟨wc3.heap.size, 2, none⟩ (.slice none 0 0) = y := ⟨_, rfl⟩
 have hSf3 : Since wc3 we3 := by rw [← hwe3]; exact (put3_fr wd3 wc3.heap.size _ _ _).sinceBase hSe3 (fun i hi e => by omega)
 have hT3 := h11.trans (hSd3.trans hSf3)
 obtain ⟨_, z0, z1, z2, z3, z4, z5⟩ := hN3
 have hc := Since.refl we3
 go_wp2_with (go_at_call 94; refine (act_any _ _ _ _ _).mono ?_; rintro e w' ⟨rfl, hS⟩; have hc := hc.trans hS)
 clear z0 z1 z2 z3 z4 z5 hwd3 hwe3
 refine (hb2.out _).mono ?_
 rintro e wf ⟨L5, rfl, hO5, hSf⟩
 simp only [wval]
 go_wp2_with fail
 refine (f3.out L5 _ wf hO5).mono ?_
 rintro e wg hRg
 obtain ⟨L2, rfl, hO2, hFg⟩ := hRg.out.2 _ _ rfl
 have hSg := hFg.none
 have h1g := hT3.trans (hc.trans (hSf.trans hSg))
 clear hRg hO5
 simp only [wval]
 obtain ⟨w2, hw2⟩ : ∃ y, wg.alloc (.cells #[.slice (L2 (0, 0, 0)).a M2.groups.length (L2 (0, 0, 0)).cap, .slice (L2 (1, 0, 0)).a M2.nodes.length (L2 (1, 0, 0)).cap, .slice (L2 (2, 0, 0)).a M2.wires.length (L2 (2, 0, 0)).cap] 26) = y := ⟨_, rfl⟩
 have hSg2 : Since wg w2 := by rw [← hw2]; exact (Since.refl wg).alloc _
 have hB2 : BoxW w2 wg.heap.size L2 M2 := by rw [← hw2]; constructor <;> simp [go_sem]
 have hM2 : MadeW wf.heap.size w2 wg.heap.size M2 L2 := ⟨hO2.since hSg2, hB2, fun hb => by have := (hO2.blk hb).2; omega⟩
 have h12 := h1g.trans hSg2
 clear hO2 hSf hSg hSg2 hB2 hc
 have h22 : Since w2 w2 := Since.refl _
 go_wp2_with fail
 clear hw2
 refine (hb.out _).mono ?_
 rintro e wb4 ⟨L4, rfl, hO4, hSb4⟩
 simp only [wval]
 go_wp2_with fail
 refine (f4.out L4 _ wb4 hO4).mono ?_
 rintro e wc4 hR4
 obtain ⟨rfl, hSc4⟩ := hR4.out.1 _ rfl
 have hSd4 := hSb4.trans hSc4
 clear hR4 hO4 hSb4 hSc4
 obtain ⟨wd4, hwd4⟩ : ∃ y, wc4.alloc (.cells #[.slice none 0 0, .slice none 0 0, .slice none 0 0] 26) = y := ⟨_, rfl⟩
 have hSe4 : Since wc4 wd4 := by rw [← hwd4]; exact (Since.refl wc4).alloc _
 have hN4 : NilBox wd4 wc4.heap.size := by rw [← hwd4]; exact NilBox.new wc4 _
 obtain ⟨we4, hwe4⟩ : ∃ y, ((wd4.setCell ⟨wc4.heap.size, 0, none⟩ (.slice none 0 0)).setCell ⟨wc4.heap.size, 1, none⟩ (.slice none 0 0)).setCell ⟨wc4.heap.size, 2, none⟩ (.slice none 0 0) = y := ⟨_, rfl⟩
 have hSf4 : Since wc4 we4 := by rw [← hwe4]; exact (put3_fr wd4 wc4.heap.size _ _ _).sinceBase hSe4 (fun i hi e => by omega)
 have hT4 := h22.trans (hSd4.trans hSf4)
 obtain ⟨_, z0, z1, z2, z3, z4, z5⟩ := hN4
 have hM5 := hM1.since (h12.trans hT4)
 have hN5 := hM2.since hT4
 obtain ⟨g1, g2, g3, g4, g5, g6, g7, g8⟩ := fx.out
 obtain ⟨i1, i2, i3⟩ := fy.out
 obtain ⟨bn, on, cn, hL1, _, hbn, _, _⟩ := hM5.own.lies (ix := (1, 0, 0)) ⟨rfl, rfl⟩ (by show 0 < M1.nodes.length; omega)
 obtain ⟨n0, n1, n2, _, _⟩ := hM5.own.cells g1 hL1
 obtain ⟨b3, o3, cc3, b4, o4, cc4, hL3, hL4, hb3, hb4, v1, v2, v3⟩ := hM5.own.lastCells g1 g6 (by omega)
 have v4 := v2 0 _ g8
 have q1 := hM5.box.c1
 rw [hL1, g4] at q1
 rw [g2] at n0
 rw [hL3, g5] at n1
 rw [g3] at n2
 rw [g7] at v1
 obtain ⟨bm, om, cm, hLm, _, hbm, _, _⟩ := hN5.own.lies (ix := (1, 0, 0)) ⟨rfl, rfl⟩ (by show 0 < M2.nodes.length; omega)
 obtain ⟨u0, _, _, _, _⟩ := hN5.own.cells i1 hLm
 have q2 := hN5.box.c1
 rw [hLm, i3] at q2
 rw [i2] at u0
 dsimp only [Sl.v] at q1 q2 n0 n1 n2 v1 v4 u0
 simp only [Nat.one_mul, Nat.zero_add, Nat.add_zero] at n0 n1 n2 v1 v4 u0
 clear hL1 hLm hL3 hL4 g1 g2 g3 g4 g5 g6 g7 g8 i1 i2 i3 v2 v3
 go_wp2
 go_ret
 exact ⟨rfl, hc1.trans (h12.trans hT4)⟩
theorem moveBegun_any (w : World) :
  Calls Tryz.prog 35 #[] w fun e w' => e = .returned (.bool true) ∧ Since w w' :=
 moveBegun_key cD0 mD1 mD2 mM1 mM2 mX1 mX2 mRow begin_c0 begin_m1 begin_m2 (one_m mb_1) (one_m mb_2) (wire_m mb_3) (one_m mb_4) mb_x1 mb_x2 w
end Go.Proofs.YtiiifecfdkjmbaaGreat
