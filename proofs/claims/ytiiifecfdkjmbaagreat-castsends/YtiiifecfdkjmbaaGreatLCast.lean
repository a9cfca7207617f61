/- The laws' helper castBegun answers true; no condition. -/
import Derived.Test.YtiiifecfdkjmbaaGreatLCast0
import Derived.Test.YtiiifecfdkjmbaaGreatSCastX
namespace Go.Proofs.YtiiifecfdkjmbaaGreat
set_option maxRecDepth 8000
open Go.RowKit Go.Shelf
open _root_.Go.Proofs.YtiiifecfdkjmbaaGreat.Pure
set_option linter.unusedVariables false
set_option linter.unusedSimpArgs false
def cbHi : ByteArray := ⟨#[104, 105]⟩
def cbLong : ByteArray := ⟨#[49, 50, 51, 52, 53, 54, 55, 56, 57]⟩
def cC1 : Wd := match castD cD0 1 0 false cbHi with | .ok p => p | .error _ => cD0
def cC2 : Wd := match castD cC1 1 1 true ByteArray.empty with | .ok p => p | .error _ => cD0
def cX1 : Nd := (cC1.nodes[1]?).getD ⟨0, [], [], []⟩
def cM : Mg := ((wireAt cC2 1 2)[0]?).getD ⟨0, 0, 0, false, ByteArray.empty⟩
theorem cb_1 : checked cD0 (castD cD0 1 0 false cbHi) = .ok cC1 := by kernel_rfl
theorem cb_2 : checked cC1 (castD cC1 1 1 true ByteArray.empty) = .ok cC2 := by kernel_rfl
theorem cb_3 : checked cD0 (castD cD0 0 1 false cbHi) = .error 5 := by kernel_rfl
theorem cb_4 : checked cD0 (castD cD0 0 2 false cbHi) = .error 4 := by kernel_rfl
theorem cb_5 : checked cD0 (castD cD0 1 0 false cbLong) = .error 1 := by kernel_rfl
theorem rowsOk_3 {d : Wd} {a b c : List (List Mg)} (h : d.wires = [a, b, c]) (hn : d.nodes.length = 3) (ha : a.length = 3) (hb : b.length = 3) (hc : c.length = 3) : RowsOk d := by
 refine ⟨by rw [h, hn]; rfl, fun i r hr => ?_⟩
 rw [h] at hr
 rw [hn]
 match i with
 | 0 => cases hr; exact ha
 | 1 => cases hr; exact hb
 | 2 => cases hr; exact hc
 | i + 3 => cases hr
theorem cb_r1 : RowsOk cC1 := rowsOk_3 (a := (cC1.wires[0]?).getD []) (b := (cC1.wires[1]?).getD []) (c := (cC1.wires[2]?).getD []) (by kernel_rfl) (by decide +kernel) (by decide +kernel) (by decide +kernel) (by decide +kernel)
theorem cb_r2 : RowsOk cC2 := rowsOk_3 (a := (cC2.wires[0]?).getD []) (b := (cC2.wires[1]?).getD []) (c := (cC2.wires[2]?).getD []) (by kernel_rfl) (by decide +kernel) (by decide +kernel) (by decide +kernel) (by decide +kernel)
theorem cb_x1 : cC1.nodes[1]? = some cX1 ∧ cX1.clock = 1 ∧ cX1.held.length = 1 ∧ cC1.nodes.length = 3 ∧ (wireAt cC1 1 0).length = 1 ∧ (wireAt cC1 1 2).length = 0 := ⟨by kernel_rfl, by decide +kernel, by decide +kernel, by decide +kernel, by decide +kernel, by decide +kernel⟩
theorem cb_x2 : wireAt cC2 1 2 = [cM] ∧ cM.nul = true ∧ cM.st = 2 ∧ cC2.nodes.length = 3 := ⟨by kernel_rfl, by decide +kernel, by decide +kernel, by decide +kernel⟩
theorem send_c {D : Wd} {n g : Int} {b : ByteArray} {r : Except Int Wd} (h : checked D (castD D n g false b) = r) (L : Lay) (lo : Nat) (y : World) (hO : OwnW lo y D L) : Calls Tryz.prog 28 #[.agg #[.slice (L (0, 0, 0)).a D.groups.length (L (0, 0, 0)).cap, .slice (L (1, 0, 0)).a D.nodes.length (L (1, 0, 0)).cap, .slice (L (2, 0, 0)).a D.wires.length (L (2, 0, 0)).cap], .int .i64 n, .int .i64 g, .string b] y fun e w' => Hid (ResW y r e w') := by
 have k := castSend_any (wvOf L D) D n g b y hO.wat
 rw [h] at k; exact k
theorem null_c {D : Wd} {n g : Int} {r : Except Int Wd} (h : checked D (castD D n g true ByteArray.empty) = r) (L : Lay) (lo : Nat) (y : World) (hO : OwnW lo y D L) : Calls Tryz.prog 32 #[.agg #[.slice (L (0, 0, 0)).a D.groups.length (L (0, 0, 0)).cap, .slice (L (1, 0, 0)).a D.nodes.length (L (1, 0, 0)).cap, .slice (L (2, 0, 0)).a D.wires.length (L (2, 0, 0)).cap], .int .i64 n, .int .i64 g] y fun e w' => Hid (ResW y r e w') := by
 have k := castNull_any (wvOf L D) D n g y hO.wat
 rw [h] at k; exact k
theorem MadeW.rowCells {lo : Nat} {w : World} {p : Nat} {d : Wd} {L : Lay} (h : MadeW lo w p d L) (r : RowsOk d) {f : Nat} (hf : f < d.nodes.length) : ∃ bw ow cw br oR cr, w.cell? ⟨p, 2, none⟩ = some (.slice (some ⟨bw, ow, none⟩) d.nodes.length cw) ∧ w.cell? ⟨bw, ow + f, none⟩ = some (.slice (some ⟨br, oR, none⟩) d.nodes.length cr) ∧ ∀ t, t < d.nodes.length → w.cell? ⟨br, oR + t, none⟩ = some ((L (8, f, t)).v (wireAt d f t).length) := by
 obtain ⟨bw, ow, cw, br, oR, cr, hH⟩ := h.headOf r hf hf
 refine ⟨bw, ow, cw, br, oR, cr, by rw [← r.1]; exact hH.top, hH.row, fun t ht => ?_⟩
 obtain ⟨bw', ow', cw', br', oR', cr', hH'⟩ := h.headOf r hf ht
 have e := hH.lay.symm.trans hH'.lay
 cases e
 exact hH'.cell
theorem OwnW.wireCells {lo : Nat} {w : World} {d : Wd} {L : Lay} (h : OwnW lo w d L) (r : RowsOk d) {f t : Nat} (hf : f < d.nodes.length) (ht : t < d.nodes.length) {l : List Mg} (hl : wireAt d f t = l) (hp : 0 < l.length) : ∃ b o c, (L (8, f, t)) = ⟨some ⟨b, o, none⟩, c⟩ ∧ b < w.heap.size ∧ ∀ j v, (flat l)[j]? = some v → w.cell? ⟨b, o + j, none⟩ = some v := by
 obtain ⟨row, hr, hrl⟩ := row_of r hf
 have hok8 : okI d (8, f, t) := ⟨by rw [r.1]; exact hf, by rw [rowAt_of hr]; omega⟩
 have hR : Row w lo 5 (L (8, f, t)) (wrAt d f t).length (flat (wrAt d f t)) := h.row _ hok8
 have e : wrAt d f t = l := hl
 rw [e] at hR
 obtain ⟨b, o, e1, _, hb, _, hx⟩ := hR.body (by have := hR.cap; omega)
 exact ⟨b, o, (L (8, f, t)).cap, by rw [← e1], hb, hx⟩
set_option maxHeartbeats 2000000 in
theorem castBegun_key (D0 C1 C2 : Wd) (X1 : Nd) (M : Mg)
  (hb : Hid (∀ w : World, Calls Tryz.prog 83 #[.slice none 0 0] w fun e w' => ∃ L, e = .returned (wval L D0) ∧ OwnW w.heap.size w' D0 L ∧ Since w w'))
  (f1 : Hid (∀ (L : Lay) (lo : Nat) (y : World), OwnW lo y D0 L → Calls Tryz.prog 28 #[.agg #[.slice (L (0, 0, 0)).a D0.groups.length (L (0, 0, 0)).cap, .slice (L (1, 0, 0)).a D0.nodes.length (L (1, 0, 0)).cap, .slice (L (2, 0, 0)).a D0.wires.length (L (2, 0, 0)).cap], .int .i64 1, .int .i64 0, .string ⟨#[104, 105]⟩] y fun e w' => Hid (ResW y (.ok C1) e w'))) (f2 : Hid (∀ (L : Lay) (lo : Nat) (y : World), OwnW lo y C1 L → Calls Tryz.prog 32 #[.agg #[.slice (L (0, 0, 0)).a C1.groups.length (L (0, 0, 0)).cap, .slice (L (1, 0, 0)).a C1.nodes.length (L (1, 0, 0)).cap, .slice (L (2, 0, 0)).a C1.wires.length (L (2, 0, 0)).cap], .int .i64 1, .int .i64 1] y fun e w' => Hid (ResW y (.ok C2) e w'))) (f3 : Hid (∀ (L : Lay) (lo : Nat) (y : World), OwnW lo y D0 L → Calls Tryz.prog 28 #[.agg #[.slice (L (0, 0, 0)).a D0.groups.length (L (0, 0, 0)).cap, .slice (L (1, 0, 0)).a D0.nodes.length (L (1, 0, 0)).cap, .slice (L (2, 0, 0)).a D0.wires.length (L (2, 0, 0)).cap], .int .i64 0, .int .i64 1, .string ⟨#[104, 105]⟩] y fun e w' => Hid (ResW y (.error 5) e w'))) (f4 : Hid (∀ (L : Lay) (lo : Nat) (y : World), OwnW lo y D0 L → Calls Tryz.prog 28 #[.agg #[.slice (L (0, 0, 0)).a D0.groups.length (L (0, 0, 0)).cap, .slice (L (1, 0, 0)).a D0.nodes.length (L (1, 0, 0)).cap, .slice (L (2, 0, 0)).a D0.wires.length (L (2, 0, 0)).cap], .int .i64 0, .int .i64 2, .string ⟨#[104, 105]⟩] y fun e w' => Hid (ResW y (.error 4) e w'))) (f5 : Hid (∀ (L : Lay) (lo : Nat) (y : World), OwnW lo y D0 L → Calls Tryz.prog 28 #[.agg #[.slice (L (0, 0, 0)).a D0.groups.length (L (0, 0, 0)).cap, .slice (L (1, 0, 0)).a D0.nodes.length (L (1, 0, 0)).cap, .slice (L (2, 0, 0)).a D0.wires.length (L (2, 0, 0)).cap], .int .i64 1, .int .i64 0, .string ⟨#[49, 50, 51, 52, 53, 54, 55, 56, 57]⟩] y fun e w' => Hid (ResW y (.error 1) e w')))
  (r1 : Hid (RowsOk C1)) (r2 : Hid (RowsOk C2))
  (fx : Hid (C1.nodes[1]? = some X1 ∧ X1.clock = 1 ∧ X1.held.length = 1 ∧ C1.nodes.length = 3 ∧ (wireAt C1 1 0).length = 1 ∧ (wireAt C1 1 2).length = 0)) (fy : Hid (wireAt C2 1 2 = [M] ∧ M.nul = true ∧ M.st = 2 ∧ C2.nodes.length = 3)) (w : World) :
  Calls Tryz.prog 30 #[] w fun e w' => e = .returned (.bool true) ∧ Since w w' := by
 go_enter Tryz.func30, Tryz.ntmps30
 go_wp2_with fail
 refine (hb.out _).mono ?_
 rintro e wb ⟨L0, rfl, hO0, hSb⟩
 simp only [wval]
 go_wp2_with fail
 refine (f1.out L0 _ wb hO0).mono ?_
 rintro e wc hRc
 obtain ⟨L1, rfl, hO1, hSc⟩ := hRc.out.2 _ rfl
 have hS1 := hSb.trans hSc
 clear hRc hO0
 simp only [wval]
 obtain ⟨w1, hw1⟩ : ∃ y, wc.alloc (.cells #[.slice (L1 (0, 0, 0)).a C1.groups.length (L1 (0, 0, 0)).cap, .slice (L1 (1, 0, 0)).a C1.nodes.length (L1 (1, 0, 0)).cap, .slice (L1 (2, 0, 0)).a C1.wires.length (L1 (2, 0, 0)).cap] 26) = y := ⟨_, rfl⟩
 have hSc1 : Since wc w1 := by rw [← hw1]; exact (Since.refl wc).alloc _
 have hB1 : BoxW w1 wc.heap.size L1 C1 := by rw [← hw1]; constructor <;> simp [go_sem]
 have hM1 : MadeW wb.heap.size w1 wc.heap.size C1 L1 := ⟨hO1.since hSc1, hB1, fun hb => by have := (hO1.blk hb).2; omega⟩
 have hc1 := hS1.trans hSc1
 clear hO1 hS1 hSc hSb hSc1
 obtain ⟨_, b0, b1, b2, _, _, _⟩ := hB1
 go_wp2_with fail
 refine (f2.out L1 _ w1 hM1.own).mono ?_
 rintro e wd hRd
 obtain ⟨L2, rfl, hO2, hSd⟩ := hRd.out.2 _ rfl
 clear hRd b0 b1 b2 hw1
 simp only [wval]
 obtain ⟨w2, hw2⟩ : ∃ y, wd.alloc (.cells #[.slice (L2 (0, 0, 0)).a C2.groups.length (L2 (0, 0, 0)).cap, .slice (L2 (1, 0, 0)).a C2.nodes.length (L2 (1, 0, 0)).cap, .slice (L2 (2, 0, 0)).a C2.wires.length (L2 (2, 0, 0)).cap] 26) = y := ⟨_, rfl⟩
 have hSd2 : Since wd w2 := by rw [← hw2]; exact (Since.refl wd).alloc _
 have hB2 : BoxW w2 wd.heap.size L2 C2 := by rw [← hw2]; constructor <;> simp [go_sem]
 have hM2 : MadeW w1.heap.size w2 wd.heap.size C2 L2 := ⟨hO2.since hSd2, hB2, fun hb => by have := (hO2.blk hb).2; omega⟩
 have h12 := hSd.trans hSd2
 clear hO2 hSd hSd2 hB2
 have h22 : Since w2 w2 := Since.refl _
 go_wp2_with fail
 refine (hb.out _).mono ?_
 rintro e wb3 ⟨L3, rfl, hO3, hSb3⟩
 simp only [wval]
 go_wp2_with fail
 refine (f3.out L3 _ wb3 hO3).mono ?_
 rintro e wc3 hR3
 obtain ⟨rfl, hSc3⟩ := hR3.out.1 _ rfl
 have hSd3 := hSb3.trans hSc3
 clear hR3 hO3 hSb3 hSc3
 obtain ⟨wd3, hwd3⟩ : ∃ y, wc3.alloc (.cells #[.slice none 0 0, .slice none 0 0, .slice none 0 0] 26) = y := ⟨_, rfl⟩
 have hSe3 : Since wc3 wd3 := by rw [← hwd3]; exact (Since.refl wc3).alloc _
 have hN3 : NilBox wd3 wc3.heap.size := by rw [← hwd3]; exact NilBox.new wc3 _
 obtain ⟨we3, hwe3⟩ : ∃ y, ((wd3.setCell ⟨wc3.heap.size, 0, none⟩ (.slice none 0 0)).setCell ⟨wc3.heap.size, 1, none⟩ (.slice none 0 0)).setCell ⟨wc3.heap.size, 2, none⟩ (.slice none 0 0) = y := ⟨_, rfl⟩
 have hSf3 : Since wc3 we3 := by rw [← hwe3]; exact (put3_fr wd3 wc3.heap.size _ _ _).sinceBase hSe3 (fun i hi e => by omega)
 have hT3 := h22.trans (hSd3.trans hSf3)
 obtain ⟨_, z0, z1, z2, z3, z4, z5⟩ := hN3
 go_wp2_with fail
 clear z0 z1 z2 z3 z4 z5 hwd3 hwe3
 refine (hb.out _).mono ?_
 rintro e wb4 ⟨L4, rfl, hO4, hSb4⟩
 simp only [wval]
 go_wp2_with fail
 refine (f4.out L4 _ wb4 hO4).mono ?_
 rintro e wc4 hR4
 obtain ⟨rfl, hSc4⟩ := hR4.out.1 _ rfl
 have hSd4 := hSb4.trans hSc4
 clear hR4 hO4 hSb4 hSc4
 obtain ⟨wd4, hwd4⟩ : ∃ y, wc4.alloc (.cells #[.slice none 0 0, .slice none 0 0, .slice none 0 0] 26) = y := ⟨_, rfl⟩
 have hSe4 : Since wc4 wd4 := by rw [← hwd4]; exact (Since.refl wc4).alloc _
 have hN4 : NilBox wd4 wc4.heap.size := by rw [← hwd4]; exact NilBox.new wc4 _
 obtain ⟨we4, hwe4⟩ : ∃ y, ((wd4.setCell ⟨wc4.heap.size, 0, none⟩ (.slice none 0 0)).setCell ⟨wc4.heap.size, 1, none⟩ (.slice none 0 0)).setCell ⟨wc4.heap.size, 2, none⟩ (.slice none 0 0) = y := ⟨_, rfl⟩
 have hSf4 : Since wc4 we4 := by rw [← hwe4]; exact (put3_fr wd4 wc4.heap.size _ _ _).sinceBase hSe4 (fun i hi e => by omega)
 have hT4 := hT3.trans (hSd4.trans hSf4)
 obtain ⟨_, z0, z1, z2, z3, z4, z5⟩ := hN4
 go_wp2_with fail
 clear z0 z1 z2 z3 z4 z5 hwd4 hwe4
 refine (hb.out _).mono ?_
 rintro e wb5 ⟨L5, rfl, hO5, hSb5⟩
 simp only [wval]
 go_wp2_with fail
 refine (f5.out L5 _ wb5 hO5).mono ?_
 rintro e wc5 hR5
 obtain ⟨rfl, hSc5⟩ := hR5.out.1 _ rfl
 have hSd5 := hSb5.trans hSc5
 clear hR5 hO5 hSb5 hSc5
 obtain ⟨wd5, hwd5⟩ : ∃ y, wc5.alloc (.cells #[.slice none 0 0, .slice none 0 0, .slice none 0 0] 26) = y := ⟨_, rfl⟩
 have hSe5 : Since wc5 wd5 := by rw [← hwd5]; exact (Since.refl wc5).alloc _
 have hN5 : NilBox wd5 wc5.heap.size := by rw [← hwd5]; exact NilBox.new wc5 _
 obtain ⟨we5, hwe5⟩ : ∃ y, ((wd5.setCell ⟨wc5.heap.size, 0, none⟩ (.slice none 0 0)).setCell ⟨wc5.heap.size, 1, none⟩ (.slice none 0 0)).setCell ⟨wc5.heap.size, 2, none⟩ (.slice none 0 0) = y := ⟨_, rfl⟩
 have hSf5 : Since wc5 we5 := by rw [← hwe5]; exact (put3_fr wd5 wc5.heap.size _ _ _).sinceBase hSe5 (fun i hi e => by omega)
 have hT5 := hT4.trans (hSd5.trans hSf5)
 obtain ⟨_, z0, z1, z2, z3, z4, z5⟩ := hN5
 have hM5 := hM1.since (h12.trans hT5)
 have hN5 := hM2.since hT5
 obtain ⟨g1, g2, g3, g4, g5, g6⟩ := fx.out
 obtain ⟨i1, i2, i3, i4⟩ := fy.out
 obtain ⟨bn, on, cn, hL1, _, hbn, _, _⟩ := hM5.own.lies (ix := (1, 0, 0)) ⟨rfl, rfl⟩ (by show 0 < C1.nodes.length; omega)
 obtain ⟨n0, _, n2, _, _⟩ := hM5.own.cells g1 hL1
 have q1 := hM5.box.c1
 rw [hL1, g4] at q1
 rw [g2] at n0
 rw [g3] at n2
 obtain ⟨bw, ow, cw, br, oR, cr, t1, t2, t3⟩ := hM5.rowCells r1.out (f := 1) (by omega)
 have t4 := t3 0 (by omega)
 have t5 := t3 2 (by omega)
 rw [g4] at t1 t2
 rw [g5] at t4
 rw [g6] at t5
 obtain ⟨bv, ov, cv, bs, os, cs, u1, u2, u3⟩ := hN5.rowCells r2.out (f := 1) (by omega)
 have u4 := u3 2 (by omega)
 obtain ⟨bm, om, cm, hLm, _, um⟩ := hN5.own.wireCells r2.out (f := 1) (t := 2) (by omega) (by omega) i1 (by simp)
 have m2 := um 2 (.int .i64 M.st) rfl
 have m3 := um 3 (.bool M.nul) rfl
 rw [i4] at u1 u2
 rw [hLm, i1] at u4
 rw [i2] at m3
 rw [i3] at m2
 dsimp only [Sl.v, List.length_cons, List.length_nil] at q1 n0 n2 t4 t5 u4
 simp only [Nat.one_mul, Nat.zero_add, Nat.add_zero] at n0 n2 t4 t5 u4
 clear hL1 hLm g1 g2 g3 g4 g5 g6 i1 i2 i3 i4 t3 u3 um
 go_wp2
 go_ret
 exact ⟨rfl, hc1.trans (h12.trans hT5)⟩
theorem castBegun_any (w : World) :
  Calls Tryz.prog 30 #[] w fun e w' => e = .returned (.bool true) ∧ Since w w' :=
 castBegun_key cD0 cC1 cC2 cX1 cM begin_c0 (send_c cb_1) (null_c cb_2) (send_c cb_3) (send_c cb_4) (send_c cb_5) cb_r1 cb_r2 cb_x1 cb_x2 w
end Go.Proofs.YtiiifecfdkjmbaaGreat
