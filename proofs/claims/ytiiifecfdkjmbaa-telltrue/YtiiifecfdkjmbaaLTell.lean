/- The laws' helper tellBegun answers true; no condition. -/
import Derived.BigQuiet
import Derived.Test.YtiiifecfdkjmbaaRegM
import Derived.Test.YtiiifecfdkjmbaaLBoundX
import Derived.Test.YtiiifecfdkjmbaaSTellX
import Derived.Test.YtiiifecfdkjmbaaSOwnX
namespace Go.Proofs.Ytiiifecfdkjmbaa
set_option maxRecDepth 8000
open Go.RowKit Go.Shelf
open _root_.Go.Proofs.Ytiiifecfdkjmbaa.Pure
set_option linter.unusedVariables false
set_option linter.unusedSimpArgs false

def tD5 : Wd := match tellOfD bD4 1 with | .ok p => p.1 | .error _ => bD4
def tD6 : Wd := match tellOfD tD5 1 with | .ok p => p.1 | .error _ => bD4
def tX5 : Nd := (tD5.nodes[1]?).getD ⟨0, [], [], []⟩
theorem t_1 : checked bD4 (tellOfD bD4 1) = .ok (tD5, 1) := by kernel_rfl
theorem t_2 : checked tD5 (tellOfD tD5 1) = .ok (tD6, 0) := by kernel_rfl
theorem t_3 : checked bD4 (tellOfD bD4 3) = .error 4 := by kernel_rfl
theorem t_x : tD5.nodes[1]? = some tX5 ∧ tX5.held.length = 1 ∧ tX5.told.length = 1 ∧ tD5.nodes.length = 3 := ⟨by kernel_rfl, by decide +kernel, by decide +kernel, by decide +kernel⟩

set_option maxHeartbeats 2000000 in
theorem tellBegun_key (D2 D3 D4 D5 D6 : Wd) (X2 X3 X4 X5 : Nd) (row : List Int)
    (hb2 : Hid (∀ w : World, Calls Try.prog 44 #[.slice (some ⟨w.heap.size, 0, none⟩) 3 3] (w.alloc (.cells #[.int .i64 1, .int .i64 0, .int .i64 0, .string ⟨#[97]⟩, .int .i64 2, .int .i64 2, .int .i64 1, .string ⟨#[]⟩, .int .i64 3, .int .i64 2, .int .i64 1, .string ⟨#[]⟩] 73)) fun e w' => ∃ L, e = .returned (wval L D2) ∧ OwnW w.heap.size w' D2 L ∧ Since w w'))
    (f1 : Hid (checked D4 (tellOfD D4 1) = .ok (D5, 1))) (f2 : Hid (checked D5 (tellOfD D5 1) = .ok (D6, 0))) (f3 : Hid (checked D4 (tellOfD D4 3) = .error 4))
    (fx : Hid (D2.nodes[1]? = some X2 ∧ X2.last[0]? = some row ∧ row.length = 3 ∧ X2.last.length = 2 ∧ D2.nodes.length = 3 ∧ D3.nodes[1]? = some X3 ∧ D3.nodes.length = 3)) (fy : Hid (D5.nodes[1]? = some X5 ∧ X5.held.length = 1 ∧ X5.told.length = 1 ∧ D5.nodes.length = 3))
    (hX3 : Hid (({ X2 with last := X2.last.set 0 (row.set 0 1) } : Nd) = X3)) (hD3 : Hid (setNode D2 1 X3 = D3)) (hX4 : Hid (({ X3 with held := [⟨0, 0, 1, false, ⟨#[97]⟩⟩, ⟨0, 0, 2, false, ⟨#[98]⟩⟩] } : Nd) = X4)) (hD4 : Hid (setNode D3 1 X4 = D4)) (w : World) :
    Calls Try.prog 28 #[] w fun e w' => e = .returned (.bool true) ∧ Since w w' := by
  have hc : Since w w := Since.refl w
  go_enter Try.func28, Try.ntmps28
  go_wp2_with (go_at_call 45; refine (act_any _ _ _ _ _).mono ?_; rintro e w' ⟨rfl, hS⟩; have hc := hc.trans hS)
  refine (hb2.out _).mono ?_
  rintro e wb ⟨L2, rfl, hO2, hSb⟩
  have hcb := hc.trans hSb
  simp only [wval]
  obtain ⟨w5, hw5⟩ : ∃ y, wb.alloc (.cells #[.slice (L2 (0, 0, 0)).a D2.groups.length (L2 (0, 0, 0)).cap, .slice (L2 (1, 0, 0)).a D2.nodes.length (L2 (1, 0, 0)).cap, .slice (L2 (2, 0, 0)).a D2.wires.length (L2 (2, 0, 0)).cap] 26) = y := ⟨_, rfl⟩
  have hSb5 : Since wb w5 := by rw [← hw5]; exact (Since.refl wb).alloc _
  have hB5 : BoxW w5 wb.heap.size L2 D2 := by rw [← hw5]; constructor <;> simp [go_sem]
  have hM5 : MadeW w.heap.size w5 wb.heap.size D2 L2 := ⟨(hO2.mono hc.size).since hSb5, hB5, fun hb => by have := (hO2.blk hb).2; omega⟩
  have hc5 := hcb.trans hSb5
  obtain ⟨e1, e2, e3, e4, e5, e6, e7⟩ := fx.out
  obtain ⟨bn, on, cn, hL1, _, hbn, hbk, hcn⟩ := hM5.own.lies (ix := (1, 0, 0)) ⟨rfl, rfl⟩ (by show 0 < D2.nodes.length; omega)
  obtain ⟨k0, k1, _, _, kz⟩ := hM5.own.cells e1 hL1
  obtain ⟨b3, o3, cc3, b4, o4, cc4, hL3, hL4, hb3, hb4, v1, v2, v3⟩ := hM5.own.lastCells e1 e2 (by omega)
  have x5 := hM5.box.c1
  rw [hL1, e5] at x5
  rw [hL3, e4] at k1
  rw [e3] at v1
  dsimp only [Sl.v] at x5 k1
  obtain ⟨v0, hv0⟩ : ∃ v, row[0]? = some v := ⟨_, List.getElem?_eq_getElem (by omega)⟩
  have v4 := v2 0 v0 hv0
  have v5 := v3 0 (by omega)
  simp only [Nat.add_zero, Nat.one_mul] at v1 v4 v5 k1
  have HE := (show Hid _ from And.intro e3 (And.intro e4 e5))
  have HL1 : Hid (L2 (1, 0, 0) = ⟨some ⟨bn, on, none⟩, cn⟩) := hL1
  clear e3 e4 e5 v2 v3 e7 hB5
  obtain ⟨w6, hw6⟩ : ∃ y, w5.setCell ⟨b4, o4, none⟩ (.int .i64 1) = y := ⟨_, rfl⟩
  have hset := hM5.setLst (k := 0) e1 e2 (by have := HE.out.1; omega) hL4 (Since.refl w5) 1
  rw [Nat.add_zero, hw6] at hset
  obtain ⟨hM6', hst6⟩ := hset
  have hM6 : MadeW w.heap.size w6 wb.heap.size D3 L2 := by rw [hX3.out, hD3.out] at hM6'; exact hM6'
  have hc6 : Since w w6 := hst6.fr.sinceBase hc5 (fun i hi hb => by have := (hM5.own.blk hb).1; omega)
  have hb6 : bn < w6.heap.size := Nat.lt_of_lt_of_le hbn hst6.fr.size
  obtain ⟨j0, j1, k2, j3, kz6⟩ := hM6.own.cells e6 hL1
  have x1 := hM6.box.c1
  rw [hL1, fx.out.2.2.2.2.2.2] at x1
  dsimp only at x1
  clear hL1 hM6'
  go_wp2_with fail
  clear hw5
  clear x5 k1 v1 v4 v5 k0 kz hw6
  obtain ⟨W0, hW0⟩ : ∃ y, w6.drew = y := ⟨_, rfl⟩
  have hs0 : Since w6 W0 := by rw [← hW0]; exact Since.drew (Since.refl _)
  obtain ⟨S0, hS0⟩ : ∃ S0 : World → Prop, ∀ w', S0 w' ↔ Since w6 w' := ⟨_, fun _ => Iff.rfl⟩
  have hneT := heldTrue w
  have c1 : ∀ y : HeldW S0, y.w.cell? ⟨wb.heap.size, 1, none⟩ = some (.slice (some ⟨bn, on, none⟩) 3 cn) := fun y => (((hS0 _).1 y.h).cellAt hM6.box.lt _).trans x1
  have hSi0 := (hS0 W0).2 hs0
  have hne : Nonempty (HeldW S0) := ⟨⟨_, hSi0⟩⟩
  refine beginM (fun w' => ∃ x : HeldW S0, w' = x.w) (by kernel_rfl) ?_
  rw [hW0]
  clear hW0
  refine takeW 0 rfl (by kernel_rfl) (fun _ _ _ _ h => h) (by rfl) rfl ?_
  go_big_quiet_op
  refine takeM 1 rfl (by kernel_rfl) (heldS_mk hSi0) (fun _ _ _ _ h => h) (by rfl) rfl ?_
  go_big_quiet_op
  refine actM 2 rfl (by kernel_rfl) ?_
  intro K hK
  go_simp
  refine (say_any 0 0 1 ⟨#[97]⟩ W0).mono ?_
  rintro e wA ⟨rfl, hSA⟩
  dsimp only
  have hsA := (hS0 _).2 (hs0.trans hSA)
  refine hK _ _ (fun _ _ => heldS_mk hsA) ?_
  clear hK K
  refine actM 3 rfl (by kernel_rfl) ?_
  intro K hK
  go_simp
  refine (say_any 0 0 2 ⟨#[98]⟩ wA).mono ?_
  rintro e wB ⟨rfl, hSB⟩
  dsimp only
  have hsB := (hs0.trans hSA).trans hSB
  have hsB' := (hS0 _).2 hsB
  refine hK _ _ (fun _ _ => heldS_mk hsB') ?_
  clear hK K
  refine actM 4 rfl (by kernel_rfl) ?_
  intro K hK
  go_simp
  obtain ⟨wC, hwC⟩ : ∃ y, wB.alloc (.cells #[.int .i64 0, .int .i64 0, .int .i64 1, .bool false, .string ⟨#[97]⟩, .int .i64 0, .int .i64 0, .int .i64 2, .bool false, .string ⟨#[98]⟩] 48) = y := ⟨_, rfl⟩
  have hSC : Since wB wC := by rw [← hwC]; exact (Since.refl wB).alloc _
  have hRC : Row wC w6.heap.size 5 ⟨some ⟨wB.heap.size, 0, none⟩, 2⟩ 2 (flat [⟨0, 0, 1, false, ⟨#[97]⟩⟩, ⟨0, 0, 2, false, ⟨#[98]⟩⟩]) := by rw [← hwC]; exact row_new wB w6.heap.size 5 2 hsB.size (flat [⟨0, 0, 1, false, ⟨#[97]⟩⟩, ⟨0, 0, 2, false, ⟨#[98]⟩⟩]) rfl (by unfold maxLen; omega) _
  have hsC := hsB.trans hSC
  have hsC' := (hS0 _).2 hsC
  have hM9 := hM6.since hsC
  have k9 := (hsC.cellAt hb6 _).trans k2
  have z9 := (hsC.below.frozen (p := ⟨bn, on + 1 * 4 + 2, none⟩) hb6).trans (kz6 2 (by omega))
  simp only [Nat.one_mul] at k9 z9
  rw [hwC]
  clear hwC
  refine hK _ _ (fun _ _ => heldS_mk hsC') ?_
  clear hK K
  refine takeW 5 rfl (by kernel_rfl) (fun _ _ _ _ h => h) (by rfl) rfl ?_
  go_big_quiet_op
  refine takeW 6 rfl (by kernel_rfl) (fun _ _ _ _ h => h) (by rfl) rfl ?_
  go_big_quiet_op
  refine actM 7 rfl (by kernel_rfl) ?_
  intro K hK
  go_simp
  refine hK _ _ (fun h => absurd h (by decide +kernel)) ?_
  clear hK K
  refine doneM (by kernel_rfl) ?_
  have hge : ∀ b, Sl.blk ⟨some ⟨wB.heap.size, 0, none⟩, 2⟩ = some b → w6.heap.size ≤ b := hRC.blk_ge
  have hput := hM9.own.putHeld e6 HL1.out (l := [⟨0, 0, 1, false, ⟨#[97]⟩⟩, ⟨0, 0, 2, false, ⟨#[98]⟩⟩]) (hRC.mono hc6.size) (by simp) (hM6.own.fresh hge (5, 1, 0))
  have hst := stepW_upd (d := D3) (L := L2) (d' := setNode D3 1 { X3 with held := [⟨0, 0, 1, false, ⟨#[97]⟩⟩, ⟨0, 0, 2, false, ⟨#[98]⟩⟩] }) hsC (okI_setNode e6 rfl) (5, 1, 0) ⟨some ⟨wB.heap.size, 0, none⟩, 2⟩ (fun b e => .inr (hge b e)) (off := on + 1 * 4 + 2) (Sl.v ⟨some ⟨wB.heap.size, 0, none⟩, 2⟩ 2) ⟨(1, 0, 0), ⟨rfl, rfl⟩, hbk⟩
  obtain ⟨wD, hwD⟩ : ∃ y, wC.setCell ⟨bn, on + 4 + 2, none⟩ (.slice (some ⟨wB.heap.size, 0, none⟩) 2 2) = y := ⟨_, rfl⟩
  have hwD' : wC.setCell ⟨bn, on + 1 * 4 + 2, none⟩ (Sl.v ⟨some ⟨wB.heap.size, 0, none⟩, 2⟩ 2) = wD := by rw [← hwD]; simp only [Nat.one_mul]; rfl
  have hput2 : OwnW w.heap.size wD (setNode D3 1 { X3 with held := [⟨0, 0, 1, false, ⟨#[97]⟩⟩, ⟨0, 0, 2, false, ⟨#[98]⟩⟩] }) (L2.upd (5, 1, 0) ⟨some ⟨wB.heap.size, 0, none⟩, 2⟩) := by rw [← hwD']; exact hput
  rw [hwD'] at hst
  have hMD := hM6.step hput2 hst rfl rfl rfl rfl (by simp [setNode]) rfl
  rw [hX4.out, hD4.out] at hMD
  have hcD : Since w wD := hst.fr.sinceBase hc6 (fun i hi hb => by have := (hM6.own.blk hb).1; omega)
  obtain ⟨L4, hL4e⟩ : ∃ y, L2.upd (5, 1, 0) ⟨some ⟨wB.heap.size, 0, none⟩, 2⟩ = y := ⟨_, rfl⟩
  rw [hL4e] at hMD
  rw [hwD]
  have DF : Hid (∀ y, Since wD y → BoxW y wb.heap.size L4 D4 ∧ WAt y (wvOf L4 D4) D4) := fun y hy => ⟨hMD.box.since hy, (hMD.own.since hy).wat⟩
  have TN : Hid (∀ y, Since wD y → Calls Try.prog 26 #[.agg #[.slice (L4 (0, 0, 0)).a D4.groups.length (L4 (0, 0, 0)).cap, .slice (L4 (1, 0, 0)).a D4.nodes.length (L4 (1, 0, 0)).cap, .slice (L4 (2, 0, 0)).a D4.wires.length (L4 (2, 0, 0)).cap], .int .i64 1] y fun e w' => Hid (Res3 y (.ok (D5, 1)) e w')) := fun y hy => by
    have h := tellNode_any (wvOf L4 D4) D4 1 y (DF.out y hy).2
    rw [f1.out] at h; exact h
  have TN3 : Hid (∀ y, Since wD y → Calls Try.prog 26 #[.agg #[.slice (L4 (0, 0, 0)).a D4.groups.length (L4 (0, 0, 0)).cap, .slice (L4 (1, 0, 0)).a D4.nodes.length (L4 (1, 0, 0)).cap, .slice (L4 (2, 0, 0)).a D4.wires.length (L4 (2, 0, 0)).cap], .int .i64 3] y fun e w' => Hid (Res3 y (.error 4) e w')) := fun y hy => by
    have h := tellNode_any (wvOf L4 D4) D4 3 y (DF.out y hy).2
    rw [f3.out] at h; exact h
  obtain ⟨_, x0', x1', x2', _, _, _⟩ := hMD.box
  clear hput hput2 hst hwD hwD' hL4e c1 hne hneT x1 k9 z9 j0 j1 k2 j3 kz6 hM9 hRC hM6 hM5 hst6 hO2 hge
  go_wp2_with fail
  refine (TN.out wD (Since.refl _)).mono ?_
  rintro e w10 hR10
  obtain ⟨L5, rfl, hO5, hF10⟩ := hR10.out.2 D5 1 rfl
  have hS10 := hF10.none
  clear hR10 x0' x1' x2'
  simp only [wval]
  obtain ⟨w11, hw11⟩ : ∃ y, w10.alloc (.cells #[.slice (L5 (0, 0, 0)).a D5.groups.length (L5 (0, 0, 0)).cap, .slice (L5 (1, 0, 0)).a D5.nodes.length (L5 (1, 0, 0)).cap, .slice (L5 (2, 0, 0)).a D5.wires.length (L5 (2, 0, 0)).cap] 26) = y := ⟨_, rfl⟩
  have hS11 : Since w10 w11 := by rw [← hw11]; exact (Since.refl w10).alloc _
  have hB11 : BoxW w11 w10.heap.size L5 D5 := by rw [← hw11]; constructor <;> simp [go_sem]
  have hO11 := hO5.since hS11
  have EF : Hid (∀ y, Since w11 y → BoxW y w10.heap.size L5 D5 ∧ OwnW wD.heap.size y D5 L5) := fun y hy => ⟨hB11.since hy, hO11.since hy⟩
  have TN5 : Hid (∀ y, Since w11 y → Calls Try.prog 26 #[.agg #[.slice (L5 (0, 0, 0)).a D5.groups.length (L5 (0, 0, 0)).cap, .slice (L5 (1, 0, 0)).a D5.nodes.length (L5 (1, 0, 0)).cap, .slice (L5 (2, 0, 0)).a D5.wires.length (L5 (2, 0, 0)).cap], .int .i64 1] y fun e w' => Hid (Res3 y (.ok (D6, 0)) e w')) := fun y hy => by
    have h := tellNode_any (wvOf L5 D5) D5 1 y (EF.out y hy).2.wat
    rw [f2.out] at h; exact h
  obtain ⟨_, y0, y1, y2, _, _, _⟩ := hB11
  go_wp2_with fail
  refine (TN5.out w11 (Since.refl _)).mono ?_
  rintro e w12 hR12
  obtain ⟨L6, rfl, hO6, hF12⟩ := hR12.out.2 D6 0 rfl
  have hS12 := hF12.none
  clear hR12 y0 y1 y2 hw11
  simp only [wval]
  obtain ⟨w13, hw13⟩ : ∃ y, w12.alloc (.cells #[.slice (L6 (0, 0, 0)).a D6.groups.length (L6 (0, 0, 0)).cap, .slice (L6 (1, 0, 0)).a D6.nodes.length (L6 (1, 0, 0)).cap, .slice (L6 (2, 0, 0)).a D6.wires.length (L6 (2, 0, 0)).cap] 26) = y := ⟨_, rfl⟩
  have hS13 : Since w12 w13 := by rw [← hw13]; exact (Since.refl w12).alloc _
  have hD13 := ((hS10.trans hS11).trans hS12).trans hS13
  obtain ⟨_, x0', x1', x2', _, _, _⟩ := (DF.out _ hD13).1
  go_wp2_with fail
  refine (TN3.out w13 hD13).mono ?_
  rintro e w14 hR14
  obtain ⟨rfl, hF14⟩ := hR14.out.1 4 rfl
  have hS14 := hF14.none
  clear hR14 x0' x1' x2' hw13
  have h1114 := (hS12.trans hS13).trans hS14
  obtain ⟨w15, hw15⟩ : ∃ y, w14.alloc (.cells #[.slice none 0 0, .slice none 0 0, .slice none 0 0] 26) = y := ⟨_, rfl⟩
  have hS15' : Since w14 w15 := by rw [← hw15]; exact (Since.refl w14).alloc _
  have hN15 : NilBox w15 w14.heap.size := by rw [← hw15]; exact NilBox.new w14 _
  obtain ⟨w16, hw16⟩ : ∃ y, ((w15.setCell ⟨w14.heap.size, 0, none⟩ (.slice none 0 0)).setCell ⟨w14.heap.size, 1, none⟩ (.slice none 0 0)).setCell ⟨w14.heap.size, 2, none⟩ (.slice none 0 0) = y := ⟨_, rfl⟩
  have hS15 : Since w14 w16 := by rw [← hw16]; exact (put3_fr w15 w14.heap.size _ _ _).sinceBase hS15' (fun i hi e => by omega)
  have h1115 := h1114.trans hS15
  obtain ⟨_, r0, r1, r2, r3, r4, r5⟩ := hN15
  obtain ⟨hB15, hO15⟩ := EF.out _ h1115
  obtain ⟨g1, g2, g3, g4⟩ := fy.out
  obtain ⟨bm, om, cm, hLm, _, hbm, _, _⟩ := hO15.lies (ix := (1, 0, 0)) ⟨rfl, rfl⟩ (by show 0 < D5.nodes.length; omega)
  obtain ⟨_, _, n2, n3, _⟩ := hO15.cells g1 hLm
  have q1 := hB15.c1
  rw [hLm, g4] at q1
  rw [g2] at n2
  rw [g3] at n3
  dsimp only [Sl.v] at q1 n2 n3
  simp only [Nat.one_mul] at n2 n3
  clear hLm g1 g2 g3 g4
  go_wp2
  go_ret
  exact ⟨rfl, ((hcD.trans (hS10.trans hS11)).trans h1115)⟩

theorem tellBegun_any (w : World) :
    Calls Try.prog 28 #[] w fun e w' => e = .returned (.bool true) ∧ Since w w' :=
  tellBegun_key bD2 bD3 bD4 tD5 tD6 bX2 bX3 bX4 tX5 bRow begin_b2 t_1 t_2 t_3 b_x t_x rfl rfl rfl rfl w
end Go.Proofs.Ytiiifecfdkjmbaa
