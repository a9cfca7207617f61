/- The laws' helper boundBegun, as plain data; no condition. The laws' helper boundBegun answers true; no condition. -/
import Derived.Test.YtiiifecfdkjmbaaGreatRDoneX
import Derived.Test.YtiiifecfdkjmbaaGreatBoundX
namespace Go.Proofs.YtiiifecfdkjmbaaGreat
set_option maxRecDepth 8000
open Go.RowKit Go.Shelf
open _root_.Go.Proofs.YtiiifecfdkjmbaaGreat.Pure
set_option linter.unusedVariables false
set_option linter.unusedSimpArgs false
def bbA : ByteArray := ⟨#[97]⟩
def bbB : ByteArray := ⟨#[98]⟩
def bbE : ByteArray := ⟨#[]⟩
def bActs1 : List Ac := [⟨1, 0, 0, bbA⟩, ⟨3, 0, 1, bbE⟩, ⟨2, 2, 1, bbE⟩, ⟨2, 2, 1, bbE⟩]
def bActs2 : List Ac := [⟨1, 0, 0, bbA⟩, ⟨2, 2, 1, bbE⟩, ⟨3, 2, 1, bbE⟩]
def bD1 : Wd := doneD 3 [3, 6] bActs1
def bD2 : Wd := doneD 3 [3, 6] bActs2
def bX2 : Nd := (bD2.nodes[1]?).getD ⟨0, [], [], []⟩
def bRow : List Int := (bX2.last[0]?).getD []
def bX3 : Nd := { bX2 with last := bX2.last.set 0 (bRow.set 0 1) }
def bD3 : Wd := setNode bD2 1 bX3
def bX4 : Nd := { bX3 with held := [⟨0, 0, 1, false, bbA⟩, ⟨0, 0, 2, false, bbB⟩] }
def bD4 : Wd := setNode bD3 1 bX4
theorem b_1 : nodeErr bD1 1 = 0 ∧ boundZ bD1 1 = 0 := ⟨by decide +kernel, by decide +kernel⟩
theorem b_2 : nodeErr bD2 1 = 0 ∧ boundZ bD2 1 = 0 := ⟨by decide +kernel, by decide +kernel⟩
theorem b_3 : nodeErr bD3 1 = 0 ∧ boundZ bD3 1 = 1 ∧ nodeErr bD3 3 = 4 := ⟨by decide +kernel, by decide +kernel, by decide +kernel⟩
theorem b_4 : nodeErr bD4 1 = 0 ∧ readyZ bD4 1 = [⟨0, 0, 1, false, bbA⟩] := ⟨by decide +kernel, by kernel_rfl⟩
theorem b_x : bD2.nodes[1]? = some bX2 ∧ bX2.last[0]? = some bRow ∧ bRow.length = 3 ∧ bX2.last.length = 2 ∧ bD2.nodes.length = 3 ∧ bD3.nodes[1]? = some bX3 ∧ bD3.nodes.length = 3 := ⟨by kernel_rfl, by kernel_rfl, by decide +kernel, by decide +kernel, by decide +kernel, by kernel_rfl, by decide +kernel⟩
end Go.Proofs.YtiiifecfdkjmbaaGreat
namespace Go.Proofs.YtiiifecfdkjmbaaGreat
set_option maxRecDepth 8000
open Go.RowKit Go.Shelf
open _root_.Go.Proofs.YtiiifecfdkjmbaaGreat.Pure
set_option linter.unusedVariables false
set_option linter.unusedSimpArgs false
theorem row_new (w : World) (lo sz n : Nat) (hlo : lo ≤ w.heap.size) (cs : List Value) (hl : cs.length = n * sz) (hn : n ≤ maxLen) (T : TypeId) : Row (w.alloc (.cells cs.toArray T)) lo sz ⟨some ⟨w.heap.size, 0, none⟩, n⟩ n cs := by
 have hh := World.alloc_heap_new w (.cells cs.toArray T)
 have hc : ∀ j v, cs[j]? = some v → (w.alloc (.cells cs.toArray T)).cell? ⟨w.heap.size, 0 + j, none⟩ = some v := by
  intro j v hv
  unfold World.cell?
  simp only [hh, Nat.zero_add]
  simpa using hv
 refine ⟨hl, Nat.le_refl _, hn, fun _ => .inr ⟨_, _, rfl⟩, fun _ => ⟨_, _, rfl, hlo, by simp, fun j hj => ?_, hc⟩⟩
 obtain ⟨v, hv⟩ : ∃ v, cs[j]? = some v := ⟨_, List.getElem?_eq_getElem (by rw [hl]; exact hj)⟩
 refine ⟨by rw [hc j v hv]; rfl, ?_⟩
 unfold World.frozen?
 simp only [hh]
 simp
theorem begin_b1 (w : World) :
  Calls Tryz.prog 83 #[.slice (some ⟨w.heap.size, 0, none⟩) 4 4] (w.alloc (.cells #[.int .i64 1, .int .i64 0, .int .i64 0, .string ⟨#[97]⟩, .int .i64 3, .int .i64 0, .int .i64 1, .string ⟨#[]⟩, .int .i64 2, .int .i64 2, .int .i64 1, .string ⟨#[]⟩, .int .i64 2, .int .i64 2, .int .i64 1, .string ⟨#[]⟩] 58)) fun e w' => ∃ L, e = .returned (wval L bD1) ∧ OwnW w.heap.size w' bD1 L ∧ Since w w' := by
 refine (begin_any _ _ bActs1 (by decide) _ (acts_new w bActs1 (by decide) _)).mono ?_
 rintro e w' ⟨L, rfl, hO, hS⟩
 exact ⟨L, rfl, hO.mono (by simp), ((Since.refl w).alloc _).trans hS⟩
theorem begin_b2 (w : World) :
  Calls Tryz.prog 83 #[.slice (some ⟨w.heap.size, 0, none⟩) 3 3] (w.alloc (.cells #[.int .i64 1, .int .i64 0, .int .i64 0, .string ⟨#[97]⟩, .int .i64 2, .int .i64 2, .int .i64 1, .string ⟨#[]⟩, .int .i64 3, .int .i64 2, .int .i64 1, .string ⟨#[]⟩] 58)) fun e w' => ∃ L, e = .returned (wval L bD2) ∧ OwnW w.heap.size w' bD2 L ∧ Since w w' := by
 refine (begin_any _ _ bActs2 (by decide) _ (acts_new w bActs2 (by decide) _)).mono ?_
 rintro e w' ⟨L, rfl, hO, hS⟩
 exact ⟨L, rfl, hO.mono (by simp), ((Since.refl w).alloc _).trans hS⟩
set_option maxHeartbeats 2000000 in
theorem boundBegun_key (D1 D2 D3 D4 : Wd) (X2 X3 X4 : Nd) (row : List Int)
  (hb1 : Hid (∀ w : World, Calls Tryz.prog 83 #[.slice (some ⟨w.heap.size, 0, none⟩) 4 4] (w.alloc (.cells #[.int .i64 1, .int .i64 0, .int .i64 0, .string ⟨#[97]⟩, .int .i64 3, .int .i64 0, .int .i64 1, .string ⟨#[]⟩, .int .i64 2, .int .i64 2, .int .i64 1, .string ⟨#[]⟩, .int .i64 2, .int .i64 2, .int .i64 1, .string ⟨#[]⟩] 58)) fun e w' => ∃ L, e = .returned (wval L D1) ∧ OwnW w.heap.size w' D1 L ∧ Since w w'))
  (hb2 : Hid (∀ w : World, Calls Tryz.prog 83 #[.slice (some ⟨w.heap.size, 0, none⟩) 3 3] (w.alloc (.cells #[.int .i64 1, .int .i64 0, .int .i64 0, .string ⟨#[97]⟩, .int .i64 2, .int .i64 2, .int .i64 1, .string ⟨#[]⟩, .int .i64 3, .int .i64 2, .int .i64 1, .string ⟨#[]⟩] 58)) fun e w' => ∃ L, e = .returned (wval L D2) ∧ OwnW w.heap.size w' D2 L ∧ Since w w'))
  (f1 : Hid (nodeErr D1 1 = 0 ∧ boundZ D1 1 = 0)) (f2 : Hid (nodeErr D2 1 = 0 ∧ boundZ D2 1 = 0)) (f3 : Hid (nodeErr D3 1 = 0 ∧ boundZ D3 1 = 1 ∧ nodeErr D3 3 = 4)) (f4 : Hid (nodeErr D4 1 = 0 ∧ readyZ D4 1 = [⟨0, 0, 1, false, ⟨#[97]⟩⟩]))
  (fx : Hid (D2.nodes[1]? = some X2 ∧ X2.last[0]? = some row ∧ row.length = 3 ∧ X2.last.length = 2 ∧ D2.nodes.length = 3 ∧ D3.nodes[1]? = some X3 ∧ D3.nodes.length = 3))
  (hX3 : Hid (({ X2 with last := X2.last.set 0 (row.set 0 1) } : Nd) = X3)) (hD3 : Hid (setNode D2 1 X3 = D3)) (hX4 : Hid (({ X3 with held := [⟨0, 0, 1, false, ⟨#[97]⟩⟩, ⟨0, 0, 2, false, ⟨#[98]⟩⟩] } : Nd) = X4)) (hD4 : Hid (setNode D3 1 X4 = D4)) (w : World) :
  Calls Tryz.prog 51 #[] w fun e w' => e = .returned (.bool true) ∧ Since w w' := by
 have hc : Since w w := Since.refl w
 go_enter Tryz.func51, Tryz.ntmps51
 go_wp2_with (go_at_call 94; refine (act_any _ _ _ _ _).mono ?_; rintro e w' ⟨rfl, hS⟩; have hc := hc.trans hS)
 refine (hb1.out _).mono ?_
 rintro e wb ⟨L1, rfl, hO1, hSb⟩
 have hcb := hc.trans hSb
 simp only [wval]
 obtain ⟨w1, hw1⟩ : ∃ y, wb.alloc (.cells #[.slice (L1 (0, 0, 0)).a D1.groups.length (L1 (0, 0, 0)).cap, .slice (L1 (1, 0, 0)).a D1.nodes.length (L1 (1, 0, 0)).cap, .slice (L1 (2, 0, 0)).a D1.wires.length (L1 (2, 0, 0)).cap] 26) = y := ⟨_, rfl⟩
 have hSb1 : Since wb w1 := by rw [← hw1]; exact (Since.refl wb).alloc _
 have hB1 : BoxW w1 wb.heap.size L1 D1 := by rw [← hw1]; constructor <;> simp [go_sem]
 have hW1 := (hO1.since hSb1).wat
 have hc1 := hcb.trans hSb1
 have b0 := hB1.c0
 have b1 := hB1.c1
 have b2 := hB1.c2
 go_wp2_with fail
 have hOf1 := boundOf_any (wvOf L1 D1) D1 1 w1 hW1
 rw [f1.out.1, f1.out.2] at hOf1
 unfold wvOf at hOf1
 dsimp only at hOf1
 refine hOf1.mono ?_
 rintro e w2 ⟨rfl, hS2⟩
 have hc := hS2
 clear b0 b1 b2 hw1
 go_wp2_with (go_at_call 94; refine (act_any _ _ _ _ _).mono ?_; rintro e w' ⟨rfl, hS⟩; have hc := hc.trans hS)
 refine (hb2.out _).mono ?_
 rintro e w3 ⟨L2, rfl, hO2, hS3⟩
 simp only [wval]
 have hS13 := hc.trans hS3
 have hB3 := hB1.since hS13
 have hlt : wb.heap.size < w1.heap.size := hB1.lt
 have hreb := rebox (lo := w1.heap.size) hO2 hB3 hc.size (Nat.lt_of_lt_of_le hlt hc.size)
 obtain ⟨bl, b0, b1, b2, z0, z1, z2⟩ := hB3
 obtain ⟨w4, hw4⟩ : ∃ y, ((w3.setCell ⟨wb.heap.size, 0, none⟩ (.slice (L2 (0, 0, 0)).a D2.groups.length (L2 (0, 0, 0)).cap)).setCell ⟨wb.heap.size, 1, none⟩ (.slice (L2 (1, 0, 0)).a D2.nodes.length (L2 (1, 0, 0)).cap)).setCell ⟨wb.heap.size, 2, none⟩ (.slice (L2 (2, 0, 0)).a D2.wires.length (L2 (2, 0, 0)).cap) = y := ⟨_, rfl⟩
 have hF4 : Fr (fun i => i = wb.heap.size) w3 w4 := by
  rw [← hw4]
  have hF : Fr (fun i => i = wb.heap.size) w3 w3 := Fr.refl _ _
  exact ((hF.setCell ⟨wb.heap.size, 0, none⟩ _ (fun _ => rfl)).setCell ⟨wb.heap.size, 1, none⟩ _ (fun _ => rfl)).setCell ⟨wb.heap.size, 2, none⟩ _ (fun _ => rfl)
 rw [hw4] at hreb
 have hwb : w.heap.size ≤ wb.heap.size := hcb.size
 have hc4 : Since w w4 := hF4.sinceBase (hc1.trans hS13) (fun i hi e => by omega)
 obtain ⟨xl, x0, x1, x2, y0, y1, y2⟩ := hreb.box
 go_wp2_with fail
 clear b0 b1 b2 z0 z1 z2 hw4
 have hOf2 := boundOf_any (wvOf L2 D2) D2 1 w4 hreb.own.wat
 rw [f2.out.1, f2.out.2] at hOf2
 unfold wvOf at hOf2
 dsimp only at hOf2
 refine hOf2.mono ?_
 rintro e w5 ⟨rfl, hS5⟩
 have hM5 := hreb.since hS5
 have hc5 := hc4.trans hS5
 obtain ⟨e1, e2, e3, e4, e5, e6, e7⟩ := fx.out
 obtain ⟨bn, on, cn, hL1, _, hbn, hbk, hcn⟩ := hM5.own.lies (ix := (1, 0, 0)) ⟨rfl, rfl⟩ (by show 0 < D2.nodes.length; omega)
 obtain ⟨k0, k1, _, _, kz⟩ := hM5.own.cells e1 hL1
 obtain ⟨b3, o3, cc3, b4, o4, cc4, hL3, hL4, hb3, hb4, v1, v2, v3⟩ := hM5.own.lastCells e1 e2 (by omega)
 have x5 := hM5.box.c1
 rw [hL1, e5] at x5
 rw [hL3, e4] at k1
 rw [e3] at v1
 dsimp only [Sl.v] at x5 k1
 obtain ⟨v0, hv0⟩ : ∃ v, row[0]? = some v := ⟨_, List.getElem?_eq_getElem (by omega)⟩
 have v4 := v2 0 v0 hv0
 have v5 := v3 0 (by omega)
 simp only [Nat.add_zero, Nat.one_mul] at v1 v4 v5 k1
 have HE := (show Hid _ from And.intro e3 (And.intro e4 e5))
 clear x0 x1 x2 y0 y1 y2 e3 e4 e5 v2 v3 e7
 obtain ⟨w6, hw6⟩ : ∃ y, w5.setCell ⟨b4, o4, none⟩ (.int .i64 1) = y := ⟨_, rfl⟩
 have hset := hM5.setLst (k := 0) e1 e2 (by have := HE.out.1; omega) hL4 (Since.refl w5) 1
 rw [Nat.add_zero, hw6] at hset
 obtain ⟨hM6', hst6⟩ := hset
 have hM6 : MadeW w1.heap.size w6 wb.heap.size D3 L2 := by rw [hX3.out, hD3.out] at hM6'; exact hM6'
 have hc6 : Since w w6 := hst6.fr.sinceBase hc5 (fun i hi hb => by have := (hM5.own.blk hb).1; have := hc1.size; omega)
 obtain ⟨_, x0, x1, x2, _, _, _⟩ := hM6.box
 go_wp2_with fail
 have hOf3 := boundOf_any (wvOf L2 D3) D3 1 w6 hM6.own.wat
 rw [f3.out.1, f3.out.2.1] at hOf3
 unfold wvOf at hOf3
 rw [hL1] at hOf3
 dsimp only at hOf3
 refine hOf3.mono ?_
 rintro e w7 ⟨rfl, hS7⟩
 clear x0 x1 x2 hw6 v1 v4 v5 k0 k1 kz x5
 have hM7 := hM6.since hS7
 have hc7 := hc6.trans hS7
 obtain ⟨_, x0, x1, x2, _, _, _⟩ := hM7.box
 go_wp2_with fail
 have hOf4 := boundOf_any (wvOf L2 D3) D3 3 w7 hM7.own.wat
 rw [f3.out.2.2] at hOf4
 unfold wvOf at hOf4
 rw [hL1] at hOf4
 dsimp only at hOf4
 refine hOf4.mono ?_
 rintro e w8 ⟨rfl, hS8⟩
 clear x0 x1 x2
 have hM8 := hM7.since hS8
 have hc8 := hc7.trans hS8
 have hb8 : bn < w8.heap.size := Nat.lt_of_lt_of_le hbn (Nat.le_trans hst6.fr.size (hS7.trans hS8).size)
 obtain ⟨k0, k1, k2, k3, kz⟩ := hM8.own.cells e6 hL1
 have x1 := hM8.box.c1
 rw [hL1, fx.out.2.2.2.2.2.2] at x1
 dsimp only at x1
 go_wp2_with fail
 obtain ⟨W0, hW0⟩ : ∃ y, w8.drew = y := ⟨_, rfl⟩
 have hs0 : Since w8 W0 := by rw [← hW0]; exact Since.drew (Since.refl _)
 obtain ⟨S0, hS0⟩ : ∃ S0 : World → Prop, ∀ w', S0 w' ↔ Since w8 w' := ⟨_, fun _ => Iff.rfl⟩
 have c1 : ∀ y : HeldW S0, y.w.cell? ⟨wb.heap.size, 1, none⟩ = some (.slice (some ⟨bn, on, none⟩) 3 cn) := fun y => (((hS0 _).1 y.h).cellAt hM8.box.lt _).trans x1
 have hSi0 := (hS0 W0).2 hs0
 have hne : Nonempty (HeldW S0) := ⟨⟨_, hSi0⟩⟩
 refine beginL (fun w' => ∃ x : HeldW S0, w' = x.w) (by kernel_rfl) ?_
 rw [hW0]
 clear hW0
 refine tL 0 rfl (heldS_mk hSi0) ?_
 go_big_quiet_op
 refine tL 1 rfl (heldS_mk hSi0) ?_
 go_big_quiet_op
 refine actL 2 rfl (by kernel_rfl) ?_
 intro K hK
 go_simp
 refine (say_any 0 0 1 ⟨#[97]⟩ W0).mono ?_
 rintro e wA ⟨rfl, hSA⟩
 dsimp only
 refine hK _ _ (fun _ _ => heldS_mk ((hS0 _).2 (hs0.trans hSA))) ?_
 clear hK K
 refine actL 3 rfl (by kernel_rfl) ?_
 intro K hK
 go_simp
 refine (say_any 0 0 2 ⟨#[98]⟩ wA).mono ?_
 rintro e wB ⟨rfl, hSB⟩
 dsimp only
 have hsB := (hs0.trans hSA).trans hSB
 refine hK _ _ (fun _ _ => heldS_mk ((hS0 _).2 hsB)) ?_
 clear hK K
 refine actL 4 rfl (by kernel_rfl) ?_
 intro K hK
 go_simp
 obtain ⟨wC, hwC⟩ : ∃ y, wB.alloc (.cells #[.int .i64 0, .int .i64 0, .int .i64 1, .bool false, .string ⟨#[97]⟩, .int .i64 0, .int .i64 0, .int .i64 2, .bool false, .string ⟨#[98]⟩] 42) = y := ⟨_, rfl⟩
 have hSC : Since wB wC := by rw [← hwC]; exact (Since.refl wB).alloc _
 have hRC : Row wC w8.heap.size 5 ⟨some ⟨wB.heap.size, 0, none⟩, 2⟩ 2 (flat [⟨0, 0, 1, false, ⟨#[97]⟩⟩, ⟨0, 0, 2, false, ⟨#[98]⟩⟩]) := by
  rw [← hwC]; exact row_new wB w8.heap.size 5 2 hsB.size (flat [⟨0, 0, 1, false, ⟨#[97]⟩⟩, ⟨0, 0, 2, false, ⟨#[98]⟩⟩]) rfl (by unfold maxLen; omega) _
 have hsC := hsB.trans hSC
 have hM9 := hM8.since hsC
 have k9 := (hsC.cellAt hb8 _).trans k2
 have z9 := (hsC.below.frozen (p := ⟨bn, on + 1 * 4 + 2, none⟩) hb8).trans (kz 2 (by omega))
 simp only [Nat.one_mul] at k9 z9
 rw [hwC]
 refine hK _ _ (fun _ _ => heldS_mk ((hS0 _).2 hsC)) ?_
 clear hK K
 refine tL 5 rfl (heldS_mk ((hS0 _).2 hsC)) ?_
 go_big_quiet_op
 refine tL 6 rfl (heldS_mk ((hS0 _).2 hsC)) ?_
 go_big_quiet_op
 refine actL 7 rfl (by kernel_rfl) ?_
 intro K hK
 go_simp
 refine hK _ _ (fun h => absurd h (by decide +kernel)) ?_
 clear hK K
 refine doneK (by kernel_rfl) ?_
 have hsz : w1.heap.size ≤ w8.heap.size := by have := hS13.size; have := hF4.size; have := hS5.size; have := hst6.fr.size; have := hS7.size; have := hS8.size; omega
 have hge : ∀ b, Sl.blk ⟨some ⟨wB.heap.size, 0, none⟩, 2⟩ = some b → w8.heap.size ≤ b := hRC.blk_ge
 have hput := hM9.own.putHeld e6 hL1 (l := [⟨0, 0, 1, false, ⟨#[97]⟩⟩, ⟨0, 0, 2, false, ⟨#[98]⟩⟩]) (hRC.mono hsz) (by simp) (hM8.own.fresh hge (5, 1, 0))
 have hst := stepW_upd (d := D3) (L := L2) (d' := setNode D3 1 { X3 with held := [⟨0, 0, 1, false, ⟨#[97]⟩⟩, ⟨0, 0, 2, false, ⟨#[98]⟩⟩] }) hsC (okI_setNode e6 rfl) (5, 1, 0) ⟨some ⟨wB.heap.size, 0, none⟩, 2⟩ (fun b e => .inr (hge b e)) (off := on + 1 * 4 + 2) (Sl.v ⟨some ⟨wB.heap.size, 0, none⟩, 2⟩ 2) ⟨(1, 0, 0), ⟨rfl, rfl⟩, hbk⟩
 obtain ⟨wD, hwD⟩ : ∃ y, wC.setCell ⟨bn, on + 4 + 2, none⟩ (.slice (some ⟨wB.heap.size, 0, none⟩) 2 2) = y := ⟨_, rfl⟩
 have hwD' : wC.setCell ⟨bn, on + 1 * 4 + 2, none⟩ (Sl.v ⟨some ⟨wB.heap.size, 0, none⟩, 2⟩ 2) = wD := by rw [← hwD]; simp only [Nat.one_mul]; rfl
 have hput2 : OwnW w1.heap.size wD (setNode D3 1 { X3 with held := [⟨0, 0, 1, false, ⟨#[97]⟩⟩, ⟨0, 0, 2, false, ⟨#[98]⟩⟩] }) (L2.upd (5, 1, 0) ⟨some ⟨wB.heap.size, 0, none⟩, 2⟩) := by rw [← hwD']; exact hput
 rw [hwD'] at hst
 have hMD := hM8.step hput2 hst rfl rfl rfl rfl (by simp [setNode]) rfl
 rw [hX4.out, hD4.out] at hMD
 have hcD : Since w wD := hst.fr.sinceBase hc8 (fun i hi hb => by have := (hM8.own.blk hb).1; have := hc1.size; omega)
 have hL14 : (L2.upd (5, 1, 0) ⟨some ⟨wB.heap.size, 0, none⟩, 2⟩) (1, 0, 0) = ⟨some ⟨bn, on, none⟩, cn⟩ := hL1
 obtain ⟨L4, hL4e⟩ : ∃ y, L2.upd (5, 1, 0) ⟨some ⟨wB.heap.size, 0, none⟩, 2⟩ = y := ⟨_, rfl⟩
 rw [hL4e] at hMD hL14
 obtain ⟨_, x0', x1', x2', _, _, _⟩ := hMD.box
 rw [hwD]
 clear hput hput2 hst hwD hwD' hL4e c1 hne x1 k9 z9 k0 k1 k2 k3 kz hwC
 go_wp2_with fail
 have hRd := boundReady_any (wvOf L4 D4) D4 1 wD hMD.own.wat
 rw [f4.out.1, f4.out.2] at hRd
 unfold wvOf at hRd
 rw [hL14] at hRd
 dsimp only at hRd
 refine hRd.mono ?_
 rintro e w10 ⟨v, rfl, hv, hS10⟩
 obtain ⟨ra, rc, rfl, hRR⟩ := row_of_owns hv
 dsimp only [List.length_cons, List.length_nil] at hRR
 obtain ⟨br, oR, era, _, hbr, _, hxr⟩ := hRR.body (by have := hRR.cap; dsimp only at this ⊢; omega)
 dsimp only at era
 subst era
 obtain ⟨n0, n1, n2, n3, n4⟩ := msgAt_of hxr 0 ⟨0, 0, 1, false, ⟨#[97]⟩⟩ rfl
 simp only [Nat.zero_mul, Nat.add_zero] at n0 n1 n2 n3 n4
 have hc10 := hcD.trans hS10
 clear x0' x1' x2'
 go_wp2_with fail
 obtain ⟨V0, hV0⟩ : ∃ y, w10.drew = y := ⟨_, rfl⟩
 have ht0 : Since w10 V0 := by rw [← hV0]; exact Since.drew (Since.refl _)
 obtain ⟨S1, hS1⟩ : ∃ S0 : World → Prop, ∀ w', S0 w' ↔ Since w10 w' := ⟨_, fun _ => Iff.rfl⟩
 have c0 : ∀ y : HeldW S1, y.w.cell? ⟨br, oR, none⟩ = some (.int .i64 0) := fun y => (((hS1 _).1 y.h).cellAt hbr _).trans n0
 have c1 : ∀ y : HeldW S1, y.w.cell? ⟨br, oR + 1, none⟩ = some (.int .i64 0) := fun y => (((hS1 _).1 y.h).cellAt hbr _).trans n1
 have c2 : ∀ y : HeldW S1, y.w.cell? ⟨br, oR + 2, none⟩ = some (.int .i64 1) := fun y => (((hS1 _).1 y.h).cellAt hbr _).trans n2
 have c3 : ∀ y : HeldW S1, y.w.cell? ⟨br, oR + 3, none⟩ = some (.bool false) := fun y => (((hS1 _).1 y.h).cellAt hbr _).trans n3
 have c4 : ∀ y : HeldW S1, y.w.cell? ⟨br, oR + 4, none⟩ = some (.string ⟨#[97]⟩) := fun y => (((hS1 _).1 y.h).cellAt hbr _).trans n4
 have hTi0 := (hS1 V0).2 ht0
 have hne1 : Nonempty (HeldW S1) := ⟨⟨_, hTi0⟩⟩
 refine beginL (fun w' => ∃ x : HeldW S1, w' = x.w) (by kernel_rfl) ?_
 rw [hV0]
 clear hV0
 refine tL 0 rfl (heldS_mk hTi0) ?_
 go_big_quiet_op
 refine tL 1 rfl (heldS_mk hTi0) ?_
 go_big_quiet_op
 refine tL 2 rfl (heldS_mk hTi0) ?_
 go_big_quiet_op
 refine tL 3 rfl (heldS_mk hTi0) ?_
 go_big_quiet_op
 refine tL 4 rfl (heldS_mk hTi0) ?_
 go_big_quiet_op
 refine tL 5 rfl (heldS_mk hTi0) ?_
 go_big_quiet_op
 refine tL 6 rfl (heldS_mk hTi0) ?_
 go_big_quiet_op
 refine tL 7 rfl (heldS_mk hTi0) ?_
 go_big_quiet_op
 refine tL 8 rfl (heldS_mk hTi0) ?_
 go_big_quiet_op
 refine tL 9 rfl (heldS_mk hTi0) ?_
 go_big_quiet_op
 refine tL 10 rfl (heldS_mk hTi0) ?_
 go_big_quiet_op
 refine tL 11 rfl (heldS_mk hTi0) ?_
 go_big_quiet_op
 refine tL 12 rfl (heldS_mk hTi0) ?_
 go_big_quiet_op
 refine tL 13 rfl (heldS_mk hTi0) ?_
 go_big_quiet_op
 refine tL 14 rfl (heldS_mk hTi0) ?_
 go_big_quiet_op
 refine tL 15 rfl (heldS_mk hTi0) ?_
 go_big_quiet_op
 refine tL 16 rfl (heldS_mk hTi0) ?_
 go_big_quiet_op
 refine tL 17 rfl (heldS_mk hTi0) ?_
 go_big_quiet_op
 refine tL 18 rfl (heldS_mk hTi0) ?_
 go_big_quiet_op
 refine tL 19 rfl (heldS_mk hTi0) ?_
 go_big_quiet_op
 refine tL 20 rfl (heldS_mk hTi0) ?_
 go_big_quiet_op
 refine tL 21 rfl (heldS_mk hTi0) ?_
 go_big_quiet_op
 refine tL 22 rfl (heldS_mk hTi0) ?_
 go_big_quiet_op
 refine tL 23 rfl (heldS_mk hTi0) ?_
 go_big_quiet_op
 refine tL 24 rfl (heldS_mk hTi0) ?_
 go_big_quiet_op
 refine tL 25 rfl (heldS_mk hTi0) ?_
 go_big_quiet_op
 refine tL 26 rfl (heldS_mk hTi0) ?_
 go_big_quiet_op
 refine tL 27 rfl (heldS_mk hTi0) ?_
 go_big_quiet_op
 refine tL 28 rfl (heldS_mk hTi0) ?_
 go_big_quiet_op
 refine tL 29 rfl (heldS_mk hTi0) ?_
 go_big_quiet_op
 refine tL 30 rfl (heldS_mk hTi0) ?_
 go_big_quiet_op
 refine tL 31 rfl (heldS_mk hTi0) ?_
 go_big_quiet_op
 refine tL 32 rfl (heldS_mk hTi0) ?_
 go_big_quiet_op
 refine tL 33 rfl (heldS_mk hTi0) ?_
 go_big_quiet_op
 refine tL 34 rfl (heldS_mk hTi0) ?_
 go_big_quiet_op
 refine tL 35 rfl (heldS_mk hTi0) ?_
 go_big_quiet_op
 refine tL 36 rfl (heldS_mk hTi0) ?_
 go_big_quiet_op
 refine tL 37 rfl (heldS_mk hTi0) ?_
 go_big_quiet_op
 refine tL 38 rfl (heldS_mk hTi0) ?_
 go_big_quiet_op
 refine actL 39 rfl (by kernel_rfl) ?_
 intro K hK
 go_simp
 refine (say_any 0 0 1 ⟨#[97]⟩ V0).mono ?_
 rintro e VA ⟨rfl, hSV⟩
 dsimp only
 have hsV := ht0.trans hSV
 refine hK _ _ (fun _ _ => heldS_mk ((hS1 _).2 hsV)) ?_
 clear hK K
 refine tL 40 rfl (heldS_mk ((hS1 _).2 hsV)) ?_
 go_big_quiet_op
 refine tL 41 rfl (heldS_mk ((hS1 _).2 hsV)) ?_
 go_big_quiet_op
 refine tL 42 rfl (heldS_mk ((hS1 _).2 hsV)) ?_
 go_big_quiet_op
 refine doneK (by kernel_rfl) ?_
 clear c0 c1 c2 c3 c4 hne1
 go_wp2
 go_ret
 exact ⟨rfl, hc10.trans hsV⟩
theorem boundBegun_any (w : World) :
  Calls Tryz.prog 51 #[] w fun e w' => e = .returned (.bool true) ∧ Since w w' :=
 boundBegun_key bD1 bD2 bD3 bD4 bX2 bX3 bX4 bRow begin_b1 begin_b2 b_1 b_2 b_3 b_4 b_x rfl rfl rfl rfl w
end Go.Proofs.YtiiifecfdkjmbaaGreat
