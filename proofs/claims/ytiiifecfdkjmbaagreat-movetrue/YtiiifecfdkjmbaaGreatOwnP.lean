/- Worlds in memory of one's own: a store into a message on a wire; a wire's head stored beside itself; conditions: the wires are there. -/
import Derived.Test.YtiiifecfdkjmbaaGreatOwnX
namespace Go.Proofs.YtiiifecfdkjmbaaGreat
set_option maxRecDepth 8000
open Go.RowKit Go.Shelf
open _root_.Go.Proofs.YtiiifecfdkjmbaaGreat.Pure
set_option linter.unusedVariables false

/-- A cell of a message on a wire is stored. -/
theorem OwnW.pokeWire {lo : Nat} {w : World} {d : Wd} {L : Lay} (h : OwnW lo w d L) {f t : Nat} {r : List (List Mg)} {l l' : List Mg} (hr : d.wires[f]? = some r) (hl : r[t]? = some l) {b off cap : Nat} (he : L (8, f, t) = ⟨some ⟨b, off, none⟩, cap⟩)
    (hll : l'.length = l.length) {j : Nat} (hj : j < l.length * 5) (v : Value) (hset : flat l' = (flat l).set j v) : OwnW lo (w.setCell ⟨b, off + j, none⟩ v) (setWire d f t l') L := by
  have hf := (List.getElem?_eq_some_iff.1 hr).1
  have ht := (List.getElem?_eq_some_iff.1 hl).1
  have hwl : (setWire d f t l').wires.length = d.wires.length := by simp [setWire]
  have hrl : ∀ i, (rowAt (setWire d f t l') i).length = (rowAt d i).length := by
    intro i; rw [row_set l' hr]; split
    · rename_i e; rw [e, rowAt_of hr, List.length_set]
    · rfl
  have hwr : ∀ i j, wrAt (setWire d f t l') i j = if i = f ∧ j = t then l' else wrAt d i j := by
    intro i j; unfold wrAt; rw [row_set l' hr]
    by_cases e : i = f
    · subst e
      rw [if_pos rfl, rowAt_of hr, List.getElem?_set]
      by_cases e2 : t = j
      · subst e2; simp [ht]
      · rw [if_neg e2, if_neg (fun hh => e2 hh.2.symm)]
    · rw [if_neg e, if_neg (fun hh => e hh.1)]
  have hwn : ∀ i j, (wrAt (setWire d f t l') i j).length = (wrAt d i j).length := by
    intro i j; rw [hwr]; split
    · rename_i e; obtain ⟨rfl, rfl⟩ := e; rw [hll, wrAt_of hr hl]
    · rfl
  have hne8 : ∀ {i j}, (8, i, j) ≠ ((8, f, t) : Ix) → ¬ (i = f ∧ j = t) := fun hne hh => hne (by rw [hh.1, hh.2])
  refine h.store (d' := setWire d f t l') (L' := L) (ip := (8, f, t)) ⟨hf, by rw [rowAt_of hr]; exact ht⟩ he (j := j) (by show j < (wrAt d f t).length * 5; rw [wrAt_of hr hl]; exact hj) v (9, 0, 0) ?_ (fun _ _ => rfl) (by simp) ?_ ?_ ?_ (fun hh => absurd hh (by simp [okI]))
  · rintro ⟨u, i, k⟩
    match u with
    | 0 => exact Iff.rfl
    | 1 => exact Iff.rfl
    | 2 => exact Iff.rfl
    | 3 => exact Iff.rfl
    | 4 => exact Iff.rfl
    | 5 => exact Iff.rfl
    | 6 => exact Iff.rfl
    | 7 => show (i < _ ∧ k = 0) ↔ (i < _ ∧ k = 0); rw [hwl]
    | 8 => show (i < _ ∧ k < _) ↔ (i < _ ∧ k < _); rw [hwl, hrl]
    | u + 9 => exact Iff.rfl
  · rintro ⟨u, i, k⟩ hok hne
    match u with
    | 0 => rfl
    | 1 => rfl
    | 2 => exact hwl
    | 3 => rfl
    | 4 => rfl
    | 5 => rfl
    | 6 => rfl
    | 7 => exact hrl i
    | 8 => exact hwn i k
    | u + 9 => rfl
  · rintro ⟨u, i, k⟩ hok hne _
    match u with
    | 0 => rfl
    | 1 => rfl
    | 2 =>
      show (List.range (setWire d f t l').wires.length).map (fun i => (L (7, i, 0)).v (rowAt (setWire d f t l') i).length) = (List.range d.wires.length).map (fun i => (L (7, i, 0)).v (rowAt d i).length)
      rw [hwl]; congr 1; funext i; rw [hrl]
    | 3 => rfl
    | 4 => rfl
    | 5 => rfl
    | 6 => rfl
    | 7 =>
      show (List.range (rowAt (setWire d f t l') i).length).map (fun k => (L (8, i, k)).v (wrAt (setWire d f t l') i k).length) = (List.range (rowAt d i).length).map (fun k => (L (8, i, k)).v (wrAt d i k).length)
      rw [hrl]; congr 1; funext k; rw [hwn]
    | 8 => show flat (wrAt (setWire d f t l') i k) = flat (wrAt d i k); rw [hwr, if_neg (hne8 hne)]
    | u + 9 => rfl
  · show flat (wrAt (setWire d f t l') f t) = (flat (wrAt d f t)).set j v
    rw [hwr, if_pos ⟨rfl, rfl⟩, wrAt_of hr hl]; exact hset

/-- The world without its wires. -/
theorem OwnW.noWires {lo : Nat} {w : World} {d : Wd} {L : Lay} (h : OwnW lo w d L) : OwnW lo w ⟨d.groups, d.nodes, []⟩ L := by
  have hok : ∀ ix, okI (⟨d.groups, d.nodes, []⟩ : Wd) ix → okI d ix := by
    rintro ⟨u, i, k⟩ hk
    match u with
    | 0 => exact hk
    | 1 => exact hk
    | 2 => exact hk
    | 3 => exact hk
    | 4 => exact hk
    | 5 => exact hk
    | 6 => exact hk
    | 7 => exact absurd hk.1 (by simp)
    | 8 => exact absurd hk.1 (by simp)
    | u + 9 => exact hk
  refine ⟨?_, ?_, fun i j b hi hj => h.inj i j b (hok i hi) (hok j hj)⟩
  · rintro ⟨u, i, k⟩ hk
    match u with
    | 0 => exact h.row _ (hok _ hk)
    | 1 => exact h.row _ (hok _ hk)
    | 2 =>
      have hq := (h.row _ (hok _ hk)).take 0 (Nat.zero_le _)
      rw [Nat.zero_mul, List.take_zero] at hq
      exact hq
    | 3 => exact h.row _ (hok _ hk)
    | 4 => exact h.row _ (hok _ hk)
    | 5 => exact h.row _ (hok _ hk)
    | 6 => exact h.row _ (hok _ hk)
    | 7 => exact absurd hk.1 (by simp)
    | 8 => exact absurd hk.1 (by simp)
    | u + 9 => exact h.row _ (hok _ hk)
  · rintro ⟨u, i, k⟩ hk
    match u with
    | 0 => exact h.small _ (hok _ hk)
    | 1 => exact h.small _ (hok _ hk)
    | 2 => exact Nat.zero_le _
    | 3 => exact h.small _ (hok _ hk)
    | 4 => exact h.small _ (hok _ hk)
    | 5 => exact h.small _ (hok _ hk)
    | 6 => exact h.small _ (hok _ hk)
    | 7 => exact absurd hk.1 (by simp)
    | 8 => exact absurd hk.1 (by simp)
    | u + 9 => exact h.small _ (hok _ hk)

/-- A wire's head is stored in the place of another of the same row. -/
theorem OwnW.lend {lo : Nat} {w : World} {d : Wd} {L : Lay} (h : OwnW lo w d L) {f t s : Nat} {x : Nd} {row : List (List Mg)} {l l0 : List Mg} (hx : d.nodes[t]? = some x) (hr : d.wires[f]? = some row) (hl0 : row[t]? = some l0) (hl : row[s]? = some l)
    {br orr cr : Nat} (hq : L (7, f, 0) = ⟨some ⟨br, orr, none⟩, cr⟩) : WAt (w.setCell ⟨br, orr + t, none⟩ ((L (8, f, s)).v l.length)) (wvOf L d) (setWire d f t l) := by
  have hf := (List.getElem?_eq_some_iff.1 hr).1
  have ht := (List.getElem?_eq_some_iff.1 hl0).1
  have hs := (List.getElem?_eq_some_iff.1 hl).1
  have ok7 : okI d (7, f, 0) := ⟨hf, rfl⟩
  have ok1 : okI d (1, 0, 0) := ⟨rfl, rfl⟩
  have ok8 : okI d (8, f, s) := ⟨hf, by rw [rowAt_of hr]; exact hs⟩
  have q7 : Row w lo 1 (L (7, f, 0)) (rowAt d f).length ((List.range (rowAt d f).length).map fun k => (L (8, f, k)).v (wrAt d f k).length) := h.row _ ok7
  rw [rowAt_of hr] at q7
  have hpr : (L (7, f, 0)).blk = some br := by
    have := q7.cap; rw [hq] at this ⊢; dsimp only at this; unfold Sl.blk; rw [if_neg (by dsimp only; omega)]; rfl
  obtain ⟨bn, on, cn, he, _, hbn, hpn, _⟩ := h.lies ok1 (by show 0 < d.nodes.length; have := node_lt hx; omega)
  have hne : bn ≠ br := fun e => by
    have := h.inj (1, 0, 0) (7, f, 0) bn ok1 ok7 hpn (by rw [e]; exact hpr)
    simp at this
  obtain ⟨c0, c1, c2, c3, _⟩ := h.cells hx he
  obtain ⟨W, hW⟩ : ∃ W, w.setCell ⟨br, orr + t, none⟩ ((L (8, f, s)).v l.length) = W := ⟨_, rfl⟩
  rw [hW]
  have hF : Fr (fun i => i = br) w W := by rw [← hW]; exact (Fr.refl _ w).setCell _ _ (fun _ => rfl)
  have hF2 : Fr (fun i => i = bn ∨ i = br) w W := hF.mono (fun i _ e => .inr e)
  have kept : ∀ o, W.cell? ⟨bn, o, none⟩ = w.cell? ⟨bn, o, none⟩ := fun o => hF.cell (p := ⟨bn, o, none⟩) hbn hne
  obtain ⟨b', o', e', _, hbr, hc', _⟩ := q7.body (by have := q7.cap; omega)
  rw [hq] at e'
  cases e'
  have hcell : (w.cell? ⟨br, orr + t, none⟩).isSome = true := (hc' t (by have := q7.cap; omega)).1
  obtain ⟨u, hu⟩ := Option.isSome_iff_exists.1 hcell
  have hN : OwnW lo W ⟨d.groups, d.nodes, []⟩ L := h.noWires.fr hF (fun b hb e => by
    obtain ⟨⟨u, i, k⟩, hi, hb'⟩ := hb
    subst e
    match u, hi, hb' with
    | 0, hi, hb' => have := h.inj _ _ _ (show okI d (0, i, k) from hi) ok7 hb' hpr; simp at this
    | 1, hi, hb' => have := h.inj _ _ _ (show okI d (1, i, k) from hi) ok7 hb' hpr; simp at this
    | 2, hi, hb' => have := h.inj _ _ _ (show okI d (2, i, k) from hi) ok7 hb' hpr; simp at this
    | 3, hi, hb' => have := h.inj _ _ _ (show okI d (3, i, k) from hi) ok7 hb' hpr; simp at this
    | 4, hi, hb' => have := h.inj _ _ _ (show okI d (4, i, k) from hi) ok7 hb' hpr; simp at this
    | 5, hi, hb' => have := h.inj _ _ _ (show okI d (5, i, k) from hi) ok7 hb' hpr; simp at this
    | 6, hi, hb' => have := h.inj _ _ _ (show okI d (6, i, k) from hi) ok7 hb' hpr; simp at this
    | 7, hi, hb' => exact absurd hi.1 (by simp)
    | 8, hi, hb' => exact absurd hi.1 (by simp)
    | u + 9, hi, hb' => exact hi)
  have hx' : (⟨d.groups, d.nodes, []⟩ : Wd).nodes[t]? = some x := hx
  have B : Borrow w W bn on t br orr (.int .i64 x.clock) ((L (3, t, 0)).v x.last.length) ((L (5, t, 0)).v x.held.length) ((L (6, t, 0)).v x.told.length) ((L (8, f, s)).v l.length) :=
    ⟨hF2, (kept _).trans c0, (kept _).trans c1, (kept _).trans c2, (kept _).trans c3, fun o _ => kept o, by rw [← hW]; exact World.cell?_setCell_same w _ _ hu, fun o ho => by rw [← hW]; exact World.cell?_setCell_other w _ _ _ (fun e => ho (by injection e; omega))⟩
  have hm8 : Row W lo 5 (L (8, f, s)) (wrAt d f s).length (flat (wrAt d f s)) := (h.row _ ok8).fr hF (fun b hb e => by
    have := h.inj _ _ _ ok8 ok7 hb (by rw [e]; exact hpr); simp at this)
  have hs8 : (wrAt d f s).length ≤ 1000 := h.small _ ok8
  rw [wrAt_of hr hl] at hm8 hs8
  have hrw : (setWire d f t l).wires[f]? = some (row.set t l) := by
    unfold setWire; dsimp only; rw [List.getElem?_set, if_pos rfl, if_pos hf, hr]; rfl
  exact h.borrow (d0 := setWire d f t l) (row := row.set t l) (row' := row) (l := l) he hq B hx rfl rfl (by simp [setWire]) (fun i _ => rfl) (fun i hi => by unfold setWire; dsimp only; rw [List.getElem?_set, if_neg (Ne.symm hi)]) hrw hr (by simp)
    (fun i hi => by rw [List.getElem?_set, if_neg (Ne.symm hi)]) (by rw [List.getElem?_set, if_pos rfl, if_pos ht]) rfl (hN.vlast hx') (hN.vheld hx') (hN.vtold hx') ⟨_, _, rfl, hm8.cap, row_msgs hm8 hs8⟩
/-- Where a row of wires lies. -/
theorem OwnW.wires3 {lo : Nat} {w : World} {d : Wd} {L : Lay} (h : OwnW lo w d L) {f : Nat} {r : List (List Mg)} (hr : d.wires[f]? = some r) (hp : 0 < r.length) :
    ∃ bw ow cw br oR cr, L (2, 0, 0) = ⟨some ⟨bw, ow, none⟩, cw⟩ ∧ L (7, f, 0) = ⟨some ⟨br, oR, none⟩, cr⟩ ∧ bw < w.heap.size ∧ br < w.heap.size ∧ lo ≤ br ∧ w.cell? ⟨bw, ow + f, none⟩ = some (.slice (some ⟨br, oR, none⟩) r.length cr) ∧
      (∀ (k : Nat) (l : List Mg), r[k]? = some l → w.cell? ⟨br, oR + k, none⟩ = some ((L (8, f, k)).v l.length)) ∧ (∀ k, k < r.length → w.frozen? ⟨br, oR + k, none⟩ = false) := by
  have hf := (List.getElem?_eq_some_iff.1 hr).1
  have ok7 : okI d (7, f, 0) := ⟨hf, rfl⟩
  have q2 : Row w lo 1 (L (2, 0, 0)) d.wires.length ((List.range d.wires.length).map fun i => (L (7, i, 0)).v (rowAt d i).length) := h.row (2, 0, 0) ⟨rfl, rfl⟩
  have q7 : Row w lo 1 (L (7, f, 0)) (rowAt d f).length ((List.range (rowAt d f).length).map fun k => (L (8, f, k)).v (wrAt d f k).length) := h.row _ ok7
  rw [rowAt_of hr] at q7
  obtain ⟨bw, ow, e2, _, hbw, _, hx2⟩ := q2.body (by have := q2.cap; omega)
  obtain ⟨br, oR, e7, hlo, hbr, hc7, hx7⟩ := q7.body (by have := q7.cap; omega)
  have hL7 : L (7, f, 0) = ⟨some ⟨br, oR, none⟩, (L (7, f, 0)).cap⟩ := by rw [← e7]
  refine ⟨bw, ow, (L (2, 0, 0)).cap, br, oR, (L (7, f, 0)).cap, by rw [← e2], hL7, hbw, hbr, hlo, ?_, fun k l hl => ?_, fun k hk => ?_⟩
  · have := hx2 f _ (range_map_get _ _ f hf)
    rw [rowAt_of hr] at this
    rw [this]; unfold Sl.v; rw [e7]
  · have := hx7 k _ (range_map_get _ _ k (List.getElem?_eq_some_iff.1 hl).1)
    rw [wrAt_of hr hl] at this
    exact this
  · exact (hc7 k (by have := q7.cap; omega)).2
/-- Where a wire's messages lie. -/
theorem OwnW.wire1 {lo : Nat} {w : World} {d : Wd} {L : Lay} (h : OwnW lo w d L) {f t : Nat} {r : List (List Mg)} {l : List Mg} (hr : d.wires[f]? = some r) (hl : r[t]? = some l) (hp : 0 < l.length) :
    ∃ b o c, L (8, f, t) = ⟨some ⟨b, o, none⟩, c⟩ ∧ b < w.heap.size ∧ lo ≤ b ∧ (∀ j u, (flat l)[j]? = some u → w.cell? ⟨b, o + j, none⟩ = some u) ∧ (∀ j, j < l.length * 5 → w.frozen? ⟨b, o + j, none⟩ = false) := by
  have ok8 : okI d (8, f, t) := ⟨(List.getElem?_eq_some_iff.1 hr).1, by rw [rowAt_of hr]; exact (List.getElem?_eq_some_iff.1 hl).1⟩
  have q : Row w lo 5 (L (8, f, t)) (wrAt d f t).length (flat (wrAt d f t)) := h.row _ ok8
  rw [wrAt_of hr hl] at q
  obtain ⟨b, o, e, hlo, hb, hc, hx⟩ := q.body (by have := q.cap; omega)
  exact ⟨b, o, (L (8, f, t)).cap, by rw [← e], hb, hlo, hx, fun j hj => (hc j (by have := q.cap; omega)).2⟩
end Go.Proofs.YtiiifecfdkjmbaaGreat
