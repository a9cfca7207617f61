/- A world in memory of one's own, into which a node and a wire of another world were stored: how it reads then; conditions: the node and the wire are there. Worlds in memory of one's own: a store into a message on a wire; a wire's head stored beside itself; conditions: the wires are there. A node's four cells and a wire's head are stored: what the memory is then; conditions: the cells are there. -/
import Derived.Test.YtiiifecfdkjmbaaSOwnX
namespace Go.Proofs.Ytiiifecfdkjmbaa
set_option maxRecDepth 8000
open Go.RowKit Go.Shelf
open _root_.Go.Proofs.Ytiiifecfdkjmbaa.Pure
set_option linter.unusedVariables false
structure Borrow (w W : World) (bn on t br orr : Nat) (v0 v1 v2 v3 v : Value) : Prop where
 fr : Fr (fun i => i = bn ∨ i = br) w W
 n0 : W.cell? ⟨bn, on + t * 4, none⟩ = some v0
 n1 : W.cell? ⟨bn, on + t * 4 + 1, none⟩ = some v1
 n2 : W.cell? ⟨bn, on + t * 4 + 2, none⟩ = some v2
 n3 : W.cell? ⟨bn, on + t * 4 + 3, none⟩ = some v3
 no : ∀ o, (o < on + t * 4 ∨ on + t * 4 + 3 < o) → W.cell? ⟨bn, o, none⟩ = w.cell? ⟨bn, o, none⟩
 r : W.cell? ⟨br, orr + t, none⟩ = some v
 ro : ∀ o, o ≠ orr + t → W.cell? ⟨br, o, none⟩ = w.cell? ⟨br, o, none⟩
theorem OwnW.borrow {lo : Nat} {w W : World} {d d0 : Wd} {L : Lay} (h : OwnW lo w d L) {f t bn on cn br orr cr : Nat} {v0 v1 v2 v3 v : Value} {x : Nd} {row row' : List (List Mg)} {l : List Mg}
  (he : L (1, 0, 0) = ⟨some ⟨bn, on, none⟩, cn⟩) (hq : L (7, f, 0) = ⟨some ⟨br, orr, none⟩, cr⟩) (B : Borrow w W bn on t br orr v0 v1 v2 v3 v)
  (hx : d0.nodes[t]? = some x) (hg : d.groups = d0.groups) (hn : d.nodes.length = d0.nodes.length) (hw : d.wires.length = d0.wires.length)
  (hnd : ∀ i, i ≠ t → d.nodes[i]? = d0.nodes[i]?) (hwr : ∀ i, i ≠ f → d.wires[i]? = d0.wires[i]?)
  (hrow : d0.wires[f]? = some row) (hrow' : d.wires[f]? = some row') (hrl : row'.length = row.length) (hrs : ∀ i, i ≠ t → row'[i]? = row[i]?) (hl : row[t]? = some l)
  (e0 : v0 = .int .i64 x.clock) (h1 : VSlices VInts W v1 x.last) (h2 : VMsgs W v2 x.held) (h3 : VMsgs W v3 x.told) (h4 : VMsgs W v l) : WAt W (wvOf L d) d0 := by
 have htn : t < d.nodes.length := by rw [hn]; exact node_lt hx
 have htr : t < row'.length := by rw [hrl]; exact (List.getElem?_eq_some_iff.1 hl).1
 have hfl : f < d.wires.length := (List.getElem?_eq_some_iff.1 hrow').1
 have ok7 : okI d (7, f, 0) := ⟨hfl, rfl⟩
 have ok1 : okI d (1, 0, 0) := ⟨rfl, rfl⟩
 have q1 : Row w lo 4 (L (1, 0, 0)) d.nodes.length ((List.range d.nodes.length).flatMap (nodeCells d L)) := h.row (1, 0, 0) ok1
 have q7 : Row w lo 1 (L (7, f, 0)) (rowAt d f).length ((List.range (rowAt d f).length).map fun k => (L (8, f, k)).v (wrAt d f k).length) := h.row _ ok7
 rw [rowAt_of hrow'] at q7
 have hpn : (L (1, 0, 0)).blk = some bn := by
  have := q1.cap; rw [he] at this ⊢; dsimp only at this; unfold Sl.blk; rw [if_neg (by dsimp only; omega)]; rfl
 have hpr : (L (7, f, 0)).blk = some br := by
  have := q7.cap; rw [hq] at this ⊢; dsimp only at this; unfold Sl.blk; rw [if_neg (by dsimp only; omega)]; rfl
 have keep : ∀ ix, okI d ix → ix ≠ (1, 0, 0) → ix ≠ (7, f, 0) → Row W lo (szI ix) (L ix) (lenD d ix) (cellsI d L ix) := fun ix hi n1 n2 =>
  (h.row ix hi).fr B.fr (fun b hb hB => by
   rcases hB with rfl | rfl
   ·exact n1 (h.inj ix _ _ hi ok1 hb hpn)
   ·exact n2 (h.inj ix _ _ hi ok7 hb hpr))
 have vints : ∀ (i k : Nat) (y : Nd) (r : List Int), d.nodes[i]? = some y → y.last[k]? = some r → VInts W ((L (4, i, k)).v (lrAt d i k).length) r := by
  intro i k y r hy hr
  have hk := (List.getElem?_eq_some_iff.1 hr).1
  have hl : lrAt d i k = r := by unfold lrAt; rw [ndAt_of hy, hr]; rfl
  have hok : okI d (4, i, k) := ⟨node_lt hy, by rw [ndAt_of hy]; exact hk⟩
  have hR : Row W lo 1 (L (4, i, k)) (lrAt d i k).length ((lrAt d i k).map intV) := keep _ hok (by simp) (by simp)
  have hs : (lrAt d i k).length ≤ 1000 := h.small _ hok
  rw [hl] at hR hs ⊢
  exact ⟨_, _, rfl, hR.cap, row_ints hR hs⟩
 have vheld : ∀ (i : Nat) (y : Nd), d.nodes[i]? = some y → VMsgs W ((L (5, i, 0)).v y.held.length) y.held := by
  intro i y hy
  have hok : okI d (5, i, 0) := ⟨node_lt hy, rfl⟩
  have hR : Row W lo 5 (L (5, i, 0)) (ndAt d i).held.length (flat (ndAt d i).held) := keep _ hok (by simp) (by simp)
  have hs : (ndAt d i).held.length ≤ 1000 := h.small _ hok
  rw [ndAt_of hy] at hR hs
  exact ⟨_, _, rfl, hR.cap, row_msgs hR hs⟩
 have vtold : ∀ (i : Nat) (y : Nd), d.nodes[i]? = some y → VMsgs W ((L (6, i, 0)).v y.told.length) y.told := by
  intro i y hy
  have hok : okI d (6, i, 0) := ⟨node_lt hy, rfl⟩
  have hR : Row W lo 5 (L (6, i, 0)) (ndAt d i).told.length (flat (ndAt d i).told) := keep _ hok (by simp) (by simp)
  have hs : (ndAt d i).told.length ≤ 1000 := h.small _ hok
  rw [ndAt_of hy] at hR hs
  exact ⟨_, _, rfl, hR.cap, row_msgs hR hs⟩
 have vlast : ∀ (i : Nat) (y : Nd), d.nodes[i]? = some y → VSlices VInts W ((L (3, i, 0)).v y.last.length) y.last := by
  intro i y hy
  have hok : okI d (3, i, 0) := ⟨node_lt hy, rfl⟩
  have hR : Row W lo 1 (L (3, i, 0)) (ndAt d i).last.length ((List.range (ndAt d i).last.length).map fun k => (L (4, i, k)).v (lrAt d i k).length) := keep _ hok (by simp) (by simp)
  have hs : (ndAt d i).last.length ≤ 1000 := h.small _ hok
  rw [ndAt_of hy] at hR hs
  exact ⟨_, _, rfl, hR.cap, row_slices hR hs (fun k r hr => ⟨_, range_map_get _ _ k (List.getElem?_eq_some_iff.1 hr).1, vints i k y r hy hr⟩)⟩
 have vwire : ∀ (i k : Nat) (r : List (List Mg)) (m : List Mg), d.wires[i]? = some r → r[k]? = some m → VMsgs W ((L (8, i, k)).v m.length) m := by
  intro i k r m hy hr
  have hk := (List.getElem?_eq_some_iff.1 hr).1
  have hl : wrAt d i k = m := by unfold wrAt; rw [rowAt_of hy, hr]; rfl
  have hok : okI d (8, i, k) := ⟨(List.getElem?_eq_some_iff.1 hy).1, by rw [rowAt_of hy]; exact hk⟩
  have hR : Row W lo 5 (L (8, i, k)) (wrAt d i k).length (flat (wrAt d i k)) := keep _ hok (by simp) (by simp)
  have hs : (wrAt d i k).length ≤ 1000 := h.small _ hok
  rw [hl] at hR hs
  exact ⟨_, _, rfl, hR.cap, row_msgs hR hs⟩
 have vrow : ∀ (i : Nat) (r : List (List Mg)), i ≠ f → d.wires[i]? = some r → VSlices VMsgs W ((L (7, i, 0)).v r.length) r := by
  intro i r hi hy
  have hok : okI d (7, i, 0) := ⟨(List.getElem?_eq_some_iff.1 hy).1, rfl⟩
  have hR : Row W lo 1 (L (7, i, 0)) (rowAt d i).length ((List.range (rowAt d i).length).map fun k => (L (8, i, k)).v (wrAt d i k).length) := keep _ hok (by simp) (fun e => hi (by simpa using e))
  have hs : (rowAt d i).length ≤ 1000 := h.small _ hok
  rw [rowAt_of hy] at hR hs
  refine ⟨_, _, rfl, hR.cap, row_slices hR hs (fun k l hl => ⟨_, range_map_get _ _ k (List.getElem?_eq_some_iff.1 hl).1, ?_⟩)⟩
  rw [wrAt_of hy hl]; exact vwire i k r l hy hl
 have h0 : Row W lo 1 (L (0, 0, 0)) d.groups.length (d.groups.map intV) := keep (0, 0, 0) ⟨rfl, rfl⟩ (by simp) (by simp)
 have hr2 : Row W lo 1 (L (2, 0, 0)) d.wires.length ((List.range d.wires.length).map fun i => (L (7, i, 0)).v (rowAt d i).length) := keep (2, 0, 0) ⟨rfl, rfl⟩ (by simp) (by simp)
 have s0 : d.groups.length ≤ 1000 := h.small (0, 0, 0) ⟨rfl, rfl⟩
 have s1 : d.nodes.length ≤ 1000 := h.small (1, 0, 0) ⟨rfl, rfl⟩
 have s2 : d.wires.length ≤ 1000 := h.small (2, 0, 0) ⟨rfl, rfl⟩
 have s7 : (rowAt d f).length ≤ 1000 := h.small (7, f, 0) ok7
 rw [rowAt_of hrow'] at s7
 have hbn : bn < W.heap.size := Nat.lt_of_lt_of_le (q1.blk_of hpn).2.2.1 B.fr.size
 have hbr : br < W.heap.size := Nat.lt_of_lt_of_le (q7.blk_of hpr).2.2.1 B.fr.size
 have hrs2 : Slices (VSlices VMsgs) W (L (2, 0, 0)).a d0.wires.length d0.wires := by
  rw [hw] at hr2 s2
  refine row_slices hr2 s2 (fun i r hr => ⟨_, range_map_get _ _ i (List.getElem?_eq_some_iff.1 hr).1, ?_⟩)
  by_cases hi : i = f
  ·subst hi
   rw [hrow] at hr; cases hr
   rw [rowAt_of hrow']
   have hcap := q7.cap
   rw [hrl] at hcap
   refine ⟨(L (7, i, 0)).a, (L (7, i, 0)).cap, by rw [← hrl]; rfl, hcap, rfl, by omega, fun hp => ⟨br, orr, by rw [hq], hbr, fun k y hy => ?_⟩⟩
   by_cases hk : k = t
   ·subst hk
    rw [hl] at hy; cases hy
    exact ⟨v, B.r, h4⟩
   ·have hy' : row'[k]? = some y := by rw [hrs k hk]; exact hy
    have hkl := (List.getElem?_eq_some_iff.1 hy').1
    obtain ⟨b', o', e', _, _, _, hxs⟩ := q7.body (by have := q7.cap; omega)
    rw [hq] at e'; cases e'
    have hc := hxs k _ (range_map_get _ _ k hkl)
    refine ⟨_, (B.ro _ (by omega)).trans hc, ?_⟩
    rw [wrAt_of hrow' hy']; exact vwire i k row' y hrow' hy'
  ·have hy : d.wires[i]? = some r := by rw [hwr i hi]; exact hr
   rw [rowAt_of hy]; exact vrow i r hi hy
 rw [← hw] at hrs2
 refine ⟨by rw [← hg]; exact row_ints h0 s0, h0.cap, ⟨hn.symm, ?_, fun hp => ⟨bn, on, by unfold wvOf; rw [he], hbn, fun i y hy => ?_⟩⟩, q1.cap, hrs2, hr2.cap⟩
 ·dsimp only [wvOf]; omega
 ·by_cases hi : i = t
  ·subst hi
   rw [hx] at hy; cases hy
   exact ⟨by rw [← e0]; exact B.n0, ⟨_, B.n1, h1⟩, ⟨_, B.n2, h2⟩, ⟨_, B.n3, h3⟩⟩
  ·have hy' : d.nodes[i]? = some y := by rw [hnd i hi]; exact hy
   obtain ⟨c0, c1, c2, c3, _⟩ := h.cells hy' he
   exact ⟨(B.no _ (by omega)).trans c0, ⟨_, (B.no _ (by omega)).trans c1, vlast i y hy'⟩, ⟨_, (B.no _ (by omega)).trans c2, vheld i y hy'⟩, ⟨_, (B.no _ (by omega)).trans c3, vtold i y hy'⟩⟩
end Go.Proofs.Ytiiifecfdkjmbaa
namespace Go.Proofs.Ytiiifecfdkjmbaa
set_option maxRecDepth 8000
open Go.RowKit Go.Shelf
open _root_.Go.Proofs.Ytiiifecfdkjmbaa.Pure
set_option linter.unusedVariables false
theorem OwnW.pokeWire {lo : Nat} {w : World} {d : Wd} {L : Lay} (h : OwnW lo w d L) {f t : Nat} {r : List (List Mg)} {l l' : List Mg} (hr : d.wires[f]? = some r) (hl : r[t]? = some l) {b off cap : Nat} (he : L (8, f, t) = ⟨some ⟨b, off, none⟩, cap⟩)
  (hll : l'.length = l.length) {j : Nat} (hj : j < l.length * 5) (v : Value) (hset : flat l' = (flat l).set j v) : OwnW lo (w.setCell ⟨b, off + j, none⟩ v) (setWire d f t l') L := by
 have hf := (List.getElem?_eq_some_iff.1 hr).1
 have ht := (List.getElem?_eq_some_iff.1 hl).1
 have hwl : (setWire d f t l').wires.length = d.wires.length := by simp [setWire]
 have hrl : ∀ i, (rowAt (setWire d f t l') i).length = (rowAt d i).length := by
  intro i; rw [row_set l' hr]; split
  ·rename_i e; rw [e, rowAt_of hr, List.length_set]
  ·rfl
 have hwr : ∀ i j, wrAt (setWire d f t l') i j = if i = f ∧ j = t then l' else wrAt d i j := by
  intro i j; unfold wrAt; rw [row_set l' hr]
  by_cases e : i = f
  ·subst e
   rw [if_pos rfl, rowAt_of hr, List.getElem?_set]
   by_cases e2 : t = j
   ·subst e2; simp [ht]
   ·rw [if_neg e2, if_neg (fun hh => e2 hh.2.symm)]
  ·rw [if_neg e, if_neg (fun hh => e hh.1)]
 have hwn : ∀ i j, (wrAt (setWire d f t l') i j).length = (wrAt d i j).length := by
  intro i j; rw [hwr]; split
  ·rename_i e; obtain ⟨rfl, rfl⟩ := e; rw [hll, wrAt_of hr hl]
  ·rfl
 have hne8 : ∀ {i j}, (8, i, j) ≠ ((8, f, t) : Ix) → ¬ (i = f ∧ j = t) := fun hne hh => hne (by rw [hh.1, hh.2])
 refine h.store (d' := setWire d f t l') (L' := L) (ip := (8, f, t)) ⟨hf, by rw [rowAt_of hr]; exact ht⟩ he (j := j) (by show j < (wrAt d f t).length * 5; rw [wrAt_of hr hl]; exact hj) v (9, 0, 0) ?_ (fun _ _ => rfl) (by simp) ?_ ?_ ?_ (fun hh => absurd hh (by simp [okI]))
 ·rintro ⟨u, i, k⟩
  match u with
  | 0 => exact Iff.rfl
  | 1 => exact Iff.rfl
  | 2 => exact Iff.rfl
  | 3 => exact Iff.rfl
  | 4 => exact Iff.rfl
  | 5 => exact Iff.rfl
  | 6 => exact Iff.rfl
  | 7 => show (i < _ ∧ k = 0) ↔ (i < _ ∧ k = 0); rw [hwl]
  | 8 => show (i < _ ∧ k < _) ↔ (i < _ ∧ k < _); rw [hwl, hrl]
  | u + 9 => exact Iff.rfl
 ·rintro ⟨u, i, k⟩ hok hne
  match u with
  | 0 => rfl
  | 1 => rfl
  | 2 => exact hwl
  | 3 => rfl
  | 4 => rfl
  | 5 => rfl
  | 6 => rfl
  | 7 => exact hrl i
  | 8 => exact hwn i k
  | u + 9 => rfl
 ·rintro ⟨u, i, k⟩ hok hne _
  match u with
  | 0 => rfl
  | 1 => rfl
  | 2 =>
   show (List.range (setWire d f t l').wires.length).map (fun i => (L (7, i, 0)).v (rowAt (setWire d f t l') i).length) = (List.range d.wires.length).map (fun i => (L (7, i, 0)).v (rowAt d i).length)
   rw [hwl]; congr 1; funext i; rw [hrl]
  | 3 => rfl
  | 4 => rfl
  | 5 => rfl
  | 6 => rfl
  | 7 =>
   show (List.range (rowAt (setWire d f t l') i).length).map (fun k => (L (8, i, k)).v (wrAt (setWire d f t l') i k).length) = (List.range (rowAt d i).length).map (fun k => (L (8, i, k)).v (wrAt d i k).length)
   rw [hrl]; congr 1; funext k; rw [hwn]
  | 8 => show flat (wrAt (setWire d f t l') i k) = flat (wrAt d i k); rw [hwr, if_neg (hne8 hne)]
  | u + 9 => rfl
 ·show flat (wrAt (setWire d f t l') f t) = (flat (wrAt d f t)).set j v
  rw [hwr, if_pos ⟨rfl, rfl⟩, wrAt_of hr hl]; exact hset
theorem OwnW.noWires {lo : Nat} {w : World} {d : Wd} {L : Lay} (h : OwnW lo w d L) : OwnW lo w ⟨d.groups, d.nodes, []⟩ L := by
 have hok : ∀ ix, okI (⟨d.groups, d.nodes, []⟩ : Wd) ix → okI d ix := by
  rintro ⟨u, i, k⟩ hk
  match u with
  | 0 => exact hk
  | 1 => exact hk
  | 2 => exact hk
  | 3 => exact hk
  | 4 => exact hk
  | 5 => exact hk
  | 6 => exact hk
  | 7 => exact absurd hk.1 (by simp)
  | 8 => exact absurd hk.1 (by simp)
  | u + 9 => exact hk
 refine ⟨?_, ?_, fun i j b hi hj => h.inj i j b (hok i hi) (hok j hj)⟩
 ·rintro ⟨u, i, k⟩ hk
  match u with
  | 0 => exact h.row _ (hok _ hk)
  | 1 => exact h.row _ (hok _ hk)
  | 2 =>
   have hq := (h.row _ (hok _ hk)).take 0 (Nat.zero_le _)
   rw [Nat.zero_mul, List.take_zero] at hq
   exact hq
  | 3 => exact h.row _ (hok _ hk)
  | 4 => exact h.row _ (hok _ hk)
  | 5 => exact h.row _ (hok _ hk)
  | 6 => exact h.row _ (hok _ hk)
  | 7 => exact absurd hk.1 (by simp)
  | 8 => exact absurd hk.1 (by simp)
  | u + 9 => exact h.row _ (hok _ hk)
 ·rintro ⟨u, i, k⟩ hk
  match u with
  | 0 => exact h.small _ (hok _ hk)
  | 1 => exact h.small _ (hok _ hk)
  | 2 => exact Nat.zero_le _
  | 3 => exact h.small _ (hok _ hk)
  | 4 => exact h.small _ (hok _ hk)
  | 5 => exact h.small _ (hok _ hk)
  | 6 => exact h.small _ (hok _ hk)
  | 7 => exact absurd hk.1 (by simp)
  | 8 => exact absurd hk.1 (by simp)
  | u + 9 => exact h.small _ (hok _ hk)
theorem OwnW.lend {lo : Nat} {w : World} {d : Wd} {L : Lay} (h : OwnW lo w d L) {f t s : Nat} {x : Nd} {row : List (List Mg)} {l l0 : List Mg} (hx : d.nodes[t]? = some x) (hr : d.wires[f]? = some row) (hl0 : row[t]? = some l0) (hl : row[s]? = some l)
  {br orr cr : Nat} (hq : L (7, f, 0) = ⟨some ⟨br, orr, none⟩, cr⟩) : WAt (w.setCell ⟨br, orr + t, none⟩ ((L (8, f, s)).v l.length)) (wvOf L d) (setWire d f t l) := by
 have hf := (List.getElem?_eq_some_iff.1 hr).1
 have ht := (List.getElem?_eq_some_iff.1 hl0).1
 have hs := (List.getElem?_eq_some_iff.1 hl).1
 have ok7 : okI d (7, f, 0) := ⟨hf, rfl⟩
 have ok1 : okI d (1, 0, 0) := ⟨rfl, rfl⟩
 have ok8 : okI d (8, f, s) := ⟨hf, by rw [rowAt_of hr]; exact hs⟩
 have q7 : Row w lo 1 (L (7, f, 0)) (rowAt d f).length ((List.range (rowAt d f).length).map fun k => (L (8, f, k)).v (wrAt d f k).length) := h.row _ ok7
 rw [rowAt_of hr] at q7
 have hpr : (L (7, f, 0)).blk = some br := by
  have := q7.cap; rw [hq] at this ⊢; dsimp only at this; unfold Sl.blk; rw [if_neg (by dsimp only; omega)]; rfl
 obtain ⟨bn, on, cn, he, _, hbn, hpn, _⟩ := h.lies ok1 (by show 0 < d.nodes.length; have := node_lt hx; omega)
 have hne : bn ≠ br := fun e => by
  have := h.inj (1, 0, 0) (7, f, 0) bn ok1 ok7 hpn (by rw [e]; exact hpr)
  simp at this
 obtain ⟨c0, c1, c2, c3, _⟩ := h.cells hx he
 obtain ⟨W, hW⟩ : ∃ W, w.setCell ⟨br, orr + t, none⟩ ((L (8, f, s)).v l.length) = W := ⟨_, rfl⟩
 rw [hW]
 have hF : Fr (fun i => i = br) w W := by rw [← hW]; exact (Fr.refl _ w).setCell _ _ (fun _ => rfl)
 have hF2 : Fr (fun i => i = bn ∨ i = br) w W := hF.mono (fun i _ e => .inr e)
 have kept : ∀ o, W.cell? ⟨bn, o, none⟩ = w.cell? ⟨bn, o, none⟩ := fun o => hF.cell (p := ⟨bn, o, none⟩) hbn hne
 obtain ⟨b', o', e', _, hbr, hc', _⟩ := q7.body (by have := q7.cap; omega)
 rw [hq] at e'
 cases e'
 have hcell : (w.cell? ⟨br, orr + t, none⟩).isSome = true := (hc' t (by have := q7.cap; omega)).1
 obtain ⟨u, hu⟩ := Option.isSome_iff_exists.1 hcell
 have hN : OwnW lo W ⟨d.groups, d.nodes, []⟩ L := h.noWires.fr hF (fun b hb e => by
  obtain ⟨⟨u, i, k⟩, hi, hb'⟩ := hb
  subst e
  match u, hi, hb' with
  | 0, hi, hb' => have := h.inj _ _ _ (show okI d (0, i, k) from hi) ok7 hb' hpr; simp at this
  | 1, hi, hb' => have := h.inj _ _ _ (show okI d (1, i, k) from hi) ok7 hb' hpr; simp at this
  | 2, hi, hb' => have := h.inj _ _ _ (show okI d (2, i, k) from hi) ok7 hb' hpr; simp at this
  | 3, hi, hb' => have := h.inj _ _ _ (show okI d (3, i, k) from hi) ok7 hb' hpr; simp at this
  | 4, hi, hb' => have := h.inj _ _ _ (show okI d (4, i, k) from hi) ok7 hb' hpr; simp at this
  | 5, hi, hb' => have := h.inj _ _ _ (show okI d (5, i, k) from hi) ok7 hb' hpr; simp at this
  | 6, hi, hb' => have := h.inj _ _ _ (show okI d (6, i, k) from hi) ok7 hb' hpr; simp at this
  | 7, hi, hb' => exact absurd hi.1 (by simp)
  | 8, hi, hb' => exact absurd hi.1 (by simp)
  | u + 9, hi, hb' => exact hi)
 have hx' : (⟨d.groups, d.nodes, []⟩ : Wd).nodes[t]? = some x := hx
 have B : Borrow w W bn on t br orr (.int .i64 x.clock) ((L (3, t, 0)).v x.last.length) ((L (5, t, 0)).v x.held.length) ((L (6, t, 0)).v x.told.length) ((L (8, f, s)).v l.length) :=
  ⟨hF2, (kept _).trans c0, (kept _).trans c1, (kept _).trans c2, (kept _).trans c3, fun o _ => kept o, by rw [← hW]; exact World.cell?_setCell_same w _ _ hu, fun o ho => by rw [← hW]; exact World.cell?_setCell_other w _ _ _ (fun e => ho (by injection e; omega))⟩
 have hm8 : Row W lo 5 (L (8, f, s)) (wrAt d f s).length (flat (wrAt d f s)) := (h.row _ ok8).fr hF (fun b hb e => by
  have := h.inj _ _ _ ok8 ok7 hb (by rw [e]; exact hpr); simp at this)
 have hs8 : (wrAt d f s).length ≤ 1000 := h.small _ ok8
 rw [wrAt_of hr hl] at hm8 hs8
 have hrw : (setWire d f t l).wires[f]? = some (row.set t l) := by
  unfold setWire; dsimp only; rw [List.getElem?_set, if_pos rfl, if_pos hf, hr]; rfl
 exact h.borrow (d0 := setWire d f t l) (row := row.set t l) (row' := row) (l := l) he hq B hx rfl rfl (by simp [setWire]) (fun i _ => rfl) (fun i hi => by unfold setWire; dsimp only; rw [List.getElem?_set, if_neg (Ne.symm hi)]) hrw hr (by simp)
  (fun i hi => by rw [List.getElem?_set, if_neg (Ne.symm hi)]) (by rw [List.getElem?_set, if_pos rfl, if_pos ht]) rfl (hN.vlast hx') (hN.vheld hx') (hN.vtold hx') ⟨_, _, rfl, hm8.cap, row_msgs hm8 hs8⟩
theorem OwnW.wires3 {lo : Nat} {w : World} {d : Wd} {L : Lay} (h : OwnW lo w d L) {f : Nat} {r : List (List Mg)} (hr : d.wires[f]? = some r) (hp : 0 < r.length) :
  ∃ bw ow cw br oR cr, L (2, 0, 0) = ⟨some ⟨bw, ow, none⟩, cw⟩ ∧ L (7, f, 0) = ⟨some ⟨br, oR, none⟩, cr⟩ ∧ bw < w.heap.size ∧ br < w.heap.size ∧ lo ≤ br ∧ w.cell? ⟨bw, ow + f, none⟩ = some (.slice (some ⟨br, oR, none⟩) r.length cr) ∧
   (∀ (k : Nat) (l : List Mg), r[k]? = some l → w.cell? ⟨br, oR + k, none⟩ = some ((L (8, f, k)).v l.length)) ∧ (∀ k, k < r.length → w.frozen? ⟨br, oR + k, none⟩ = false) := by
 have hf := (List.getElem?_eq_some_iff.1 hr).1
 have ok7 : okI d (7, f, 0) := ⟨hf, rfl⟩
 have q2 : Row w lo 1 (L (2, 0, 0)) d.wires.length ((List.range d.wires.length).map fun i => (L (7, i, 0)).v (rowAt d i).length) := h.row (2, 0, 0) ⟨rfl, rfl⟩
 have q7 : Row w lo 1 (L (7, f, 0)) (rowAt d f).length ((List.range (rowAt d f).length).map fun k => (L (8, f, k)).v (wrAt d f k).length) := h.row _ ok7
 rw [rowAt_of hr] at q7
 obtain ⟨bw, ow, e2, _, hbw, _, hx2⟩ := q2.body (by have := q2.cap; omega)
 obtain ⟨br, oR, e7, hlo, hbr, hc7, hx7⟩ := q7.body (by have := q7.cap; omega)
 have hL7 : L (7, f, 0) = ⟨some ⟨br, oR, none⟩, (L (7, f, 0)).cap⟩ := by rw [← e7]
 refine ⟨bw, ow, (L (2, 0, 0)).cap, br, oR, (L (7, f, 0)).cap, by rw [← e2], hL7, hbw, hbr, hlo, ?_, fun k l hl => ?_, fun k hk => ?_⟩
 ·have := hx2 f _ (range_map_get _ _ f hf)
  rw [rowAt_of hr] at this
  rw [this]; unfold Sl.v; rw [e7]
 ·have := hx7 k _ (range_map_get _ _ k (List.getElem?_eq_some_iff.1 hl).1)
  rw [wrAt_of hr hl] at this
  exact this
 ·exact (hc7 k (by have := q7.cap; omega)).2
theorem OwnW.wire1 {lo : Nat} {w : World} {d : Wd} {L : Lay} (h : OwnW lo w d L) {f t : Nat} {r : List (List Mg)} {l : List Mg} (hr : d.wires[f]? = some r) (hl : r[t]? = some l) (hp : 0 < l.length) :
  ∃ b o c, L (8, f, t) = ⟨some ⟨b, o, none⟩, c⟩ ∧ b < w.heap.size ∧ lo ≤ b ∧ (∀ j u, (flat l)[j]? = some u → w.cell? ⟨b, o + j, none⟩ = some u) ∧ (∀ j, j < l.length * 5 → w.frozen? ⟨b, o + j, none⟩ = false) := by
 have ok8 : okI d (8, f, t) := ⟨(List.getElem?_eq_some_iff.1 hr).1, by rw [rowAt_of hr]; exact (List.getElem?_eq_some_iff.1 hl).1⟩
 have q : Row w lo 5 (L (8, f, t)) (wrAt d f t).length (flat (wrAt d f t)) := h.row _ ok8
 rw [wrAt_of hr hl] at q
 obtain ⟨b, o, e, hlo, hb, hc, hx⟩ := q.body (by have := q.cap; omega)
 exact ⟨b, o, (L (8, f, t)).cap, by rw [← e], hb, hlo, hx, fun j hj => (hc j (by have := q.cap; omega)).2⟩
end Go.Proofs.Ytiiifecfdkjmbaa
namespace Go.Proofs.Ytiiifecfdkjmbaa
set_option maxRecDepth 8000
open Go.RowKit Go.Shelf
open _root_.Go.Proofs.Ytiiifecfdkjmbaa.Pure
set_option linter.unusedVariables false
end Go.Proofs.Ytiiifecfdkjmbaa
