/- A world in memory of one's own, into which a node and a wire of another world were stored: how it reads then; conditions: the node and the wire are there. Worlds in memory of one's own: a store into a message on a wire; a wire's head stored beside itself; conditions: the wires are there. A node's four cells and a wire's head are stored: what the memory is then; conditions: the cells are there. -/
import Derived.Test.YtiiifecfdkjmbaaGreatSOwnX
namespace Go.Proofs.YtiiifecfdkjmbaaGreat
set_option maxRecDepth 8000
open Go.RowKit Go.Shelf
open _root_.Go.Proofs.YtiiifecfdkjmbaaGreat.Pure
set_option linter.unusedVariables false
structure Borrow (w W : World) (bn on t br orr : Nat) (v0 v1 v2 v3 v : Value) : Prop where
 fr : Fr (fun i => i = bn ∨ i = br) w W
 n0 : W.cell? ⟨bn, on + t * 4, none⟩ = some v0
 n1 : W.cell? ⟨bn, on + t * 4 + 1, none⟩ = some v1
 n2 : W.cell? ⟨bn, on + t * 4 + 2, none⟩ = some v2
 n3 : W.cell? ⟨bn, on + t * 4 + 3, none⟩ = some v3
 no : ∀ o, (o < on + t * 4 ∨ on + t * 4 + 3 < o) → W.cell? ⟨bn, o, none⟩ = w.cell? ⟨bn, o, none⟩
 r : W.cell? ⟨br, orr + t, none⟩ = some v
 ro : ∀ o, o ≠ orr + t → W.cell? ⟨br, o, none⟩ = w.cell? ⟨br, o, none⟩
theorem OwnW.borrow {lo : Nat} {w W : World} {d d0 : Wd} {L : Lay} (h : OwnW lo w d L) {f t bn on cn br orr cr : Nat} {v0 v1 v2 v3 v : Value} {x : Nd} {row row' : List (List Mg)} {l : List Mg}
  (he : L (1, 0, 0) = ⟨some ⟨bn, on, none⟩, cn⟩) (hq : L (7, f, 0) = ⟨some ⟨br, orr, none⟩, cr⟩) (B : Borrow w W bn on t br orr v0 v1 v2 v3 v)
  (hx : d0.nodes[t]? = some x) (hg : d.groups = d0.groups) (hn : d.nodes.length = d0.nodes.length) (hw : d.wires.length = d0.wires.length)
  (hnd : ∀ i, i ≠ t → d.nodes[i]? = d0.nodes[i]?) (hwr : ∀ i, i ≠ f → d.wires[i]? = d0.wires[i]?)
  (hrow : d0.wires[f]? = some row) (hrow' : d.wires[f]? = some row') (hrl : row'.length = row.length) (hrs : ∀ i, i ≠ t → row'[i]? = row[i]?) (hl : row[t]? = some l)
  (e0 : v0 = .int .i64 x.clock) (h1 : VSlices VInts W v1 x.last) (h2 : VMsgs W v2 x.held) (h3 : VMsgs W v3 x.told) (h4 : VMsgs W v l) : WAt W (wvOf L d) d0 := by
 have htn : t < d.nodes.length := by rw [hn]; exact node_lt hx
 have htr : t < row'.length := by rw [hrl]; exact (List.getElem?_eq_some_iff.1 hl).1
 have hfl : f < d.wires.length := (List.getElem?_eq_some_iff.1 hrow').1
 have ok7 : okI d (7, f, 0) := ⟨hfl, rfl⟩
 have ok1 : okI d (1, 0, 0) := ⟨rfl, rfl⟩
 have q1 : Row w lo 4 (L (1, 0, 0)) d.nodes.length ((List.range d.nodes.length).flatMap (nodeCells d L)) := h.row (1, 0, 0) ok1
 have q7 : Row w lo 1 (L (7, f, 0)) (rowAt d f).length ((List.range (rowAt d f).length).map fun k => (L (8, f, k)).v (wrAt d f k).length) := h.row _ ok7
 rw [rowAt_of hrow'] at q7
 have hpn : (L (1, 0, 0)).blk = some bn := by
  have := q1.cap; rw [he] at this ⊢; dsimp only at this; unfold Sl.blk; rw [if_neg (by dsimp only; omega)]; rfl
 have hpr : (L (7, f, 0)).blk = some br := by
  have := q7.cap; rw [hq] at this ⊢; dsimp only at this; unfold Sl.blk; rw [if_neg (by dsimp only; omega)]; rfl
 have keep : ∀ ix, okI d ix → ix ≠ (1, 0, 0) → ix ≠ (7, f, 0) → Row W lo (szI ix) (L ix) (lenD d ix) (cellsI d L ix) := fun ix hi n1 n2 =>
  (h.row ix hi).fr B.fr (fun b hb hB => by
   rcases hB with rfl | rfl
   ·exact n1 (h.inj ix _ _ hi ok1 hb hpn)
   ·exact n2 (h.inj ix _ _ hi ok7 hb hpr))
 have vints : ∀ (i k : Nat) (y : Nd) (r : List Int), d.nodes[i]? = some y → y.last[k]? = some r → VInts W ((L (4, i, k)).v (lrAt d i k).length) r := by
  intro i k y r hy hr
  have hk := (List.getElem?_eq_some_iff.1 hr).1
  have hl : lrAt d i k = r := by unfold lrAt; rw [ndAt_of hy, hr]; rfl
  have hok : okI d (4, i, k) := ⟨node_lt hy, by rw [ndAt_of hy]; exact hk⟩
  have hR : Row W lo 1 (L (4, i, k)) (lrAt d i k).length ((lrAt d i k).map intV) := keep _ hok (by simp) (by simp)
  have hs : (lrAt d i k).length ≤ 1000 := h.small _ hok
  rw [hl] at hR hs ⊢
  exact ⟨_, _, rfl, hR.cap, row_ints hR hs⟩
 have vheld : ∀ (i : Nat) (y : Nd), d.nodes[i]? = some y → VMsgs W ((L (5, i, 0)).v y.held.length) y.held := by
  intro i y hy
  have hok : okI d (5, i, 0) := ⟨node_lt hy, rfl⟩
  have hR : Row W lo 5 (L (5, i, 0)) (ndAt d i).held.length (flat (ndAt d i).held) := keep _ hok (by simp) (by simp)
  have hs : (ndAt d i).held.length ≤ 1000 := h.small _ hok
  rw [ndAt_of hy] at hR hs
  exact ⟨_, _, rfl, hR.cap, row_msgs hR hs⟩
 have vtold : ∀ (i : Nat) (y : Nd), d.nodes[i]? = some y → VMsgs W ((L (6, i, 0)).v y.told.length) y.told := by
  intro i y hy
  have hok : okI d (6, i, 0) := ⟨node_lt hy, rfl⟩
  have hR : Row W lo 5 (L (6, i, 0)) (ndAt d i).told.length (flat (ndAt d i).told) := keep _ hok (by simp) (by simp)
  have hs : (ndAt d i).told.length ≤ 1000 := h.small _ hok
  rw [ndAt_of hy] at hR hs
  exact ⟨_, _, rfl, hR.cap, row_msgs hR hs⟩
 have vlast : ∀ (i : Nat) (y : Nd), d.nodes[i]? = some y → VSlices VInts W ((L (3, i, 0)).v y.last.length) y.last := by
  intro i y hy
  have hok : okI d (3, i, 0) := ⟨node_lt hy, rfl⟩
  have hR : Row W lo 1 (L (3, i, 0)) (ndAt d i).last.length ((List.range (ndAt d i).last.length).map fun k => (L (4, i, k)).v (lrAt d i k).length) := keep _ hok (by simp) (by simp)
  have hs : (ndAt d i).last.length ≤ 1000 := h.small _ hok
  rw [ndAt_of hy] at hR hs
  exact ⟨_, _, rfl, hR.cap, row_slices hR hs (fun k r hr => ⟨_, range_map_get _ _ k (List.getElem?_eq_some_iff.1 hr).1, vints i k y r hy hr⟩)⟩
 have vwire : ∀ (i k : Nat) (r : List (List Mg)) (m : List Mg), d.wires[i]? = some r → r[k]? = some m → VMsgs W ((L (8, i, k)).v m.length) m := by
  intro i k r m hy hr
  have hk := (List.getElem?_eq_some_iff.1 hr).1
  have hl : wrAt d i k = m := by unfold wrAt; rw [rowAt_of hy, hr]; rfl
  have hok : okI d (8, i, k) := ⟨(List.getElem?_eq_some_iff.1 hy).1, by rw [rowAt_of hy]; exact hk⟩
  have hR : Row W lo 5 (L (8, i, k)) (wrAt d i k).length (flat (wrAt d i k)) := keep _ hok (by simp) (by simp)
  have hs : (wrAt d i k).length ≤ 1000 := h.small _ hok
  rw [hl] at hR hs
  exact ⟨_, _, rfl, hR.cap, row_msgs hR hs⟩
 have vrow : ∀ (i : Nat) (r : List (List Mg)), i ≠ f → d.wires[i]? = some r → VSlices VMsgs W ((L (7, i, 0)).v r.length) r := by
  intro i r hi hy
  have hok : okI d (7, i, 0) := ⟨(List.getElem?_eq_some_iff.1 hy).1, rfl⟩
  have hR : Row W lo 1 (L (7, i, 0)) (rowAt d i).length ((List.range (rowAt d i).length).map fun k => (L (8, i, k)).v (wrAt d i k).length) := keep _ hok (by simp) (fun e => hi (by simpa using e))
  have hs : (rowAt d i).length ≤ 1000 := h.small _ hok
  rw [rowAt_of hy] at hR hs
  refine ⟨_, _, rfl, hR.cap, row_slices hR hs (fun k l hl => ⟨_, range_map_get _ _ k (List.getElem?_eq_some_iff.1 hl).1, ?_⟩)⟩
  rw [wrAt_of hy hl]; exact vwire i k r l hy hl
 have h0 : Row W lo 1 (L (0, 0, 0)) d.groups.length (d.groups.map intV) := keep (0, 0, 0) ⟨rfl, rfl⟩ (by simp) (by simp)
 have hr2 : Row W lo 1 (L (2, 0, 0)) d.wires.length ((List.range d.wires.length).map fun i => (L (7, i, 0)).v (rowAt d i).length) := keep (2, 0, 0) ⟨rfl, rfl⟩ (by simp) (by simp)
 have s0 : d.groups.length ≤ 1000 := h.small (0, 0, 0) ⟨rfl, rfl⟩
 have s1 : d.nodes.length ≤ 1000 := h.small (1, 0, 0) ⟨rfl, rfl⟩
 have s2 : d.wires.length ≤ 1000 := h.small (2, 0, 0) ⟨rfl, rfl⟩
 have s7 : (rowAt d f).length ≤ 1000 := h.small (7, f, 0) ok7
 rw [rowAt_of hrow'] at s7
 have hbn : bn < W.heap.size := Nat.lt_of_lt_of_le (q1.blk_of hpn).2.2.1 B.fr.size
 have hbr : br < W.heap.size := Nat.lt_of_lt_of_le (q7.blk_of hpr).2.2.1 B.fr.size
 have hrs2 : Slices (VSlices VMsgs) W (L (2, 0, 0)).a d0.wires.length d0.wires := by
  rw [hw] at hr2 s2
  refine row_slices hr2 s2 (fun i r hr => ⟨_, range_map_get _ _ i (List.getElem?_eq_some_iff.1 hr).1, ?_⟩)
  by_cases hi : i = f
  ·subst hi
   rw [hrow] at hr; cases hr
   rw [rowAt_of hrow']
   have hcap := q7.cap
   rw [hrl] at hcap
   refine ⟨(L (7, i, 0)).a, (L (7, i, 0)).cap, by rw [← hrl]; rfl, hcap, rfl, by omega, fun hp => ⟨br, orr, by rw [hq], hbr, fun k y hy => ?_⟩⟩
   by_cases hk : k = t
   ·subst hk
    rw [hl] at hy; cases hy
    exact ⟨v, B.r, h4⟩
   ·have hy' : row'[k]? = some y := by rw [hrs k hk]; exact hy
    have hkl := (List.getElem?_eq_some_iff.1 hy').1
    obtain ⟨b', o', e', _, _, _, hxs⟩ := q7.body (by have := q7.cap; omega)
    rw [hq] at e'; cases e'
    have hc := hxs k _ (range_map_get _ _ k hkl)
    refine ⟨_, (B.ro _ (by omega)).trans hc, ?_⟩
    rw [wrAt_of hrow' hy']; exact vwire i k row' y hrow' hy'
  ·have hy : d.wires[i]? = some r := by rw [hwr i hi]; exact hr
   rw [rowAt_of hy]; exact vrow i r hi hy
 rw [← hw] at hrs2
 refine ⟨by rw [← hg]; exact row_ints h0 s0, h0.cap, ⟨hn.symm, ?_, fun hp => ⟨bn, on, by unfold wvOf; rw [he], hbn, fun i y hy => ?_⟩⟩, q1.cap, hrs2, hr2.cap⟩
 ·dsimp only [wvOf]; omega
 ·by_cases hi : i = t
  ·subst hi
   rw [hx] at hy; cases hy
   exact ⟨by rw [← e0]; exact B.n0, ⟨_, B.n1, h1⟩, ⟨_, B.n2, h2⟩, ⟨_, B.n3, h3⟩⟩
  ·have hy' : d.nodes[i]? = some y := by rw [hnd i hi]; exact hy
   obtain ⟨c0, c1, c2, c3, _⟩ := h.cells hy' he
   exact ⟨(B.no _ (by omega)).trans c0, ⟨_, (B.no _ (by omega)).trans c1, vlast i y hy'⟩, ⟨_, (B.no _ (by omega)).trans c2, vheld i y hy'⟩, ⟨_, (B.no _ (by omega)).trans c3, vtold i y hy'⟩⟩
end Go.Proofs.YtiiifecfdkjmbaaGreat
namespace Go.Proofs.YtiiifecfdkjmbaaGreat
set_option maxRecDepth 8000
open Go.RowKit Go.Shelf
open _root_.Go.Proofs.YtiiifecfdkjmbaaGreat.Pure
set_option linter.unusedVariables false
theorem OwnW.wires3 {lo : Nat} {w : World} {d : Wd} {L : Lay} (h : OwnW lo w d L) {f : Nat} {r : List (List Mg)} (hr : d.wires[f]? = some r) (hp : 0 < r.length) :
  ∃ bw ow cw br oR cr, L (2, 0, 0) = ⟨some ⟨bw, ow, none⟩, cw⟩ ∧ L (7, f, 0) = ⟨some ⟨br, oR, none⟩, cr⟩ ∧ bw < w.heap.size ∧ br < w.heap.size ∧ lo ≤ br ∧ w.cell? ⟨bw, ow + f, none⟩ = some (.slice (some ⟨br, oR, none⟩) r.length cr) ∧
   (∀ (k : Nat) (l : List Mg), r[k]? = some l → w.cell? ⟨br, oR + k, none⟩ = some ((L (8, f, k)).v l.length)) ∧ (∀ k, k < r.length → w.frozen? ⟨br, oR + k, none⟩ = false) := by
 have hf := (List.getElem?_eq_some_iff.1 hr).1
 have ok7 : okI d (7, f, 0) := ⟨hf, rfl⟩
 have q2 : Row w lo 1 (L (2, 0, 0)) d.wires.length ((List.range d.wires.length).map fun i => (L (7, i, 0)).v (rowAt d i).length) := h.row (2, 0, 0) ⟨rfl, rfl⟩
 have q7 : Row w lo 1 (L (7, f, 0)) (rowAt d f).length ((List.range (rowAt d f).length).map fun k => (L (8, f, k)).v (wrAt d f k).length) := h.row _ ok7
 rw [rowAt_of hr] at q7
 obtain ⟨bw, ow, e2, _, hbw, _, hx2⟩ := q2.body (by have := q2.cap; omega)
 obtain ⟨br, oR, e7, hlo, hbr, hc7, hx7⟩ := q7.body (by have := q7.cap; omega)
 have hL7 : L (7, f, 0) = ⟨some ⟨br, oR, none⟩, (L (7, f, 0)).cap⟩ := by rw [← e7]
 refine ⟨bw, ow, (L (2, 0, 0)).cap, br, oR, (L (7, f, 0)).cap, by rw [← e2], hL7, hbw, hbr, hlo, ?_, fun k l hl => ?_, fun k hk => ?_⟩
 ·have := hx2 f _ (range_map_get _ _ f hf)
  rw [rowAt_of hr] at this
  rw [this]; unfold Sl.v; rw [e7]
 ·have := hx7 k _ (range_map_get _ _ k (List.getElem?_eq_some_iff.1 hl).1)
  rw [wrAt_of hr hl] at this
  exact this
 ·exact (hc7 k (by have := q7.cap; omega)).2
end Go.Proofs.YtiiifecfdkjmbaaGreat
namespace Go.Proofs.YtiiifecfdkjmbaaGreat
set_option maxRecDepth 8000
open Go.RowKit Go.Shelf
open _root_.Go.Proofs.YtiiifecfdkjmbaaGreat.Pure
set_option linter.unusedVariables false
def put4at (w : World) (b o : Nat) (v0 v1 v2 v3 : Value) : World := (((w.setCell ⟨b, o, none⟩ v0).setCell ⟨b, o + 1, none⟩ v1).setCell ⟨b, o + 2, none⟩ v2).setCell ⟨b, o + 3, none⟩ v3
theorem put4at_fr (w : World) (b o : Nat) (v0 v1 v2 v3 : Value) : Fr (fun i => i = b) w (put4at w b o v0 v1 v2 v3) := by
 have hF : Fr (fun i => i = b) w w := Fr.refl _ _
 exact (((hF.setCell ⟨b, o, none⟩ _ (fun _ => rfl)).setCell ⟨b, o + 1, none⟩ _ (fun _ => rfl)).setCell ⟨b, o + 2, none⟩ _ (fun _ => rfl)).setCell ⟨b, o + 3, none⟩ _ (fun _ => rfl)
theorem put4at_cells {w : World} {b o : Nat} {v0 v1 v2 v3 u0 u1 u2 u3 : Value} (h0 : w.cell? ⟨b, o, none⟩ = some u0) (h1 : w.cell? ⟨b, o + 1, none⟩ = some u1) (h2 : w.cell? ⟨b, o + 2, none⟩ = some u2) (h3 : w.cell? ⟨b, o + 3, none⟩ = some u3) :
  (put4at w b o v0 v1 v2 v3).cell? ⟨b, o, none⟩ = some v0 ∧ (put4at w b o v0 v1 v2 v3).cell? ⟨b, o + 1, none⟩ = some v1 ∧ (put4at w b o v0 v1 v2 v3).cell? ⟨b, o + 2, none⟩ = some v2 ∧ (put4at w b o v0 v1 v2 v3).cell? ⟨b, o + 3, none⟩ = some v3 ∧
   ∀ p, (p < o ∨ o + 3 < p) → (put4at w b o v0 v1 v2 v3).cell? ⟨b, p, none⟩ = w.cell? ⟨b, p, none⟩ := by
 unfold put4at
 have a1 : (w.setCell ⟨b, o, none⟩ v0).cell? ⟨b, o + 1, none⟩ = some u1 := by rw [set_ne _ _ _ (by omega)]; exact h1
 have a2 : ((w.setCell ⟨b, o, none⟩ v0).setCell ⟨b, o + 1, none⟩ v1).cell? ⟨b, o + 2, none⟩ = some u2 := by rw [set_ne _ _ _ (by omega), set_ne _ _ _ (by omega)]; exact h2
 have a3 : (((w.setCell ⟨b, o, none⟩ v0).setCell ⟨b, o + 1, none⟩ v1).setCell ⟨b, o + 2, none⟩ v2).cell? ⟨b, o + 3, none⟩ = some u3 := by rw [set_ne _ _ _ (by omega), set_ne _ _ _ (by omega), set_ne _ _ _ (by omega)]; exact h3
 refine ⟨?_, ?_, ?_, ?_, fun p hp => ?_⟩
 ·rw [set_ne _ _ _ (by omega), set_ne _ _ _ (by omega), set_ne _ _ _ (by omega)]; exact set_eq _ _ _ _ h0
 ·rw [set_ne _ _ _ (by omega), set_ne _ _ _ (by omega)]; exact set_eq _ _ _ _ a1
 ·rw [set_ne _ _ _ (by omega)]; exact set_eq _ _ _ _ a2
 ·exact set_eq _ _ _ _ a3
 ·rw [set_ne _ _ _ (by omega), set_ne _ _ _ (by omega), set_ne _ _ _ (by omega), set_ne _ _ _ (by omega)]
theorem borrow_of {w W1 W2 : World} {bn on t br orr : Nat} {v0 v1 v2 v3 v u0 u1 u2 u3 u : Value} (h0 : w.cell? ⟨bn, on + t * 4, none⟩ = some u0) (h1 : w.cell? ⟨bn, on + t * 4 + 1, none⟩ = some u1) (h2 : w.cell? ⟨bn, on + t * 4 + 2, none⟩ = some u2) (h3 : w.cell? ⟨bn, on + t * 4 + 3, none⟩ = some u3)
  (h4 : w.cell? ⟨br, orr + t, none⟩ = some u) (hn : bn < w.heap.size) (hr : br < w.heap.size) (hne : bn ≠ br) (hW1 : put4at w bn (on + t * 4) v0 v1 v2 v3 = W1) (hW2 : Since W1 W2) :
  Borrow w (W2.setCell ⟨br, orr + t, none⟩ v) bn on t br orr v0 v1 v2 v3 v := by
 have hF1 : Fr (fun i => i = bn) w W1 := by rw [← hW1]; exact put4at_fr w bn (on + t * 4) v0 v1 v2 v3
 obtain ⟨c0, c1, c2, c3, co⟩ := put4at_cells (v0 := v0) (v1 := v1) (v2 := v2) (v3 := v3) h0 h1 h2 h3
 rw [hW1] at c0 c1 c2 c3 co
 have hn1 : bn < W1.heap.size := Nat.lt_of_lt_of_le hn hF1.size
 have hr1 : br < W1.heap.size := Nat.lt_of_lt_of_le hr hF1.size
 have far : ∀ o, (W2.setCell ⟨br, orr + t, none⟩ v).cell? ⟨bn, o, none⟩ = W1.cell? ⟨bn, o, none⟩ := fun o => by
  rw [World.cell?_setCell_other _ _ _ _ (fun e => hne (by injection e; omega))]; exact hW2.cellAt hn1 o
 have near : ∀ o, W2.cell? ⟨br, o, none⟩ = w.cell? ⟨br, o, none⟩ := fun o => (hW2.cellAt hr1 o).trans (hF1.cell (p := ⟨br, o, none⟩) hr (fun e => hne e.symm))
 refine ⟨?_, (far _).trans c0, (far _).trans c1, (far _).trans c2, (far _).trans c3, fun o ho => (far o).trans (co o ho), set_eq _ _ _ _ ((near _).trans h4), fun o ho => ?_⟩
 ·exact ((hF1.mono (fun i _ e => .inl e)).trans (hW2.fr (fun i => i = bn ∨ i = br)) (fun i _ e => e) (fun i _ e => e)).setCell _ _ (fun _ => .inr rfl)
 ·rw [set_ne _ _ _ (fun e => ho e.symm)]; exact near o
end Go.Proofs.YtiiifecfdkjmbaaGreat
