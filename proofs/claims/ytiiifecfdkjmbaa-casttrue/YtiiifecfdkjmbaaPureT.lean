/- Worlds as plain data: what the laws of casting, moving, calm and acts ask, ready for their walks. -/
import Derived.Test.YtiiifecfdkjmbaaPureW
namespace Go.Proofs.Ytiiifecfdkjmbaa.Pure
set_option maxRecDepth 8000
theorem node_of_lt {d : Wd} {k : Nat} (h : k < d.nodes.length) : ∃ x, d.nodes[k]? = some x := ⟨_, List.getElem?_eq_getElem h⟩
theorem clkAt_of {d : Wd} {k : Nat} {x : Nd} (h : d.nodes[k]? = some x) : clkAt d k = x.clock := by unfold clkAt; rw [h]
theorem heldAt_of {d : Wd} {k : Nat} {x : Nd} (h : d.nodes[k]? = some x) : heldAt d k = x.held := by unfold heldAt; rw [h]
theorem toldAt_of {d : Wd} {k : Nat} {x : Nd} (h : d.nodes[k]? = some x) : toldAt d k = x.told := by unfold toldAt; rw [h]
theorem filter_parts (l : List Mg) (b : Int) : (l.filter fun m => decide (m.st ≤ b)).length + (l.filter fun m => decide (b < m.st)).length = l.length := by
 induction l with
 | nil => rfl
 | cons a r ih =>
  by_cases h : a.st ≤ b
  ·have h' : ¬ b < a.st := by omega
   simp only [List.filter_cons, h, h', decide_true, decide_false, if_true, List.length_cons]
   simp; omega
  ·have h' : b < a.st := by omega
   simp only [List.filter_cons, h, h', decide_true, decide_false, if_true, List.length_cons]
   simp; omega
theorem tell_count {d d' : Wd} {n : Nat} (S : TellStep d d' n) : (heldAt d' n).length + (toldAt d' n).length = (heldAt d n).length + (toldAt d n).length := by
 rw [S.told, S.held, List.length_append]
 have := filter_parts (heldAt d n) (farAt d n)
 omega
structure CastTrueD (d d' : Wd) (n : Nat) (g : Int) (body : ByteArray) (x x' : Nd) : Prop where
 hx : d.nodes[n]? = some x
 hx' : d'.nodes[n]? = some x'
 len : d'.nodes.length = d.nodes.length
 wlen : d'.wires.length = d.wires.length
 dlen : d.wires.length = d.nodes.length
 right : Right d'
 was : Right d
 clk : x'.clock = x.clock + 1
 top : x.clock + 1 ≤ 1048576
 wire : ∀ a b, wireAt d' a b = if a = n ∧ b ≠ n ∧ b < d.nodes.length ∧ hasB d.groups g b = true then wireAt d a b ++ [⟨n, g, x'.clock, false, body⟩] else wireAt d a b
 count : x'.held.length + x'.told.length = x.held.length + x.told.length + 1
theorem castTrueD {d d' : Wd} {n g : Int} {body : ByteArray} (R : Right d) (h : castD d n g false body = .ok d') : ∃ (k : Nat) (x x' : Nd), n = (k : Int) ∧ CastTrueD d d' k g body x x' := by
 obtain ⟨hE, d3, S, R3, T⟩ := cast_split R (fun h => by cases h) h
 obtain ⟨R', G⟩ := cast_right R (fun h => by cases h) h
 have hn0 : 0 ≤ n := by
  unfold castE at hE
  split at hE
  ·cases hE
  ·next c =>
   have : inB n 0 ((d.nodes.length : Int) - 1) = true := by
    cases hh : inB n 0 ((d.nodes.length : Int) - 1)
    ·exact absurd (Or.inl hh) c
    ·rfl
   simp [inB] at this; omega
 obtain ⟨k, rfl⟩ : ∃ k : Nat, n = (k : Int) := ⟨n.toNat, by omega⟩
 rw [Int.toNat_natCast] at S T
 have hk := S.lt
 obtain ⟨x, hx⟩ := node_of_lt hk
 obtain ⟨x', hx'⟩ := node_of_lt (d := d') (k := k) (by rw [G.alike.n]; exact hk)
 have hc : x'.clock = x.clock + 1 := by rw [← clkAt_of hx', ← clkAt_of hx, T.clk, S.clk, if_pos rfl, S.mst]
 refine ⟨k, x, x', rfl, hx, hx', G.alike.n, G.alike.w, R.wlen, R', R, hc, by have := S.top; rw [S.mst, clkAt_of hx] at this; exact this, fun a b => ?_, ?_⟩
 ·have hm : (⟨(k : Int), g, x'.clock, false, body⟩ : Mg) = msgD d (k : Int) g false body := by unfold msgD; rw [Int.toNat_natCast, clkAt_of hx, hc]
  rw [T.wire, S.wire, hm]
  unfold goesTo
  show (if _ then _ else _) = _
  by_cases c : a = k ∧ b ≠ k ∧ b < d.nodes.length ∧ hasB d.groups g b = true
  ·rw [if_pos c, if_pos (by simpa [msgD, and_assoc, and_comm, and_left_comm] using c)]
  ·rw [if_neg c, if_neg (by simpa [msgD, and_assoc, and_comm, and_left_comm] using c)]
 ·have h1 := tell_count T
  rw [heldAt_of hx', toldAt_of hx'] at h1
  rcases S.held with ⟨e, _⟩ | ⟨_, hp, e⟩
  ·cases e
  ·rw [e, S.told, heldAt_of hx, toldAt_of hx] at h1
   have := putL_len _ x.held (by rw [heldAt_of hx] at hp; exact hp)
   omega
structure MoveTrueD (d d' : Wd) (f t : Nat) (x x' : Nd) (m : Mg) (rest : List Mg) (row row' : List (List Mg)) : Prop where
 hx : d.nodes[t]? = some x
 hx' : d'.nodes[t]? = some x'
 hr : d.wires[f]? = some row
 hr' : d'.wires[f]? = some row'
 hl : row[t]? = some (m :: rest)
 hl' : row'[t]? = some rest
 groups : d'.groups = d.groups
 len : d'.nodes.length = d.nodes.length
 wlen : d'.wires.length = d.wires.length
 rlen : row'.length = row.length
 node : ∀ i, i ≠ t → d'.nodes[i]? = d.nodes[i]?
 wire : ∀ i, i ≠ f → d'.wires[i]? = d.wires[i]?
 rows : ∀ i, i ≠ t → row'[i]? = row[i]?
 right : Right d'
 was : Right d
 flt : f < d.nodes.length
 tlt : t < d.nodes.length
 clk : x.clock ≤ x'.clock
 clm : m.st ≤ x'.clock
 count : x'.held.length + x'.told.length = x.held.length + x.told.length + (if m.nul then 0 else 1)
end Go.Proofs.Ytiiifecfdkjmbaa.Pure
