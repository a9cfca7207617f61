/- Contract: what msg.Put comes to, at whatever list of messages; no condition but that the slice reads as messages and its length is not above its capacity. -/
import Derived.Test.YtiiifecfdkjmbaaGreatDMsg
import Derived.Deep.AppendSrc
namespace Go.Proofs.YtiiifecfdkjmbaaGreat
set_option maxRecDepth 8000
open Go.RowKit Go.Shelf
theorem Tryz.infoMsg : (Tryz.prog.info? 42).map (fun i => (i.zero, i.size, i.bytes)) = some (some (.agg #[.int .i64 0, .int .i64 0, .int .i64 0, .bool false, .string ByteArray.empty]), 5, 48) := by kernel_rfl
theorem Since.grown {w1 w w' : World} {row : Option Nat} (h : Since w1 w) (hg : w.grownBy w' row) (hr : ∀ k, row = some k → w1.heap.size ≤ k) : Since w1 w' := ⟨h.below.grown hg h.size hr⟩
theorem Since.cellAt {w1 w : World} (h : Since w1 w) {b : Nat} (hb : b < w1.heap.size) (o : Nat) : w.cell? ⟨b, o, none⟩ = w1.cell? ⟨b, o, none⟩ := h.below.cell (p := ⟨b, o, none⟩) hb
theorem add_at (b off j : Nat) : (⟨b, off, none⟩ : Addr).add j = ⟨b, off + j, none⟩ := by
 by_cases h : j = 0
 ·subst h; simp [Addr.add]
 ·simp [Addr.add, h]
theorem flat_drop_get {ms : List Mg} {p j : Nat} {u : Value} (hp : p ≤ ms.length) (h : (flat (ms.drop p))[j]? = some u) : (flat ms)[p * 5 + j]? = some u := by
 have e : flat ms = flat (ms.take p) ++ flat (ms.drop p) := by rw [← flat_append, List.take_append_drop]
 have hl : (flat (ms.take p)).length = p * 5 := by rw [flat_length]; simp; omega
 rw [e, List.getElem?_append_right (by omega), hl]
 rw [show p * 5 + j - p * 5 = j from by omega]; exact h
theorem msg_new (w : World) (m : Mg) (t : Nat) : ∀ j u, m.cells[j]? = some u → (w.alloc (.cells #[.int .i64 m.fr, .int .i64 m.gr, .int .i64 m.st, .bool m.nul, .string m.body] t)).cell? ((⟨w.heap.size, 0, none⟩ : Addr).add j) = some u := by
 intro j u hj
 rw [add_at]
 have hl := (List.getElem?_eq_some_iff.1 hj).1
 simp [Mg.cells] at hl
 rcases (show j = 0 ∨ j = 1 ∨ j = 2 ∨ j = 3 ∨ j = 4 by omega) with rfl | rfl | rfl | rfl | rfl <;> simp [Mg.cells] at hj <;> subst hj <;> simp [go_sem]
def putE (m : Mg) (ms : List Mg) : Int :=
 if risesM ms = false then 1 else if 40 ≤ ms.length then 2 else
  match ms[placeM m ms]? with
  | some x => if lessM m x then 0 else 1
  | none => 0
def putL (m : Mg) (ms : List Mg) : List Mg := if putE m ms = 0 then ms.take (placeM m ms) ++ [m] ++ ms.drop (placeM m ms) else []
theorem putL_len (m : Mg) (ms : List Mg) (h : putE m ms = 0) : (putL m ms).length = ms.length + 1 := by
 have := placeM_le m ms
 unfold putL; rw [if_pos h]; simp; omega
theorem putL_none (m : Mg) (ms : List Mg) (h : putE m ms ≠ 0) : putL m ms = [] := by unfold putL; rw [if_neg h]
theorem ownsRow_cap {W : World} {base : Nat} {e : TypeId} {size : Nat} {x : Addr} {n k cap : Nat} {xs : List Value} (h : W.ownsRow base e size (.slice (some x) k cap) n xs) : n ≤ cap := by
 rcases h.2 with ⟨h1, _⟩ | ⟨g, cap', cur, h1, _, _, h4, _⟩
 ·cases h1
 ·simp only [Value.slice.injEq] at h1; rw [h1.2.2]; exact h4
end Go.Proofs.YtiiifecfdkjmbaaGreat
