/- Contract: what furlongref.PutOf, the document's answer to Put, comes to, at whatever list of messages; no condition but that the slice reads as messages and its length is not above its capacity. -/
import Derived.Test.YtiiifecfdkjmbaaGreatDMsgPut
namespace Go.Proofs.YtiiifecfdkjmbaaGreat
set_option maxRecDepth 8000
open Go.RowKit Go.Shelf
theorem ownsRow_form {W : World} {base : Nat} {e : TypeId} {size : Nat} {v : Value} {n : Nat} {xs : List Value} (h : W.ownsRow base e size v n xs) : ∃ a cap, v = .slice a n cap ∧ n ≤ cap := by
 rcases h.2 with ⟨rfl, rfl⟩ | ⟨g, cap, cur, rfl, _, _, h4, _⟩
 ·exact ⟨none, 0, rfl, Nat.le_refl _⟩
 ·exact ⟨_, cap, rfl, h4⟩
theorem Later.old {w0 wr : World} (h : Since w0 wr) (x : Later wr) {b : Nat} (o : Nat) (hb : b < w0.heap.size) : x.w.cell? ⟨b, o, none⟩ = w0.cell? ⟨b, o, none⟩ := (h.trans x.h).cellAt hb o
theorem ownsRow_since {w w' : World} {base : Nat} {e : TypeId} {size : Nat} {v : Value} {n : Nat} {xs : List Value} (k : Since w w') (h : w.ownsRow base e size v n xs) : w'.ownsRow base e size v n xs := by
 refine ⟨h.1, ?_⟩
 rcases h.2 with h2 | ⟨g, cap, cur, e1, e2, e3, e4⟩
 ·exact .inl h2
 ·exact .inr ⟨g, cap, cur, e1, e2, (k.below.block g (Array.getElem?_eq_some_iff.1 e3).1).trans e3, e4⟩
theorem putE_at {m x : Mg} {ms : List Mg} (h1 : ¬ risesM ms = false) (h2 : ¬ 40 ≤ ms.length) (h3 : ms[placeM m ms]? = some x) : putE m ms = if lessM m x then 0 else 1 := by
 unfold putE; rw [if_neg h1, if_neg h2, h3]
theorem putE_end {m : Mg} {ms : List Mg} (h1 : ¬ risesM ms = false) (h2 : ¬ 40 ≤ ms.length) (h3 : placeM m ms = ms.length) : putE m ms = 0 := by
 unfold putE; rw [if_neg h1, if_neg h2, h3, List.getElem?_eq_none (Nat.le_refl _)]
theorem flat_snoc {ms : List Mg} {k : Nat} {x : Mg} (h : ms[k]? = some x) : flat (ms.take (k + 1)) = flat (ms.take k) ++ x.cells := by
 rw [List.take_add_one, flat_append, h]; simp [flat]
end Go.Proofs.YtiiifecfdkjmbaaGreat
