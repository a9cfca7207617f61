/- Contract of the document's CommonOf; conditions: the world reads as one. -/
import Derived.Test.YtiiifecfdkjmbaaGreatDAgX
namespace Go.Proofs.YtiiifecfdkjmbaaGreat
set_option maxRecDepth 8000
open Go.RowKit Go.Shelf
open _root_.Go.Proofs.YtiiifecfdkjmbaaGreat.Pure
set_option linter.unusedVariables false
set_option linter.unusedSimpArgs false
theorem ahead_any (m : Mg) (l : List Mg) : (aheadL m l).isSome = l.any (sameM m) := by
 unfold aheadL
 induction l with
 | nil => rfl
 | cons y l ih =>
  rw [List.findIdx?_cons, List.any_cons, ← ih, sameM_comm y m]
  cases h : sameM m y
  ·simp
  ·simp
end Go.Proofs.YtiiifecfdkjmbaaGreat
