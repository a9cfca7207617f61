/- The laws' helper begin, of no acts; no condition. -/
import Derived.Test.YtiiifecfdkjmbaaGreatRDoneX
namespace Go.Proofs.YtiiifecfdkjmbaaGreat
set_option maxRecDepth 8000
open Go.RowKit Go.Shelf
open _root_.Go.Proofs.YtiiifecfdkjmbaaGreat.Pure
set_option linter.unusedVariables false
def cD0 : Wd := doneD 3 [3, 6] []
theorem begin_c0 (w : World) : Calls Tryz.prog 83 #[.slice none 0 0] w fun e w' => ∃ L, e = .returned (wval L cD0) ∧ OwnW w.heap.size w' cD0 L ∧ Since w w' := by
 refine (begin_any none 0 [] (by simp) w ⟨rfl, by decide, fun h => absurd h (by decide)⟩).mono ?_
 rintro e w' h
 exact h
end Go.Proofs.YtiiifecfdkjmbaaGreat
