/- SameWorlds at two nil worlds, and at two of one's own; no condition. -/
import Derived.Test.YtiiifecfdkjmbaaSameW
namespace Go.Proofs.Ytiiifecfdkjmbaa
set_option maxRecDepth 8000
open Go.RowKit Go.Shelf
open _root_.Go.Proofs.Ytiiifecfdkjmbaa.Pure
set_option linter.unusedVariables false
set_option linter.unusedSimpArgs false
theorem nil_wat (w : World) : WAt w ⟨none, 0, 0, none, 0, 0, none, 0, 0⟩ ⟨[], [], []⟩ :=
 ⟨ints_nil, Nat.le_refl _, ⟨rfl, by simp, fun h => absurd h (by simp)⟩, Nat.le_refl _, ⟨rfl, by simp, fun h => absurd h (by simp)⟩, Nat.le_refl _⟩
theorem sameNil (w : World) : Calls Try.prog 16 #[.agg #[.slice none 0 0, .slice none 0 0, .slice none 0 0], .agg #[.slice none 0 0, .slice none 0 0, .slice none 0 0]] w fun e w' => e = .returned (.bool true) ∧ Since w w' :=
 sameWorlds_true ⟨none, 0, 0, none, 0, 0, none, 0, 0⟩ ⟨none, 0, 0, none, 0, 0, none, 0, 0⟩ ⟨[], [], []⟩ w (nil_wat w) (nil_wat w)
end Go.Proofs.Ytiiifecfdkjmbaa
