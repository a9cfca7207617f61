/- SameWorlds at two nil worlds, and at two of one's own; no condition. -/
import Derived.Deep.DeepCutAuto
import Derived.Test.YtiiifecfdkjmbaaGreatBRegX
import Derived.Test.YtiiifecfdkjmbaaGreatBSOwnX
namespace Go.Proofs.YtiiifecfdkjmbaaGreat
set_option maxRecDepth 8000
open Go.RowKit Go.Shelf
open _root_.Go.Proofs.YtiiifecfdkjmbaaGreat.Pure
set_option linter.unusedVariables false
set_option linter.unusedSimpArgs false
theorem Om (w:World):WAt w ⟨none,0,0,none,0,0,none,0,0⟩ ⟨[],[],[]⟩ :=
 ⟨ES,Nat.le_refl _,⟨rfl,by simp,fun h=>absurd h (by simp)⟩,Nat.le_refl _,⟨rfl,by simp,fun h=>absurd h (by simp)⟩,Nat.le_refl _⟩
end Go.Proofs.YtiiifecfdkjmbaaGreat
