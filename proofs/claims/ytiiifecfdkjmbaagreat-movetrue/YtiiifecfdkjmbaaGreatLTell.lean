/- The laws' helper tellBegun answers true; no condition. -/
import Derived.BigQuiet
import Derived.Test.YtiiifecfdkjmbaaGreatRegM
import Derived.Test.YtiiifecfdkjmbaaGreatLBoundX
import Derived.Test.YtiiifecfdkjmbaaGreatSTellX
import Derived.Test.YtiiifecfdkjmbaaGreatSOwnX
namespace Go.Proofs.YtiiifecfdkjmbaaGreat
set_option maxRecDepth 8000
open Go.RowKit Go.Shelf
open _root_.Go.Proofs.YtiiifecfdkjmbaaGreat.Pure
set_option linter.unusedVariables false
set_option linter.unusedSimpArgs false

def tD5 : Wd := match tellOfD bD4 1 with | .ok p => p.1 | .error _ => bD4
def tD6 : Wd := match tellOfD tD5 1 with | .ok p => p.1 | .error _ => bD4
def tX5 : Nd := (tD5.nodes[1]?).getD ⟨0, [], [], []⟩
theorem t_1 : checked bD4 (tellOfD bD4 1) = .ok (tD5, 1) := by kernel_rfl
theorem t_2 : checked tD5 (tellOfD tD5 1) = .ok (tD6, 0) := by kernel_rfl
theorem t_3 : checked bD4 (tellOfD bD4 3) = .error 4 := by kernel_rfl
theorem t_x : tD5.nodes[1]? = some tX5 ∧ tX5.held.length = 1 ∧ tX5.told.length = 1 ∧ tD5.nodes.length = 3 := ⟨by kernel_rfl, by decide +kernel, by decide +kernel, by decide +kernel⟩

end Go.Proofs.YtiiifecfdkjmbaaGreat
