/- The laws' helper boundBegun, as plain data; no condition. The laws' helper boundBegun answers true; no condition. -/
import Derived.Test.YtiiifecfdkjmbaaRDoneX
import Derived.Test.YtiiifecfdkjmbaaBoundX
namespace Go.Proofs.Ytiiifecfdkjmbaa
set_option maxRecDepth 8000
open Go.RowKit Go.Shelf
open _root_.Go.Proofs.Ytiiifecfdkjmbaa.Pure
set_option linter.unusedVariables false
set_option linter.unusedSimpArgs false
def bbA : ByteArray := ⟨#[97]⟩
end Go.Proofs.Ytiiifecfdkjmbaa
namespace Go.Proofs.Ytiiifecfdkjmbaa
set_option maxRecDepth 8000
open Go.RowKit Go.Shelf
open _root_.Go.Proofs.Ytiiifecfdkjmbaa.Pure
set_option linter.unusedVariables false
set_option linter.unusedSimpArgs false
end Go.Proofs.Ytiiifecfdkjmbaa
