/- Lemmas. -/
import Derived.Test.YtediempflagfkaaGreatDoorAl
import Derived.Shelf.Lay
import Derived.Ground.NamesProg
import Derived.Shelf.Strconv.ErrVarAll
import Derived.Shelf.Strconv.AtoiAll
import Derived.Test.YtediempflagfkaaGreatDoorProg
set_option linter.unusedVariables false
set_option linter.unusedSimpArgs false
set_option linter.unnecessarySimpa false
namespace Go.Proofs
open Go.Shelf
shelf_lay LaysC.n172 Nm 172 at Tryz as Tryz.ND
end Go.Proofs
