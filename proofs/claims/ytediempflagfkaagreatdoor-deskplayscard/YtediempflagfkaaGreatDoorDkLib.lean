/- Lemmas. -/
import Derived.Test.YtediempflagfkaaGreatDoorAl
import Derived.Shelf.Lay
import Derived.Ground.NamesProg
import Derived.Shelf.Small.Strs
import Derived.Shelf.Strings.Count
import Derived.Shelf.Strings.Prefix
import Derived.Shelf.Strings.BuilderK
import Derived.Shelf.Strings.OnBuilder
import Derived.Shelf.Strconv.Itoa3
import Derived.Test.YtediempflagfkaaGreatDoorProg
set_option linter.unusedVariables false
set_option linter.unusedSimpArgs false
set_option linter.unnecessarySimpa false
namespace Go.Proofs
open Go.Shelf
shelf_lay Lays.n137 Nm 137 at Tryz as Tryz.Ag
shelf_lay Lays.n138 Nm 138 at Tryz as Tryz.QM
shelf_lay Lays.n100 Nm 100 at Tryz as Tryz.Jh
shelf_lay Lays.n102 Nm 102 at Tryz as Tryz.FZ
shelf_lay Lays.n169 Nm 169 at Tryz as Tryz.QJ
shelf_lay Lays.n156 Nm 156 at Tryz as Tryz.Nq
shelf_lay LaysM.n171 Nm 171 at Tryz as Tryz.Sb
end Go.Proofs
