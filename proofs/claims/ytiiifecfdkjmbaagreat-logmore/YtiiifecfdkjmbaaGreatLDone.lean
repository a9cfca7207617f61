/- The laws' helper done: acts, one behind the other, from Begin on; conditions: the groups read as ints, the acts as acts. -/
import Derived.Test.YtiiifecfdkjmbaaGreatLDoX
import Derived.Test.YtiiifecfdkjmbaaGreatPureT
namespace Go.Proofs.YtiiifecfdkjmbaaGreat
set_option maxRecDepth 8000
open Go.RowKit Go.Shelf
open _root_.Go.Proofs.YtiiifecfdkjmbaaGreat.Pure
set_option linter.unusedVariables false
set_option linter.unusedSimpArgs false
theorem uG (nodes:Int) (a:Option Addr) (len cap:Nat) (l:List Int) (w:World) (hI:Ints w a len l):Calls Tryz.prog 69 #[.int .i64 nodes,.slice a len cap] w fun e w'=>e=.returned (.int .i64 (dB nodes l))∧Since w w':=vK w w nodes a len cap l hI (Since.refl w)
end Go.Proofs.YtiiifecfdkjmbaaGreat
