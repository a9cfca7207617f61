/- Contract of sea.Do, for whatever is done in the sea; conditions: the world reads as one, and what is done keeps its own contract. -/
import Derived.Test.YtiiifecfdkjmbaaGreatDSOwn
import Derived.Test.YtiiifecfdkjmbaaGreatDSSea
import Derived.Test.YtiiifecfdkjmbaaGreatDRCastX
namespace Go.Proofs.YtiiifecfdkjmbaaGreat
set_option maxRecDepth 8000
open Go.RowKit Go.Shelf
open _root_.Go.Proofs.YtiiifecfdkjmbaaGreat.Pure
set_option linter.unusedVariables false
set_option linter.unusedSimpArgs false
def ResDo (X : Nat → Prop) (w : World) (r : Except Int (Wd × Int)) (e : Ending) (w' : World) : Prop :=
 (∀ er, r = .error er → e = .returned (.tuple #[.agg #[.slice none 0 0, .slice none 0 0, .slice none 0 0], .int .i64 0, .int .i64 er]) ∧ Fr X w w') ∧
 (∀ d' m, r = .ok (d', m) → ∃ L, e = .returned (.tuple #[wval L d', .int .i64 m, .int .i64 0]) ∧ OwnW w.heap.size w' d' L ∧ Fr X w w')
attribute [local go_sem] Oper.semAt_some
end Go.Proofs.YtiiifecfdkjmbaaGreat
