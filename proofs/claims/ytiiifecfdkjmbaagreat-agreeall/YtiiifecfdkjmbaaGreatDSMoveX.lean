/- Contract of move.come; conditions: the world lies in a sea, is right, and the wire holds a message. What move.One does in a sea, way by way, and move.One; conditions: the world reads as one. Contracts of what move.One does in a sea, and of move.One; conditions: the world reads as one. Contracts of what move.Wire does in a sea, and of move.Wire; conditions: the world reads as one. Contracts of what move.Wire does in a sea, and of move.Wire; conditions: the world reads as one. -/
import Derived.Test.YtiiifecfdkjmbaaGreatDSCastX
import Derived.Test.YtiiifecfdkjmbaaGreatDPureW
import Derived.Test.YtiiifecfdkjmbaaGreatDRDoneX
namespace Go.Proofs.YtiiifecfdkjmbaaGreat
set_option maxRecDepth 8000
open Go.RowKit Go.Shelf
open _root_.Go.Proofs.YtiiifecfdkjmbaaGreat.Pure
set_option linter.unusedVariables false
set_option linter.unusedSimpArgs false
end Go.Proofs.YtiiifecfdkjmbaaGreat
namespace Go.Proofs.YtiiifecfdkjmbaaGreat
set_option maxRecDepth 8000
open Go.RowKit Go.Shelf
open _root_.Go.Proofs.YtiiifecfdkjmbaaGreat.Pure
set_option linter.unusedVariables false
set_option linter.unusedSimpArgs false
end Go.Proofs.YtiiifecfdkjmbaaGreat
namespace Go.Proofs.YtiiifecfdkjmbaaGreat
set_option maxRecDepth 8000
open Go.RowKit Go.Shelf
open _root_.Go.Proofs.YtiiifecfdkjmbaaGreat.Pure
set_option linter.unusedVariables false
set_option linter.unusedSimpArgs false
end Go.Proofs.YtiiifecfdkjmbaaGreat
namespace Go.Proofs.YtiiifecfdkjmbaaGreat
set_option maxRecDepth 8000
open Go.RowKit Go.Shelf
open _root_.Go.Proofs.YtiiifecfdkjmbaaGreat.Pure
set_option linter.unusedVariables false
set_option linter.unusedSimpArgs false
theorem moves_succ (f t : Nat) : ∀ (k : Nat) (d : Wd), movesD f t (k + 1) d = (movesD f t k d).bind fun d' => moveD d' f t
 | 0, d => by
  show (moveD d f t).bind (movesD f t 0) = moveD d f t
  cases moveD d f t <;> rfl
 | k + 1, d => by
  show (moveD d f t).bind (movesD f t (k + 1)) = ((moveD d f t).bind (movesD f t k)).bind _
  cases h : moveD d f t with
  | error e => rfl
  | ok d1 => exact moves_succ f t k d1
theorem moves_fail {f t : Nat} {d : Wd} {e : Int} {k : Nat} (h : movesD f t k d = .error e) : ∀ j, movesD f t (k + j) d = .error e
 | 0 => h
 | j + 1 => by rw [← Nat.add_assoc, moves_succ, moves_fail h j]; rfl
end Go.Proofs.YtiiifecfdkjmbaaGreat
namespace Go.Proofs.YtiiifecfdkjmbaaGreat
set_option maxRecDepth 8000
open Go.RowKit Go.Shelf
open _root_.Go.Proofs.YtiiifecfdkjmbaaGreat.Pure
set_option linter.unusedVariables false
set_option linter.unusedSimpArgs false
end Go.Proofs.YtiiifecfdkjmbaaGreat
