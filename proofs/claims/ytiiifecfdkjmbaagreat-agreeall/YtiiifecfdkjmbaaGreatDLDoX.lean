/- An act that was not done has an error that is not 0; conditions: none. Contract of log.Do; conditions: the world reads as one. Contracts of world.silence and world.Begin; conditions: the groups read as a list of ints. -/
import Derived.Test.YtiiifecfdkjmbaaGreatDSCalmX
namespace Go.Proofs.YtiiifecfdkjmbaaGreat
set_option maxRecDepth 8000
open Go.RowKit Go.Shelf
open _root_.Go.Proofs.YtiiifecfdkjmbaaGreat.Pure
theorem rounds_nz {e : Int} : ∀ (k : Nat) (d : Wd), roundsD k d = .error e → e ≠ 0
 | 0, d, h => by cases h
 | k + 1, d, h => by
  unfold roundsD at h
  rcases bind_err h with h | ⟨r, _, h⟩
  ·exact roundD_nz h
  ·exact rounds_nz k r.1 h
theorem calmD_nz {d : Wd} {e : Int} (h : calmD d = .error e) : e ≠ 0 := by
 unfold calmD at h
 rcases bind_err h with h | ⟨r, _, h⟩
 ·exact drainD_nz h
 ·exact rounds_nz 4 r.1 h
theorem checked_nz {α : Type} {d : Wd} {r : Except Int α} {e : Int} (hr : ∀ e, r = .error e → e ≠ 0) (h : checked d r = .error e) : e ≠ 0 := by
 unfold checked at h
 split at h
 ·exact hr e h
 ·rename_i hz; cases h; exact hz
theorem doD_nz4 {d : Wd} {a : Ac} {e : Int} (h : doD d a = .error e) : e ≠ 0 := by
 by_cases h4 : a.kind = 4
 ·obtain ⟨k, o, t, b⟩ := a
  dsimp only at h4
  subst h4
  exact checked_nz (fun _ h => calmD_nz h) (show checked d (calmD d) = .error e from h)
 ·exact doD_nz h4 h
end Go.Proofs.YtiiifecfdkjmbaaGreat
namespace Go.Proofs.YtiiifecfdkjmbaaGreat
set_option maxRecDepth 8000
open Go.RowKit Go.Shelf
open _root_.Go.Proofs.YtiiifecfdkjmbaaGreat.Pure
set_option linter.unusedVariables false
set_option linter.unusedSimpArgs false
end Go.Proofs.YtiiifecfdkjmbaaGreat
namespace Go.Proofs.YtiiifecfdkjmbaaGreat
set_option maxRecDepth 8000
open Go.RowKit Go.Shelf
open _root_.Go.Proofs.YtiiifecfdkjmbaaGreat.Pure
set_option linter.unusedVariables false
set_option linter.unusedSimpArgs false
end Go.Proofs.YtiiifecfdkjmbaaGreat
