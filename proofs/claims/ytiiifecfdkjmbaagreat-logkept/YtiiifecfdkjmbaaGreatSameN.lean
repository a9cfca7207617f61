/- SameWorlds at two nil worlds, and at two of one's own; no condition. -/
import Derived.Test.YtiiifecfdkjmbaaGreatSameW
namespace Go.Proofs.YtiiifecfdkjmbaaGreat
set_option maxRecDepth 8000
open Go.RowKit Go.Shelf
open _root_.Go.Proofs.YtiiifecfdkjmbaaGreat.Pure
set_option linter.unusedVariables false
set_option linter.unusedSimpArgs false
theorem qo (w:World):WAt w ⟨none,0,0,none,0,0,none,0,0⟩ ⟨[],[],[]⟩ :=
 ⟨yY,Nat.le_refl _,⟨rfl,by simp,fun h=>absurd h (by simp)⟩,Nat.le_refl _,⟨rfl,by simp,fun h=>absurd h (by simp)⟩,Nat.le_refl _⟩
theorem MZ (w:World):Calls Tryz.prog 31 #[.agg #[.slice none 0 0,.slice none 0 0,.slice none 0 0],.agg #[.slice none 0 0,.slice none 0 0,.slice none 0 0]] w fun e w'=>e=.returned (.bool true)∧Since w w' :=
 d9 ⟨none,0,0,none,0,0,none,0,0⟩ ⟨none,0,0,none,0,0,none,0,0⟩ ⟨[],[],[]⟩ w (qo w) (qo w)
theorem vQ {lo lo':Nat} {w:World} {d:Wd} {L L':Lay} (h:aW lo w d L) (h':aW lo' w d L'):Calls Tryz.prog 31 #[.agg #[.slice (L (0,0,0)).a d.groups.length (L (0,0,0)).cap,.slice (L (1,0,0)).a d.nodes.length (L (1,0,0)).cap,.slice (L (2,0,0)).a d.wires.length (L (2,0,0)).cap],.agg #[.slice (L' (0,0,0)).a d.groups.length (L' (0,0,0)).cap,.slice (L' (1,0,0)).a d.nodes.length (L' (1,0,0)).cap,.slice (L' (2,0,0)).a d.wires.length (L' (2,0,0)).cap]] w fun e w'=>e=.returned (.bool true)∧Since w w' :=
 d9 (dS L d) (dS L' d) d w h.wat h'.wat
end Go.Proofs.YtiiifecfdkjmbaaGreat
