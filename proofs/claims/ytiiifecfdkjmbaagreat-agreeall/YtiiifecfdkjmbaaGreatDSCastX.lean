/- Contract of cast.may; conditions: the world lies in a sea, and is right. Contract of cast.post; conditions: the world lies in a sea, its rows are as they must be. Contract of (*Sea).Hold; conditions: the world lies in a sea, the node is there. What cast.cast does in a sea, way by way; conditions: the world lies in a sea, and is right. Contracts of what cast.cast does in a sea, of cast.cast, Send and Null; conditions: the world reads as one. -/
import Derived.Test.YtiiifecfdkjmbaaGreatDSTellX
namespace Go.Proofs.YtiiifecfdkjmbaaGreat
set_option maxRecDepth 8000
open Go.RowKit Go.Shelf
open _root_.Go.Proofs.YtiiifecfdkjmbaaGreat.Pure
set_option linter.unusedVariables false
set_option linter.unusedSimpArgs false
end Go.Proofs.YtiiifecfdkjmbaaGreat
namespace Go.Proofs.YtiiifecfdkjmbaaGreat
set_option maxRecDepth 8000
open Go.RowKit Go.Shelf
open _root_.Go.Proofs.YtiiifecfdkjmbaaGreat.Pure
set_option linter.unusedVariables false
set_option linter.unusedSimpArgs false
end Go.Proofs.YtiiifecfdkjmbaaGreat
namespace Go.Proofs.YtiiifecfdkjmbaaGreat
set_option maxRecDepth 8000
open Go.RowKit Go.Shelf
open _root_.Go.Proofs.YtiiifecfdkjmbaaGreat.Pure
set_option linter.unusedVariables false
set_option linter.unusedSimpArgs false
end Go.Proofs.YtiiifecfdkjmbaaGreat
namespace Go.Proofs.YtiiifecfdkjmbaaGreat
set_option maxRecDepth 8000
open Go.RowKit Go.Shelf
open _root_.Go.Proofs.YtiiifecfdkjmbaaGreat.Pure
set_option linter.unusedVariables false
set_option linter.unusedSimpArgs false
theorem SeaB.fr {B : Nat → Prop} {lo : Nat} {w w' : World} {p : Nat} {d : Wd} {L : Lay} {c : Int} (h : SeaB lo w p d L c) (k : Fr B w w') (hB : ∀ b, blkW d L b → ¬ B b) (hp : ¬ B p) : SeaB lo w' p d L c :=
 ⟨⟨h.made.own.fr k hB, h.made.box.fr k hp, h.made.off⟩, h.lop, (k.cell (p := ⟨p, 3, none⟩) h.made.box.lt hp).trans h.cm, (k.frozen (p := ⟨p, 3, none⟩) h.made.box.lt hp).trans h.zm⟩
end Go.Proofs.YtiiifecfdkjmbaaGreat
namespace Go.Proofs.YtiiifecfdkjmbaaGreat
set_option maxRecDepth 8000
open Go.RowKit Go.Shelf
open _root_.Go.Proofs.YtiiifecfdkjmbaaGreat.Pure
set_option linter.unusedVariables false
set_option linter.unusedSimpArgs false
end Go.Proofs.YtiiifecfdkjmbaaGreat
