/- Contracts of sea.Must, Pass, IsNode, Become, Count and Hold, in a sea that holds a world of its own; conditions: the node is there. -/
import Derived.Test.YtiiifecfdkjmbaaGreatDSOwnX
namespace Go.Proofs.YtiiifecfdkjmbaaGreat
set_option maxRecDepth 8000
open Go.RowKit Go.Shelf
open _root_.Go.Proofs.YtiiifecfdkjmbaaGreat.Pure
set_option linter.unusedVariables false
set_option linter.unusedSimpArgs false
structure SeaB (lo : Nat) (w : World) (p : Nat) (d : Wd) (L : Lay) (many : Int) : Prop where
 made : MadeW lo w p d L
 lop : lo ≤ p
 cm : w.cell? ⟨p, 3, none⟩ = some (.int .i64 many)
 zm : w.frozen? ⟨p, 3, none⟩ = false
theorem SeaB.since {lo : Nat} {w w' : World} {p : Nat} {d : Wd} {L : Lay} {many : Int} (h : SeaB lo w p d L many) (k : Since w w') : SeaB lo w' p d L many :=
 ⟨h.made.since k, h.lop, (k.cellAt h.made.box.lt _).trans h.cm, (k.below.frozen (p := ⟨p, 3, none⟩) h.made.box.lt).trans h.zm⟩
abbrev Up (lo : Nat) (X : Nat → Prop) : Nat → Prop := fun i => ¬ i < lo ∨ X i
theorem Since.up {w w' : World} (h : Since w w') (lo : Nat) (X : Nat → Prop) : Fr (Up lo X) w w' := h.fr _
theorem Fr.upTrans {lo : Nat} {X : Nat → Prop} {a b c : World} (h : Fr (Up lo X) a b) (k : Fr (Up lo X) b c) : Fr (Up lo X) a c := h.trans k (fun _ _ x => x) (fun _ _ x => x)
end Go.Proofs.YtiiifecfdkjmbaaGreat
