/- Contract of sea.own: a world in memory of its own; conditions: the world reads as one, and its lists are short. -/
import Derived.Deep.DeepCutAuto
import Derived.Test.YtiiifecfdkjmbaaGreatDRegM
import Derived.Test.YtiiifecfdkjmbaaGreatDSOwnX
namespace Go.Proofs.YtiiifecfdkjmbaaGreat
set_option maxRecDepth 8000
open Go.RowKit Go.Shelf
open _root_.Go.Proofs.YtiiifecfdkjmbaaGreat.Pure
set_option linter.unusedVariables false
set_option linter.unusedSimpArgs false
theorem PartN.made {lo : Nat} {w : World} {p : Nat} {gs : List Int} {ns : List Nd} {H : Nat → Hd} {nsl : Sl} {L : Lay} (h : PartN lo w p gs ns H nsl ns.length L) : MadeW lo w p ⟨gs, ns, []⟩ L := by
 have ho := h.own
 have hf := h.off
 rw [List.take_length] at ho hf
 exact ⟨ho, ⟨h.lt, h.c0, by rw [h.l1]; exact h.c1, by rw [h.l2]; exact h.c2, h.z0, h.z1, h.z2⟩, hf⟩
end Go.Proofs.YtiiifecfdkjmbaaGreat
