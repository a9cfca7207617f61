/- Contract of bound's (judge).far; conditions: the world reads as one, has that node, whose Last has the right shape. -/
import Derived.RegionIn
import Derived.BigRegionIn
import Derived.Test.YtiiifecfdkjmbaaGreatDBoundS
namespace Go.Proofs.YtiiifecfdkjmbaaGreat
set_option maxRecDepth 8000
open Go.RowKit Go.Shelf
attribute [local go_sem] Oper.semAt_some
theorem KX.same {n : Nat} {X : Option Nat} {A B : World} (h : KX n X A B) {p : Addr} {v : Value} (hc : A.cell? p = some v) (hX : some p.block ≠ X) : B.heap[p.block]? = A.heap[p.block]? := by
 have : ∃ o, A.heap[p.block]? = some o ∧ o.isCells = true := by
  unfold World.cell? at hc
  split at hc
  ·rename_i c e z hb; exact ⟨_, hb, rfl⟩
  ·cases hc
 obtain ⟨o, ho, hoc⟩ := this
 exact (h.cells _ _ ho hoc hX).trans ho.symm
end Go.Proofs.YtiiifecfdkjmbaaGreat
