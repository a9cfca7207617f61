/- A node's four cells and a wire's head are stored: what the memory is then; conditions: the cells are there. -/
import Derived.Test.YtiiifecfdkjmbaaGreatOwnX
import Derived.Test.YtiiifecfdkjmbaaGreatSOwnX
namespace Go.Proofs.YtiiifecfdkjmbaaGreat
set_option maxRecDepth 8000
open Go.RowKit Go.Shelf
open _root_.Go.Proofs.YtiiifecfdkjmbaaGreat.Pure
set_option linter.unusedVariables false

def put4at (w : World) (b o : Nat) (v0 v1 v2 v3 : Value) : World := (((w.setCell ⟨b, o, none⟩ v0).setCell ⟨b, o + 1, none⟩ v1).setCell ⟨b, o + 2, none⟩ v2).setCell ⟨b, o + 3, none⟩ v3
theorem put4at_fr (w : World) (b o : Nat) (v0 v1 v2 v3 : Value) : Fr (fun i => i = b) w (put4at w b o v0 v1 v2 v3) := by
  have hF : Fr (fun i => i = b) w w := Fr.refl _ _
  exact (((hF.setCell ⟨b, o, none⟩ _ (fun _ => rfl)).setCell ⟨b, o + 1, none⟩ _ (fun _ => rfl)).setCell ⟨b, o + 2, none⟩ _ (fun _ => rfl)).setCell ⟨b, o + 3, none⟩ _ (fun _ => rfl)
theorem put4at_cells {w : World} {b o : Nat} {v0 v1 v2 v3 u0 u1 u2 u3 : Value} (h0 : w.cell? ⟨b, o, none⟩ = some u0) (h1 : w.cell? ⟨b, o + 1, none⟩ = some u1) (h2 : w.cell? ⟨b, o + 2, none⟩ = some u2) (h3 : w.cell? ⟨b, o + 3, none⟩ = some u3) :
    (put4at w b o v0 v1 v2 v3).cell? ⟨b, o, none⟩ = some v0 ∧ (put4at w b o v0 v1 v2 v3).cell? ⟨b, o + 1, none⟩ = some v1 ∧ (put4at w b o v0 v1 v2 v3).cell? ⟨b, o + 2, none⟩ = some v2 ∧ (put4at w b o v0 v1 v2 v3).cell? ⟨b, o + 3, none⟩ = some v3 ∧
      ∀ p, (p < o ∨ o + 3 < p) → (put4at w b o v0 v1 v2 v3).cell? ⟨b, p, none⟩ = w.cell? ⟨b, p, none⟩ := by
  unfold put4at
  have a1 : (w.setCell ⟨b, o, none⟩ v0).cell? ⟨b, o + 1, none⟩ = some u1 := by rw [set_ne _ _ _ (by omega)]; exact h1
  have a2 : ((w.setCell ⟨b, o, none⟩ v0).setCell ⟨b, o + 1, none⟩ v1).cell? ⟨b, o + 2, none⟩ = some u2 := by rw [set_ne _ _ _ (by omega), set_ne _ _ _ (by omega)]; exact h2
  have a3 : (((w.setCell ⟨b, o, none⟩ v0).setCell ⟨b, o + 1, none⟩ v1).setCell ⟨b, o + 2, none⟩ v2).cell? ⟨b, o + 3, none⟩ = some u3 := by rw [set_ne _ _ _ (by omega), set_ne _ _ _ (by omega), set_ne _ _ _ (by omega)]; exact h3
  refine ⟨?_, ?_, ?_, ?_, fun p hp => ?_⟩
  · rw [set_ne _ _ _ (by omega), set_ne _ _ _ (by omega), set_ne _ _ _ (by omega)]; exact set_eq _ _ _ _ h0
  · rw [set_ne _ _ _ (by omega), set_ne _ _ _ (by omega)]; exact set_eq _ _ _ _ a1
  · rw [set_ne _ _ _ (by omega)]; exact set_eq _ _ _ _ a2
  · exact set_eq _ _ _ _ a3
  · rw [set_ne _ _ _ (by omega), set_ne _ _ _ (by omega), set_ne _ _ _ (by omega), set_ne _ _ _ (by omega)]
theorem borrow_of {w W1 W2 : World} {bn on t br orr : Nat} {v0 v1 v2 v3 v u0 u1 u2 u3 u : Value} (h0 : w.cell? ⟨bn, on + t * 4, none⟩ = some u0) (h1 : w.cell? ⟨bn, on + t * 4 + 1, none⟩ = some u1) (h2 : w.cell? ⟨bn, on + t * 4 + 2, none⟩ = some u2) (h3 : w.cell? ⟨bn, on + t * 4 + 3, none⟩ = some u3)
    (h4 : w.cell? ⟨br, orr + t, none⟩ = some u) (hn : bn < w.heap.size) (hr : br < w.heap.size) (hne : bn ≠ br) (hW1 : put4at w bn (on + t * 4) v0 v1 v2 v3 = W1) (hW2 : Since W1 W2) :
    Borrow w (W2.setCell ⟨br, orr + t, none⟩ v) bn on t br orr v0 v1 v2 v3 v := by
  have hF1 : Fr (fun i => i = bn) w W1 := by rw [← hW1]; exact put4at_fr w bn (on + t * 4) v0 v1 v2 v3
  obtain ⟨c0, c1, c2, c3, co⟩ := put4at_cells (v0 := v0) (v1 := v1) (v2 := v2) (v3 := v3) h0 h1 h2 h3
  rw [hW1] at c0 c1 c2 c3 co
  have hn1 : bn < W1.heap.size := Nat.lt_of_lt_of_le hn hF1.size
  have hr1 : br < W1.heap.size := Nat.lt_of_lt_of_le hr hF1.size
  have far : ∀ o, (W2.setCell ⟨br, orr + t, none⟩ v).cell? ⟨bn, o, none⟩ = W1.cell? ⟨bn, o, none⟩ := fun o => by
    rw [World.cell?_setCell_other _ _ _ _ (fun e => hne (by injection e; omega))]; exact hW2.cellAt hn1 o
  have near : ∀ o, W2.cell? ⟨br, o, none⟩ = w.cell? ⟨br, o, none⟩ := fun o => (hW2.cellAt hr1 o).trans (hF1.cell (p := ⟨br, o, none⟩) hr (fun e => hne e.symm))
  refine ⟨?_, (far _).trans c0, (far _).trans c1, (far _).trans c2, (far _).trans c3, fun o ho => (far o).trans (co o ho), set_eq _ _ _ _ ((near _).trans h4), fun o ho => ?_⟩
  · exact ((hF1.mono (fun i _ e => .inl e)).trans (hW2.fr (fun i => i = bn ∨ i = br)) (fun i _ e => e) (fun i _ e => e)).setCell _ _ (fun _ => .inr rfl)
  · rw [set_ne _ _ _ (fun e => ho e.symm)]; exact near o
end Go.Proofs.YtiiifecfdkjmbaaGreat
