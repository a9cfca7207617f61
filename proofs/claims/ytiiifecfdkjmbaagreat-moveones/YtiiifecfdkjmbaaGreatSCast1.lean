/- Contract of cast.may; conditions: the world lies in a sea, and is right. -/
import Derived.BigQuiet
import Derived.Test.YtiiifecfdkjmbaaGreatSTellX
namespace Go.Proofs.YtiiifecfdkjmbaaGreat
set_option maxRecDepth 8000
open Go.RowKit Go.Shelf
open _root_.Go.Proofs.YtiiifecfdkjmbaaGreat.Pure
set_option linter.unusedVariables false
set_option linter.unusedSimpArgs false

set_option maxHeartbeats 1000000 in
theorem may_a (lo p : Nat) (m : Mg) (d : Wd) (L : Lay) (w : World) (k : Int) (hB : SeaB lo w p d L k) (hb1 : (decide (0 ≤ m.fr) && decide (m.fr < (d.nodes.length : Int))) = false) :
    Calls Tryz.prog 142 #[.pointer (some ⟨p, 0, none⟩), .agg #[.int .i64 m.fr, .int .i64 m.gr, .int .i64 m.st, .bool m.nul, .string m.body]] w fun e w' => e = .panicked (pan 4) ∧ Since w w' := by
  have hpl := hB.made.box.lt
  have b0 := hB.made.box.c0
  have hG : Ints w (L (0, 0, 0)).a d.groups.length d.groups := hB.made.own.wat.g
  obtain ⟨w1, hw1⟩ : ∃ y, w.alloc (.cells #[.int .i64 m.fr, .int .i64 m.gr, .int .i64 m.st, .bool m.nul, .string m.body] 42) = y := ⟨_, rfl⟩
  have hS1 : Since w w1 := by rw [← hw1]; exact (Since.refl w).alloc _
  have hMb : MsgAt w1 w.heap.size 0 m := by rw [← hw1]; constructor <;> simp [go_sem]
  have hl1 : w.heap.size < w1.heap.size := by rw [← hw1]; simp
  obtain ⟨S0, hS0⟩ : ∃ S0 : World → Prop, ∀ w', S0 w' ↔ Since w1 w' := ⟨_, fun _ => Iff.rfl⟩
  have hneT := heldTrue w
  have x0 : ∀ y : HeldW S0, y.w.cell? ⟨p, 0, none⟩ = some (.slice (L (0, 0, 0)).a d.groups.length (L (0, 0, 0)).cap) := fun y => ((hS1.trans ((hS0 _).1 y.h)).cellAt hpl _).trans b0
  have m0 : ∀ y : HeldW S0, y.w.cell? ⟨w.heap.size, 0, none⟩ = some (.int .i64 m.fr) := fun y => (((hS0 _).1 y.h).cellAt hl1 _).trans hMb.c0
  have m1 : ∀ y : HeldW S0, y.w.cell? ⟨w.heap.size, 1, none⟩ = some (.int .i64 m.gr) := fun y => (((hS0 _).1 y.h).cellAt hl1 _).trans hMb.c1
  have m2 : ∀ y : HeldW S0, y.w.cell? ⟨w.heap.size, 2, none⟩ = some (.int .i64 m.st) := fun y => (((hS0 _).1 y.h).cellAt hl1 _).trans hMb.c2
  have m3 : ∀ y : HeldW S0, y.w.cell? ⟨w.heap.size, 3, none⟩ = some (.bool m.nul) := fun y => (((hS0 _).1 y.h).cellAt hl1 _).trans hMb.c3
  have m4 : ∀ y : HeldW S0, y.w.cell? ⟨w.heap.size, 4, none⟩ = some (.string m.body) := fun y => (((hS0 _).1 y.h).cellAt hl1 _).trans hMb.c4
  have hFIN : ∀ y, Since w1 y → Since w y := fun y hy => hS1.trans hy
  have b1 := hB.made.box.c1
  have x1 : ∀ y : HeldW S0, y.w.cell? ⟨p, 1, none⟩ = some (.slice (L (1, 0, 0)).a d.nodes.length (L (1, 0, 0)).cap) := fun y => ((hS1.trans ((hS0 _).1 y.h)).cellAt hpl _).trans b1
  clear hMb
  go_enter Tryz.func142, Tryz.ntmps142
  go_wp2_with fail
  obtain ⟨W0, hW0⟩ : ∃ y, w1.drew = y := ⟨_, rfl⟩
  have hs0 : Since w1 W0 := by rw [← hW0]; exact Since.drew (Since.refl _)
  have hSi0 := (hS0 W0).2 hs0
  have hne : Nonempty (HeldW S0) := ⟨⟨_, hSi0⟩⟩
  refine beginM (fun w' => ∃ x : HeldW S0, w' = x.w) (by kernel_rfl) ?_
  rw [hW0]
  clear hW0
  refine takeW 0 rfl (by kernel_rfl) (fun _ _ _ _ h => h) (by rfl) rfl ?_
  go_big_quiet_op
  refine takeW 1 rfl (by kernel_rfl) (fun _ _ _ _ h => h) (by rfl) rfl ?_
  go_big_quiet_op
  refine takeM 2 rfl (by kernel_rfl) (heldS_mk hSi0) (fun _ _ _ _ h => h) (by rfl) rfl ?_
  go_big_quiet_op
  refine actM 3 rfl (by kernel_rfl) ?_
  intro K hK
  go_simp
  refine (isNode_any p m.fr _ _ _ W0 (x1 ⟨_, hSi0⟩)).mono ?_
  rw [hb1]
  rintro e w' ⟨rfl, hw'⟩
  obtain rfl := hw'.symm
  dsimp only
  refine hK _ _ (fun _ _ => heldS_mk hSi0) ?_
  clear hK K
  refine takeW 4 rfl (by kernel_rfl) (fun _ _ _ _ h => h) (by rfl) rfl ?_
  go_big_quiet_op
  refine skipM 5 rfl (by kernel_rfl) (fun _ => heldS_mk hSi0) (fun _ _ _ _ h => h) (by rfl) ?_
  simp only [Act.put, List.setIfInBounds_toArray, List.set_cons_zero, List.set_cons_succ]
  refine skipM 6 rfl (by kernel_rfl) (fun _ => heldS_mk hSi0) (fun _ _ _ _ h => h) (by rfl) ?_
  simp only [Act.put, List.setIfInBounds_toArray, List.set_cons_zero, List.set_cons_succ]
  refine skipM 7 rfl (by kernel_rfl) (fun _ => heldS_mk hSi0) (fun _ _ _ _ h => h) (by rfl) ?_
  simp only [Act.put, List.setIfInBounds_toArray, List.set_cons_zero, List.set_cons_succ]
  refine takeW 8 rfl (by kernel_rfl) (fun _ _ _ _ h => h) (by rfl) rfl ?_
  go_big_quiet_op
  refine takeW 9 rfl (by kernel_rfl) (fun _ _ _ _ h => h) (by rfl) rfl ?_
  go_big_quiet_op
  refine skipM 10 rfl (by kernel_rfl) (fun _ => heldS_mk hSi0) (fun _ _ _ _ h => h) (by rfl) ?_
  simp only [Act.put, List.setIfInBounds_toArray, List.set_cons_zero, List.set_cons_succ]
  refine skipM 11 rfl (by kernel_rfl) (fun _ => heldS_mk hSi0) (fun _ _ _ _ h => h) (by rfl) ?_
  simp only [Act.put, List.setIfInBounds_toArray, List.set_cons_zero, List.set_cons_succ]
  refine skipM 12 rfl (by kernel_rfl) (fun _ => heldS_mk hSi0) (fun _ _ _ _ h => h) (by rfl) ?_
  simp only [Act.put, List.setIfInBounds_toArray, List.set_cons_zero, List.set_cons_succ]
  refine skipM 13 rfl (by kernel_rfl) (fun _ => heldS_mk hSi0) (fun _ _ _ _ h => h) (by rfl) ?_
  simp only [Act.put, List.setIfInBounds_toArray, List.set_cons_zero, List.set_cons_succ]
  refine skipM 14 rfl (by kernel_rfl) (fun _ => heldS_mk hSi0) (fun _ _ _ _ h => h) (by rfl) ?_
  simp only [Act.put, List.setIfInBounds_toArray, List.set_cons_zero, List.set_cons_succ]
  refine skipM 15 rfl (by kernel_rfl) (fun _ => heldS_mk hSi0) (fun _ _ _ _ h => h) (by rfl) ?_
  simp only [Act.put, List.setIfInBounds_toArray, List.set_cons_zero, List.set_cons_succ]
  refine skipM 16 rfl (by kernel_rfl) (fun _ => heldS_mk hSi0) (fun _ _ _ _ h => h) (by rfl) ?_
  simp only [Act.put, List.setIfInBounds_toArray, List.set_cons_zero, List.set_cons_succ]
  refine skipM 17 rfl (by kernel_rfl) (fun _ => heldS_mk hSi0) (fun _ _ _ _ h => h) (by rfl) ?_
  simp only [Act.put, List.setIfInBounds_toArray, List.set_cons_zero, List.set_cons_succ]
  refine skipM 18 rfl (by kernel_rfl) (fun _ => heldS_mk hSi0) (fun _ _ _ _ h => h) (by rfl) ?_
  simp only [Act.put, List.setIfInBounds_toArray, List.set_cons_zero, List.set_cons_succ]
  refine takeW 19 rfl (by kernel_rfl) (fun _ _ _ _ h => h) (by rfl) rfl ?_
  go_big_quiet_op
  refine actM 20 rfl (by kernel_rfl) ?_
  intro K hK
  go_simp
  refine (seaMust_f 4 _).mono ?_
  rintro e w' ⟨rfl, hw'⟩
  obtain rfl := hw'.symm
  dsimp only
  exact ⟨rfl, rfl, hFIN _ (by first | assumption | exact hs0 | exact hs1 | exact hs2)⟩

set_option maxHeartbeats 1000000 in
theorem may_b (lo p : Nat) (m : Mg) (d : Wd) (L : Lay) (w : World) (k : Int) (hB : SeaB lo w p d L k) (hb1 : (decide (0 ≤ m.fr) && decide (m.fr < (d.nodes.length : Int))) = true) (hb2 : decide (0 ≤ m.gr) = false) :
    Calls Tryz.prog 142 #[.pointer (some ⟨p, 0, none⟩), .agg #[.int .i64 m.fr, .int .i64 m.gr, .int .i64 m.st, .bool m.nul, .string m.body]] w fun e w' => e = .panicked (pan 4) ∧ Since w w' := by
  have hpl := hB.made.box.lt
  have b0 := hB.made.box.c0
  have hG : Ints w (L (0, 0, 0)).a d.groups.length d.groups := hB.made.own.wat.g
  obtain ⟨w1, hw1⟩ : ∃ y, w.alloc (.cells #[.int .i64 m.fr, .int .i64 m.gr, .int .i64 m.st, .bool m.nul, .string m.body] 42) = y := ⟨_, rfl⟩
  have hS1 : Since w w1 := by rw [← hw1]; exact (Since.refl w).alloc _
  have hMb : MsgAt w1 w.heap.size 0 m := by rw [← hw1]; constructor <;> simp [go_sem]
  have hl1 : w.heap.size < w1.heap.size := by rw [← hw1]; simp
  obtain ⟨S0, hS0⟩ : ∃ S0 : World → Prop, ∀ w', S0 w' ↔ Since w1 w' := ⟨_, fun _ => Iff.rfl⟩
  have hneT := heldTrue w
  have x0 : ∀ y : HeldW S0, y.w.cell? ⟨p, 0, none⟩ = some (.slice (L (0, 0, 0)).a d.groups.length (L (0, 0, 0)).cap) := fun y => ((hS1.trans ((hS0 _).1 y.h)).cellAt hpl _).trans b0
  have m0 : ∀ y : HeldW S0, y.w.cell? ⟨w.heap.size, 0, none⟩ = some (.int .i64 m.fr) := fun y => (((hS0 _).1 y.h).cellAt hl1 _).trans hMb.c0
  have m1 : ∀ y : HeldW S0, y.w.cell? ⟨w.heap.size, 1, none⟩ = some (.int .i64 m.gr) := fun y => (((hS0 _).1 y.h).cellAt hl1 _).trans hMb.c1
  have m2 : ∀ y : HeldW S0, y.w.cell? ⟨w.heap.size, 2, none⟩ = some (.int .i64 m.st) := fun y => (((hS0 _).1 y.h).cellAt hl1 _).trans hMb.c2
  have m3 : ∀ y : HeldW S0, y.w.cell? ⟨w.heap.size, 3, none⟩ = some (.bool m.nul) := fun y => (((hS0 _).1 y.h).cellAt hl1 _).trans hMb.c3
  have m4 : ∀ y : HeldW S0, y.w.cell? ⟨w.heap.size, 4, none⟩ = some (.string m.body) := fun y => (((hS0 _).1 y.h).cellAt hl1 _).trans hMb.c4
  have hFIN : ∀ y, Since w1 y → Since w y := fun y hy => hS1.trans hy
  have b1 := hB.made.box.c1
  have x1 : ∀ y : HeldW S0, y.w.cell? ⟨p, 1, none⟩ = some (.slice (L (1, 0, 0)).a d.nodes.length (L (1, 0, 0)).cap) := fun y => ((hS1.trans ((hS0 _).1 y.h)).cellAt hpl _).trans b1
  clear hMb
  go_enter Tryz.func142, Tryz.ntmps142
  go_wp2_with fail
  obtain ⟨W0, hW0⟩ : ∃ y, w1.drew = y := ⟨_, rfl⟩
  have hs0 : Since w1 W0 := by rw [← hW0]; exact Since.drew (Since.refl _)
  have hSi0 := (hS0 W0).2 hs0
  have hne : Nonempty (HeldW S0) := ⟨⟨_, hSi0⟩⟩
  refine beginM (fun w' => ∃ x : HeldW S0, w' = x.w) (by kernel_rfl) ?_
  rw [hW0]
  clear hW0
  refine takeW 0 rfl (by kernel_rfl) (fun _ _ _ _ h => h) (by rfl) rfl ?_
  go_big_quiet_op
  refine takeW 1 rfl (by kernel_rfl) (fun _ _ _ _ h => h) (by rfl) rfl ?_
  go_big_quiet_op
  refine takeM 2 rfl (by kernel_rfl) (heldS_mk hSi0) (fun _ _ _ _ h => h) (by rfl) rfl ?_
  go_big_quiet_op
  refine actM 3 rfl (by kernel_rfl) ?_
  intro K hK
  go_simp
  refine (isNode_any p m.fr _ _ _ W0 (x1 ⟨_, hSi0⟩)).mono ?_
  rw [hb1]
  rintro e w' ⟨rfl, hw'⟩
  obtain rfl := hw'.symm
  dsimp only
  refine hK _ _ (fun _ _ => heldS_mk hSi0) ?_
  clear hK K
  refine takeW 4 rfl (by kernel_rfl) (fun _ _ _ _ h => h) (by rfl) rfl ?_
  go_big_quiet_op
  refine takeW 5 rfl (by kernel_rfl) (fun _ _ _ _ h => h) (by rfl) rfl ?_
  go_big_quiet_op
  refine takeM 6 rfl (by kernel_rfl) (heldS_mk hSi0) (fun _ _ _ _ h => h) (by rfl) rfl ?_
  go_big_quiet_op
  refine takeW 7 rfl (by kernel_rfl) (fun _ _ _ _ h => h) (by rfl) rfl ?_
  go_big_quiet_op
  refine takeW 8 rfl (by kernel_rfl) (fun _ _ _ _ h => h) (by rfl) rfl ?_
  go_big_quiet_op
  refine takeW 9 rfl (by kernel_rfl) (fun _ _ _ _ h => h) (by rfl) rfl ?_
  go_big_quiet_op
  refine skipM 10 rfl (by kernel_rfl) (fun _ => heldS_mk hSi0) (fun _ _ _ _ h => h) (by rfl) ?_
  simp only [Act.put, List.setIfInBounds_toArray, List.set_cons_zero, List.set_cons_succ]
  refine skipM 11 rfl (by kernel_rfl) (fun _ => heldS_mk hSi0) (fun _ _ _ _ h => h) (by rfl) ?_
  simp only [Act.put, List.setIfInBounds_toArray, List.set_cons_zero, List.set_cons_succ]
  refine skipM 12 rfl (by kernel_rfl) (fun _ => heldS_mk hSi0) (fun _ _ _ _ h => h) (by rfl) ?_
  simp only [Act.put, List.setIfInBounds_toArray, List.set_cons_zero, List.set_cons_succ]
  refine skipM 13 rfl (by kernel_rfl) (fun _ => heldS_mk hSi0) (fun _ _ _ _ h => h) (by rfl) ?_
  simp only [Act.put, List.setIfInBounds_toArray, List.set_cons_zero, List.set_cons_succ]
  refine skipM 14 rfl (by kernel_rfl) (fun _ => heldS_mk hSi0) (fun _ _ _ _ h => h) (by rfl) ?_
  simp only [Act.put, List.setIfInBounds_toArray, List.set_cons_zero, List.set_cons_succ]
  refine skipM 15 rfl (by kernel_rfl) (fun _ => heldS_mk hSi0) (fun _ _ _ _ h => h) (by rfl) ?_
  simp only [Act.put, List.setIfInBounds_toArray, List.set_cons_zero, List.set_cons_succ]
  refine skipM 16 rfl (by kernel_rfl) (fun _ => heldS_mk hSi0) (fun _ _ _ _ h => h) (by rfl) ?_
  simp only [Act.put, List.setIfInBounds_toArray, List.set_cons_zero, List.set_cons_succ]
  refine skipM 17 rfl (by kernel_rfl) (fun _ => heldS_mk hSi0) (fun _ _ _ _ h => h) (by rfl) ?_
  simp only [Act.put, List.setIfInBounds_toArray, List.set_cons_zero, List.set_cons_succ]
  refine skipM 18 rfl (by kernel_rfl) (fun _ => heldS_mk hSi0) (fun _ _ _ _ h => h) (by rfl) ?_
  simp only [Act.put, List.setIfInBounds_toArray, List.set_cons_zero, List.set_cons_succ]
  refine takeW 19 rfl (by kernel_rfl) (fun _ _ _ _ h => h) (by rfl) rfl ?_
  go_big_quiet_op
  refine actM 20 rfl (by kernel_rfl) ?_
  intro K hK
  go_simp
  refine (seaMust_f 4 _).mono ?_
  rintro e w' ⟨rfl, hw'⟩
  obtain rfl := hw'.symm
  dsimp only
  exact ⟨rfl, rfl, hFIN _ (by first | assumption | exact hs0 | exact hs1 | exact hs2)⟩

set_option maxHeartbeats 1000000 in
theorem may_c (lo p : Nat) (m : Mg) (d : Wd) (L : Lay) (w : World) (k : Int) (hB : SeaB lo w p d L k) (hb1 : (decide (0 ≤ m.fr) && decide (m.fr < (d.nodes.length : Int))) = true) (hb2 : decide (0 ≤ m.gr) = true) (hb3 : decide (m.gr < (d.groups.length : Int)) = false) :
    Calls Tryz.prog 142 #[.pointer (some ⟨p, 0, none⟩), .agg #[.int .i64 m.fr, .int .i64 m.gr, .int .i64 m.st, .bool m.nul, .string m.body]] w fun e w' => e = .panicked (pan 4) ∧ Since w w' := by
  have hpl := hB.made.box.lt
  have b0 := hB.made.box.c0
  have hG : Ints w (L (0, 0, 0)).a d.groups.length d.groups := hB.made.own.wat.g
  obtain ⟨w1, hw1⟩ : ∃ y, w.alloc (.cells #[.int .i64 m.fr, .int .i64 m.gr, .int .i64 m.st, .bool m.nul, .string m.body] 42) = y := ⟨_, rfl⟩
  have hS1 : Since w w1 := by rw [← hw1]; exact (Since.refl w).alloc _
  have hMb : MsgAt w1 w.heap.size 0 m := by rw [← hw1]; constructor <;> simp [go_sem]
  have hl1 : w.heap.size < w1.heap.size := by rw [← hw1]; simp
  obtain ⟨S0, hS0⟩ : ∃ S0 : World → Prop, ∀ w', S0 w' ↔ Since w1 w' := ⟨_, fun _ => Iff.rfl⟩
  have hneT := heldTrue w
  have x0 : ∀ y : HeldW S0, y.w.cell? ⟨p, 0, none⟩ = some (.slice (L (0, 0, 0)).a d.groups.length (L (0, 0, 0)).cap) := fun y => ((hS1.trans ((hS0 _).1 y.h)).cellAt hpl _).trans b0
  have m0 : ∀ y : HeldW S0, y.w.cell? ⟨w.heap.size, 0, none⟩ = some (.int .i64 m.fr) := fun y => (((hS0 _).1 y.h).cellAt hl1 _).trans hMb.c0
  have m1 : ∀ y : HeldW S0, y.w.cell? ⟨w.heap.size, 1, none⟩ = some (.int .i64 m.gr) := fun y => (((hS0 _).1 y.h).cellAt hl1 _).trans hMb.c1
  have m2 : ∀ y : HeldW S0, y.w.cell? ⟨w.heap.size, 2, none⟩ = some (.int .i64 m.st) := fun y => (((hS0 _).1 y.h).cellAt hl1 _).trans hMb.c2
  have m3 : ∀ y : HeldW S0, y.w.cell? ⟨w.heap.size, 3, none⟩ = some (.bool m.nul) := fun y => (((hS0 _).1 y.h).cellAt hl1 _).trans hMb.c3
  have m4 : ∀ y : HeldW S0, y.w.cell? ⟨w.heap.size, 4, none⟩ = some (.string m.body) := fun y => (((hS0 _).1 y.h).cellAt hl1 _).trans hMb.c4
  have hFIN : ∀ y, Since w1 y → Since w y := fun y hy => hS1.trans hy
  have b1 := hB.made.box.c1
  have x1 : ∀ y : HeldW S0, y.w.cell? ⟨p, 1, none⟩ = some (.slice (L (1, 0, 0)).a d.nodes.length (L (1, 0, 0)).cap) := fun y => ((hS1.trans ((hS0 _).1 y.h)).cellAt hpl _).trans b1
  clear hMb
  go_enter Tryz.func142, Tryz.ntmps142
  go_wp2_with fail
  obtain ⟨W0, hW0⟩ : ∃ y, w1.drew = y := ⟨_, rfl⟩
  have hs0 : Since w1 W0 := by rw [← hW0]; exact Since.drew (Since.refl _)
  have hSi0 := (hS0 W0).2 hs0
  have hne : Nonempty (HeldW S0) := ⟨⟨_, hSi0⟩⟩
  refine beginM (fun w' => ∃ x : HeldW S0, w' = x.w) (by kernel_rfl) ?_
  rw [hW0]
  clear hW0
  refine takeW 0 rfl (by kernel_rfl) (fun _ _ _ _ h => h) (by rfl) rfl ?_
  go_big_quiet_op
  refine takeW 1 rfl (by kernel_rfl) (fun _ _ _ _ h => h) (by rfl) rfl ?_
  go_big_quiet_op
  refine takeM 2 rfl (by kernel_rfl) (heldS_mk hSi0) (fun _ _ _ _ h => h) (by rfl) rfl ?_
  go_big_quiet_op
  refine actM 3 rfl (by kernel_rfl) ?_
  intro K hK
  go_simp
  refine (isNode_any p m.fr _ _ _ W0 (x1 ⟨_, hSi0⟩)).mono ?_
  rw [hb1]
  rintro e w' ⟨rfl, hw'⟩
  obtain rfl := hw'.symm
  dsimp only
  refine hK _ _ (fun _ _ => heldS_mk hSi0) ?_
  clear hK K
  refine takeW 4 rfl (by kernel_rfl) (fun _ _ _ _ h => h) (by rfl) rfl ?_
  go_big_quiet_op
  refine takeW 5 rfl (by kernel_rfl) (fun _ _ _ _ h => h) (by rfl) rfl ?_
  go_big_quiet_op
  refine takeM 6 rfl (by kernel_rfl) (heldS_mk hSi0) (fun _ _ _ _ h => h) (by rfl) rfl ?_
  go_big_quiet_op
  refine takeW 7 rfl (by kernel_rfl) (fun _ _ _ _ h => h) (by rfl) rfl ?_
  go_big_quiet_op
  refine takeW 8 rfl (by kernel_rfl) (fun _ _ _ _ h => h) (by rfl) rfl ?_
  go_big_quiet_op
  refine takeW 9 rfl (by kernel_rfl) (fun _ _ _ _ h => h) (by rfl) rfl ?_
  go_big_quiet_op
  refine takeW 10 rfl (by kernel_rfl) (fun _ _ _ _ h => h) (by rfl) rfl ?_
  go_big_quiet_op
  refine takeM 11 rfl (by kernel_rfl) (heldS_mk hSi0) (fun _ _ _ _ h => h) (by rfl) rfl ?_
  go_big_quiet_op
  refine takeW 12 rfl (by kernel_rfl) (fun _ _ _ _ h => h) (by rfl) rfl ?_
  go_big_quiet_op
  refine takeW 13 rfl (by kernel_rfl) (fun _ _ _ _ h => h) (by rfl) rfl ?_
  go_big_quiet_op
  refine takeW 14 rfl (by kernel_rfl) (fun _ _ _ _ h => h) (by rfl) rfl ?_
  go_big_quiet_op
  refine takeW 15 rfl (by kernel_rfl) (fun _ _ _ _ h => h) (by rfl) rfl ?_
  go_big_quiet_op
  refine takeM 16 rfl (by kernel_rfl) (heldS_mk hSi0) (fun _ _ _ _ h => h) (by rfl) rfl ?_
  go_big_quiet_op
  refine takeM 17 rfl (by kernel_rfl) (heldS_mk hSi0) (fun _ _ _ _ h => h) (by rfl) rfl ?_
  go_big_quiet_op
  refine takeW 18 rfl (by kernel_rfl) (fun _ _ _ _ h => h) (by rfl) rfl ?_
  go_big_quiet_op
  refine takeW 19 rfl (by kernel_rfl) (fun _ _ _ _ h => h) (by rfl) rfl ?_
  go_big_quiet_op
  refine actM 20 rfl (by kernel_rfl) ?_
  intro K hK
  go_simp
  refine (seaMust_f 4 _).mono ?_
  rintro e w' ⟨rfl, hw'⟩
  obtain rfl := hw'.symm
  dsimp only
  exact ⟨rfl, rfl, hFIN _ (by first | assumption | exact hs0 | exact hs1 | exact hs2)⟩

set_option maxHeartbeats 1000000 in
theorem may_d (lo p : Nat) (m : Mg) (d : Wd) (L : Lay) (w : World) (k : Int) (hB : SeaB lo w p d L k) (hb1 : (decide (0 ≤ m.fr) && decide (m.fr < (d.nodes.length : Int))) = true) (hb2 : decide (0 ≤ m.gr) = true) (hb3 : decide (m.gr < (d.groups.length : Int)) = true) (hb4 : hasB d.groups m.gr m.fr = false) :
    Calls Tryz.prog 142 #[.pointer (some ⟨p, 0, none⟩), .agg #[.int .i64 m.fr, .int .i64 m.gr, .int .i64 m.st, .bool m.nul, .string m.body]] w fun e w' => e = .panicked (pan 5) ∧ Since w w' := by
  have hpl := hB.made.box.lt
  have b0 := hB.made.box.c0
  have hG : Ints w (L (0, 0, 0)).a d.groups.length d.groups := hB.made.own.wat.g
  obtain ⟨w1, hw1⟩ : ∃ y, w.alloc (.cells #[.int .i64 m.fr, .int .i64 m.gr, .int .i64 m.st, .bool m.nul, .string m.body] 42) = y := ⟨_, rfl⟩
  have hS1 : Since w w1 := by rw [← hw1]; exact (Since.refl w).alloc _
  have hMb : MsgAt w1 w.heap.size 0 m := by rw [← hw1]; constructor <;> simp [go_sem]
  have hl1 : w.heap.size < w1.heap.size := by rw [← hw1]; simp
  obtain ⟨S0, hS0⟩ : ∃ S0 : World → Prop, ∀ w', S0 w' ↔ Since w1 w' := ⟨_, fun _ => Iff.rfl⟩
  have hneT := heldTrue w
  have x0 : ∀ y : HeldW S0, y.w.cell? ⟨p, 0, none⟩ = some (.slice (L (0, 0, 0)).a d.groups.length (L (0, 0, 0)).cap) := fun y => ((hS1.trans ((hS0 _).1 y.h)).cellAt hpl _).trans b0
  have m0 : ∀ y : HeldW S0, y.w.cell? ⟨w.heap.size, 0, none⟩ = some (.int .i64 m.fr) := fun y => (((hS0 _).1 y.h).cellAt hl1 _).trans hMb.c0
  have m1 : ∀ y : HeldW S0, y.w.cell? ⟨w.heap.size, 1, none⟩ = some (.int .i64 m.gr) := fun y => (((hS0 _).1 y.h).cellAt hl1 _).trans hMb.c1
  have m2 : ∀ y : HeldW S0, y.w.cell? ⟨w.heap.size, 2, none⟩ = some (.int .i64 m.st) := fun y => (((hS0 _).1 y.h).cellAt hl1 _).trans hMb.c2
  have m3 : ∀ y : HeldW S0, y.w.cell? ⟨w.heap.size, 3, none⟩ = some (.bool m.nul) := fun y => (((hS0 _).1 y.h).cellAt hl1 _).trans hMb.c3
  have m4 : ∀ y : HeldW S0, y.w.cell? ⟨w.heap.size, 4, none⟩ = some (.string m.body) := fun y => (((hS0 _).1 y.h).cellAt hl1 _).trans hMb.c4
  have hFIN : ∀ y, Since w1 y → Since w y := fun y hy => hS1.trans hy
  have b1 := hB.made.box.c1
  have x1 : ∀ y : HeldW S0, y.w.cell? ⟨p, 1, none⟩ = some (.slice (L (1, 0, 0)).a d.nodes.length (L (1, 0, 0)).cap) := fun y => ((hS1.trans ((hS0 _).1 y.h)).cellAt hpl _).trans b1
  clear hMb
  go_enter Tryz.func142, Tryz.ntmps142
  go_wp2_with fail
  obtain ⟨W0, hW0⟩ : ∃ y, w1.drew = y := ⟨_, rfl⟩
  have hs0 : Since w1 W0 := by rw [← hW0]; exact Since.drew (Since.refl _)
  have hSi0 := (hS0 W0).2 hs0
  have hne : Nonempty (HeldW S0) := ⟨⟨_, hSi0⟩⟩
  refine beginM (fun w' => ∃ x : HeldW S0, w' = x.w) (by kernel_rfl) ?_
  rw [hW0]
  clear hW0
  refine takeW 0 rfl (by kernel_rfl) (fun _ _ _ _ h => h) (by rfl) rfl ?_
  go_big_quiet_op
  refine takeW 1 rfl (by kernel_rfl) (fun _ _ _ _ h => h) (by rfl) rfl ?_
  go_big_quiet_op
  refine takeM 2 rfl (by kernel_rfl) (heldS_mk hSi0) (fun _ _ _ _ h => h) (by rfl) rfl ?_
  go_big_quiet_op
  refine actM 3 rfl (by kernel_rfl) ?_
  intro K hK
  go_simp
  refine (isNode_any p m.fr _ _ _ W0 (x1 ⟨_, hSi0⟩)).mono ?_
  rw [hb1]
  rintro e w' ⟨rfl, hw'⟩
  obtain rfl := hw'.symm
  dsimp only
  refine hK _ _ (fun _ _ => heldS_mk hSi0) ?_
  clear hK K
  refine takeW 4 rfl (by kernel_rfl) (fun _ _ _ _ h => h) (by rfl) rfl ?_
  go_big_quiet_op
  refine takeW 5 rfl (by kernel_rfl) (fun _ _ _ _ h => h) (by rfl) rfl ?_
  go_big_quiet_op
  refine takeM 6 rfl (by kernel_rfl) (heldS_mk hSi0) (fun _ _ _ _ h => h) (by rfl) rfl ?_
  go_big_quiet_op
  refine takeW 7 rfl (by kernel_rfl) (fun _ _ _ _ h => h) (by rfl) rfl ?_
  go_big_quiet_op
  refine takeW 8 rfl (by kernel_rfl) (fun _ _ _ _ h => h) (by rfl) rfl ?_
  go_big_quiet_op
  refine takeW 9 rfl (by kernel_rfl) (fun _ _ _ _ h => h) (by rfl) rfl ?_
  go_big_quiet_op
  refine takeW 10 rfl (by kernel_rfl) (fun _ _ _ _ h => h) (by rfl) rfl ?_
  go_big_quiet_op
  refine takeM 11 rfl (by kernel_rfl) (heldS_mk hSi0) (fun _ _ _ _ h => h) (by rfl) rfl ?_
  go_big_quiet_op
  refine takeW 12 rfl (by kernel_rfl) (fun _ _ _ _ h => h) (by rfl) rfl ?_
  go_big_quiet_op
  refine takeW 13 rfl (by kernel_rfl) (fun _ _ _ _ h => h) (by rfl) rfl ?_
  go_big_quiet_op
  refine takeW 14 rfl (by kernel_rfl) (fun _ _ _ _ h => h) (by rfl) rfl ?_
  go_big_quiet_op
  refine takeW 15 rfl (by kernel_rfl) (fun _ _ _ _ h => h) (by rfl) rfl ?_
  go_big_quiet_op
  refine takeM 16 rfl (by kernel_rfl) (heldS_mk hSi0) (fun _ _ _ _ h => h) (by rfl) rfl ?_
  go_big_quiet_op
  refine takeM 17 rfl (by kernel_rfl) (heldS_mk hSi0) (fun _ _ _ _ h => h) (by rfl) rfl ?_
  go_big_quiet_op
  refine takeW 18 rfl (by kernel_rfl) (fun _ _ _ _ h => h) (by rfl) rfl ?_
  go_big_quiet_op
  refine takeW 19 rfl (by kernel_rfl) (fun _ _ _ _ h => h) (by rfl) rfl ?_
  go_big_quiet_op
  refine actM 20 rfl (by kernel_rfl) ?_
  intro K hK
  go_simp
  refine (seaMust_t 4 _).mono ?_
  rintro e w' ⟨rfl, hw'⟩
  obtain rfl := hw'.symm
  dsimp only
  refine hK _ _ (fun h => absurd h (by decide +kernel)) ?_
  clear hK K
  refine doneM (by kernel_rfl) ?_
  go_wp2_with fail
  obtain ⟨W1, hW0⟩ : ∃ y, W0.drew = y := ⟨_, rfl⟩
  have hs1 : Since w1 W1 := by rw [← hW0]; exact Since.drew hs0
  have hSi0 := (hS0 W1).2 hs1
  refine beginM (fun w' => ∃ x : HeldW S0, w' = x.w) (by kernel_rfl) ?_
  rw [hW0]
  clear hW0
  refine takeW 0 rfl (by kernel_rfl) (fun _ _ _ _ h => h) (by rfl) rfl ?_
  go_big_quiet_op
  refine takeW 1 rfl (by kernel_rfl) (fun _ _ _ _ h => h) (by rfl) rfl ?_
  go_big_quiet_op
  refine takeW 2 rfl (by kernel_rfl) (fun _ _ _ _ h => h) (by rfl) rfl ?_
  go_big_quiet_op
  refine takeW 3 rfl (by kernel_rfl) (fun _ _ _ _ h => h) (by rfl) rfl ?_
  go_big_quiet_op
  refine takeM 4 rfl (by kernel_rfl) (heldS_mk hSi0) (fun _ _ _ _ h => h) (by rfl) rfl ?_
  go_big_quiet_op
  refine takeW 5 rfl (by kernel_rfl) (fun _ _ _ _ h => h) (by rfl) rfl ?_
  go_big_quiet_op
  refine takeM 6 rfl (by kernel_rfl) (heldS_mk hSi0) (fun _ _ _ _ h => h) (by rfl) rfl ?_
  go_big_quiet_op
  refine takeW 7 rfl (by kernel_rfl) (fun _ _ _ _ h => h) (by rfl) rfl ?_
  go_big_quiet_op
  refine takeM 8 rfl (by kernel_rfl) (heldS_mk hSi0) (fun _ _ _ _ h => h) (by rfl) rfl ?_
  go_big_quiet_op
  refine actM 9 rfl (by kernel_rfl) ?_
  intro K hK
  go_simp
  refine (has_any _ _ _ d.groups _ _ W1 (hG.since (hS1.trans hs1))).mono ?_
  rw [hb4]
  rintro e w' ⟨rfl, hw'⟩
  obtain rfl := hw'.symm
  dsimp only
  refine hK _ _ (fun h => absurd h (by decide +kernel)) ?_
  clear hK K
  refine actM 10 rfl (by kernel_rfl) ?_
  intro K hK
  go_simp
  refine (seaMust_f 5 _).mono ?_
  rintro e w' ⟨rfl, hw'⟩
  obtain rfl := hw'.symm
  dsimp only
  exact ⟨rfl, rfl, hFIN _ (by first | assumption | exact hs0 | exact hs1 | exact hs2)⟩

set_option maxHeartbeats 1000000 in
theorem may_e (lo p : Nat) (m : Mg) (d : Wd) (L : Lay) (w : World) (k : Int) (hB : SeaB lo w p d L k) (hb1 : (decide (0 ≤ m.fr) && decide (m.fr < (d.nodes.length : Int))) = true) (hb2 : decide (0 ≤ m.gr) = true) (hb3 : decide (m.gr < (d.groups.length : Int)) = true) (hb4 : hasB d.groups m.gr m.fr = true) (hb5 : decide ((m.body.size : Int) ≤ 8) = false) :
    Calls Tryz.prog 142 #[.pointer (some ⟨p, 0, none⟩), .agg #[.int .i64 m.fr, .int .i64 m.gr, .int .i64 m.st, .bool m.nul, .string m.body]] w fun e w' => e = .panicked (pan 1) ∧ Since w w' := by
  have hpl := hB.made.box.lt
  have b0 := hB.made.box.c0
  have hG : Ints w (L (0, 0, 0)).a d.groups.length d.groups := hB.made.own.wat.g
  obtain ⟨w1, hw1⟩ : ∃ y, w.alloc (.cells #[.int .i64 m.fr, .int .i64 m.gr, .int .i64 m.st, .bool m.nul, .string m.body] 42) = y := ⟨_, rfl⟩
  have hS1 : Since w w1 := by rw [← hw1]; exact (Since.refl w).alloc _
  have hMb : MsgAt w1 w.heap.size 0 m := by rw [← hw1]; constructor <;> simp [go_sem]
  have hl1 : w.heap.size < w1.heap.size := by rw [← hw1]; simp
  obtain ⟨S0, hS0⟩ : ∃ S0 : World → Prop, ∀ w', S0 w' ↔ Since w1 w' := ⟨_, fun _ => Iff.rfl⟩
  have hneT := heldTrue w
  have x0 : ∀ y : HeldW S0, y.w.cell? ⟨p, 0, none⟩ = some (.slice (L (0, 0, 0)).a d.groups.length (L (0, 0, 0)).cap) := fun y => ((hS1.trans ((hS0 _).1 y.h)).cellAt hpl _).trans b0
  have m0 : ∀ y : HeldW S0, y.w.cell? ⟨w.heap.size, 0, none⟩ = some (.int .i64 m.fr) := fun y => (((hS0 _).1 y.h).cellAt hl1 _).trans hMb.c0
  have m1 : ∀ y : HeldW S0, y.w.cell? ⟨w.heap.size, 1, none⟩ = some (.int .i64 m.gr) := fun y => (((hS0 _).1 y.h).cellAt hl1 _).trans hMb.c1
  have m2 : ∀ y : HeldW S0, y.w.cell? ⟨w.heap.size, 2, none⟩ = some (.int .i64 m.st) := fun y => (((hS0 _).1 y.h).cellAt hl1 _).trans hMb.c2
  have m3 : ∀ y : HeldW S0, y.w.cell? ⟨w.heap.size, 3, none⟩ = some (.bool m.nul) := fun y => (((hS0 _).1 y.h).cellAt hl1 _).trans hMb.c3
  have m4 : ∀ y : HeldW S0, y.w.cell? ⟨w.heap.size, 4, none⟩ = some (.string m.body) := fun y => (((hS0 _).1 y.h).cellAt hl1 _).trans hMb.c4
  have hFIN : ∀ y, Since w1 y → Since w y := fun y hy => hS1.trans hy
  have b1 := hB.made.box.c1
  have x1 : ∀ y : HeldW S0, y.w.cell? ⟨p, 1, none⟩ = some (.slice (L (1, 0, 0)).a d.nodes.length (L (1, 0, 0)).cap) := fun y => ((hS1.trans ((hS0 _).1 y.h)).cellAt hpl _).trans b1
  clear hMb
  go_enter Tryz.func142, Tryz.ntmps142
  go_wp2_with fail
  obtain ⟨W0, hW0⟩ : ∃ y, w1.drew = y := ⟨_, rfl⟩
  have hs0 : Since w1 W0 := by rw [← hW0]; exact Since.drew (Since.refl _)
  have hSi0 := (hS0 W0).2 hs0
  have hne : Nonempty (HeldW S0) := ⟨⟨_, hSi0⟩⟩
  refine beginM (fun w' => ∃ x : HeldW S0, w' = x.w) (by kernel_rfl) ?_
  rw [hW0]
  clear hW0
  refine takeW 0 rfl (by kernel_rfl) (fun _ _ _ _ h => h) (by rfl) rfl ?_
  go_big_quiet_op
  refine takeW 1 rfl (by kernel_rfl) (fun _ _ _ _ h => h) (by rfl) rfl ?_
  go_big_quiet_op
  refine takeM 2 rfl (by kernel_rfl) (heldS_mk hSi0) (fun _ _ _ _ h => h) (by rfl) rfl ?_
  go_big_quiet_op
  refine actM 3 rfl (by kernel_rfl) ?_
  intro K hK
  go_simp
  refine (isNode_any p m.fr _ _ _ W0 (x1 ⟨_, hSi0⟩)).mono ?_
  rw [hb1]
  rintro e w' ⟨rfl, hw'⟩
  obtain rfl := hw'.symm
  dsimp only
  refine hK _ _ (fun _ _ => heldS_mk hSi0) ?_
  clear hK K
  refine takeW 4 rfl (by kernel_rfl) (fun _ _ _ _ h => h) (by rfl) rfl ?_
  go_big_quiet_op
  refine takeW 5 rfl (by kernel_rfl) (fun _ _ _ _ h => h) (by rfl) rfl ?_
  go_big_quiet_op
  refine takeM 6 rfl (by kernel_rfl) (heldS_mk hSi0) (fun _ _ _ _ h => h) (by rfl) rfl ?_
  go_big_quiet_op
  refine takeW 7 rfl (by kernel_rfl) (fun _ _ _ _ h => h) (by rfl) rfl ?_
  go_big_quiet_op
  refine takeW 8 rfl (by kernel_rfl) (fun _ _ _ _ h => h) (by rfl) rfl ?_
  go_big_quiet_op
  refine takeW 9 rfl (by kernel_rfl) (fun _ _ _ _ h => h) (by rfl) rfl ?_
  go_big_quiet_op
  refine takeW 10 rfl (by kernel_rfl) (fun _ _ _ _ h => h) (by rfl) rfl ?_
  go_big_quiet_op
  refine takeM 11 rfl (by kernel_rfl) (heldS_mk hSi0) (fun _ _ _ _ h => h) (by rfl) rfl ?_
  go_big_quiet_op
  refine takeW 12 rfl (by kernel_rfl) (fun _ _ _ _ h => h) (by rfl) rfl ?_
  go_big_quiet_op
  refine takeW 13 rfl (by kernel_rfl) (fun _ _ _ _ h => h) (by rfl) rfl ?_
  go_big_quiet_op
  refine takeW 14 rfl (by kernel_rfl) (fun _ _ _ _ h => h) (by rfl) rfl ?_
  go_big_quiet_op
  refine takeW 15 rfl (by kernel_rfl) (fun _ _ _ _ h => h) (by rfl) rfl ?_
  go_big_quiet_op
  refine takeM 16 rfl (by kernel_rfl) (heldS_mk hSi0) (fun _ _ _ _ h => h) (by rfl) rfl ?_
  go_big_quiet_op
  refine takeM 17 rfl (by kernel_rfl) (heldS_mk hSi0) (fun _ _ _ _ h => h) (by rfl) rfl ?_
  go_big_quiet_op
  refine takeW 18 rfl (by kernel_rfl) (fun _ _ _ _ h => h) (by rfl) rfl ?_
  go_big_quiet_op
  refine takeW 19 rfl (by kernel_rfl) (fun _ _ _ _ h => h) (by rfl) rfl ?_
  go_big_quiet_op
  refine actM 20 rfl (by kernel_rfl) ?_
  intro K hK
  go_simp
  refine (seaMust_t 4 _).mono ?_
  rintro e w' ⟨rfl, hw'⟩
  obtain rfl := hw'.symm
  dsimp only
  refine hK _ _ (fun h => absurd h (by decide +kernel)) ?_
  clear hK K
  refine doneM (by kernel_rfl) ?_
  go_wp2_with fail
  obtain ⟨W1, hW0⟩ : ∃ y, W0.drew = y := ⟨_, rfl⟩
  have hs1 : Since w1 W1 := by rw [← hW0]; exact Since.drew hs0
  have hSi0 := (hS0 W1).2 hs1
  refine beginM (fun w' => ∃ x : HeldW S0, w' = x.w) (by kernel_rfl) ?_
  rw [hW0]
  clear hW0
  refine takeW 0 rfl (by kernel_rfl) (fun _ _ _ _ h => h) (by rfl) rfl ?_
  go_big_quiet_op
  refine takeW 1 rfl (by kernel_rfl) (fun _ _ _ _ h => h) (by rfl) rfl ?_
  go_big_quiet_op
  refine takeW 2 rfl (by kernel_rfl) (fun _ _ _ _ h => h) (by rfl) rfl ?_
  go_big_quiet_op
  refine takeW 3 rfl (by kernel_rfl) (fun _ _ _ _ h => h) (by rfl) rfl ?_
  go_big_quiet_op
  refine takeM 4 rfl (by kernel_rfl) (heldS_mk hSi0) (fun _ _ _ _ h => h) (by rfl) rfl ?_
  go_big_quiet_op
  refine takeW 5 rfl (by kernel_rfl) (fun _ _ _ _ h => h) (by rfl) rfl ?_
  go_big_quiet_op
  refine takeM 6 rfl (by kernel_rfl) (heldS_mk hSi0) (fun _ _ _ _ h => h) (by rfl) rfl ?_
  go_big_quiet_op
  refine takeW 7 rfl (by kernel_rfl) (fun _ _ _ _ h => h) (by rfl) rfl ?_
  go_big_quiet_op
  refine takeM 8 rfl (by kernel_rfl) (heldS_mk hSi0) (fun _ _ _ _ h => h) (by rfl) rfl ?_
  go_big_quiet_op
  refine actM 9 rfl (by kernel_rfl) ?_
  intro K hK
  go_simp
  refine (has_any _ _ _ d.groups _ _ W1 (hG.since (hS1.trans hs1))).mono ?_
  rw [hb4]
  rintro e w' ⟨rfl, hw'⟩
  obtain rfl := hw'.symm
  dsimp only
  refine hK _ _ (fun h => absurd h (by decide +kernel)) ?_
  clear hK K
  refine actM 10 rfl (by kernel_rfl) ?_
  intro K hK
  go_simp
  refine (seaMust_t 5 _).mono ?_
  rintro e w' ⟨rfl, hw'⟩
  obtain rfl := hw'.symm
  dsimp only
  refine hK _ _ (fun h => absurd h (by decide +kernel)) ?_
  clear hK K
  refine doneM (by kernel_rfl) ?_
  have mb : W1.cell? ⟨w.heap.size, 4, none⟩ = some (.string m.body) := m4 ⟨_, hSi0⟩
  go_wp2_with (go_at_call 88; refine (seaMust_f 1 _).mono ?_; rintro e w' ⟨rfl, hw'⟩; obtain rfl := hw'.symm)
  exact ⟨rfl, rfl, hFIN _ hs1⟩

set_option maxHeartbeats 1000000 in
theorem may_f (lo p : Nat) (n : Nat) (gr st : Int) (nul : Bool) (body : ByteArray) (x : Nd) (d : Wd) (L : Lay) (w : World) (k : Int) (hB : SeaB lo w p d L k) (hx : d.nodes[n]? = some x) (hb1 : (decide (0 ≤ (n : Int)) && decide ((n : Int) < (d.nodes.length : Int))) = true) (hb2 : decide (0 ≤ gr) = true) (hb3 : decide (gr < (d.groups.length : Int)) = true) (hb4 : hasB d.groups gr (n : Int) = true) (hb5 : decide ((body.size : Int) ≤ 8) = true) (hb6 : decide (x.clock < 1048576) = false) :
    Calls Tryz.prog 142 #[.pointer (some ⟨p, 0, none⟩), .agg #[.int .i64 (n : Int), .int .i64 gr, .int .i64 st, .bool nul, .string body]] w fun e w' => e = .panicked (pan 3) ∧ Since w w' := by
  have hpl := hB.made.box.lt
  have b0 := hB.made.box.c0
  have hG : Ints w (L (0, 0, 0)).a d.groups.length d.groups := hB.made.own.wat.g
  obtain ⟨w1, hw1⟩ : ∃ y, w.alloc (.cells #[.int .i64 (n : Int), .int .i64 gr, .int .i64 st, .bool nul, .string body] 42) = y := ⟨_, rfl⟩
  have hS1 : Since w w1 := by rw [← hw1]; exact (Since.refl w).alloc _
  have hMb : MsgAt w1 w.heap.size 0 ⟨(n : Int), gr, st, nul, body⟩ := by rw [← hw1]; constructor <;> simp [go_sem]
  have hl1 : w.heap.size < w1.heap.size := by rw [← hw1]; simp
  obtain ⟨S0, hS0⟩ : ∃ S0 : World → Prop, ∀ w', S0 w' ↔ Since w1 w' := ⟨_, fun _ => Iff.rfl⟩
  have hneT := heldTrue w
  have x0 : ∀ y : HeldW S0, y.w.cell? ⟨p, 0, none⟩ = some (.slice (L (0, 0, 0)).a d.groups.length (L (0, 0, 0)).cap) := fun y => ((hS1.trans ((hS0 _).1 y.h)).cellAt hpl _).trans b0
  have m0 : ∀ y : HeldW S0, y.w.cell? ⟨w.heap.size, 0, none⟩ = some (.int .i64 (n : Int)) := fun y => (((hS0 _).1 y.h).cellAt hl1 _).trans hMb.c0
  have m1 : ∀ y : HeldW S0, y.w.cell? ⟨w.heap.size, 1, none⟩ = some (.int .i64 gr) := fun y => (((hS0 _).1 y.h).cellAt hl1 _).trans hMb.c1
  have m2 : ∀ y : HeldW S0, y.w.cell? ⟨w.heap.size, 2, none⟩ = some (.int .i64 st) := fun y => (((hS0 _).1 y.h).cellAt hl1 _).trans hMb.c2
  have m3 : ∀ y : HeldW S0, y.w.cell? ⟨w.heap.size, 3, none⟩ = some (.bool nul) := fun y => (((hS0 _).1 y.h).cellAt hl1 _).trans hMb.c3
  have m4 : ∀ y : HeldW S0, y.w.cell? ⟨w.heap.size, 4, none⟩ = some (.string body) := fun y => (((hS0 _).1 y.h).cellAt hl1 _).trans hMb.c4
  have hFIN : ∀ y, Since w1 y → Since w y := fun y hy => hS1.trans hy
  have hn := node_lt hx
  obtain ⟨bn, on, cn, hL1, _, hbn, _, _⟩ := hB.made.own.lies (ix := (1, 0, 0)) ⟨rfl, rfl⟩ (by show 0 < d.nodes.length; omega)
  obtain ⟨k0, _, _, _, _⟩ := hB.made.own.cells hx hL1
  have b1 := hB.made.box.c1
  rw [hL1] at b1
  dsimp only at b1
  clear hL1
  have x1 : ∀ y : HeldW S0, y.w.cell? ⟨p, 1, none⟩ = some (.slice (some ⟨bn, on, none⟩) d.nodes.length cn) := fun y => ((hS1.trans ((hS0 _).1 y.h)).cellAt hpl _).trans b1
  have x2 : ∀ y : HeldW S0, y.w.cell? ⟨bn, on + n * 4, none⟩ = some (.int .i64 x.clock) := fun y => ((hS1.trans ((hS0 _).1 y.h)).cellAt hbn _).trans k0
  have n1 : (n : Int) < (d.nodes.length : Int) := by omega
  clear hMb
  go_enter Tryz.func142, Tryz.ntmps142
  go_wp2_with fail
  obtain ⟨W0, hW0⟩ : ∃ y, w1.drew = y := ⟨_, rfl⟩
  have hs0 : Since w1 W0 := by rw [← hW0]; exact Since.drew (Since.refl _)
  have hSi0 := (hS0 W0).2 hs0
  have hne : Nonempty (HeldW S0) := ⟨⟨_, hSi0⟩⟩
  refine beginM (fun w' => ∃ x : HeldW S0, w' = x.w) (by kernel_rfl) ?_
  rw [hW0]
  clear hW0
  refine takeW 0 rfl (by kernel_rfl) (fun _ _ _ _ h => h) (by rfl) rfl ?_
  go_big_quiet_op
  refine takeW 1 rfl (by kernel_rfl) (fun _ _ _ _ h => h) (by rfl) rfl ?_
  go_big_quiet_op
  refine takeM 2 rfl (by kernel_rfl) (heldS_mk hSi0) (fun _ _ _ _ h => h) (by rfl) rfl ?_
  go_big_quiet_op
  refine actM 3 rfl (by kernel_rfl) ?_
  intro K hK
  go_simp
  refine (isNode_any p (n : Int) _ _ _ W0 (x1 ⟨_, hSi0⟩)).mono ?_
  rw [hb1]
  rintro e w' ⟨rfl, hw'⟩
  obtain rfl := hw'.symm
  dsimp only
  refine hK _ _ (fun _ _ => heldS_mk hSi0) ?_
  clear hK K
  refine takeW 4 rfl (by kernel_rfl) (fun _ _ _ _ h => h) (by rfl) rfl ?_
  go_big_quiet_op
  refine takeW 5 rfl (by kernel_rfl) (fun _ _ _ _ h => h) (by rfl) rfl ?_
  go_big_quiet_op
  refine takeM 6 rfl (by kernel_rfl) (heldS_mk hSi0) (fun _ _ _ _ h => h) (by rfl) rfl ?_
  go_big_quiet_op
  refine takeW 7 rfl (by kernel_rfl) (fun _ _ _ _ h => h) (by rfl) rfl ?_
  go_big_quiet_op
  refine takeW 8 rfl (by kernel_rfl) (fun _ _ _ _ h => h) (by rfl) rfl ?_
  go_big_quiet_op
  refine takeW 9 rfl (by kernel_rfl) (fun _ _ _ _ h => h) (by rfl) rfl ?_
  go_big_quiet_op
  refine takeW 10 rfl (by kernel_rfl) (fun _ _ _ _ h => h) (by rfl) rfl ?_
  go_big_quiet_op
  refine takeM 11 rfl (by kernel_rfl) (heldS_mk hSi0) (fun _ _ _ _ h => h) (by rfl) rfl ?_
  go_big_quiet_op
  refine takeW 12 rfl (by kernel_rfl) (fun _ _ _ _ h => h) (by rfl) rfl ?_
  go_big_quiet_op
  refine takeW 13 rfl (by kernel_rfl) (fun _ _ _ _ h => h) (by rfl) rfl ?_
  go_big_quiet_op
  refine takeW 14 rfl (by kernel_rfl) (fun _ _ _ _ h => h) (by rfl) rfl ?_
  go_big_quiet_op
  refine takeW 15 rfl (by kernel_rfl) (fun _ _ _ _ h => h) (by rfl) rfl ?_
  go_big_quiet_op
  refine takeM 16 rfl (by kernel_rfl) (heldS_mk hSi0) (fun _ _ _ _ h => h) (by rfl) rfl ?_
  go_big_quiet_op
  refine takeM 17 rfl (by kernel_rfl) (heldS_mk hSi0) (fun _ _ _ _ h => h) (by rfl) rfl ?_
  go_big_quiet_op
  refine takeW 18 rfl (by kernel_rfl) (fun _ _ _ _ h => h) (by rfl) rfl ?_
  go_big_quiet_op
  refine takeW 19 rfl (by kernel_rfl) (fun _ _ _ _ h => h) (by rfl) rfl ?_
  go_big_quiet_op
  refine actM 20 rfl (by kernel_rfl) ?_
  intro K hK
  go_simp
  refine (seaMust_t 4 _).mono ?_
  rintro e w' ⟨rfl, hw'⟩
  obtain rfl := hw'.symm
  dsimp only
  refine hK _ _ (fun h => absurd h (by decide +kernel)) ?_
  clear hK K
  refine doneM (by kernel_rfl) ?_
  go_wp2_with fail
  obtain ⟨W1, hW0⟩ : ∃ y, W0.drew = y := ⟨_, rfl⟩
  have hs1 : Since w1 W1 := by rw [← hW0]; exact Since.drew hs0
  have hSi0 := (hS0 W1).2 hs1
  refine beginM (fun w' => ∃ x : HeldW S0, w' = x.w) (by kernel_rfl) ?_
  rw [hW0]
  clear hW0
  refine takeW 0 rfl (by kernel_rfl) (fun _ _ _ _ h => h) (by rfl) rfl ?_
  go_big_quiet_op
  refine takeW 1 rfl (by kernel_rfl) (fun _ _ _ _ h => h) (by rfl) rfl ?_
  go_big_quiet_op
  refine takeW 2 rfl (by kernel_rfl) (fun _ _ _ _ h => h) (by rfl) rfl ?_
  go_big_quiet_op
  refine takeW 3 rfl (by kernel_rfl) (fun _ _ _ _ h => h) (by rfl) rfl ?_
  go_big_quiet_op
  refine takeM 4 rfl (by kernel_rfl) (heldS_mk hSi0) (fun _ _ _ _ h => h) (by rfl) rfl ?_
  go_big_quiet_op
  refine takeW 5 rfl (by kernel_rfl) (fun _ _ _ _ h => h) (by rfl) rfl ?_
  go_big_quiet_op
  refine takeM 6 rfl (by kernel_rfl) (heldS_mk hSi0) (fun _ _ _ _ h => h) (by rfl) rfl ?_
  go_big_quiet_op
  refine takeW 7 rfl (by kernel_rfl) (fun _ _ _ _ h => h) (by rfl) rfl ?_
  go_big_quiet_op
  refine takeM 8 rfl (by kernel_rfl) (heldS_mk hSi0) (fun _ _ _ _ h => h) (by rfl) rfl ?_
  go_big_quiet_op
  refine actM 9 rfl (by kernel_rfl) ?_
  intro K hK
  go_simp
  refine (has_any _ _ _ d.groups _ _ W1 (hG.since (hS1.trans hs1))).mono ?_
  rw [hb4]
  rintro e w' ⟨rfl, hw'⟩
  obtain rfl := hw'.symm
  dsimp only
  refine hK _ _ (fun h => absurd h (by decide +kernel)) ?_
  clear hK K
  refine actM 10 rfl (by kernel_rfl) ?_
  intro K hK
  go_simp
  refine (seaMust_t 5 _).mono ?_
  rintro e w' ⟨rfl, hw'⟩
  obtain rfl := hw'.symm
  dsimp only
  refine hK _ _ (fun h => absurd h (by decide +kernel)) ?_
  clear hK K
  refine doneM (by kernel_rfl) ?_
  have mb : W1.cell? ⟨w.heap.size, 4, none⟩ = some (.string body) := m4 ⟨_, hSi0⟩
  go_wp2_with (go_at_call 88; refine (seaMust_t 1 _).mono ?_; rintro e w' ⟨rfl, hw'⟩; obtain rfl := hw'.symm)
  obtain ⟨W2, hW0⟩ : ∃ y, W1.drew = y := ⟨_, rfl⟩
  have hs2 : Since w1 W2 := by rw [← hW0]; exact Since.drew hs1
  have hSi0 := (hS0 W2).2 hs2
  refine beginM (fun w' => ∃ x : HeldW S0, w' = x.w) (by kernel_rfl) ?_
  rw [hW0]
  clear hW0
  refine takeW 0 rfl (by kernel_rfl) (fun _ _ _ _ h => h) (by rfl) rfl ?_
  go_big_quiet_op
  refine takeW 1 rfl (by kernel_rfl) (fun _ _ _ _ h => h) (by rfl) rfl ?_
  go_big_quiet_op
  refine takeW 2 rfl (by kernel_rfl) (fun _ _ _ _ h => h) (by rfl) rfl ?_
  go_big_quiet_op
  refine takeW 3 rfl (by kernel_rfl) (fun _ _ _ _ h => h) (by rfl) rfl ?_
  go_big_quiet_op
  refine takeM 4 rfl (by kernel_rfl) (heldS_mk hSi0) (fun _ _ _ _ h => h) (by rfl) rfl ?_
  go_big_quiet_op
  refine takeW 5 rfl (by kernel_rfl) (fun _ _ _ _ h => h) (by rfl) rfl ?_
  go_big_quiet_op
  refine takeM 6 rfl (by kernel_rfl) (heldS_mk hSi0) (fun _ _ _ _ h => h) (by rfl) rfl ?_
  go_big_quiet_op
  refine takeW 7 rfl (by kernel_rfl) (fun _ _ _ _ h => h) (by rfl) rfl ?_
  go_big_quiet_op
  refine takeW 8 rfl (by kernel_rfl) (fun _ _ _ _ h => h) (by rfl) rfl ?_
  go_big_quiet_op
  refine takeM 9 rfl (by kernel_rfl) (heldS_mk hSi0) (fun _ _ _ _ h => h) (by rfl) rfl ?_
  go_big_quiet_op
  refine takeW 10 rfl (by kernel_rfl) (fun _ _ _ _ h => h) (by rfl) rfl ?_
  go_big_quiet_op
  refine actM 11 rfl (by kernel_rfl) ?_
  intro K hK
  go_simp
  refine (seaMust_f 3 _).mono ?_
  rintro e w' ⟨rfl, hw'⟩
  obtain rfl := hw'.symm
  dsimp only
  exact ⟨rfl, rfl, hFIN _ (by first | assumption | exact hs0 | exact hs1 | exact hs2)⟩

set_option maxHeartbeats 1000000 in
theorem may_g (lo p : Nat) (n : Nat) (gr st : Int) (nul : Bool) (body : ByteArray) (x : Nd) (d : Wd) (L : Lay) (w : World) (k : Int) (hB : SeaB lo w p d L k) (hx : d.nodes[n]? = some x) (hb1 : (decide (0 ≤ (n : Int)) && decide ((n : Int) < (d.nodes.length : Int))) = true) (hb2 : decide (0 ≤ gr) = true) (hb3 : decide (gr < (d.groups.length : Int)) = true) (hb4 : hasB d.groups gr (n : Int) = true) (hb5 : decide ((body.size : Int) ≤ 8) = true) (hb6 : decide (x.clock < 1048576) = true) :
    Calls Tryz.prog 142 #[.pointer (some ⟨p, 0, none⟩), .agg #[.int .i64 (n : Int), .int .i64 gr, .int .i64 st, .bool nul, .string body]] w fun e w' => e = .returned (.tuple #[]) ∧ Since w w' := by
  have hpl := hB.made.box.lt
  have b0 := hB.made.box.c0
  have hG : Ints w (L (0, 0, 0)).a d.groups.length d.groups := hB.made.own.wat.g
  obtain ⟨w1, hw1⟩ : ∃ y, w.alloc (.cells #[.int .i64 (n : Int), .int .i64 gr, .int .i64 st, .bool nul, .string body] 42) = y := ⟨_, rfl⟩
  have hS1 : Since w w1 := by rw [← hw1]; exact (Since.refl w).alloc _
  have hMb : MsgAt w1 w.heap.size 0 ⟨(n : Int), gr, st, nul, body⟩ := by rw [← hw1]; constructor <;> simp [go_sem]
  have hl1 : w.heap.size < w1.heap.size := by rw [← hw1]; simp
  obtain ⟨S0, hS0⟩ : ∃ S0 : World → Prop, ∀ w', S0 w' ↔ Since w1 w' := ⟨_, fun _ => Iff.rfl⟩
  have hneT := heldTrue w
  have x0 : ∀ y : HeldW S0, y.w.cell? ⟨p, 0, none⟩ = some (.slice (L (0, 0, 0)).a d.groups.length (L (0, 0, 0)).cap) := fun y => ((hS1.trans ((hS0 _).1 y.h)).cellAt hpl _).trans b0
  have m0 : ∀ y : HeldW S0, y.w.cell? ⟨w.heap.size, 0, none⟩ = some (.int .i64 (n : Int)) := fun y => (((hS0 _).1 y.h).cellAt hl1 _).trans hMb.c0
  have m1 : ∀ y : HeldW S0, y.w.cell? ⟨w.heap.size, 1, none⟩ = some (.int .i64 gr) := fun y => (((hS0 _).1 y.h).cellAt hl1 _).trans hMb.c1
  have m2 : ∀ y : HeldW S0, y.w.cell? ⟨w.heap.size, 2, none⟩ = some (.int .i64 st) := fun y => (((hS0 _).1 y.h).cellAt hl1 _).trans hMb.c2
  have m3 : ∀ y : HeldW S0, y.w.cell? ⟨w.heap.size, 3, none⟩ = some (.bool nul) := fun y => (((hS0 _).1 y.h).cellAt hl1 _).trans hMb.c3
  have m4 : ∀ y : HeldW S0, y.w.cell? ⟨w.heap.size, 4, none⟩ = some (.string body) := fun y => (((hS0 _).1 y.h).cellAt hl1 _).trans hMb.c4
  have hFIN : ∀ y, Since w1 y → Since w y := fun y hy => hS1.trans hy
  have hn := node_lt hx
  obtain ⟨bn, on, cn, hL1, _, hbn, _, _⟩ := hB.made.own.lies (ix := (1, 0, 0)) ⟨rfl, rfl⟩ (by show 0 < d.nodes.length; omega)
  obtain ⟨k0, _, _, _, _⟩ := hB.made.own.cells hx hL1
  have b1 := hB.made.box.c1
  rw [hL1] at b1
  dsimp only at b1
  clear hL1
  have x1 : ∀ y : HeldW S0, y.w.cell? ⟨p, 1, none⟩ = some (.slice (some ⟨bn, on, none⟩) d.nodes.length cn) := fun y => ((hS1.trans ((hS0 _).1 y.h)).cellAt hpl _).trans b1
  have x2 : ∀ y : HeldW S0, y.w.cell? ⟨bn, on + n * 4, none⟩ = some (.int .i64 x.clock) := fun y => ((hS1.trans ((hS0 _).1 y.h)).cellAt hbn _).trans k0
  have n1 : (n : Int) < (d.nodes.length : Int) := by omega
  clear hMb
  go_enter Tryz.func142, Tryz.ntmps142
  go_wp2_with fail
  obtain ⟨W0, hW0⟩ : ∃ y, w1.drew = y := ⟨_, rfl⟩
  have hs0 : Since w1 W0 := by rw [← hW0]; exact Since.drew (Since.refl _)
  have hSi0 := (hS0 W0).2 hs0
  have hne : Nonempty (HeldW S0) := ⟨⟨_, hSi0⟩⟩
  refine beginM (fun w' => ∃ x : HeldW S0, w' = x.w) (by kernel_rfl) ?_
  rw [hW0]
  clear hW0
  refine takeW 0 rfl (by kernel_rfl) (fun _ _ _ _ h => h) (by rfl) rfl ?_
  go_big_quiet_op
  refine takeW 1 rfl (by kernel_rfl) (fun _ _ _ _ h => h) (by rfl) rfl ?_
  go_big_quiet_op
  refine takeM 2 rfl (by kernel_rfl) (heldS_mk hSi0) (fun _ _ _ _ h => h) (by rfl) rfl ?_
  go_big_quiet_op
  refine actM 3 rfl (by kernel_rfl) ?_
  intro K hK
  go_simp
  refine (isNode_any p (n : Int) _ _ _ W0 (x1 ⟨_, hSi0⟩)).mono ?_
  rw [hb1]
  rintro e w' ⟨rfl, hw'⟩
  obtain rfl := hw'.symm
  dsimp only
  refine hK _ _ (fun _ _ => heldS_mk hSi0) ?_
  clear hK K
  refine takeW 4 rfl (by kernel_rfl) (fun _ _ _ _ h => h) (by rfl) rfl ?_
  go_big_quiet_op
  refine takeW 5 rfl (by kernel_rfl) (fun _ _ _ _ h => h) (by rfl) rfl ?_
  go_big_quiet_op
  refine takeM 6 rfl (by kernel_rfl) (heldS_mk hSi0) (fun _ _ _ _ h => h) (by rfl) rfl ?_
  go_big_quiet_op
  refine takeW 7 rfl (by kernel_rfl) (fun _ _ _ _ h => h) (by rfl) rfl ?_
  go_big_quiet_op
  refine takeW 8 rfl (by kernel_rfl) (fun _ _ _ _ h => h) (by rfl) rfl ?_
  go_big_quiet_op
  refine takeW 9 rfl (by kernel_rfl) (fun _ _ _ _ h => h) (by rfl) rfl ?_
  go_big_quiet_op
  refine takeW 10 rfl (by kernel_rfl) (fun _ _ _ _ h => h) (by rfl) rfl ?_
  go_big_quiet_op
  refine takeM 11 rfl (by kernel_rfl) (heldS_mk hSi0) (fun _ _ _ _ h => h) (by rfl) rfl ?_
  go_big_quiet_op
  refine takeW 12 rfl (by kernel_rfl) (fun _ _ _ _ h => h) (by rfl) rfl ?_
  go_big_quiet_op
  refine takeW 13 rfl (by kernel_rfl) (fun _ _ _ _ h => h) (by rfl) rfl ?_
  go_big_quiet_op
  refine takeW 14 rfl (by kernel_rfl) (fun _ _ _ _ h => h) (by rfl) rfl ?_
  go_big_quiet_op
  refine takeW 15 rfl (by kernel_rfl) (fun _ _ _ _ h => h) (by rfl) rfl ?_
  go_big_quiet_op
  refine takeM 16 rfl (by kernel_rfl) (heldS_mk hSi0) (fun _ _ _ _ h => h) (by rfl) rfl ?_
  go_big_quiet_op
  refine takeM 17 rfl (by kernel_rfl) (heldS_mk hSi0) (fun _ _ _ _ h => h) (by rfl) rfl ?_
  go_big_quiet_op
  refine takeW 18 rfl (by kernel_rfl) (fun _ _ _ _ h => h) (by rfl) rfl ?_
  go_big_quiet_op
  refine takeW 19 rfl (by kernel_rfl) (fun _ _ _ _ h => h) (by rfl) rfl ?_
  go_big_quiet_op
  refine actM 20 rfl (by kernel_rfl) ?_
  intro K hK
  go_simp
  refine (seaMust_t 4 _).mono ?_
  rintro e w' ⟨rfl, hw'⟩
  obtain rfl := hw'.symm
  dsimp only
  refine hK _ _ (fun h => absurd h (by decide +kernel)) ?_
  clear hK K
  refine doneM (by kernel_rfl) ?_
  go_wp2_with fail
  obtain ⟨W1, hW0⟩ : ∃ y, W0.drew = y := ⟨_, rfl⟩
  have hs1 : Since w1 W1 := by rw [← hW0]; exact Since.drew hs0
  have hSi0 := (hS0 W1).2 hs1
  refine beginM (fun w' => ∃ x : HeldW S0, w' = x.w) (by kernel_rfl) ?_
  rw [hW0]
  clear hW0
  refine takeW 0 rfl (by kernel_rfl) (fun _ _ _ _ h => h) (by rfl) rfl ?_
  go_big_quiet_op
  refine takeW 1 rfl (by kernel_rfl) (fun _ _ _ _ h => h) (by rfl) rfl ?_
  go_big_quiet_op
  refine takeW 2 rfl (by kernel_rfl) (fun _ _ _ _ h => h) (by rfl) rfl ?_
  go_big_quiet_op
  refine takeW 3 rfl (by kernel_rfl) (fun _ _ _ _ h => h) (by rfl) rfl ?_
  go_big_quiet_op
  refine takeM 4 rfl (by kernel_rfl) (heldS_mk hSi0) (fun _ _ _ _ h => h) (by rfl) rfl ?_
  go_big_quiet_op
  refine takeW 5 rfl (by kernel_rfl) (fun _ _ _ _ h => h) (by rfl) rfl ?_
  go_big_quiet_op
  refine takeM 6 rfl (by kernel_rfl) (heldS_mk hSi0) (fun _ _ _ _ h => h) (by rfl) rfl ?_
  go_big_quiet_op
  refine takeW 7 rfl (by kernel_rfl) (fun _ _ _ _ h => h) (by rfl) rfl ?_
  go_big_quiet_op
  refine takeM 8 rfl (by kernel_rfl) (heldS_mk hSi0) (fun _ _ _ _ h => h) (by rfl) rfl ?_
  go_big_quiet_op
  refine actM 9 rfl (by kernel_rfl) ?_
  intro K hK
  go_simp
  refine (has_any _ _ _ d.groups _ _ W1 (hG.since (hS1.trans hs1))).mono ?_
  rw [hb4]
  rintro e w' ⟨rfl, hw'⟩
  obtain rfl := hw'.symm
  dsimp only
  refine hK _ _ (fun h => absurd h (by decide +kernel)) ?_
  clear hK K
  refine actM 10 rfl (by kernel_rfl) ?_
  intro K hK
  go_simp
  refine (seaMust_t 5 _).mono ?_
  rintro e w' ⟨rfl, hw'⟩
  obtain rfl := hw'.symm
  dsimp only
  refine hK _ _ (fun h => absurd h (by decide +kernel)) ?_
  clear hK K
  refine doneM (by kernel_rfl) ?_
  have mb : W1.cell? ⟨w.heap.size, 4, none⟩ = some (.string body) := m4 ⟨_, hSi0⟩
  go_wp2_with (go_at_call 88; refine (seaMust_t 1 _).mono ?_; rintro e w' ⟨rfl, hw'⟩; obtain rfl := hw'.symm)
  obtain ⟨W2, hW0⟩ : ∃ y, W1.drew = y := ⟨_, rfl⟩
  have hs2 : Since w1 W2 := by rw [← hW0]; exact Since.drew hs1
  have hSi0 := (hS0 W2).2 hs2
  refine beginM (fun w' => ∃ x : HeldW S0, w' = x.w) (by kernel_rfl) ?_
  rw [hW0]
  clear hW0
  refine takeW 0 rfl (by kernel_rfl) (fun _ _ _ _ h => h) (by rfl) rfl ?_
  go_big_quiet_op
  refine takeW 1 rfl (by kernel_rfl) (fun _ _ _ _ h => h) (by rfl) rfl ?_
  go_big_quiet_op
  refine takeW 2 rfl (by kernel_rfl) (fun _ _ _ _ h => h) (by rfl) rfl ?_
  go_big_quiet_op
  refine takeW 3 rfl (by kernel_rfl) (fun _ _ _ _ h => h) (by rfl) rfl ?_
  go_big_quiet_op
  refine takeM 4 rfl (by kernel_rfl) (heldS_mk hSi0) (fun _ _ _ _ h => h) (by rfl) rfl ?_
  go_big_quiet_op
  refine takeW 5 rfl (by kernel_rfl) (fun _ _ _ _ h => h) (by rfl) rfl ?_
  go_big_quiet_op
  refine takeM 6 rfl (by kernel_rfl) (heldS_mk hSi0) (fun _ _ _ _ h => h) (by rfl) rfl ?_
  go_big_quiet_op
  refine takeW 7 rfl (by kernel_rfl) (fun _ _ _ _ h => h) (by rfl) rfl ?_
  go_big_quiet_op
  refine takeW 8 rfl (by kernel_rfl) (fun _ _ _ _ h => h) (by rfl) rfl ?_
  go_big_quiet_op
  refine takeM 9 rfl (by kernel_rfl) (heldS_mk hSi0) (fun _ _ _ _ h => h) (by rfl) rfl ?_
  go_big_quiet_op
  refine takeW 10 rfl (by kernel_rfl) (fun _ _ _ _ h => h) (by rfl) rfl ?_
  go_big_quiet_op
  refine actM 11 rfl (by kernel_rfl) ?_
  intro K hK
  go_simp
  refine (seaMust_t 3 _).mono ?_
  rintro e w' ⟨rfl, hw'⟩
  obtain rfl := hw'.symm
  dsimp only
  refine hK _ _ (fun h => absurd h (by decide +kernel)) ?_
  clear hK K
  refine doneM (by kernel_rfl) ?_
  clear x0 x1 x2 m0 m1 m2 m3 m4 hne hneT
  go_end0
  exact ⟨rfl, hFIN _ hs2⟩

/-- What cast.may answers. -/
theorem may_any (lo p : Nat) (m : Mg) (d : Wd) (L : Lay) (w : World) (k : Int) (hB : SeaB lo w p d L k) (R : Right d) :
    Calls Tryz.prog 142 #[.pointer (some ⟨p, 0, none⟩), .agg #[.int .i64 m.fr, .int .i64 m.gr, .int .i64 m.st, .bool m.nul, .string m.body]] w fun e w' =>
      Hid ((castE d m.fr m.gr m.body.size = 0 → e = .returned (.tuple #[])) ∧ (¬ castE d m.fr m.gr m.body.size = 0 → e = .panicked (pan (castE d m.fr m.gr m.body.size))) ∧ Since w w') := by
  cases b1 : (decide (0 ≤ m.fr) && decide (m.fr < (d.nodes.length : Int)))
  · have e : castE d m.fr m.gr m.body.size = 4 := by
      unfold castE
      rw [if_pos (.inl (by cases h : inB m.fr 0 ((d.nodes.length : Int) - 1); rfl; (have : 0 ≤ m.fr ∧ m.fr ≤ (d.nodes.length : Int) - 1 := by simpa [inB] using h); simp at b1; omega))]
    exact (may_a lo p m d L w k hB b1).mono fun _ _ ⟨he, hS⟩ => ⟨fun h => (by rw [e] at h; cases h), fun _ => by rw [e]; exact he, hS⟩
  · have hn1 : 0 ≤ m.fr ∧ m.fr < (d.nodes.length : Int) := by simpa using b1
    cases b2 : decide (0 ≤ m.gr)
    · have e : castE d m.fr m.gr m.body.size = 4 := by
        unfold castE
        rw [if_pos (.inr (by cases h : inB m.gr 0 ((d.groups.length : Int) - 1); rfl; (have : 0 ≤ m.gr ∧ m.gr ≤ (d.groups.length : Int) - 1 := by simpa [inB] using h); simp at b2; omega))]
      exact (may_b lo p m d L w k hB b1 b2).mono fun _ _ ⟨he, hS⟩ => ⟨fun h => (by rw [e] at h; cases h), fun _ => by rw [e]; exact he, hS⟩
    · cases b3 : decide (m.gr < (d.groups.length : Int))
      · have e : castE d m.fr m.gr m.body.size = 4 := by
          unfold castE
          rw [if_pos (.inr (by cases h : inB m.gr 0 ((d.groups.length : Int) - 1); rfl; (have : 0 ≤ m.gr ∧ m.gr ≤ (d.groups.length : Int) - 1 := by simpa [inB] using h); simp at b3; omega))]
        exact (may_c lo p m d L w k hB b1 b2 b3).mono fun _ _ ⟨he, hS⟩ => ⟨fun h => (by rw [e] at h; cases h), fun _ => by rw [e]; exact he, hS⟩
      · have h0 : ¬ (inB m.fr 0 ((d.nodes.length : Int) - 1) = false ∨ inB m.gr 0 ((d.groups.length : Int) - 1) = false) := by
          simp at b2 b3
          simp [inB]; omega
        cases b4 : hasB d.groups m.gr m.fr
        · have e : castE d m.fr m.gr m.body.size = 5 := by unfold castE; rw [if_neg h0, if_pos b4]
          exact (may_d lo p m d L w k hB b1 b2 b3 b4).mono fun _ _ ⟨he, hS⟩ => ⟨fun h => (by rw [e] at h; cases h), fun _ => by rw [e]; exact he, hS⟩
        · cases b5 : decide ((m.body.size : Int) ≤ 8)
          · have e : castE d m.fr m.gr m.body.size = 1 := by unfold castE; rw [if_neg h0, if_neg (by rw [b4]; simp), if_pos (by simp at b5; omega)]
            exact (may_e lo p m d L w k hB b1 b2 b3 b4 b5).mono fun _ _ ⟨he, hS⟩ => ⟨fun h => (by rw [e] at h; cases h), fun _ => by rw [e]; exact he, hS⟩
          · obtain ⟨n, hn⟩ : ∃ n : Nat, m.fr = (n : Int) := ⟨m.fr.toNat, by omega⟩
            obtain ⟨fr, gr, st, nul, body⟩ := m
            dsimp only at *
            subst hn
            obtain ⟨x, hx⟩ := node_at (d := d) (n := n) (by omega)
            have hck : clkAt d n = x.clock := (at_node hx).1
            have hcl := R.clk n
            rw [hck] at hcl
            cases b6 : decide (x.clock < 1048576)
            · have e : castE d (n : Int) gr body.size = 3 := by unfold castE; rw [if_neg h0, if_neg (by rw [b4]; simp), if_neg (by simp at b5; omega), if_pos (by rw [Int.toNat_natCast, hck]; simp at b6; omega)]
              exact (may_f lo p n gr st nul body x d L w k hB hx b1 b2 b3 b4 b5 b6).mono fun _ _ ⟨he, hS⟩ => ⟨fun h => (by rw [e] at h; cases h), fun _ => by rw [e]; exact he, hS⟩
            · have e : castE d (n : Int) gr body.size = 0 := by unfold castE; rw [if_neg h0, if_neg (by rw [b4]; simp), if_neg (by simp at b5; omega), if_neg (by rw [Int.toNat_natCast, hck]; simp at b6; omega)]
              exact (may_g lo p n gr st nul body x d L w k hB hx b1 b2 b3 b4 b5 b6).mono fun _ _ ⟨he, hS⟩ => ⟨fun _ => he, fun h => absurd e h, hS⟩
end Go.Proofs.YtiiifecfdkjmbaaGreat
