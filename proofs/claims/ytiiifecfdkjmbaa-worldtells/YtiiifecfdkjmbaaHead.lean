/- The head of the program's text: what its first words say, so that the rest of a long row need not be parted; no condition. -/
import Derived.Test.YtiiifecfdkjmbaaRows
import Derived.KernelRfl
import Derived.JoinedOf
namespace Go.Proofs.Ytiiifecfdkjmbaa
set_option maxRecDepth 8000
open Go.ChangeShapes Go.WideShapes
set_option linter.unusedVariables false

theorem wordsSigns_ne : ∀ l : List Char, wordsSigns l ≠ []
  | [] => by simp [wordsSigns]
  | c :: r => by
    by_cases h : c = ' '
    · subst h; simp [wordsSigns]
    · unfold wordsSigns
      split
      · simp
      · simp
      · split <;> simp
theorem wordsSigns_app (b : List Char) : ∀ a : List Char, wordsSigns (a ++ ' ' :: b) = wordsSigns a ++ wordsSigns b
  | [] => by simp [wordsSigns]
  | c :: r => by
    have ih := wordsSigns_app b r
    by_cases h : c = ' '
    · subst h
      show wordsSigns (' ' :: (r ++ ' ' :: b)) = wordsSigns (' ' :: r) ++ wordsSigns b
      simp only [wordsSigns, ih, List.cons_append]
    · show wordsSigns (c :: (r ++ ' ' :: b)) = wordsSigns (c :: r) ++ wordsSigns b
      rw [wordsSigns.eq_3 c (r ++ ' ' :: b) h, wordsSigns.eq_3 c r h, ih]
      cases hr : wordsSigns r with
      | nil => exact absurd hr (wordsSigns_ne r)
      | cons w ws => rfl
theorem head_gen (L : List Char) (h1 : L.take 77 = L.take 76 ++ [' ']) (h2 : ∀ R, behindMainWord (wordsSigns (L.take 76) ++ R) = "cut".toList :: R) : ∃ R, behindMainWord (wordsSigns L) = "cut".toList :: R := by
  have h : L = L.take 76 ++ ' ' :: L.drop 77 := by
    have h3 := List.take_append_drop 77 L
    rw [h1, List.append_assoc] at h3
    exact h3.symm
  have h4 := wordsSigns_app (L.drop 77) (L.take 76)
  rw [← h] at h4
  exact ⟨wordsSigns (L.drop 77), by rw [h4]; exact h2 _⟩
/-- The row itself, letter by letter. -/
def initCs : List Char := ['h', 'a', 'r', 'n', 'e', 's', 's', ' ', '1', 'c', 'c', '0', 'c', '0', '7', '9', 'a', 'f', 'a', '7', 'e', '2', '5', '4', '4', '2', '2', '0', '3', '4', 'f', 'd', '5', 'b', '5', 'e', '2', '5', '8', '0', '3', '0', '1', '0', 'f', 'c', 'b', 'c', '3', 'f', '0', 'f', '2', '2', '5', 'e', 'd', '8', '1', '0', '6', 'e', '0', 'a', '7', 'f', '5', '7', 'd', 'f', '8', 'd', ' ', 'c', 'u', 't', ' ', 'a', 't', ' ', 'f', 'u', 'r', 'l', 'o', 'n', 'g', '/', 'f', 'u', 'r', 'l', 'o', 'n', 'g', 'l', 'a', 'w', '.', 'W', 'o', 'r', 'l', 'd', 'T', 'e', 'l', 'l', 's', ' ', 'f', 'u', 'r', 'l', 'o', 'n', 'g', '/', 'f', 'u', 'r', 'l', 'o', 'n', 'g', 'l', 'a', 'w', '.', 'B', 'o', 'u', 'n', 'd', 'O', 'f', ' ', 'f', 'u', 'r', 'l', 'o', 'n', 'g', '/', 'f', 'u', 'r', 'l', 'o', 'n', 'g', 'l', 'a', 'w', '.', 'B', 'o', 'u', 'n', 'd', 'R', 'e', 'a', 'd', 'y', ' ', 'f', 'u', 'r', 'l', 'o', 'n', 'g', '/', 'f', 'u', 'r', 'l', 'o', 'n', 'g', 'l', 'a', 'w', '.', 'B', 'o', 'u', 'n', 'd', 'T', 'r', 'u', 'e', ' ', 'f', 'u', 'r', 'l', 'o', 'n', 'g', '/', 'f', 'u', 'r', 'l', 'o', 'n', 'g', 'l', 'a', 'w', '.', 'T', 'e', 'l', 'l', 'T', 'e', 'l', 'l', 's', ' ', 'f', 'u', 'r', 'l', 'o', 'n', 'g', '/', 'f', 'u', 'r', 'l', 'o', 'n', 'g', 'l', 'a', 'w', '.', 'T', 'e', 'l', 'l', 'T', 'r', 'u', 'e', ' ', 'f', 'u', 'r', 'l', 'o', 'n', 'g', '/', 'f', 'u', 'r', 'l', 'o', 'n', 'g', 'l', 'a', 'w', '.', 'C', 'a', 's', 't', 'T', 'r', 'u', 'e', ' ', 'f', 'u', 'r', 'l', 'o', 'n', 'g', '/', 'f', 'u', 'r', 'l', 'o', 'n', 'g', 'l', 'a', 'w', '.', 'C', 'a', 'u', 's', 'e', 'T', 'r', 'u', 'e', ' ', 'f', 'u', 'r', 'l', 'o', 'n', 'g', '/', 'f', 'u', 'r', 'l', 'o', 'n', 'g', 'l', 'a', 'w', '.', 'W', 'i', 'r', 'e', 'B', 'a', 'c', 'k']
theorem init_eq : Try.prog.initOrder = String.ofList initCs := by kernel_rfl
theorem init_list : Try.prog.initOrder.toList = initCs := (congrArg String.toList init_eq).trans String.toList_ofList
theorem head_cs : ∃ R, behindMainWord (wordsSigns initCs) = "cut".toList :: R := head_gen _ (by kernel_rfl) (fun R => by kernel_rfl)
theorem head_ws : ∃ R, behindMainWord (wordsSigns Try.prog.initOrder.toList) = "cut".toList :: R := by rw [init_list]; exact head_cs
-- (stated of any program: 'unfold' at the program itself parts the whole row)
theorem strip_cut (R : List (List Char)) : stripLifts liftWords ("cut".toList :: R) = ([], "cut".toList :: R) := by kernel_rfl
theorem may_gen (P : Program) (R : List (List Char)) (h : behindMainWord (wordsSigns P.initOrder.toList) = "cut".toList :: R) (h1 : P.laysLater = false) (h2 : P.bearsReflect = false) (h3 : P.doorFits [] = true) : P.mayEnter = true := by
  unfold Program.mayEnter
  rw [h]
  simp only [strip_cut, h1, h2, h3]
  kernel_rfl
theorem lifts_gen (P : Program) (R : List (List Char)) (h : behindMainWord (wordsSigns P.initOrder.toList) = "cut".toList :: R) : P.liftsFinal = false := by
  unfold Program.liftsFinal Program.headLifts
  simp only [h, strip_cut]
  kernel_rfl
theorem make_gen (P : Program) (R : List (List Char)) (h : behindMainWord (wordsSigns P.initOrder.toList) = "cut".toList :: R) : P.make = some .cut := by
  unfold Program.make
  simp only [h]
  kernel_rfl
theorem may_t : Try.prog.mayEnter = true := by
  obtain ⟨R, h⟩ := head_ws
  exact may_gen _ R h (by kernel_rfl) (by kernel_rfl) (by kernel_rfl)
theorem lifts_f : Try.prog.liftsFinal = false := by
  obtain ⟨R, h⟩ := head_ws
  exact lifts_gen _ R h
theorem make_c : Try.prog.make = some .cut := by
  obtain ⟨R, h⟩ := head_ws
  exact make_gen _ R h
end Go.Proofs.Ytiiifecfdkjmbaa
