/- The head of the program's text: what its first words say, so that the rest of a long row need not be parted; no condition. -/
import Derived.Test.YtiiifecfdkjmbaaGreatRows
import Derived.KernelRfl
import Derived.JoinedOf
namespace Go.Proofs.YtiiifecfdkjmbaaGreat
set_option maxRecDepth 8000
open Go.ChangeShapes Go.WideShapes
set_option linter.unusedVariables false

theorem wordsSigns_ne : ∀ l : List Char, wordsSigns l ≠ []
  | [] => by simp [wordsSigns]
  | c :: r => by
    by_cases h : c = ' '
    · subst h; simp [wordsSigns]
    · unfold wordsSigns
      split
      · simp
      · simp
      · split <;> simp
theorem wordsSigns_app (b : List Char) : ∀ a : List Char, wordsSigns (a ++ ' ' :: b) = wordsSigns a ++ wordsSigns b
  | [] => by simp [wordsSigns]
  | c :: r => by
    have ih := wordsSigns_app b r
    by_cases h : c = ' '
    · subst h
      show wordsSigns (' ' :: (r ++ ' ' :: b)) = wordsSigns (' ' :: r) ++ wordsSigns b
      simp only [wordsSigns, ih, List.cons_append]
    · show wordsSigns (c :: (r ++ ' ' :: b)) = wordsSigns (c :: r) ++ wordsSigns b
      rw [wordsSigns.eq_3 c (r ++ ' ' :: b) h, wordsSigns.eq_3 c r h, ih]
      cases hr : wordsSigns r with
      | nil => exact absurd hr (wordsSigns_ne r)
      | cons w ws => rfl
theorem head_gen (L : List Char) (h1 : L.take 77 = L.take 76 ++ [' ']) (h2 : ∀ R, behindMainWord (wordsSigns (L.take 76) ++ R) = "cut".toList :: R) : ∃ R, behindMainWord (wordsSigns L) = "cut".toList :: R := by
  have h : L = L.take 76 ++ ' ' :: L.drop 77 := by
    have h3 := List.take_append_drop 77 L
    rw [h1, List.append_assoc] at h3
    exact h3.symm
  have h4 := wordsSigns_app (L.drop 77) (L.take 76)
  rw [← h] at h4
  exact ⟨wordsSigns (L.drop 77), by rw [h4]; exact h2 _⟩
/-- The row itself, letter by letter. -/
def initCs : List Char := ['h', 'a', 'r', 'n', 'e', 's', 's', ' ', '8', '5', '2', '4', 'd', '0', '7', '3', '5', '1', '0', '8', '6', '1', '7', '1', 'b', '4', '9', 'f', '5', 'f', 'b', 'f', 'e', '2', 'b', '2', '9', '6', '0', '9', 'e', 'b', '6', 'b', 'd', 'e', '7', 'd', '5', 'd', 'd', 'f', 'a', '4', 'b', '9', '9', '9', '2', '5', '1', 'e', '1', 'b', '9', 'c', '9', '5', 'c', '6', '8', '6', ' ', 'c', 'u', 't', ' ', 'a', 't', ' ', 'f', 'u', 'r', 'l', 'o', 'n', 'g', '/', 'f', 'u', 'r', 'l', 'o', 'n', 'g', 'l', 'a', 'w', '.', 'C', 'a', 's', 't', 'S', 'e', 'n', 'd', 's', ' ', 'f', 'u', 'r', 'l', 'o', 'n', 'g', '/', 'f', 'u', 'r', 'l', 'o', 'n', 'g', 'l', 'a', 'w', '.', 'C', 'a', 's', 't', 'N', 'u', 'l', 'l', 's', ' ', 'f', 'u', 'r', 'l', 'o', 'n', 'g', '/', 'f', 'u', 'r', 'l', 'o', 'n', 'g', 'l', 'a', 'w', '.', 'M', 'o', 'v', 'e', 'O', 'n', 'e', 's', ' ', 'f', 'u', 'r', 'l', 'o', 'n', 'g', '/', 'f', 'u', 'r', 'l', 'o', 'n', 'g', 'l', 'a', 'w', '.', 'M', 'o', 'v', 'e', 'W', 'i', 'r', 'e', 's', ' ', 'f', 'u', 'r', 'l', 'o', 'n', 'g', '/', 'f', 'u', 'r', 'l', 'o', 'n', 'g', 'l', 'a', 'w', '.', 'M', 'o', 'v', 'e', 'T', 'r', 'u', 'e', ' ', 'f', 'u', 'r', 'l', 'o', 'n', 'g', '/', 'f', 'u', 'r', 'l', 'o', 'n', 'g', 'l', 'a', 'w', '.', 'C', 'a', 'l', 'm', 'T', 'e', 'l', 'l', 's', ' ', 'f', 'u', 'r', 'l', 'o', 'n', 'g', '/', 'f', 'u', 'r', 'l', 'o', 'n', 'g', 'l', 'a', 'w', '.', 'C', 'a', 'l', 'm', 'C', 'a', 'l', 'm', 's', ' ', 'f', 'u', 'r', 'l', 'o', 'n', 'g', '/', 'f', 'u', 'r', 'l', 'o', 'n', 'g', 'l', 'a', 'w', '.', 'C', 'a', 'l', 'm', 'T', 'r', 'u', 'e', ' ', 'f', 'u', 'r', 'l', 'o', 'n', 'g', '/', 'f', 'u', 'r', 'l', 'o', 'n', 'g', 'l', 'a', 'w', '.', 'C', 'a', 'l', 'm', 'A', 'l', 'l', ' ', 'f', 'u', 'r', 'l', 'o', 'n', 'g', '/', 'f', 'u', 'r', 'l', 'o', 'n', 'g', 'l', 'a', 'w', '.', 'B', 'o', 'u', 'n', 'd', 'G', 'r', 'o', 'w', 's', ' ', 'f', 'u', 'r', 'l', 'o', 'n', 'g', '/', 'f', 'u', 'r', 'l', 'o', 'n', 'g', 'l', 'a', 'w', '.', 'A', 'g', 'r', 'e', 'e', 'T', 'e', 'l', 'l', 's', ' ', 'f', 'u', 'r', 'l', 'o', 'n', 'g', '/', 'f', 'u', 'r', 'l', 'o', 'n', 'g', 'l', 'a', 'w', '.', 'A', 'g', 'r', 'e', 'e', 'A', 'l', 'l', ' ', 'f', 'u', 'r', 'l', 'o', 'n', 'g', '/', 'f', 'u', 'r', 'l', 'o', 'n', 'g', 'l', 'a', 'w', '.', 'A', 'g', 'r', 'e', 'e', 'O', 'r', 'd', 'e', 'r', ' ', 'f', 'u', 'r', 'l', 'o', 'n', 'g', '/', 'f', 'u', 'r', 'l', 'o', 'n', 'g', 'l', 'a', 'w', '.', 'A', 'g', 'r', 'e', 'e', 'G', 'r', 'o', 'w', 's', ' ', 'f', 'u', 'r', 'l', 'o', 'n', 'g', '/', 'f', 'u', 'r', 'l', 'o', 'n', 'g', 'l', 'a', 'w', '.', 'A', 'g', 'r', 'e', 'e', 'S', 'a', 'f', 'e', ' ', 'f', 'u', 'r', 'l', 'o', 'n', 'g', '/', 'f', 'u', 'r', 'l', 'o', 'n', 'g', 'l', 'a', 'w', '.', 'L', 'o', 'g', 'D', 'o', 'e', 's', ' ', 'f', 'u', 'r', 'l', 'o', 'n', 'g', '/', 'f', 'u', 'r', 'l', 'o', 'n', 'g', 'l', 'a', 'w', '.', 'L', 'o', 'g', 'R', 'e', 'p', 'l', 'a', 'y', 's', ' ', 'f', 'u', 'r', 'l', 'o', 'n', 'g', '/', 'f', 'u', 'r', 'l', 'o', 'n', 'g', 'l', 'a', 'w', '.', 'L', 'o', 'g', 'R', 'e', 'c', 'o', 'v', 'e', 'r', 's', ' ', 'f', 'u', 'r', 'l', 'o', 'n', 'g', '/', 'f', 'u', 'r', 'l', 'o', 'n', 'g', 'l', 'a', 'w', '.', 'L', 'o', 'g', 'K', 'e', 'p', 't', ' ', 'f', 'u', 'r', 'l', 'o', 'n', 'g', '/', 'f', 'u', 'r', 'l', 'o', 'n', 'g', 'l', 'a', 'w', '.', 'L', 'o', 'g', 'M', 'o', 'r', 'e', ' ', 'f', 'u', 'r', 'l', 'o', 'n', 'g', '/', 'f', 'u', 'r', 'l', 'o', 'n', 'g', 'l', 'a', 'w', '.', 'L', 'o', 'g', 'R', 'i', 'g', 'h', 't', ' ', 'f', 'u', 'r', 'l', 'o', 'n', 'g', '/', 'f', 'u', 'r', 'l', 'o', 'n', 'g', 'l', 'a', 'w', '.', 'C', 'a', 'u', 's', 'e', 'M', 'a', 'r', 'k', 's', ' ', 'f', 'u', 'r', 'l', 'o', 'n', 'g', '/', 'f', 'u', 'r', 'l', 'o', 'n', 'g', 'l', 'a', 'w', '.', 'C', 'a', 'u', 's', 'e', 'T', 'o', 'l', 'd', ' ', 'f', 'u', 'r', 'l', 'o', 'n', 'g', '/', 'f', 'u', 'r', 'l', 'o', 'n', 'g', 'l', 'a', 'w', '.', 'W', 'i', 'r', 'e', 'W', 'r', 'i', 't', 'e', 's', ' ', 'f', 'u', 'r', 'l', 'o', 'n', 'g', '/', 'f', 'u', 'r', 'l', 'o', 'n', 'g', 'l', 'a', 'w', '.', 'R', 'e', 's', 't', 'W', 'o', 'r', 'l', 'd', 's']
theorem init_eq : Tryz.prog.initOrder = String.ofList initCs := by kernel_rfl
theorem init_list : Tryz.prog.initOrder.toList = initCs := (congrArg String.toList init_eq).trans String.toList_ofList
theorem head_cs : ∃ R, behindMainWord (wordsSigns initCs) = "cut".toList :: R := head_gen _ (by kernel_rfl) (fun R => by kernel_rfl)
theorem head_ws : ∃ R, behindMainWord (wordsSigns Tryz.prog.initOrder.toList) = "cut".toList :: R := by rw [init_list]; exact head_cs
-- (stated of any program: 'unfold' at the program itself parts the whole row)
theorem strip_cut (R : List (List Char)) : stripLifts liftWords ("cut".toList :: R) = ([], "cut".toList :: R) := by kernel_rfl
theorem may_gen (P : Program) (R : List (List Char)) (h : behindMainWord (wordsSigns P.initOrder.toList) = "cut".toList :: R) (h1 : P.laysLater = false) (h2 : P.bearsReflect = false) (h3 : P.doorFits [] = true) : P.mayEnter = true := by
  unfold Program.mayEnter
  rw [h]
  simp only [strip_cut, h1, h2, h3]
  kernel_rfl
theorem lifts_gen (P : Program) (R : List (List Char)) (h : behindMainWord (wordsSigns P.initOrder.toList) = "cut".toList :: R) : P.liftsFinal = false := by
  unfold Program.liftsFinal Program.headLifts
  simp only [h, strip_cut]
  kernel_rfl
theorem make_gen (P : Program) (R : List (List Char)) (h : behindMainWord (wordsSigns P.initOrder.toList) = "cut".toList :: R) : P.make = some .cut := by
  unfold Program.make
  simp only [h]
  kernel_rfl
theorem may_t : Tryz.prog.mayEnter = true := by
  obtain ⟨R, h⟩ := head_ws
  exact may_gen _ R h (by kernel_rfl) (by kernel_rfl) (by kernel_rfl)
theorem lifts_f : Tryz.prog.liftsFinal = false := by
  obtain ⟨R, h⟩ := head_ws
  exact lifts_gen _ R h
theorem make_c : Tryz.prog.make = some .cut := by
  obtain ⟨R, h⟩ := head_ws
  exact make_gen _ R h
end Go.Proofs.YtiiifecfdkjmbaaGreat
