/- The head of the program's text: what its first words say, so that the rest of a long row need not be parted; no condition. -/
import Derived.Test.YtiiifecfdkjmbaaRows
import Derived.KernelRfl
import Derived.JoinedOf
namespace Go.Proofs.Ytiiifecfdkjmbaa
set_option maxRecDepth 8000
open Go.ChangeShapes Go.WideShapes
set_option linter.unusedVariables false
theorem wordsSigns_ne : ∀ l : List Char, wordsSigns l ≠ []
 | [] => by simp [wordsSigns]
 | c :: r => by
  by_cases h : c = Char.ofNat 32
  ·subst h; simp [wordsSigns]
  ·unfold wordsSigns
   split
   ·simp
   ·simp
   ·split <;> simp
theorem wordsSigns_app (b : List Char) : ∀ a : List Char, wordsSigns (a ++ Char.ofNat 32 :: b) = wordsSigns a ++ wordsSigns b
 | [] => by simp [wordsSigns]
 | c :: r => by
  have ih := wordsSigns_app b r
  by_cases h : c = Char.ofNat 32
  ·subst h
   show wordsSigns (Char.ofNat 32 :: (r ++ Char.ofNat 32 :: b)) = wordsSigns (Char.ofNat 32 :: r) ++ wordsSigns b
   simp only [wordsSigns, ih, List.cons_append]
  ·show wordsSigns (c :: (r ++ Char.ofNat 32 :: b)) = wordsSigns (c :: r) ++ wordsSigns b
   rw [wordsSigns.eq_3 c (r ++ Char.ofNat 32 :: b) h, wordsSigns.eq_3 c r h, ih]
   cases hr : wordsSigns r with
   | nil => exact absurd hr (wordsSigns_ne r)
   | cons w ws => rfl
theorem head_gen (L : List Char) (h1 : L.take 77 = L.take 76 ++ [Char.ofNat 32]) (h2 : ∀ R, behindMainWord (wordsSigns (L.take 76) ++ R) = "cut".toList :: R) : ∃ R, behindMainWord (wordsSigns L) = "cut".toList :: R := by
 have h : L = L.take 76 ++ Char.ofNat 32 :: L.drop 77 := by
  have h3 := List.take_append_drop 77 L
  rw [h1, List.append_assoc] at h3
  exact h3.symm
 have h4 := wordsSigns_app (L.drop 77) (L.take 76)
 rw [← h] at h4
 exact ⟨wordsSigns (L.drop 77), by rw [h4]; exact h2 _⟩
def initCs : List Char := ([104, 97, 114, 110, 101, 115, 115, 32, 49, 99, 99, 48, 99, 48, 55, 57, 97, 102, 97, 55, 101, 50, 53, 52, 52, 50, 50, 48, 51, 52, 102, 100, 53, 98, 53, 101, 50, 53, 56, 48, 51, 48, 49, 48, 102, 99, 98, 99, 51, 102, 48, 102, 50, 50, 53, 101, 100, 56, 49, 48, 54, 101, 48, 97, 55, 102, 53, 55, 100, 102, 56, 100, 32, 99, 117, 116, 32, 97, 116, 32, 102, 117, 114, 108, 111, 110, 103, 47, 102, 117, 114, 108, 111, 110, 103, 108, 97, 119, 46, 87, 111, 114, 108, 100, 84, 101, 108, 108, 115, 32, 102, 117, 114, 108, 111, 110, 103, 47, 102, 117, 114, 108, 111, 110, 103, 108, 97, 119, 46, 66, 111, 117, 110, 100, 79, 102, 32, 102, 117, 114, 108, 111, 110, 103, 47, 102, 117, 114, 108, 111, 110, 103, 108, 97, 119, 46, 66, 111, 117, 110, 100, 82, 101, 97, 100, 121, 32, 102, 117, 114, 108, 111, 110, 103, 47, 102, 117, 114, 108, 111, 110, 103, 108, 97, 119, 46, 66, 111, 117, 110, 100, 84, 114, 117, 101, 32, 102, 117, 114, 108, 111, 110, 103, 47, 102, 117, 114, 108, 111, 110, 103, 108, 97, 119, 46, 84, 101, 108, 108, 84, 101, 108, 108, 115, 32, 102, 117, 114, 108, 111, 110, 103, 47, 102, 117, 114, 108, 111, 110, 103, 108, 97, 119, 46, 84, 101, 108, 108, 84, 114, 117, 101, 32, 102, 117, 114, 108, 111, 110, 103, 47, 102, 117, 114, 108, 111, 110, 103, 108, 97, 119, 46, 67, 97, 115, 116, 84, 114, 117, 101, 32, 102, 117, 114, 108, 111, 110, 103, 47, 102, 117, 114, 108, 111, 110, 103, 108, 97, 119, 46, 67, 97, 117, 115, 101, 84, 114, 117, 101, 32, 102, 117, 114, 108, 111, 110, 103, 47, 102, 117, 114, 108, 111, 110, 103, 108, 97, 119, 46, 87, 105, 114, 101, 66, 97, 99, 107] : List Nat).map Char.ofNat
theorem init_eq : Try.prog.initOrder = String.ofList initCs := by kernel_rfl
theorem init_list : Try.prog.initOrder.toList = initCs := (congrArg String.toList init_eq).trans String.toList_ofList
theorem head_cs : ∃ R, behindMainWord (wordsSigns initCs) = "cut".toList :: R := head_gen _ (by kernel_rfl) (fun R => by kernel_rfl)
theorem head_ws : ∃ R, behindMainWord (wordsSigns Try.prog.initOrder.toList) = "cut".toList :: R := by rw [init_list]; exact head_cs
-- (stated of any program: 'unfold' at the program itself parts the whole row)
theorem strip_cut (R : List (List Char)) : stripLifts liftWords ("cut".toList :: R) = ([], "cut".toList :: R) := by kernel_rfl
theorem may_gen (P : Program) (R : List (List Char)) (h : behindMainWord (wordsSigns P.initOrder.toList) = "cut".toList :: R) (h1 : P.laysLater = false) (h2 : P.bearsReflect = false) (h3 : P.doorFits [] = true) : P.mayEnter = true := by
 unfold Program.mayEnter
 rw [h]
 simp only [strip_cut, h1, h2, h3]
 kernel_rfl
theorem lifts_gen (P : Program) (R : List (List Char)) (h : behindMainWord (wordsSigns P.initOrder.toList) = "cut".toList :: R) : P.liftsFinal = false := by
 unfold Program.liftsFinal Program.headLifts
 simp only [h, strip_cut]
 kernel_rfl
theorem make_gen (P : Program) (R : List (List Char)) (h : behindMainWord (wordsSigns P.initOrder.toList) = "cut".toList :: R) : P.make = some .cut := by
 unfold Program.make
 simp only [h]
 kernel_rfl
theorem may_t : Try.prog.mayEnter = true := by
 obtain ⟨R, h⟩ := head_ws
 exact may_gen _ R h (by kernel_rfl) (by kernel_rfl) (by kernel_rfl)
theorem lifts_f : Try.prog.liftsFinal = false := by
 obtain ⟨R, h⟩ := head_ws
 exact lifts_gen _ R h
theorem make_c : Try.prog.make = some .cut := by
 obtain ⟨R, h⟩ := head_ws
 exact make_gen _ R h
end Go.Proofs.Ytiiifecfdkjmbaa
