/- The head of the program's text: what its first words say, so that the rest of a long row need not be parted; no condition. -/
import Derived.Test.YtiiifecfdkjmbaaGreatRows
import Derived.KernelRfl
import Derived.JoinedOf
namespace Go.Proofs.YtiiifecfdkjmbaaGreat
set_option maxRecDepth 8000
open Go.ChangeShapes Go.WideShapes
set_option linter.unusedVariables false
theorem AV:∀ l:List Char,wordsSigns l≠[]
 | []=>by simp [wordsSigns]
 | c::r=>by
  by_cases h:c=Char.ofNat 32
  ·subst h;simp [wordsSigns]
  ·unfold wordsSigns
   split
   ·simp
   ·simp
   ·split <;> simp
theorem qV (b:List Char):∀ a:List Char,wordsSigns (a++Char.ofNat 32::b)=wordsSigns a++wordsSigns b
 | []=>by simp [wordsSigns]
 | c::r=>by
  have ih:=qV b r
  by_cases h:c=Char.ofNat 32
  ·subst h
   show wordsSigns (Char.ofNat 32::(r++Char.ofNat 32::b))=wordsSigns (Char.ofNat 32::r)++wordsSigns b
   simp only [wordsSigns,ih,List.cons_append]
  ·show wordsSigns (c::(r++Char.ofNat 32::b))=wordsSigns (c::r)++wordsSigns b
   rw [wordsSigns.eq_3 c (r++Char.ofNat 32::b) h,wordsSigns.eq_3 c r h,ih]
   cases hr:wordsSigns r with
   | nil=>exact absurd hr (AV r)
   | cons w ws=>rfl
theorem KY (L : List Char) (h1 : L.take 77 = L.take 76 ++ [Char.ofNat 32]) (h2 : ∀ R, behindMainWord (wordsSigns (L.take 76) ++ R) = "cut".toList :: R) : ∃ R, behindMainWord (wordsSigns L) = "cut".toList :: R := by
 have h:L=L.take 76++Char.ofNat 32::L.drop 77:=by
  have h3:=List.take_append_drop 77 L
  rw [h1,List.append_assoc] at h3
  exact h3.symm
 have h4:=qV (L.drop 77) (L.take 76)
 rw [←h] at h4
 exact ⟨wordsSigns (L.drop 77),by rw [h4];exact h2 _⟩
def Gs:List Char:=([104,97,114,110,101,115,115,32,56,53,50,52,100,48,55,51,53,49,48,56,54,49,55,49,98,52,57,102,53,102,98,102,101,50,98,50,57,54,48,57,101,98,54,98,100,101,55,100,53,100,100,102,97,52,98,57,57,57,50,53,49,101,49,98,57,99,57,53,99,54,56,54,32,99,117,116,32,97,116,32,102,117,114,108,111,110,103,47,102,117,114,108,111,110,103,108,97,119,46,67,97,115,116,83,101,110,100,115,32,102,117,114,108,111,110,103,47,102,117,114,108,111,110,103,108,97,119,46,67,97,115,116,78,117,108,108,115,32,102,117,114,108,111,110,103,47,102,117,114,108,111,110,103,108,97,119,46,77,111,118,101,79,110,101,115,32,102,117,114,108,111,110,103,47,102,117,114,108,111,110,103,108,97,119,46,77,111,118,101,87,105,114,101,115,32,102,117,114,108,111,110,103,47,102,117,114,108,111,110,103,108,97,119,46,77,111,118,101,84,114,117,101,32,102,117,114,108,111,110,103,47,102,117,114,108,111,110,103,108,97,119,46,67,97,108,109,84,101,108,108,115,32,102,117,114,108,111,110,103,47,102,117,114,108,111,110,103,108,97,119,46,67,97,108,109,67,97,108,109,115,32,102,117,114,108,111,110,103,47,102,117,114,108,111,110,103,108,97,119,46,67,97,108,109,84,114,117,101,32,102,117,114,108,111,110,103,47,102,117,114,108,111,110,103,108,97,119,46,67,97,108,109,65,108,108,32,102,117,114,108,111,110,103,47,102,117,114,108,111,110,103,108,97,119,46,66,111,117,110,100,71,114,111,119,115,32,102,117,114,108,111,110,103,47,102,117,114,108,111,110,103,108,97,119,46,65,103,114,101,101,84,101,108,108,115,32,102,117,114,108,111,110,103,47,102,117,114,108,111,110,103,108,97,119,46,65,103,114,101,101,65,108,108,32,102,117,114,108,111,110,103,47,102,117,114,108,111,110,103,108,97,119,46,65,103,114,101,101,79,114,100,101,114,32,102,117,114,108,111,110,103,47,102,117,114,108,111,110,103,108,97,119,46,65,103,114,101,101,71,114,111,119,115,32,102,117,114,108,111,110,103,47,102,117,114,108,111,110,103,108,97,119,46,65,103,114,101,101,83,97,102,101,32,102,117,114,108,111,110,103,47,102,117,114,108,111,110,103,108,97,119,46,76,111,103,68,111,101,115,32,102,117,114,108,111,110,103,47,102,117,114,108,111,110,103,108,97,119,46,76,111,103,82,101,112,108,97,121,115,32,102,117,114,108,111,110,103,47,102,117,114,108,111,110,103,108,97,119,46,76,111,103,82,101,99,111,118,101,114,115,32,102,117,114,108,111,110,103,47,102,117,114,108,111,110,103,108,97,119,46,76,111,103,75,101,112,116,32,102,117,114,108,111,110,103,47,102,117,114,108,111,110,103,108,97,119,46,76,111,103,77,111,114,101,32,102,117,114,108,111,110,103,47,102,117,114,108,111,110,103,108,97,119,46,76,111,103,82,105,103,104,116,32,102,117,114,108,111,110,103,47,102,117,114,108,111,110,103,108,97,119,46,67,97,117,115,101,77,97,114,107,115,32,102,117,114,108,111,110,103,47,102,117,114,108,111,110,103,108,97,119,46,67,97,117,115,101,84,111,108,100,32,102,117,114,108,111,110,103,47,102,117,114,108,111,110,103,108,97,119,46,87,105,114,101,87,114,105,116,101,115,32,102,117,114,108,111,110,103,47,102,117,114,108,111,110,103,108,97,119,46,82,101,115,116,87,111,114,108,100,115]:List Nat).map Char.ofNat
theorem MV:Tryz.prog.initOrder=String.ofList Gs:=by kernel_rfl
theorem JB:Tryz.prog.initOrder.toList=Gs:=(congrArg String.toList MV).trans String.toList_ofList
theorem MW : ∃ R, behindMainWord (wordsSigns Gs) = "cut".toList :: R := KY _ (by kernel_rfl) (fun R => by kernel_rfl)
theorem CG : ∃ R, behindMainWord (wordsSigns Tryz.prog.initOrder.toList) = "cut".toList :: R := by rw [JB]; exact MW
-- (stated of any program: 'unfold' at the program itself parts the whole row)
theorem BJ (R : List (List Char)) : stripLifts liftWords ("cut".toList :: R) = ([], "cut".toList :: R) := by kernel_rfl
theorem MX (P : Program) (R : List (List Char)) (h : behindMainWord (wordsSigns P.initOrder.toList) = "cut".toList :: R) (h1 : P.laysLater = false) (h2 : P.bearsReflect = false) (h3 : P.doorFits [] = true) : P.mayEnter = true := by
 unfold Program.mayEnter
 rw [h]
 simp only [BJ,h1,h2,h3]
 kernel_rfl
theorem JC (P : Program) (R : List (List Char)) (h : behindMainWord (wordsSigns P.initOrder.toList) = "cut".toList :: R) : P.liftsFinal = false := by
 unfold Program.liftsFinal Program.headLifts
 simp only [h,BJ]
 kernel_rfl
theorem KZ (P : Program) (R : List (List Char)) (h : behindMainWord (wordsSigns P.initOrder.toList) = "cut".toList :: R) : P.make = some .cut := by
 unfold Program.make
 simp only [h]
 kernel_rfl
theorem BF:Tryz.prog.mayEnter=true:=by
 obtain ⟨R,h⟩:=CG
 exact MX _ R h (by kernel_rfl) (by kernel_rfl) (by kernel_rfl)
theorem sM:Tryz.prog.liftsFinal=false:=by
 obtain ⟨R,h⟩:=CG
 exact JC _ R h
theorem wS:Tryz.prog.make=some .cut:=by
 obtain ⟨R,h⟩:=CG
 exact KZ _ R h
end Go.Proofs.YtiiifecfdkjmbaaGreat
