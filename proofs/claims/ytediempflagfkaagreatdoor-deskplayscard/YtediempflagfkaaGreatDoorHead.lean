/- Lemmas. -/
import Derived.Test.YtediempflagfkaaGreatDoorAl
import Derived.Test.YtediempflagfkaaGreatDoorRows
import Derived.KernelRfl
import Derived.JoinedOf
set_option linter.unusedVariables false
set_option linter.unusedSimpArgs false
set_option linter.unnecessarySimpa false
namespace Go.Proofs.YtediempflagfkaaGreatDoor
open _root_.Go.Proofs.Tryz hiding checked
set_option maxRecDepth 8000
open Go.ChangeShapes Go.WideShapes
theorem CS:∀l:List Char,wordsSigns l≠[]
 | []=>by simp[wordsSigns]
 | c::r=>by
  by_cases h:c=Char.ofNat 32
  ·subst h;simp[wordsSigns]
  ·unfold wordsSigns;split
   ·simp
   ·simp
   ·split <;> simp
theorem tJ(b:List Char):∀a:List Char,wordsSigns (a++Char.ofNat 32::b)=wordsSigns a++wordsSigns b
 | []=>by simp[wordsSigns]
 | c::r=>by
  have ih:=tJ b r;by_cases h:c=Char.ofNat 32
  ·subst h;show wordsSigns (Char.ofNat 32::(r++Char.ofNat 32::b))=wordsSigns (Char.ofNat 32::r)++wordsSigns b;simp only[wordsSigns,ih,List.cons_append]
  ·show wordsSigns (c::(r++Char.ofNat 32::b))=wordsSigns (c::r)++wordsSigns b;rw[wordsSigns.eq_3 c (r++Char.ofNat 32::b) h,wordsSigns.eq_3 c r h,ih]
   cases hr:wordsSigns r with
   | nil=>exact absurd hr (CS r)
   | cons w ws=>rfl
theorem N7 (L : List Char) (h1 : L.take 77 = L.take 76 ++ [Char.ofNat 32]) (h2 : ∀ R, behindMainWord (wordsSigns (L.take 76) ++ R) = "cut".toList :: R) : ∃ R, behindMainWord (wordsSigns L) = "cut".toList :: R := by
 have h:L=L.take 76++Char.ofNat 32::L.drop 77:=by
  have h3:=List.take_append_drop 77 L;rw[h1,List.append_assoc]at h3;exact h3.symm
 have h4:=tJ (L.drop 77) (L.take 76);rw[<-h]at h4;exact⟨wordsSigns (L.drop 77),by rw[h4];exact h2 _⟩
def Jw:List Char:=([104,97,114,110,101,115,115,32,97,51,54,97,55,98,55,49,99,102,97,102,50,51,57,49,48,101,55,53,57,53,56,49,102,97,49,99,55,52,50,100,98,98,49,99,57,48,57,52,102,57,99,50,49,50,100,97,49,56,50,51,54,102,55,50,100,48,49,48,100,54,55,97,32,99,117,116,32,97,116,32,102,117,114,108,111,110,103,47,102,117,114,108,111,110,103,108,97,119,46,68,101,115,107,80,108,97,121,115]:List Nat).map Char.ofNat
theorem PD:prog.initOrder=String.ofList Jw:=by kernel_rfl
theorem Ma:prog.initOrder.toList=Jw:=(congrArg String.toList PD).trans String.toList_ofList
theorem PE : ∃ R, behindMainWord (wordsSigns Jw) = "cut".toList :: R := N7 _ (by kernel_rfl) (fun R => by kernel_rfl)
theorem EB : ∃ R, behindMainWord (wordsSigns prog.initOrder.toList) = "cut".toList :: R := by rw [Ma]; exact PE
-- (stated of any program: 'unfold' at the program itself parts the whole row)
theorem DK (R : List (List Char)) : stripLifts liftWords ("cut".toList :: R) = ([], "cut".toList :: R) := by kernel_rfl
theorem PG (P : Program) (R : List (List Char)) (h : behindMainWord (wordsSigns P.initOrder.toList) = "cut".toList :: R) (h1 : P.laysLater = false) (h2 : P.bearsReflect = false) (h3 : P.doorFits [] = true) : P.mayEnter = true := by
 unfold Program.mayEnter;rw[h];simp only[DK,h1,h2,h3]
 kernel_rfl
theorem Mc (P : Program) (R : List (List Char)) (h : behindMainWord (wordsSigns P.initOrder.toList) = "cut".toList :: R) : P.liftsFinal = false := by
 unfold Program.liftsFinal Program.headLifts;simp only[h,DK]
 kernel_rfl
theorem N8 (P : Program) (R : List (List Char)) (h : behindMainWord (wordsSigns P.initOrder.toList) = "cut".toList :: R) : P.make = some .cut := by
 unfold Program.make;simp only[h]
 kernel_rfl
theorem R6:prog.mayEnter=true:=by
 obtain⟨R,h⟩:=EB;exact PG _ R h (by kernel_rfl) (by kernel_rfl) (by kernel_rfl)
theorem Pm:prog.liftsFinal=false:=by
 obtain⟨R,h⟩:=EB;exact Mc _ R h
theorem QH:prog.make=some .cut:=by
 obtain⟨R,h⟩:=EB;exact N8 _ R h
end Go.Proofs.YtediempflagfkaaGreatDoor
