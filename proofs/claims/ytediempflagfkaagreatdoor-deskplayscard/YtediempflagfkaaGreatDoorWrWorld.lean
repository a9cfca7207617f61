/- Lemmas. Lemmas. -/
import Derived.Shelf.Pu.Clone
import Derived.Shelf.Lay
import Derived.Ground.MpProg
import Derived.Test.YtediempflagfkaaGreatDoorDkNums
set_option linter.unusedVariables false
set_option linter.unusedSimpArgs false
set_option linter.unnecessarySimpa false
namespace Go.Proofs
open Go.Shelf
shelf_lay LaysPu.n25 Mp 25 at Tryz as Tryz.VZ
end Go.Proofs
namespace Go.Proofs.YtediempflagfkaaGreatDoor
set_option maxRecDepth 8000
open Go.RowKit Go.Shelf
open Pu
theorem Ku{w:World}{p q o:Nat}{v:Value}(h:q < w.heap.size):q < (w.setCell ⟨p,o,none⟩ v).heap.size:=by simpa using h
structure Bx3 (w:World) (p:Nat) (a b c:Value):Prop where
 lt:p < w.heap.size
 c0:w.cell? ⟨p,0,none⟩=some a
 c1:w.cell? ⟨p,1,none⟩=some b
 c2:w.cell? ⟨p,2,none⟩=some c
 z0:w.frozen? ⟨p,0,none⟩=false
 z1:w.frozen? ⟨p,1,none⟩=false
 z2:w.frozen? ⟨p,2,none⟩=false
theorem Bx3.fr{X:Nat->Prop}{w w':World}{p:Nat}{a b c:Value}(h:Bx3 w p a b c)(k:Fr X w w')(hX:¬ X p):Bx3 w' p a b c :=
 ⟨zQ4 h.lt k.size,(k.cell (p:=⟨p,0,none⟩) h.lt hX).trans h.c0,(k.cell (p:=⟨p,1,none⟩) h.lt hX).trans h.c1,(k.cell (p:=⟨p,2,none⟩) h.lt hX).trans h.c2,
  (k.frozen (p:=⟨p,0,none⟩) h.lt hX).trans h.z0,(k.frozen (p:=⟨p,1,none⟩) h.lt hX).trans h.z1,(k.frozen (p:=⟨p,2,none⟩) h.lt hX).trans h.z2⟩
theorem Bx3.fresh(w:World)(T:TypeId):Bx3 (w.alloc (.cells #[.slice none 0 0,.slice none 0 0,.slice none 0 0] T)) w.heap.size (.slice none 0 0) (.slice none 0 0) (.slice none 0 0):=by
 constructor <;> simp[go_sem]
theorem Bx3.s0{w:World}{p:Nat}{a b c:Value}(h:Bx3 w p a b c)(x:Value):Bx3 (w.setCell ⟨p,0,none⟩ x) p x b c :=
 ⟨Ku h.lt,gN _ _ _ _ h.c0,(bH _ _ _ (by decide)).trans h.c1,(bH _ _ _ (by decide)).trans h.c2,by rw[World.frozen?_setCell];exact h.z0,by rw[World.frozen?_setCell];exact h.z1,by rw[World.frozen?_setCell];exact h.z2⟩
theorem Bx3.s1{w:World}{p:Nat}{a b c:Value}(h:Bx3 w p a b c)(x:Value):Bx3 (w.setCell ⟨p,1,none⟩ x) p a x c :=
 ⟨Ku h.lt,(bH _ _ _ (by decide)).trans h.c0,gN _ _ _ _ h.c1,(bH _ _ _ (by decide)).trans h.c2,by rw[World.frozen?_setCell];exact h.z0,by rw[World.frozen?_setCell];exact h.z1,by rw[World.frozen?_setCell];exact h.z2⟩
theorem Bx3.s2{w:World}{p:Nat}{a b c:Value}(h:Bx3 w p a b c)(x:Value):Bx3 (w.setCell ⟨p,2,none⟩ x) p a b x :=
 ⟨Ku h.lt,(bH _ _ _ (by decide)).trans h.c0,(bH _ _ _ (by decide)).trans h.c1,gN _ _ _ _ h.c2,by rw[World.frozen?_setCell];exact h.z0,by rw[World.frozen?_setCell];exact h.z1,by rw[World.frozen?_setCell];exact h.z2⟩
theorem Bx3.all{w:World}{p:Nat}{a b c:Value}(h:Bx3 w p a b c)(x y z:Value):Bx3 (((w.setCell ⟨p,0,none⟩ x).setCell ⟨p,1,none⟩ y).setCell ⟨p,2,none⟩ z) p x y z:=((h.s0 x).s1 y).s2 z
end Go.Proofs.YtediempflagfkaaGreatDoor
