/- Messages that are handed in, opened for a walk: their numbers and texts, and how many there may be. -/
import Derived.Test.YtiiifecfdkjmbaaGreatMsgPut
import Derived.Test.YtiiifecfdkjmbaaGreatOpen
import Derived.Deep.Slices
namespace Go.Proofs.YtiiifecfdkjmbaaGreat
set_option maxRecDepth 8000
open Go.ChangeShapes Go.WideShapes Go.ChangeAt Go.RowKit Go.Deep
set_option linter.unusedVariables false
theorem Ld:Tryz.prog.bytesOf 42=48:=by kernel_rfl
theorem Ez:Tryz.prog.cellsOf 42=5:=by kernel_rfl
theorem vF:Tryz.prog.cellsOf 3=1:=by kernel_rfl
theorem JN:Tryz.prog.cellsOf 4=1:=by kernel_rfl
theorem Eb:Tryz.prog.cellsOf 9=1:=by kernel_rfl
theorem EA {H:Type} {enc:TypeId × Value→H} {W:World} {base fuel:Nat} {spare:Nat→Bool} {held:Bool} {cs:List Value} {x:DataW H × List MemPlace}
  (h:DataW.trod enc Tryz.prog W base spare held fuel 42 cs=some x):∃ m:Mg,cs=m.cells:=by
 obtain ⟨xs,n,_,_,hl,hlen,hf⟩:=DataW.trod_struct Tryz.underlying42 h
 rw [Ez] at hl
 match cs,hl with
 | [c0,c1,c2,c3,c4],_ =>
  have g0:=hf 0 _ rfl
  have g1:=hf 1 _ rfl
  have g2:=hf 2 _ rfl
  have g3:=hf 3 _ rfl
  have g4:=hf 4 _ rfl
  simp [vF] at g0 g1 g2
  simp [JN] at g3
  simp [Eb] at g4
  simp at hlen
  rw [List.getElem?_eq_getElem (by rw [hlen];omega)] at g0 g1 g2 g3 g4
  obtain ⟨a0,e0,_⟩:=DataW.trod_int Tryz.underlying3 g0
  obtain ⟨a1,e1,_⟩:=DataW.trod_int Tryz.underlying3 g1
  obtain ⟨a2,e2,_⟩:=DataW.trod_int Tryz.underlying3 g2
  obtain ⟨a3,e3,_⟩:=DataW.trod_bool Tryz.underlying4 g3
  obtain ⟨a4,e4,_⟩:=DataW.trod_string Tryz.underlying9 g4
  simp at e0 e1 e2 e3 e4
  exact ⟨⟨a0,a1,a2,a3,a4⟩,by rw [e0,e1,e2,e3,e4];rfl⟩
theorem jF {α:Type} {P:Nat→α→Prop}:∀ (n:Nat),(∀ i,i < n→∃ m,P i m)→∃ ms:List α,ms.length=n∧∀ i m,ms[i]? = some m→P i m
 | 0,_=>⟨[],rfl,fun i m h=>by simp at h⟩
 | n+1,h=>by
  obtain ⟨ms,hl,hp⟩:=jF n (fun i hi=>h i (by omega))
  obtain ⟨m,hm⟩:=h n (by omega)
  refine ⟨ms++[m],by simp [hl],fun i x hx=>?_⟩
  by_cases hi:i < ms.length
  ·exact hp i x (by rw [List.getElem?_append_left hi] at hx;exact hx)
  ·rw [List.getElem?_append_right (by omega)] at hx
   have hi2:i - ms.length=0:=by
    have:=(List.getElem?_eq_some_iff.1 hx).1
    simp at this;omega
   rw [hi2] at hx
   simp at hx
   obtain rfl:i=n:=by omega
   rw [←hx];exact hm
end Go.Proofs.YtiiifecfdkjmbaaGreat
