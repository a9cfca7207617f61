/- Contract: what furlonglaw.msgBegun comes to: true, whatever the world; no condition. -/
import Derived.Test.YtiiifecfdkjmbaaGreatDMsgB
import Derived.Test.YtiiifecfdkjmbaaGreatDMsgPut
namespace Go.Proofs.YtiiifecfdkjmbaaGreat
set_option maxRecDepth 8000
open Go.RowKit Go.Shelf
theorem msgs_lit1 {w : World} {m : Mg} : Msgs (w.alloc (.cells #[.int .i64 m.fr, .int .i64 m.gr, .int .i64 m.st, .bool m.nul, .string m.body] 42)) (some ⟨w.heap.size, 0, none⟩) 1 [m] :=
 ⟨rfl, by omega, fun _ => ⟨_, _, rfl, by simp, fun j u hj => by
  have := msg_new w m 42 j u (by simpa [flat] using hj)
  rw [add_at] at this; exact this⟩⟩
theorem msgs_lit2 {w : World} {m n : Mg} : Msgs (w.alloc (.cells #[.int .i64 m.fr, .int .i64 m.gr, .int .i64 m.st, .bool m.nul, .string m.body, .int .i64 n.fr, .int .i64 n.gr, .int .i64 n.st, .bool n.nul, .string n.body] 42)) (some ⟨w.heap.size, 0, none⟩) 2 [m, n] :=
 ⟨rfl, by omega, fun _ => ⟨_, _, rfl, by simp, fun j u hj => by
  have hl := (List.getElem?_eq_some_iff.1 hj).1
  simp [flat, Mg.cells] at hl
  rcases (show j = 0 ∨ j = 1 ∨ j = 2 ∨ j = 3 ∨ j = 4 ∨ j = 5 ∨ j = 6 ∨ j = 7 ∨ j = 8 ∨ j = 9 by omega) with rfl | rfl | rfl | rfl | rfl | rfl | rfl | rfl | rfl | rfl <;> simp [flat, Mg.cells] at hj <;> subst hj <;> simp [go_sem]⟩⟩
end Go.Proofs.YtiiifecfdkjmbaaGreat
