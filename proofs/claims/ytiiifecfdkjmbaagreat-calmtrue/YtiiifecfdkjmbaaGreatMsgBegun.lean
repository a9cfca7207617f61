/- Contract: what furlonglaw.msgBegun comes to: true, whatever the world; no condition. -/
import Derived.Test.YtiiifecfdkjmbaaGreatMsgB
import Derived.Test.YtiiifecfdkjmbaaGreatMsgPut
import Derived.Deep.RegionHeld3
namespace Go.Proofs.YtiiifecfdkjmbaaGreat
set_option maxRecDepth 8000
open Go.RowKit Go.Shelf

theorem say_s (w0 : World) (n g st : Int) (body : ByteArray) (w : World) (h : Since w0 w) :
    Calls Tryz.prog 106 #[.int .i64 n, .int .i64 g, .int .i64 st, .string body] w fun e w' => e = .returned (.agg #[.int .i64 n, .int .i64 g, .int .i64 st, .bool false, .string body]) ∧ Since w0 w' ∧ Since w w' :=
  (say_any n g st body w).mono fun _ _ ⟨he, hw⟩ => ⟨he, h.trans hw, hw⟩
theorem two_t (w0 : World) (w : World) (h : Since w0 w) :
    Calls Tryz.prog 125 #[] w fun e w' => ∃ b cap, e = .returned (.slice (some ⟨b, 0, none⟩) 2 cap) ∧ Ints w' (some ⟨b, 0, none⟩) 2 [3, 6] ∧ Since w0 w' :=
  two_s w0 w h
theorem put_f (w0 : World) (a : Option Addr) (len cap : Nat) (ms : List Mg) (fr gr st : Int) (nul : Bool) (body : ByteArray) (w : World) (hM : Msgs w a len ms) (hcap : len ≤ cap) (h : Since w0 w) :
    Calls Tryz.prog 185 #[.slice a len cap, .agg #[.int .i64 fr, .int .i64 gr, .int .i64 st, .bool nul, .string body]] w fun e w' => ∃ a' len' cap', e = .returned (.tuple #[.slice a' len' cap', .int .i64 (putE ⟨fr, gr, st, nul, body⟩ ms)]) ∧ Msgs w' a' len' (putL ⟨fr, gr, st, nul, body⟩ ms) ∧ len' ≤ cap' ∧ Since w0 w' ∧ Since w w' :=
  (put_any a len cap ms ⟨fr, gr, st, nul, body⟩ w hM hcap).mono fun _ _ ⟨a', len', cap', h1, h2, h3, h4⟩ => ⟨a', len', cap', h1, h2, h3, h.trans h4, h4⟩
theorem check_f (w0 : World) (nodes : Int) (a : Option Addr) (len cap : Nat) (xs : List Int) (fr gr st : Int) (nul : Bool) (body : ByteArray) (w : World) (hI : Ints w a len xs) (h : Since w0 w) :
    Calls Tryz.prog 222 #[.int .i64 nodes, .slice a len cap, .agg #[.int .i64 fr, .int .i64 gr, .int .i64 st, .bool nul, .string body]] w fun e w' => e = .returned (.int .i64 (chkM nodes xs ⟨fr, gr, st, nul, body⟩)) ∧ Since w0 w' ∧ Since w w' :=
  (msgCheck_any nodes a len cap xs ⟨fr, gr, st, nul, body⟩ w hI).mono fun _ _ ⟨he, hw⟩ => ⟨he, h.trans hw, hw⟩
theorem less_f (w0 : World) (fr gr st : Int) (nul : Bool) (body : ByteArray) (fr' gr' st' : Int) (nul' : Bool) (body' : ByteArray) (w : World) (h : Since w0 w) :
    Calls Tryz.prog 170 #[.agg #[.int .i64 fr, .int .i64 gr, .int .i64 st, .bool nul, .string body], .agg #[.int .i64 fr', .int .i64 gr', .int .i64 st', .bool nul', .string body']] w fun e w' =>
      e = .returned (.bool (lessM ⟨fr, gr, st, nul, body⟩ ⟨fr', gr', st', nul', body'⟩)) ∧ Since w0 w' ∧ Since w w' :=
  (less_any ⟨fr, gr, st, nul, body⟩ ⟨fr', gr', st', nul', body'⟩ w).mono fun _ _ ⟨he, hw⟩ => ⟨he, by rw [hw]; exact (h.alloc _).alloc _, by rw [hw]; exact ((Since.refl _).alloc _).alloc _⟩

theorem msgs_lit1 {w : World} {m : Mg} : Msgs (w.alloc (.cells #[.int .i64 m.fr, .int .i64 m.gr, .int .i64 m.st, .bool m.nul, .string m.body] 42)) (some ⟨w.heap.size, 0, none⟩) 1 [m] :=
  ⟨rfl, by omega, fun _ => ⟨_, _, rfl, by simp, fun j u hj => by
    have := msg_new w m 42 j u (by simpa [flat] using hj)
    rw [add_at] at this; exact this⟩⟩
theorem msgs_lit2 {w : World} {m n : Mg} : Msgs (w.alloc (.cells #[.int .i64 m.fr, .int .i64 m.gr, .int .i64 m.st, .bool m.nul, .string m.body, .int .i64 n.fr, .int .i64 n.gr, .int .i64 n.st, .bool n.nul, .string n.body] 42)) (some ⟨w.heap.size, 0, none⟩) 2 [m, n] :=
  ⟨rfl, by omega, fun _ => ⟨_, _, rfl, by simp, fun j u hj => by
    have hl := (List.getElem?_eq_some_iff.1 hj).1
    simp [flat, Mg.cells] at hl
    rcases (show j = 0 ∨ j = 1 ∨ j = 2 ∨ j = 3 ∨ j = 4 ∨ j = 5 ∨ j = 6 ∨ j = 7 ∨ j = 8 ∨ j = 9 by omega) with rfl | rfl | rfl | rfl | rfl | rfl | rfl | rfl | rfl | rfl <;> simp [flat, Mg.cells] at hj <;> subst hj <;> simp [go_sem]⟩⟩

end Go.Proofs.YtiiifecfdkjmbaaGreat
