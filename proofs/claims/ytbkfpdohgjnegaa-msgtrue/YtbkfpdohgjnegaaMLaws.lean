/- The walks of the laws MsgTells and MsgPuts; no condition but that slices read as ints or messages, and a length is not above its capacity. -/
import Derived.Test.YtbkfpdohgjnegaaMsgB
import Derived.Test.YtbkfpdohgjnegaaMsgPutOf
import Derived.Test.YtbkfpdohgjnegaaMsgBegun
namespace Go.Proofs.Ytbkfpdohgjnegaa
set_option maxRecDepth 8000
open Go.RowKit Go.Shelf

theorem msgCheck_s (w0 : World) (nodes : Int) (a : Option Addr) (len cap : Nat) (xs : List Int) (m : Mg) (hI : Ints w0 a len xs) (w : World) (h : Since w0 w) :
    Calls Try.prog 20 #[.int .i64 nodes, .slice a len cap, .agg #[.int .i64 m.fr, .int .i64 m.gr, .int .i64 m.st, .bool m.nul, .string m.body]] w fun e w' => e = .returned (.int .i64 (chkM nodes xs m)) ∧ Since w0 w' :=
  (msgCheck_any nodes a len cap xs m w (hI.since h)).mono fun _ _ ⟨he, hw⟩ => ⟨he, h.trans hw⟩
theorem msgError_s (w0 : World) (nodes : Int) (a : Option Addr) (len cap : Nat) (xs : List Int) (m : Mg) (hI : Ints w0 a len xs) (w : World) (h : Since w0 w) :
    Calls Try.prog 21 #[.int .i64 nodes, .slice a len cap, .agg #[.int .i64 m.fr, .int .i64 m.gr, .int .i64 m.st, .bool m.nul, .string m.body]] w fun e w' => e = .returned (.int .i64 (chkM nodes xs m)) ∧ Since w0 w' :=
  (msgError_any nodes a len cap xs m w (hI.since h)).mono fun _ _ ⟨he, hw⟩ => ⟨he, h.trans hw⟩

theorem law_msgTells (nodes : Int) (a : Option Addr) (len cap : Nat) (xs : List Int) (m n : Mg) (w : World) (hI : Ints w a len xs) :
    Calls Try.prog 6 #[.int .i64 nodes, .slice a len cap, .agg #[.int .i64 m.fr, .int .i64 m.gr, .int .i64 m.st, .bool m.nul, .string m.body], .agg #[.int .i64 n.fr, .int .i64 n.gr, .int .i64 n.st, .bool n.nul, .string n.body]] w fun e w' => e = .returned (.bool true) ∧ Below w.heap.size w w' := by
  obtain ⟨w1, hw1⟩ : ∃ w1, (w.alloc (.cells #[.int .i64 m.fr, .int .i64 m.gr, .int .i64 m.st, .bool m.nul, .string m.body] 31)).alloc (.cells #[.int .i64 n.fr, .int .i64 n.gr, .int .i64 n.st, .bool n.nul, .string n.body] 31) = w1 := ⟨_, rfl⟩
  have hS1 : Since w w1 := by rw [← hw1]; exact ((Since.refl w).alloc _).alloc _
  have hsz : w1.heap.size = w.heap.size + 2 := by rw [← hw1]; simp
  have hB : MsgAt w1 w.heap.size 0 m := by rw [← hw1]; constructor <;> simp [go_sem]
  have hC : MsgAt w1 (w.heap.size + 1) 0 n := by rw [← hw1]; constructor <;> simp [go_sem]
  obtain ⟨g0, g1, g2, g3, g4⟩ := hB
  obtain ⟨e0, e1, e2, e3, e4⟩ := hC
  simp only [Nat.zero_add] at g0 g1 g2 g3 g4 e0 e1 e2 e3 e4
  have hI1 := hI.since hS1
  have hne : Nonempty (Later w1) := ⟨⟨w1, Since.refl w1⟩⟩
  have hg : ∀ (x : Later w1) (o : Nat), x.w.cell? ⟨w.heap.size, o, none⟩ = w1.cell? ⟨w.heap.size, o, none⟩ := fun x o => x.cell (by omega)
  have hg2 : ∀ (x : Later w1) (o : Nat), x.w.cell? ⟨w.heap.size + 1, o, none⟩ = w1.cell? ⟨w.heap.size + 1, o, none⟩ := fun x o => x.cell (by omega)
  go_enter Try.func6, Try.ntmps6
  go_wp2_with fail
  clear hw1
  refine wp_region_since (by kernel_rfl) (by kernel_rfl) (Since.refl w1) ?_
  repeat (go_big_quiet_step ((first
    | (go_at_call 19; exact Later.call (msgBegun_s w1))
    | (go_at_call 20; exact Later.call (msgCheck_s w1 _ _ _ _ xs m hI1))
    | (go_at_call 21; exact Later.call (msgError_s w1 _ _ _ _ xs m hI1))
    | (go_at_call 22; exact Later.call (less_s w1 m n))
    | (go_at_call 23; exact Later.call (lessOf_s w1 m n)))))
  refine wpQuiet_nil ?_
  intro w9 hS9
  go_wp2_with fail
  go_ret
  exact ⟨by simp, (hS1.trans hS9).below⟩

theorem law_msgPuts (a : Option Addr) (len cap : Nat) (ms : List Mg) (m : Mg) (w : World) (hM : Msgs w a len ms) (hcap : len ≤ cap) :
    Calls Try.prog 7 #[.slice a len cap, .agg #[.int .i64 m.fr, .int .i64 m.gr, .int .i64 m.st, .bool m.nul, .string m.body]] w fun e w' => e = .returned (.bool true) ∧ Below w.heap.size w w' := by
  obtain ⟨w1, hw1⟩ : ∃ w1, w.alloc (.cells #[.int .i64 m.fr, .int .i64 m.gr, .int .i64 m.st, .bool m.nul, .string m.body] 31) = w1 := ⟨_, rfl⟩
  have hS1 : Since w w1 := by rw [← hw1]; exact (Since.refl w).alloc _
  have hsz : w1.heap.size = w.heap.size + 1 := by rw [← hw1]; simp
  have hB : MsgAt w1 w.heap.size 0 m := by rw [← hw1]; constructor <;> simp [go_sem]
  obtain ⟨g0, g1, g2, g3, g4⟩ := hB
  simp only [Nat.zero_add] at g0 g1 g2 g3 g4
  go_enter Try.func7, Try.ntmps7
  go_wp2_with fail
  clear hw1
  refine (put_any _ _ _ ms m _ (hM.since hS1) hcap).mono ?_
  rintro e w2 ⟨a2, l2, c2, rfl, hM2, _, hS2⟩
  have hg : ∀ o : Nat, w2.cell? ⟨w.heap.size, o, none⟩ = w1.cell? ⟨w.heap.size, o, none⟩ := fun o => hS2.cellAt (by omega) o
  go_wp2_with fail
  refine (putOf_any _ _ _ ms m _ (hM.since (hS1.trans hS2)) hcap).mono ?_
  rintro e w3 ⟨a3, l3, c3, rfl, hM3, _, hS3⟩
  clear hg g0 g1 g2 g3 g4
  go_wp2_with fail
  refine (msgBegun_s w3 _ (Since.refl _)).mono ?_
  rintro e w4 ⟨rfl, hS4⟩
  go_wp2_with fail
  refine (sameMsgs_any _ _ _ _ _ _ _ _ _ (hM2.since (hS3.trans hS4)) (hM3.since hS4)).mono ?_
  rw [sameMs_refl]
  rintro e w5 ⟨rfl, hS5⟩
  go_wp2_with fail
  go_ret
  exact ⟨by simp, (hS1.trans (hS2.trans (hS3.trans (hS4.trans hS5)))).below⟩
end Go.Proofs.Ytbkfpdohgjnegaa
