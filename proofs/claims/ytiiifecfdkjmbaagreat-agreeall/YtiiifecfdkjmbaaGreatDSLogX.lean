/- Contract of log.first; no condition. A log's acts, as plain data: where each begins, and how many are whole; no condition. A range over a function whose rounds write more than one block: the law of the statement in an activation of a known function; conditions: the function is there, the iterator keeps its contract whatever the rounds do above its own memory, each round is walked. The iterator of package log that goes through the acts of a text: its contract; condition: the captured text lies below. Contract of log.Replay; no condition. Contract of log.Replay: its walk; no condition. Contract of log.Write; no condition. Contract of log.Recover; conditions: the groups read as ints. The laws' helper logBegun answers true; no condition. -/
import Derived.Laws.IdiomStrings
import Derived.Test.YtiiifecfdkjmbaaGreatDLDoX
import Derived.Test.YtiiifecfdkjmbaaGreatDPureT
namespace Go.Proofs.YtiiifecfdkjmbaaGreat
set_option maxRecDepth 8000
open Go.RowKit Go.Shelf
open _root_.Go.Proofs.YtiiifecfdkjmbaaGreat.Pure
set_option linter.unusedVariables false
set_option linter.unusedSimpArgs false
end Go.Proofs.YtiiifecfdkjmbaaGreat
namespace Go.Proofs.YtiiifecfdkjmbaaGreat
set_option maxRecDepth 8000
open _root_.Go.Proofs.YtiiifecfdkjmbaaGreat.Pure
end Go.Proofs.YtiiifecfdkjmbaaGreat
namespace Go.Proofs.YtiiifecfdkjmbaaGreat
set_option maxRecDepth 8000
open Go.RowKit Go.Shelf
structure KB (n b : Nat) (A B : World) : Prop where
 below : Below n A B
 same : B.heap[b]? = A.heap[b]?
theorem KB.refl (n b : Nat) (A : World) : KB n b A A := ⟨Below.refl _ _, rfl⟩
theorem KB.trans {n b : Nat} {A B C : World} (h : KB n b A B) (k : KB n b B C) : KB n b A C := ⟨h.below.trans k.below, k.same.trans h.same⟩
theorem KB.of_since {n b : Nat} {A B : World} (h : Since A B) (hn : n ≤ A.heap.size) (hb : b < A.heap.size) : KB n b A B := ⟨h.below.mono hn, h.below.block b hb⟩
theorem KB.cell {n b : Nat} {A B : World} (h : KB n b A B) (o : Nat) : B.cell? ⟨b, o, none⟩ = A.cell? ⟨b, o, none⟩ := World.cell?_of_block h.same
end Go.Proofs.YtiiifecfdkjmbaaGreat
namespace Go.Proofs.YtiiifecfdkjmbaaGreat
set_option maxRecDepth 8000
open Go.RowKit Go.Shelf
open _root_.Go.Proofs.YtiiifecfdkjmbaaGreat.Pure
set_option linter.unusedVariables false
set_option linter.unusedSimpArgs false
attribute [local go_sem] Oper.semAt_some
end Go.Proofs.YtiiifecfdkjmbaaGreat
namespace Go.Proofs.YtiiifecfdkjmbaaGreat
set_option maxRecDepth 8000
open Go.RowKit Go.Shelf
open _root_.Go.Proofs.YtiiifecfdkjmbaaGreat.Pure
set_option linter.unusedVariables false
set_option linter.unusedSimpArgs false
attribute [local go_sem] Oper.semAt_some
theorem wpIn_app {F : Fence} {nn : Nat} {w : World} {ops : Array Oper} {rest : List Oper} {o : Oper} {a : Act} {Q : Exit → Act → World → Prop} {t e : TypeId} {size bytes : Nat} (hE : ET t e size bytes) (hgd : o.guard = none) (ds dx : Operand) (tx : TypeId)
  (ho : o.op = .call { callee := .builtin .append, args := #[ds, dx], argTypes := #[t, tx] })
  {lo : Nat} {sa : Option Addr} {sc n : Nat} {xs : List Value} (hd : a.eval ds = .slice sa n sc) (hR : Row w lo size ⟨sa, sc⟩ n xs) {x : Value} {m : Nat} {news : List Value} (hx : a.eval dx = x) (hs : Src Tryz.prog size tx x m news w)
  (hb : (n + m) * (bytes + 1) ≤ 1000000000) (hlo : lo ≤ w.heap.size)
  (h : ∀ a' c' w', Row w' lo size ⟨a', c'⟩ (n + m) (xs ++ news) → Fr (fun k => Sl.blk ⟨sa, sc⟩ = some k) w w' → ((⟨a', c'⟩ : Sl) = ⟨sa, sc⟩ ∨ (Since w w' ∧ Sl.blk ⟨a', c'⟩ = some w.heap.size)) → wpListIn F nn Tryz.prog ops Q rest (a.put o.dst (.slice a' (n + m) c')) w') : wpListIn F nn Tryz.prog ops Q (o :: rest) a w := by
 obtain ⟨i, z, h1, h2, h3, h4, h5⟩ := hE.info
 rw [Nat.mul_add] at hb
 refine wpListIn_plain hgd fun K hK' => ?_
 obtain ⟨s', w', hr, q2, q3, q4⟩ := row_append (P := Tryz.prog) w t tx o.type e i z size bytes hE.und h1 h2 h3 h4 h5 (s := ⟨sa, sc⟩) hR hs (by unfold maxLen; omega) (by omega) hlo
 have hd' : a.eval ds = Sl.v ⟨sa, sc⟩ n := hd
 unfold Oper.wpIn
 refine ⟨?_, ?_⟩
 ·simp [Oper.about, ho, resolve, Target.leads, Sem.run_pure]
 ·rw [Oper.semAt_plain F _ _ (by rw [ho]; intro c hc'; cases hc')]
  simp only [execOp, ho, resolve, invoke, builtin, Sem.run_bind, Sem.run_pure, Result.andThen_ok, List.map_toArray, List.map_cons, List.map_nil, hd', hx, hr]
  exact hK' _ _ (h s'.a s'.cap w' q2 q3 q4)
theorem kx_same {n : Nat} {A B : World} (h : KX n none A B) {p : Addr} {v : Value} (hc : A.cell? p = some v) : B.heap[p.block]? = A.heap[p.block]? := by
 unfold World.cell? at hc
 split at hc
 ·rename_i c e z hb; exact (h.cells _ _ hb rfl (by simp)).trans hb.symm
 ·cases hc
theorem NC.of_fr {B : Nat → Prop} {A A' : World} (h : Fr B A A') (hB : ∀ k, B k → ∃ o v, A.cell? ⟨k, o, none⟩ = some v) : NC A A' := by
 intro k o hk hc
 by_cases hb : B k
 ·obtain ⟨off, v, hv⟩ := hB k hb
  unfold World.cell? at hv
  split at hv
  ·rename_i c e z hb2
   rw [hk] at hb2; cases hb2; cases hc
  ·cases hv
 ·exact (h.block k (Array.getElem?_eq_some_iff.1 hk).1 hb).trans hk
theorem below_of_fr {B : Nat → Prop} {A A' : World} {n : Nat} (h : Fr B A A') (hn : n ≤ A.heap.size) (hB : ∀ k, k < n → ¬ B k) : Below n A A' := ⟨h.os, h.tape, h.output, h.size, fun i hi => h.block i (by omega) (hB i hi)⟩
theorem Row.kx {n : Nat} {A B : World} {lo sz : Nat} {s : Sl} {m : Nat} {xs : List Value} (h : Row A lo sz s m xs) (hsz : 0 < sz) (k : KX n none A B) : Row B lo sz s m xs := by
 refine h.kept k.below.size (fun b hb => ?_)
 obtain ⟨hp, _, _, off, e⟩ := h.blk_of hb
 obtain ⟨b', off', e', _, _, hc, _⟩ := h.body hp
 rw [e] at e'
 cases e'
 obtain ⟨u, hu⟩ := Option.isSome_iff_exists.1 (hc 0 (Nat.mul_pos hp hsz)).1
 unfold World.cell? at hu
 split at hu
 ·rename_i c ty z hb2; exact (k.cells _ _ hb2 rfl (by simp)).trans hb2.symm
 ·cases hu
end Go.Proofs.YtiiifecfdkjmbaaGreat
namespace Go.Proofs.YtiiifecfdkjmbaaGreat
set_option maxRecDepth 8000
open Go.RowKit Go.Shelf
open _root_.Go.Proofs.YtiiifecfdkjmbaaGreat.Pure
set_option linter.unusedVariables false
set_option linter.unusedSimpArgs false
attribute [local go_sem] Oper.semAt_some
def retOnly (Q : Exit → Act → World → Prop) : Exit → Act → World → Prop
 | .ret, a, w => Q .ret a w
 | _, _, _ => False
theorem wp_retOnly {P : Program} {c : Code} {Q : Exit → Act → World → Prop} {a : Act} {w : World} (h : c.wp P (retOnly Q) a w) : c.wp P Q a w := by
 refine wp_mono h ?_
 intro e a w hq
 match e, hq with
 | .ret, hq => exact hq
end Go.Proofs.YtiiifecfdkjmbaaGreat
namespace Go.Proofs.YtiiifecfdkjmbaaGreat
set_option maxRecDepth 8000
open Go.RowKit Go.Shelf
open _root_.Go.Proofs.YtiiifecfdkjmbaaGreat.Pure
set_option linter.unusedVariables false
set_option linter.unusedSimpArgs false
attribute [local go_sem] Oper.semAt_some
end Go.Proofs.YtiiifecfdkjmbaaGreat
namespace Go.Proofs.YtiiifecfdkjmbaaGreat
set_option maxRecDepth 8000
open Go.RowKit Go.Shelf
open _root_.Go.Proofs.YtiiifecfdkjmbaaGreat.Pure
set_option linter.unusedVariables false
set_option linter.unusedSimpArgs false
end Go.Proofs.YtiiifecfdkjmbaaGreat
namespace Go.Proofs.YtiiifecfdkjmbaaGreat
set_option maxRecDepth 8000
open Go.RowKit Go.Shelf
open _root_.Go.Proofs.YtiiifecfdkjmbaaGreat.Pure
set_option linter.unusedVariables false
set_option linter.unusedSimpArgs false
def gB : Ac := ⟨3, 0, 1, ⟨#[]⟩⟩
end Go.Proofs.YtiiifecfdkjmbaaGreat
