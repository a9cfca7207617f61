/- Contracts of the document's answers on groups and of what must be in any case; then the walks of the laws GroupsTells and GroupsOf; no condition but that the slice reads as ints. -/
import Derived.Test.YtiiifecfdkjmbaaGreatDIter
import Derived.Deep.RegionWith
namespace Go.Proofs.YtiiifecfdkjmbaaGreat
set_option maxRecDepth 8000
open Go.RowKit Go.Shelf
theorem Ints.below {w W : World} {a : Option Addr} {len : Nat} {xs : List Int} (h : Ints w a len xs) (hb : Below w.heap.size w W) : Ints W a len xs := by
 refine ⟨h.hlen, h.hmax, fun hp => ?_⟩
 obtain ⟨b, off, e, hbl, hc⟩ := h.cells hp
 exact ⟨b, off, e, by have := hb.size; omega, fun i hi' => (hb.cell (p := ⟨b, off + i, none⟩) hbl).trans (hc i hi')⟩
theorem Ints.drewN {w : World} {a : Option Addr} {len : Nat} {xs : List Int} (h : Ints w a len xs) (k : Nat) : Ints (w.drewN k) a len xs := by
 refine ⟨h.hlen, h.hmax, fun hp => ?_⟩
 obtain ⟨b, off, e, hbl, hc⟩ := h.cells hp
 exact ⟨b, off, e, by simpa using hbl, fun i hi' => by simpa using hc i hi'⟩
theorem below_drewN {B : Nat} {a w : World} (h : Below B a w) (k : Nat) : Below B a (w.drewN k) :=
 ⟨h.os, h.tape, h.output, h.size, h.block⟩
structure Since (w0 w : World) : Prop where
 below : Below w0.heap.size w0 w
theorem Since.refl (w : World) : Since w w := ⟨Below.refl _ _⟩
theorem Since.size {w0 w : World} (h : Since w0 w) : w0.heap.size ≤ w.heap.size := h.below.size
theorem Since.step {w0 w w' : World} (h : Since w0 w) (k : Below w.heap.size w w') : Since w0 w' := ⟨h.below.trans (k.mono h.size)⟩
theorem Ints.since {w w' : World} {a : Option Addr} {len : Nat} {xs : List Int} (h : Ints w a len xs) (k : Since w w') : Ints w' a len xs := h.below k.below
theorem two_s (w0 w : World) (h : Since w0 w) :
  Calls Tryz.prog 125 #[] w fun e w' => ∃ b cap, e = .returned (.slice (some ⟨b, 0, none⟩) 2 cap) ∧ Ints w' (some ⟨b, 0, none⟩) 2 [3, 6] ∧ Since w0 w' := by
 go_enter Tryz.func125, Tryz.ntmps125
 go_wp2
 go_ret
 refine ⟨_, _, rfl, ⟨rfl, by omega, fun _ => ⟨_, _, rfl, by simp, fun i hi => ?_⟩⟩, h.step ((Below.refl _ _).alloc (Nat.le_refl _) _)⟩
 rcases (show i = 0 ∨ i = 1 by omega) with rfl | rfl <;> simp [go_sem]
theorem check_s (w0 w : World) (nodes : Int) (a : Option Addr) (len cap : Nat) (xs : List Int) (hI : Ints w a len xs) (h : Since w0 w) :
  Calls Tryz.prog 158 #[.int .i64 nodes, .slice a len cap] w fun e w' => e = .returned (.int .i64 (chkE nodes xs)) ∧ Since w0 w' :=
 (check_any nodes a len cap xs w hI).mono fun e w' ⟨he, hw⟩ => ⟨he, by rw [hw]; exact h.step ((Below.refl _ _).alloc (Nat.le_refl _) _)⟩
theorem error_s (w0 w : World) (nodes : Int) (a : Option Addr) (len cap : Nat) (xs : List Int) (hI : Ints w a len xs) (h : Since w0 w) :
  Calls Tryz.prog 69 #[.int .i64 nodes, .slice a len cap] w fun e w' => e = .returned (.int .i64 (chkE nodes xs)) ∧ Since w0 w' :=
 (error_any nodes a len cap xs w hI).mono fun e w' ⟨he, k, hw⟩ => ⟨he, by rw [hw]; exact h.step (below_drewN (Below.refl _ _) k)⟩
theorem ints_lit {w : World} {v : Int} : Ints (w.alloc (.cells #[.int .i64 v] 3)) (some ⟨w.heap.size, 0, none⟩) 1 [v] :=
 ⟨rfl, by omega, fun _ => ⟨_, _, rfl, by simp, fun i hi => by
  obtain rfl : i = 0 := by omega
  simp [go_sem]⟩⟩
theorem ints_lit2 {w : World} {u v : Int} : Ints (w.alloc (.cells #[.int .i64 u, .int .i64 v] 3)) (some ⟨w.heap.size, 0, none⟩) 2 [u, v] :=
 ⟨rfl, by omega, fun _ => ⟨_, _, rfl, by simp, fun i hi => by rcases (show i = 0 ∨ i = 1 by omega) with rfl | rfl <;> simp [go_sem]⟩⟩
theorem ints_nil {w : World} : Ints w none 0 [] := ⟨rfl, by omega, fun h => absurd h (by omega)⟩
theorem Since.alloc {w0 w : World} (h : Since w0 w) (o : Obj) : Since w0 (w.alloc o) := h.step ((Below.refl _ _).alloc (Nat.le_refl _) _)
theorem sinceA {w w1 : World} {o : Obj} (h : w.alloc o = w1) : Since w w1 := by rw [← h]; exact (Since.refl w).alloc _
end Go.Proofs.YtiiifecfdkjmbaaGreat
