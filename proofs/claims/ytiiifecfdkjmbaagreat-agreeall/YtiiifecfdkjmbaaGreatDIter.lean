/- Contracts: what groups.Of and groups.Share come to (they range over a function), at whatever slice of ints. -/
import Derived.RangeFuncNested
import Derived.RangeFuncBound
import Derived.RangeFuncCalls
import Derived.RangeFuncLeaves
import Derived.RangeFuncBox
import Derived.Shelf.Abstract
import Derived.Shelf.RegionOpen
import Derived.OwnWalkIn
import Derived.TacticsInMore
import Derived.LoopNIn
import Derived.LoopIn
import Derived.Maps.AppendAt
import Derived.Test.YtiiifecfdkjmbaaGreatDGroups
namespace Go.Proofs.YtiiifecfdkjmbaaGreat
set_option maxRecDepth 8000
open Go.RowKit Go.Shelf
attribute [local go_sem] Oper.semAt_some
def ButX (hi X : Nat) (A B : World) : Prop := A.heap.size ≤ B.heap.size ∧ ∀ k, k < hi → k ≠ X → B.heap[k]? = A.heap[k]?
theorem ButX.refl (hi X : Nat) (A : World) : ButX hi X A A := ⟨Nat.le_refl _, fun _ _ _ => rfl⟩
theorem ButX.trans {hi X : Nat} {A B C : World} (h : ButX hi X A B) (k : ButX hi X B C) : ButX hi X A C :=
 ⟨Nat.le_trans h.1 k.1, fun i h1 h2 => (k.2 i h1 h2).trans (h.2 i h1 h2)⟩
theorem ButX.cell {hi X : Nat} {A B : World} (h : ButX hi X A B) {p : Addr} (h1 : p.block < hi) (h2 : p.block ≠ X) : B.cell? p = A.cell? p :=
 World.cell?_of_block (w := A) (h.2 p.block h1 h2)
theorem ButX.alloc {hi X : Nat} {A : World} (h : hi ≤ A.heap.size) (o : Obj) : ButX hi X A (A.alloc o) :=
 ⟨by simp, fun k h1 _ => Below.heap_alloc A o k (by omega)⟩
theorem ButX.b {hi X : Nat} {w : World} (hn : hi ≤ w.heap.size) (W : World) (l : Nat) (o o' : Obj) (hl : w.heap.size ≤ l) (h : W.heap[l]? = some o) (h1 : o.isCells = false) (h2 : o.isWalk = false) : ButX hi X W (W.putObj l o') :=
 have hb := belowK_b hn W l o o' hl h h1 h2
 ⟨hb.size, fun k hk _ => hb.block k hk⟩
structure IntsX (hi X : Nat) (w : World) (a : Option Addr) (len : Nat) (xs : List Int) : Prop where
 hlen : xs.length = len
 hmax : len ≤ 17592186043904
 cells : 0 < len → ∃ b off, a = some ⟨b, off, none⟩ ∧ b < hi ∧ b ≠ X ∧ ∀ i, i < len → w.cell? ⟨b, off + i, none⟩ = some (.int .i64 (xs[i]?.getD 0))
theorem IntsX.kept {hi X : Nat} {A B : World} {a : Option Addr} {len : Nat} {xs : List Int} (h : ButX hi X A B) (k : IntsX hi X A a len xs) : IntsX hi X B a len xs := by
 refine ⟨k.hlen, k.hmax, fun hp => ?_⟩
 obtain ⟨b, off, e, h1, h2, hc⟩ := k.cells hp
 exact ⟨b, off, e, h1, h2, fun i hi' => (h.cell (p := ⟨b, off + i, none⟩) h1 h2).trans (hc i hi')⟩
theorem ownBlock_ge {W : World} {hi : Nat} {e : TypeId} {size : Nat} {v : Value} {k : Nat} {xs : List Value} (hrow : W.ownsRow hi e size v k xs) : ∀ j, v.ownBlock = some j → hi ≤ j := by
 intro j ej
 rcases hrow.2 with ⟨rfl, _⟩ | ⟨g, cap, cur, rfl, hb, _, _⟩
 ·simp [Value.ownBlock] at ej
 ·obtain rfl : g = j := by simpa [Value.ownBlock] using ej
  exact hb
theorem ownsRow_base {W : World} {lo hi : Nat} {e : TypeId} {size : Nat} {v : Value} {k : Nat} {xs : List Value} (h : lo ≤ hi) (hrow : W.ownsRow hi e size v k xs) : W.ownsRow lo e size v k xs := by
 refine ⟨hrow.1, ?_⟩
 rcases hrow.2 with h2 | ⟨g, cap, cur, e1, e2, e3⟩
 ·exact .inl h2
 ·exact .inr ⟨g, cap, cur, e1, Nat.le_trans h e2, e3⟩
end Go.Proofs.YtiiifecfdkjmbaaGreat
