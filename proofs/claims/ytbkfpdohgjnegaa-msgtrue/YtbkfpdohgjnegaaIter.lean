/- Contracts: what groups.Of and groups.Share come to (they range over a function), at whatever slice of ints. -/
import Derived.RangeFuncNested
import Derived.RangeFuncBound
import Derived.RangeFuncCalls
import Derived.RangeFuncLeaves
import Derived.RangeFuncBox
import Derived.Shelf.Abstract
import Derived.Shelf.RegionOpen
import Derived.WalkKit
import Derived.OwnWalkIn
import Derived.TacticsInMore
import Derived.LoopNIn
import Derived.LoopIn
import Derived.Maps.AppendAt
import Derived.Test.YtbkfpdohgjnegaaGroups
namespace Go.Proofs.Ytbkfpdohgjnegaa
set_option maxRecDepth 8000
open Go.RowKit Go.Shelf

attribute [local go_sem] Oper.semAt_some

/-- The group x lacks n. -/
def lackB (x n : Int) : Bool := !bitB x n

theorem lack_any (n x : Int) (w : World) (b : Nat) (hc : w.cell? ⟨b, 0, none⟩ = some (.int .i64 x)) :
    Calls Try.prog 41 #[.int .i64 n, .pointer (some ⟨b, 0, none⟩)] w fun e w' => e = .returned (.bool (lackB x n)) ∧ w' = w := by
  unfold lackB
  go_enter Try.func41, Try.ntmps41
  go_wp2_with (go_at_call 32; refine (member_any _ _ _).mono ?_; rintro e w' ⟨rfl, rfl⟩)
  go_ret
  exact ⟨by simp, rfl⟩

theorem index_lack (a : Option Addr) (len cap : Nat) (xs : List Int) (n : Int) (b : Nat) (w : World) (hI : Ints w a len xs) (hb : w.cell? ⟨b, 0, none⟩ = some (.int .i64 n)) :
    Calls Try.prog 39 #[.slice a len cap, .func (.func 41) #[] #[.pointer (some ⟨b, 0, none⟩)]] w fun e w' => ∃ r : Int, e = .returned (.int .i64 r) ∧ decide (0 ≤ r) = xs.any (lackB n) ∧ w' = w := by
  obtain ⟨rfl, hmax, hc⟩ := hI
  go_enter Try.func39, Try.ntmps39
  go_wp2_with fail
  go_loop [5, 8] (fun _ i => ∃ k : Nat, k ≤ xs.length ∧ i = .int .i64 k ∧ (xs.take k).any (lackB n) = false) (fun _ i => xs.length - (intOf i).toNat)
  case atStart => exact ⟨0, Nat.zero_le _, rfl, rfl⟩
  case round =>
    obtain ⟨k, hk, rfl, hn⟩ := hrel
    by_cases hlt : k < xs.length
    · obtain ⟨bb, off, rfl, hbb, hcell⟩ := hc (by omega)
      have hx := hcell k hlt
      clear hcell hc
      have HN : Hid _ := hn
      clear hn
      go_wp2_with (go_at_call 41; refine (lack_any _ n _ b hb).mono ?_; rintro e w' ⟨rfl, rfl⟩)
      · go_ret
        exact ⟨_, rfl, by simp only [Int.natCast_nonneg, decide_true]; exact (any_at hlt ‹_›).symm, rfl⟩
      · go_round
        case rel => exact ⟨k + 1, by omega, by go_num, any_step hlt HN.out ‹_›⟩
        case measure => simp [intOf]; omega
    · have hk' : k = xs.length := by omega
      have HN : Hid (xs.any (lackB n) = false) := by rw [hk', List.take_length] at hn; exact hn
      clear hn
      go_wp2
      go_ret
      exact ⟨_, rfl, by rw [HN.out]; rfl, rfl⟩

theorem contains_lack (a : Option Addr) (len cap : Nat) (xs : List Int) (n : Int) (b : Nat) (w : World) (hI : Ints w a len xs) (hb : w.cell? ⟨b, 0, none⟩ = some (.int .i64 n)) :
    Calls Try.prog 29 #[.slice a len cap, .func (.func 41) #[] #[.pointer (some ⟨b, 0, none⟩)]] w fun e w' => e = .returned (.bool (xs.any (lackB n))) ∧ w' = w := by
  go_enter Try.func29, Try.ntmps29
  go_wp2_with (go_at_call 39; refine (index_lack _ _ _ xs n b _ hI hb).mono ?_; rintro e w' ⟨r, rfl, hr, rfl⟩)
  go_ret
  exact ⟨by simp, rfl⟩

/-- Of the blocks below hi all but X lie as they lay. -/
def ButX (hi X : Nat) (A B : World) : Prop := A.heap.size ≤ B.heap.size ∧ ∀ k, k < hi → k ≠ X → B.heap[k]? = A.heap[k]?
theorem ButX.refl (hi X : Nat) (A : World) : ButX hi X A A := ⟨Nat.le_refl _, fun _ _ _ => rfl⟩
theorem ButX.trans {hi X : Nat} {A B C : World} (h : ButX hi X A B) (k : ButX hi X B C) : ButX hi X A C :=
  ⟨Nat.le_trans h.1 k.1, fun i h1 h2 => (k.2 i h1 h2).trans (h.2 i h1 h2)⟩
theorem ButX.cell {hi X : Nat} {A B : World} (h : ButX hi X A B) {p : Addr} (h1 : p.block < hi) (h2 : p.block ≠ X) : B.cell? p = A.cell? p :=
  World.cell?_of_block (w := A) (h.2 p.block h1 h2)
theorem ButX.alloc {hi X : Nat} {A : World} (h : hi ≤ A.heap.size) (o : Obj) : ButX hi X A (A.alloc o) :=
  ⟨by simp, fun k h1 _ => Below.heap_alloc A o k (by omega)⟩
theorem ButX.b {hi X : Nat} {w : World} (hn : hi ≤ w.heap.size) (W : World) (l : Nat) (o o' : Obj) (hl : w.heap.size ≤ l) (h : W.heap[l]? = some o) (h1 : o.isCells = false) (h2 : o.isWalk = false) : ButX hi X W (W.putObj l o') :=
  have hb := belowK_b hn W l o o' hl h h1 h2
  ⟨hb.size, fun k hk _ => hb.block k hk⟩

/-- A slice of ints that lies below hi, not in X. -/
structure IntsX (hi X : Nat) (w : World) (a : Option Addr) (len : Nat) (xs : List Int) : Prop where
  hlen : xs.length = len
  hmax : len ≤ 17592186043904
  cells : 0 < len → ∃ b off, a = some ⟨b, off, none⟩ ∧ b < hi ∧ b ≠ X ∧ ∀ i, i < len → w.cell? ⟨b, off + i, none⟩ = some (.int .i64 (xs[i]?.getD 0))
theorem IntsX.kept {hi X : Nat} {A B : World} {a : Option Addr} {len : Nat} {xs : List Int} (h : ButX hi X A B) (k : IntsX hi X A a len xs) : IntsX hi X B a len xs := by
  refine ⟨k.hlen, k.hmax, fun hp => ?_⟩
  obtain ⟨b, off, e, h1, h2, hc⟩ := k.cells hp
  exact ⟨b, off, e, h1, h2, fun i hi' => (h.cell (p := ⟨b, off + i, none⟩) h1 h2).trans (hc i hi')⟩
theorem IntsX.ints {hi X : Nat} {w : World} {a : Option Addr} {len : Nat} {xs : List Int} (k : IntsX hi X w a len xs) (hhi : hi ≤ w.heap.size) : Ints w a len xs := by
  refine ⟨k.hlen, k.hmax, fun hp => ?_⟩
  obtain ⟨b, off, e, h1, h2, hc⟩ := k.cells hp
  exact ⟨b, off, e, by omega, hc⟩

/-- The first k groups' numbers that have all of ns. -/
def hits (xs ns : List Int) (k : Nat) : List Nat := (List.range k).filter fun g => !ns.any (lackB (xs[g]?.getD 0))
theorem hits_yes {xs ns : List Int} {k : Nat} (h : ns.any (lackB (xs[k]?.getD 0)) = false) : hits xs ns (k + 1) = hits xs ns k ++ [k] := by
  simp only [hits, List.range_succ, List.filter_append]; rw [show List.filter (fun g => !ns.any (lackB (xs[g]?.getD 0))) [k] = [k] from by simp [List.filter, h]]
theorem hits_no {xs ns : List Int} {k : Nat} (h : ns.any (lackB (xs[k]?.getD 0)) = true) : hits xs ns (k + 1) = hits xs ns k := by
  simp only [hits, List.range_succ, List.filter_append]; rw [show List.filter (fun g => !ns.any (lackB (xs[g]?.getD 0))) [k] = [] from by simp [List.filter, h]]; simp
theorem hits_le (xs ns : List Int) (k : Nat) : (hits xs ns k).length ≤ k := by
  have := List.length_filter_le (fun g => !ns.any (lackB (xs[g]?.getD 0))) (List.range k)
  simpa [hits] using this
theorem hits_prefix (xs ns : List Int) (k m : Nat) (h : k ≤ m) : hits xs ns k <+: hits xs ns m := by
  obtain ⟨d, rfl⟩ := Nat.exists_eq_add_of_le h
  induction d with
  | zero => exact List.prefix_refl _
  | succ d ih =>
    refine (ih (by omega)).trans ?_
    rw [show k + (d + 1) = (k + d) + 1 from by omega]
    cases hb : ns.any (lackB (xs[k + d]?.getD 0))
    · rw [hits_yes hb]; exact List.prefix_append _ _
    · rw [hits_no hb]; exact List.prefix_refl _

set_option maxRecDepth 100000 in
set_option maxHeartbeats 2000000 in
theorem having1_in (n : Nat) (hn : 1 ≤ n) (l Bl Bn hi X : Nat) (a : Option Addr) (len cap : Nat) (xs : List Int) (an : Option Addr) (lenn capn : Nat) (ns : List Int) (J Jx : List Nat → World → Prop)
    (hBn : Bn < hi) (hBnX : Bn ≠ X)
    (hY : ∀ pre x W, J pre W → pre.length < len → YieldAt Fence.wide (n - 1) Try.prog l #[.int .i64 (x : Nat)] W fun e W' =>
      (e = .returned (.bool true) ∧ J (pre ++ [x]) W' ∧ ButX hi X W W') ∨ (e = .returned (.bool false) ∧ Jx (pre ++ [x]) W'))
    (W : World) (hhi : hi ≤ W.heap.size) (hJ : ∀ pre W1, J pre W1 → ∀ o, J pre (W1.alloc o))
    (hl : W.cell? ⟨Bl, 0, none⟩ = some (.slice a len cap)) (hcn : W.cell? ⟨Bn, 0, none⟩ = some (.slice an lenn capn)) (hx : IntsX hi X W a len xs) (hns : IntsX hi X W an lenn ns) (h0 : J [] W) :
    CallsIn Fence.wide n Try.prog 40 #[.func (.yield l) #[] #[], .pointer (some ⟨Bl, 0, none⟩), .pointer (some ⟨Bn, 0, none⟩)] W fun e W' => (∃ v, e = .returned v) ∧
      ((∃ ys, ys = hits xs ns len ∧ J ys W') ∨ (∃ pre, pre <+: hits xs ns len ∧ Jx pre W')) := by
  have hmax := hx.hmax
  refine callsIn_of_wp Try.func40 rfl trivial ?_ rfl
  simp only [Try.ntmps40, List.size_toArray, List.length_cons, List.length_nil, Nat.reduceAdd, Nat.reduceSub, Array.replicate_succ, Array.replicate_zero, List.push_toArray, List.append_toArray, List.nil_append, List.cons_append]
  gi_wp2
  gi_loopw [4, 5, 6, 9] (fun _ _ _ i wr => ∃ k : Nat, k ≤ len ∧ i = .int .i64 k ∧ J (hits xs ns k) wr ∧ ButX hi X W wr)
    (fun _ _ _ i _ => len - (intOf i).toNat)
  case atStart => exact ⟨0, Nat.zero_le _, rfl, h0, ButX.refl _ _ _⟩
  case round =>
    obtain ⟨k, hk, rfl, hJs, hnx⟩ := hrel
    by_cases hlt : k < len
    · have hxr := hx.kept hnx
      have hnr := hns.kept hnx
      obtain ⟨b, off, ha, hb1, hb2, hcs⟩ := hxr.cells (by omega)
      have hck := hcs k hlt
      have hsz : hi ≤ wr.heap.size := Nat.le_trans hhi hnx.1
      have hcn' : wr.cell? ⟨Bn, 0, none⟩ = some (.slice an lenn capn) := (hnx.cell (p := ⟨Bn, 0, none⟩) hBn hBnX).trans hcn
      obtain ⟨x, hxe⟩ : ∃ x, xs[k]?.getD 0 = x := ⟨_, rfl⟩
      rw [hxe] at hck
      have HX : Hid (xs[k]?.getD 0 = x) := hxe
      have HI : Ints (wr.alloc (.cells #[.int .i64 x] 3)) an lenn ns := (hnr.ints hsz).alloc _
      have HB := cell_new wr (.int .i64 x) 3
      have hBlt : Bn < wr.heap.size := by omega
      have hcn2 : (wr.alloc (.cells #[.int .i64 x] 3)).cell? ⟨Bn, 0, none⟩ = some (.slice an lenn capn) := (World.cell?_of_block (w := wr) (Below.heap_alloc wr _ Bn hBlt)).trans hcn'
      have hBX : ButX hi X W (wr.alloc (.cells #[.int .i64 x] 3)) := hnx.trans (ButX.alloc hsz _)
      subst ha
      clear hcs hxr hnr hxe
      cases hlk : ns.any (lackB x)
      · obtain ⟨fn, tmps, assign, body, hy, hR⟩ := hY _ k (wr.alloc (.cells #[.int .i64 x] 3)) (hJ _ _ hJs _) (by have := hits_le xs ns k; omega)
        have HL : Hid (ns.any (lackB x) = false) := hlk
        have HH : Hid (hits xs ns (k + 1) = hits xs ns k ++ [k]) := hits_yes (by rw [HX.out]; exact hlk)
        clear hlk hY
        gi_wp2_with (refine ⟨trivial, ?_⟩; gi_at_call 29; refine (callsIn_wide.2 (contains_lack _ _ _ ns _ _ _ HI HB)).mono ?_; rw [HL.out]; rintro e w' ⟨rfl, hw⟩; obtain rfl := hw.symm)
        refine hR.mono ?_
        rintro e W3 (⟨rfl, hJ3, hk3⟩ | ⟨rfl, hJx3⟩)
        · gi_wp2
          go_roundw
          case rel => exact ⟨k + 1, by omega, by simp, by rw [HH.out]; exact hJ3, hBX.trans hk3⟩
          case measure => simp [intOf]; omega
        · gi_wp2
          refine bodyPost_ret (results_none rfl _ _ _) rfl ?_
          exact ⟨⟨_, rfl⟩, .inr ⟨_, by rw [← HH.out]; exact hits_prefix _ _ _ _ (by omega), hJx3⟩⟩
      · have HL : Hid (ns.any (lackB x) = true) := hlk
        have HH : Hid (hits xs ns (k + 1) = hits xs ns k) := hits_no (by rw [HX.out]; exact hlk)
        clear hlk hY
        gi_wp2_with (refine ⟨trivial, ?_⟩; gi_at_call 29; refine (callsIn_wide.2 (contains_lack _ _ _ ns _ _ _ HI HB)).mono ?_; rw [HL.out]; rintro e w' ⟨rfl, hw⟩; obtain rfl := hw.symm)
        refine ⟨fun _ h => (by cases h), ?_⟩
        gi_wp2
        go_roundw
        case rel => exact ⟨k + 1, by omega, by simp, by rw [HH.out]; exact hJ _ _ hJs _, hBX⟩
        case measure => simp [intOf]; omega
    · obtain rfl : k = len := by omega
      gi_wp2
      go_end0
      exact ⟨⟨_, rfl⟩, .inl ⟨_, rfl, hJs⟩⟩

set_option maxHeartbeats 1000000 in
theorem having_in (n : Nat) (a : Option Addr) (len cap : Nat) (an : Option Addr) (lenn capn : Nat) (w : World) :
    CallsIn Fence.wide n Try.prog 33 #[.slice a len cap, .slice an lenn capn] w fun e w' => e = .returned (.func (.func 40) #[] #[.pointer (some ⟨w.heap.size, 0, none⟩), .pointer (some ⟨w.heap.size + 1, 0, none⟩)]) ∧ w' = (w.alloc (.cells #[.slice a len cap] 22)).alloc (.cells #[.slice an lenn capn] 22) := by
  refine callsIn_of_wp Try.func33 rfl trivial ?_ rfl
  simp only [Try.ntmps33, List.size_toArray, List.length_cons, List.length_nil, Nat.reduceAdd, Nat.reduceSub, Array.replicate_succ, Array.replicate_zero, List.push_toArray, List.append_toArray, List.nil_append, List.cons_append]
  gi_wp2
  go_ret
  exact ⟨rfl, rfl⟩

theorem having_stops (n : Nat) (hn : 1 ≤ n) (Bl Bn hi X : Nat) (a : Option Addr) (len cap : Nat) (xs : List Int) (an : Option Addr) (lenn capn : Nat) (ns : List Int) (w : World) (hBl : Bl < w.heap.size)
    (hBn : Bn < hi) (hBnX : Bn ≠ X) (hhi : hi ≤ w.heap.size)
    (hl : w.cell? ⟨Bl, 0, none⟩ = some (.slice a len cap)) (hcn : w.cell? ⟨Bn, 0, none⟩ = some (.slice an lenn capn)) (hx : IntsX hi X w a len xs) (hns : IntsX hi X w an lenn ns) :
    SeqStopsK Fence.wide n Try.prog 40 #[.pointer (some ⟨Bl, 0, none⟩), .pointer (some ⟨Bn, 0, none⟩)] (fun x : Nat => #[Value.int .i64 (x : Int)]) (ButX hi X) (fun ys => ys = hits xs ns len) (fun pre => pre <+: hits xs ns len) len w := fun l J Jx W hW hJ _ hY h0 =>
  have hX : ButX hi X w W := ⟨hW.size, fun k h1 _ => hW.block k (by omega)⟩
  having1_in n hn l Bl Bn hi X a len cap xs an lenn capn ns J Jx hBn hBnX hY W (Nat.le_trans hhi hW.size) (fun pre W1 h o => hJ pre W1 (W1.alloc o) none h (World.grownBy_alloc W1 o none) (fun r e => by cases e))
    ((hW.cell (p := ⟨Bl, 0, none⟩) hBl).trans hl) ((hW.cell (p := ⟨Bn, 0, none⟩) (by show Bn < _; omega)).trans hcn) (hx.kept hX) (hns.kept hX) h0

theorem ownBlock_ge {W : World} {hi : Nat} {e : TypeId} {size : Nat} {v : Value} {k : Nat} {xs : List Value} (hrow : W.ownsRow hi e size v k xs) : ∀ j, v.ownBlock = some j → hi ≤ j := by
  intro j ej
  rcases hrow.2 with ⟨rfl, _⟩ | ⟨g, cap, cur, rfl, hb, _, _⟩
  · simp [Value.ownBlock] at ej
  · obtain rfl : g = j := by simpa [Value.ownBlock] using ej
    exact hb

theorem appendedX {W w1 : World} {hi X : Nat} {t e : TypeId} {size : Nat} {v v' : Value} {k m : Nat} {xs ys : List Value} {tmp : Obj}
    (hv : Boxed W X t v) (hX : X < hi) (hrow : W.ownsRow hi e size v k xs) (hhi : hi ≤ W.heap.size)
    (hown' : w1.ownsRow hi e size v' m ys) (hgrow : (W.alloc tmp).grownBy w1 v.ownBlock) :
    Boxed w1 X t v ∧ Boxed (w1.setCell ⟨X, 0, none⟩ v') X t v' ∧ (w1.setCell ⟨X, 0, none⟩ v').ownsRow hi e size v' m ys ∧ KeepsOthers W (w1.setCell ⟨X, 0, none⟩ v') ∧ ButX hi X W (w1.setCell ⟨X, 0, none⟩ v') ∧ Below X W (w1.setCell ⟨X, 0, none⟩ v') := by
  have hge := ownBlock_ge hrow
  have hne : some X ≠ v.ownBlock := fun e' => by have := hge X e'.symm; omega
  have hv1 : Boxed w1 X t v := (hv.alloc tmp).kept hgrow hne
  have hb : Below hi W w1 := ((Below.refl hi W).alloc hhi tmp).grown hgrow (by simp; omega) hge
  refine ⟨hv1, hv1.set v', ownsRow_setCell_below hown' hX v', ?_, ?_, ?_⟩
  · refine ((KeepsOthers.alloc W tmp).trans (KeepsOthers.of_grownBy hgrow fun j o ej hj => ?_)).trans (KeepsOthers.setCell _ _ _)
    rcases (hrow.alloc tmp).2 with ⟨rfl, _⟩ | ⟨g, cap, cur, rfl, _, hgb, _⟩
    · simp [Value.ownBlock] at ej
    · obtain rfl : g = j := by simpa [Value.ownBlock] using ej
      rw [hgb] at hj; cases hj; rfl
  · refine ⟨Nat.le_trans hb.size (by simp [World.setCell]), fun k h1 h2 => ?_⟩
    rw [Below.heap_setCell _ _ _ _ h2]
    exact hb.block k h1
  · exact (hb.mono (Nat.le_of_lt hX)).setCell (p := ⟨X, 0, none⟩) (Nat.le_refl _) v'

theorem ownsRow_base {W : World} {lo hi : Nat} {e : TypeId} {size : Nat} {v : Value} {k : Nat} {xs : List Value} (h : lo ≤ hi) (hrow : W.ownsRow hi e size v k xs) : W.ownsRow lo e size v k xs := by
  refine ⟨hrow.1, ?_⟩
  rcases hrow.2 with h2 | ⟨g, cap, cur, e1, e2, e3⟩
  · exact .inl h2
  · exact .inr ⟨g, cap, cur, e1, Nat.le_trans h e2, e3⟩

theorem Try.info3 : (Try.prog.info? 3).map (fun i => (i.zero, i.size, i.bytes)) = some (some (.int .i64 0), 1, 8) := by kernel_rfl

/-- Numbers as values. -/
def nums (l : List Nat) : List Value := l.map fun g : Nat => Value.int .i64 (g : Int)

theorem below_of_ints {w : World} {a : Option Addr} {len : Nat} {xs : List Int} (h : Ints w a len xs) {W : World} {hi X : Nat} (hb : Below w.heap.size w W) (h1 : w.heap.size ≤ hi) (h2 : w.heap.size ≤ X) : IntsX hi X W a len xs := by
  refine ⟨h.hlen, h.hmax, fun hp => ?_⟩
  obtain ⟨b, off, e, hbl, hc⟩ := h.cells hp
  exact ⟨b, off, e, by omega, by omega, fun i hi' => (hb.cell (p := ⟨b, off + i, none⟩) hbl).trans (hc i hi')⟩

set_option maxRecDepth 100000 in
set_option maxHeartbeats 2000000 in
theorem of_any (a : Option Addr) (len cap : Nat) (xs : List Int) (n : Int) (w : World) (hI : Ints w a len xs) :
    Calls Try.prog 15 #[.slice a len cap, .int .i64 n] w fun e W' => ∃ v, e = .returned v ∧ W'.ownsRow w.heap.size 3 1 v (hits xs [n] len).length (nums (hits xs [n] len)) ∧ Below w.heap.size w W' := by
  obtain ⟨i0, hi, hz0, hz1, hz2⟩ := info_parts Try.info3
  have hmax := hI.hmax
  refine (callsIn_wide (n := 3)).1 ?_
  refine callsIn_of_wp_marks Try.func15 rfl trivial ?_ rfl
  simp only [Try.ntmps15, List.size_toArray, List.length_cons, List.length_nil, Nat.reduceAdd, Nat.reduceSub, Array.replicate_succ, Array.replicate_zero, List.push_toArray, List.append_toArray, List.nil_append, List.cons_append]
  gi_wp2_with (refine ⟨trivial, ?_⟩; gi_at_call 33; refine (having_in _ _ _ _ _ _ _ _).mono ?_; rintro e w' ⟨rfl, rfl⟩)
  have bO := (((Boxed.new w 22 (.slice none 0 0)).alloc (.cells #[.int .i64 n] 3)).alloc (.cells #[.slice a len cap] 22)).alloc (.cells #[.slice (some ⟨w.heap.size + 1, 0, none⟩) 1 1] 22)
  have bV := ((Boxed.new (w.alloc (.cells #[.slice none 0 0] 22)) 3 (.int .i64 n)).alloc (.cells #[.slice a len cap] 22)).alloc (.cells #[.slice (some ⟨w.heap.size + 1, 0, none⟩) 1 1] 22)
  have bL := (Boxed.new ((w.alloc (.cells #[.slice none 0 0] 22)).alloc (.cells #[.int .i64 n] 3)) 22 (.slice a len cap)).alloc (.cells #[.slice (some ⟨w.heap.size + 1, 0, none⟩) 1 1] 22)
  have bN := Boxed.new (((w.alloc (.cells #[.slice none 0 0] 22)).alloc (.cells #[.int .i64 n] 3)).alloc (.cells #[.slice a len cap] 22)) 22 (.slice (some ⟨w.heap.size + 1, 0, none⟩) 1 1)
  simp only [World.size_alloc] at bV bL bN
  have hB0 : Below w.heap.size w ((((w.alloc (.cells #[.slice none 0 0] 22)).alloc (.cells #[.int .i64 n] 3)).alloc (.cells #[.slice a len cap] 22)).alloc (.cells #[.slice (some ⟨w.heap.size + 1, 0, none⟩) 1 1] 22)) :=
    ((((Below.refl _ w).alloc (Nat.le_refl _) _).alloc (by simp) _).alloc (by simp; omega) _).alloc (by simp; omega) _
  have hns : IntsX (w.heap.size + 4) w.heap.size ((((w.alloc (.cells #[.slice none 0 0] 22)).alloc (.cells #[.int .i64 n] 3)).alloc (.cells #[.slice a len cap] 22)).alloc (.cells #[.slice (some ⟨w.heap.size + 1, 0, none⟩) 1 1] 22)) (some ⟨w.heap.size + 1, 0, none⟩) 1 [n] :=
    ⟨rfl, by omega, fun _ => ⟨_, _, rfl, by omega, by omega, fun i hi' => by obtain rfl : i = 0 := by omega
                                                                             simpa using bV.cell⟩⟩
  have hx0 := below_of_ints hI hB0 (hi := w.heap.size + 4) (X := w.heap.size) (by omega) (Nat.le_refl _)
  refine wpIn_rangeFunc_ownG rfl (by omega) (gf := 40) (lb := #[.pointer (some ⟨w.heap.size + 1 + 1, 0, none⟩), .pointer (some ⟨w.heap.size + 1 + 1 + 1, 0, none⟩)]) rfl trivial (enters_of Try.func40 (by kernel_rfl) rfl)
    (having_stops 2 (by omega) (w.heap.size + 1 + 1) (w.heap.size + 1 + 1 + 1) (w.heap.size + 4) w.heap.size a len cap xs (some ⟨w.heap.size + 1, 0, none⟩) 1 1 [n] _ (by simp) (by omega) (by omega) (by simp) bL.cell bN.cell hx0 hns)
    ButX.trans (ButX.b (by simp)) (Below.refl _ _) (fun _ => rfl)
    (fun pre W => (∃ v, Boxed W w.heap.size 22 v ∧ W.ownsRow (w.heap.size + 4) 3 1 v pre.length (nums pre) ∧ True) ∧ Below w.heap.size w W ∧ w.heap.size + 4 ≤ W.heap.size)
    (fun _ _ _ => False)
    (OwnFrom.and (Own.from (holdsRow_own (w.heap.size + 4) w.heap.size 22 3 1 (fun pre : List Nat => pre.length) (fun pre => nums pre) (fun _ _ => True)) _) (OwnFrom.and (ownFrom_below (Nat.le_refl _) (by simp; omega)) (fun s A B row hs hg _ => Nat.le_trans hs hg.size)))
    (fun _ _ _ _ _ hs _ _ => hs)
    ⟨⟨_, bO, World.ownsRow_nil _ _ _ _, trivial⟩, hB0, by simp⟩
    (fun x => { tmps := #[.slice a len cap, .int .i64 n, undef, undef, .slice none 0 0, .pointer (some ⟨w.heap.size, 0, none⟩), .int .i64 (x : Int), .slice a len cap, .int .i64 n, .slice (some ⟨w.heap.size + 1, 0, none⟩) 1 1,
      .func (.func 40) #[] #[.pointer (some ⟨w.heap.size + 1 + 1, 0, none⟩), .pointer (some ⟨w.heap.size + 1 + 1 + 1, 0, none⟩)], .int .i64 (x : Int), undef, undef, undef, undef, undef], defers := [] }) ?assign ?body ?done ?stop
  case assign =>
    intro l x W K hK
    gi_wp2
    exact hK
  case body =>
    rintro l pre x W ⟨⟨v, hv, hrow, _⟩, hB, hsz⟩ hlt
    have hc := hv.cell
    gi_wp2_with (gi_at_builtin; refine wpListIn_append_own _ rfl _ _ 22 rfl (w.heap.size + 4) 3 i0 (.int .i64 0) 1 8 Try.underlying22 hi hz0 hz1 hz2 rfl (by decide) _ _ _ rfl (hrow.alloc _) ⟨W.heap.size, 0, none⟩ 1 1 [.int .i64 (x : Int)] rfl rfl (cell_one_new _ _ _) (by simp [Value.oneCell']) (by unfold maxLen; omega) (by omega) (by simp; omega) ?_; intro v' w1 hown' hgrow _; obtain ⟨g', cap', rfl⟩ := ownsRow_succ hown'; obtain ⟨hv1, hv2, hr2, hk2, hx2, hb2⟩ := appendedX hv (by omega) hrow hsz hown' hgrow; have hc1 := hv1.cell; have hf1 := hv1.frozen)
    exact ⟨hk2.from _, hx2, ⟨_, hv2, by simpa [nums] using hr2, trivial⟩, hB.trans hb2, Nat.le_trans hsz hx2.1⟩
  case done =>
    rintro D ys W hD rfl ⟨⟨v, hv, hrow, _⟩, hB, hsz⟩ hK
    have hc := hv.cell
    gi_wp2
    refine ⟨by simp, .inl ⟨_, _, rfl, run_takeDeferred hK, ?_⟩⟩
    exact ⟨_, results_tmp rfl _ _ _, v, rfl, ownsRow_base (by omega) (ownsRow_putObj hrow _ hK rfl), hB.trans (belowK_b (w := w) (Nat.le_refl _) W D _ _ (by simp at hD; omega) hK rfl rfl)⟩
  case stop =>
    rintro D c pre W _ _ h _
    exact h.elim

set_option maxRecDepth 100000 in
set_option maxHeartbeats 2000000 in
theorem share_any (a : Option Addr) (len cap : Nat) (xs : List Int) (m n : Int) (w : World) (hI : Ints w a len xs) :
    Calls Try.prog 17 #[.slice a len cap, .int .i64 m, .int .i64 n] w fun e W' => e = .returned (.bool !(hits xs [m, n] len).isEmpty) ∧ Below w.heap.size w W' := by
  have hmax := hI.hmax
  refine (callsIn_wide (n := 3)).1 ?_
  refine callsIn_of_wp_marks Try.func17 rfl trivial ?_ rfl
  simp only [Try.ntmps17, List.size_toArray, List.length_cons, List.length_nil, Nat.reduceAdd, Nat.reduceSub, Array.replicate_succ, Array.replicate_zero, List.push_toArray, List.append_toArray, List.nil_append, List.cons_append]
  gi_wp2_with (refine ⟨trivial, ?_⟩; gi_at_call 33; refine (having_in _ _ _ _ _ _ _ _).mono ?_; rintro e w' ⟨rfl, rfl⟩)
  have bO := (((Boxed.new w 4 (.bool false)).alloc (.cells #[.int .i64 m, .int .i64 n] 3)).alloc (.cells #[.slice a len cap] 22)).alloc (.cells #[.slice (some ⟨w.heap.size + 1, 0, none⟩) 2 2] 22)
  have bL := (Boxed.new ((w.alloc (.cells #[.bool false] 4)).alloc (.cells #[.int .i64 m, .int .i64 n] 3)) 22 (.slice a len cap)).alloc (.cells #[.slice (some ⟨w.heap.size + 1, 0, none⟩) 2 2] 22)
  have bN := Boxed.new (((w.alloc (.cells #[.bool false] 4)).alloc (.cells #[.int .i64 m, .int .i64 n] 3)).alloc (.cells #[.slice a len cap] 22)) 22 (.slice (some ⟨w.heap.size + 1, 0, none⟩) 2 2)
  simp only [World.size_alloc] at bL bN
  have hB0 : Below w.heap.size w ((((w.alloc (.cells #[.bool false] 4)).alloc (.cells #[.int .i64 m, .int .i64 n] 3)).alloc (.cells #[.slice a len cap] 22)).alloc (.cells #[.slice (some ⟨w.heap.size + 1, 0, none⟩) 2 2] 22)) :=
    ((((Below.refl _ w).alloc (Nat.le_refl _) _).alloc (by simp) _).alloc (by simp; omega) _).alloc (by simp; omega) _
  have hns : IntsX (w.heap.size + 4) w.heap.size ((((w.alloc (.cells #[.bool false] 4)).alloc (.cells #[.int .i64 m, .int .i64 n] 3)).alloc (.cells #[.slice a len cap] 22)).alloc (.cells #[.slice (some ⟨w.heap.size + 1, 0, none⟩) 2 2] 22)) (some ⟨w.heap.size + 1, 0, none⟩) 2 [m, n] :=
    ⟨rfl, by omega, fun _ => ⟨_, _, rfl, by omega, by omega, fun i hi' => by
      rcases (show i = 0 ∨ i = 1 by omega) with rfl | rfl <;> simp [go_sem]⟩⟩
  have hx0 := below_of_ints hI hB0 (hi := w.heap.size + 4) (X := w.heap.size) (by omega) (Nat.le_refl _)
  refine wpIn_rangeFunc_ownG rfl (by omega) (gf := 40) (lb := #[.pointer (some ⟨w.heap.size + 1 + 1, 0, none⟩), .pointer (some ⟨w.heap.size + 1 + 1 + 1, 0, none⟩)]) rfl trivial (enters_of Try.func40 (by kernel_rfl) rfl)
    (having_stops 2 (by omega) (w.heap.size + 1 + 1) (w.heap.size + 1 + 1 + 1) (w.heap.size + 4) w.heap.size a len cap xs (some ⟨w.heap.size + 1, 0, none⟩) 2 2 [m, n] _ (by simp) (by omega) (by omega) (by simp) bL.cell bN.cell hx0 hns)
    ButX.trans (ButX.b (by simp)) (Below.refl _ _) (fun _ => rfl)
    (fun pre W => (pre = [] ∧ W.cell? ⟨w.heap.size, 0, none⟩ = some (.bool false) ∧ W.frozen? ⟨w.heap.size, 0, none⟩ = false) ∧ Below w.heap.size w W)
    (fun c pre W => (c = .ret ∧ pre ≠ [] ∧ W.cell? ⟨w.heap.size, 0, none⟩ = some (.bool true)) ∧ Below w.heap.size w W)
    (OwnFrom.and (Own.from (fun s A B row hs hg hr => ⟨hs.1, cell_kept hs.2.1 hg hr, (frozen_kept hs.2.1 hg hr).trans hs.2.2⟩) _) (ownFrom_below (Nat.le_refl _) (by simp; omega)))
    (fun c => OwnFrom.and (Own.from (fun s A B row hs hg hr => ⟨hs.1, hs.2.1, cell_kept hs.2.2 hg hr⟩) _) (ownFrom_below (Nat.le_refl _) (by simp; omega)))
    ⟨⟨rfl, bO.cell, bO.frozen⟩, hB0⟩
    (fun x => { tmps := #[.slice a len cap, .int .i64 m, .int .i64 n, undef, undef, undef, .pointer (some ⟨w.heap.size, 0, none⟩), .slice a len cap, .int .i64 m, .int .i64 n, .slice (some ⟨w.heap.size + 1, 0, none⟩) 2 2,
      .func (.func 40) #[] #[.pointer (some ⟨w.heap.size + 1 + 1, 0, none⟩), .pointer (some ⟨w.heap.size + 1 + 1 + 1, 0, none⟩)], .int .i64 (x : Int)], defers := [] }) ?assign ?body ?done ?stop
  case assign =>
    intro l x W K hK
    gi_wp2
    simpa using hK
  case body =>
    rintro l pre x W ⟨⟨_, hc, hf⟩, hB⟩ _
    gi_wp2
    exact ⟨(KeepsOthers.setCell _ _ _).from _, ⟨rfl, by simp, World.cell?_setCell_same' _ _ _ (by rw [hc]; rfl)⟩, hB.setCell (p := ⟨w.heap.size, 0, none⟩) (Nat.le_refl _) _⟩
  case done =>
    rintro D ys W hD hys ⟨⟨hem, hc, hf⟩, hB⟩ hK
    have HE : Hid ((hits xs [m, n] len).isEmpty = true) := by rw [← hys, hem]; rfl
    clear hys hem
    gi_wp2
    have hK' := (KeepsOthers.setCell W ⟨w.heap.size, 0, none⟩ (.bool false)).same D _ hK rfl
    refine ⟨by simp, .inl ⟨_, _, rfl, run_takeDeferred hK', ?_⟩⟩
    have hc5 := cell_kept (World.cell?_setCell_same' W ⟨w.heap.size, 0, none⟩ (.bool false) (by rw [hc]; rfl)) (grownBy_putObj' _ D (.deferred none)) (fun r e => by cases e; exact ⟨_, hK', rfl⟩)
    refine ⟨.bool false, ?_, by rw [HE.out]; rfl, (hB.setCell (p := ⟨w.heap.size, 0, none⟩) (by simp) _).trans (belowK_b (w := w) (Nat.le_refl _) _ D _ _ (by simp at hD; omega) hK' rfl rfl)⟩
    simp [results, Try.f17, go_sem, hc5]
  case stop =>
    rintro D c pre W hD hpre ⟨⟨rfl, hne, hc⟩, hB⟩ hK
    have HE : Hid ((hits xs [m, n] len).isEmpty = false) := by
      cases hh : hits xs [m, n] len with
      | nil => rw [hh] at hpre; exact absurd (List.prefix_nil.1 hpre) hne
      | cons y ys => rfl
    clear hpre hne
    gi_wp2
    refine ⟨by simp, .inl ⟨_, _, rfl, run_takeDeferred hK, ?_⟩⟩
    have hc5 := cell_kept hc (grownBy_putObj' _ D (.deferred none)) (fun r e => by cases e; exact ⟨_, hK, rfl⟩)
    refine ⟨.bool true, ?_, by rw [HE.out]; rfl, hB.trans (belowK_b (w := w) (Nat.le_refl _) W D _ _ (by simp at hD; omega) hK rfl rfl)⟩
    simp [results, Try.f17, go_sem, hc5]
end Go.Proofs.Ytbkfpdohgjnegaa
