/- Contracts of the document's answers on groups and of what must be in any case; then the walks of the laws GroupsTells and GroupsOf; no condition but that the slice reads as ints. -/
import Derived.Test.YtbkfpdohgjnegaaIter
import Derived.Deep.QuietTactic
import Derived.BigQuiet
import Derived.Deep.RegionWith
namespace Go.Proofs.Ytbkfpdohgjnegaa
set_option maxRecDepth 8000
open Go.RowKit Go.Shelf

theorem Ints.below {w W : World} {a : Option Addr} {len : Nat} {xs : List Int} (h : Ints w a len xs) (hb : Below w.heap.size w W) : Ints W a len xs := by
  refine ⟨h.hlen, h.hmax, fun hp => ?_⟩
  obtain ⟨b, off, e, hbl, hc⟩ := h.cells hp
  exact ⟨b, off, e, by have := hb.size; omega, fun i hi' => (hb.cell (p := ⟨b, off + i, none⟩) hbl).trans (hc i hi')⟩
theorem Ints.drewN {w : World} {a : Option Addr} {len : Nat} {xs : List Int} (h : Ints w a len xs) (k : Nat) : Ints (w.drewN k) a len xs := by
  refine ⟨h.hlen, h.hmax, fun hp => ?_⟩
  obtain ⟨b, off, e, hbl, hc⟩ := h.cells hp
  exact ⟨b, off, e, by simpa using hbl, fun i hi' => by simpa using hc i hi'⟩

/-- A row of numbers that a call owns, as a slice of ints. -/
theorem ints_of_row {W : World} {base : Nat} {v : Value} {l : List Nat} (h : W.ownsRow base 3 1 v l.length (nums l)) (hl : l.length ≤ 17592186043904) : ∃ a cap, v = .slice a l.length cap ∧ Ints W a l.length (l.map fun g : Nat => (g : Int)) := by
  rcases h.2 with ⟨rfl, h0⟩ | ⟨g, cap, cur, rfl, h1, h2, h3, h4, h5, h6⟩
  · have : l = [] := List.eq_nil_of_length_eq_zero h0
    subst this
    exact ⟨none, 0, rfl, rfl, by simp, fun hp => absurd hp (by simp)⟩
  · refine ⟨_, cap, rfl, by simp, hl, fun hp => ⟨g, 0, rfl, (Array.getElem?_eq_some_iff.1 h2).1, fun i hi => ?_⟩⟩
    have hcur : cur[i]? = some (.int .i64 (l[i] : Nat)) := by
      have : (cur.toList.take (l.length * 1))[i]? = (nums l)[i]? := by rw [h6]
      rw [List.getElem?_take, if_pos (by omega)] at this
      simp [nums, hi] at this
      simpa using this
    simp [World.cell?, h2, hcur, hi]

theorem hits_one (xs : List Int) (n : Int) (k : Nat) (hk : k < xs.length) : hasB xs k n = !([n].any (lackB (xs[k]?.getD 0))) := by
  simp [hasB, lackB, hk]
theorem hits_two (xs : List Int) (m n : Int) (k : Nat) (hk : k < xs.length) : (hasB xs k m && hasB xs k n) = !([m, n].any (lackB (xs[k]?.getD 0))) := by
  simp [hasB, lackB, hk]

theorem sameInts_any (a : Option Addr) (len cap : Nat) (xs : List Int) (a' : Option Addr) (len' cap' : Nat) (ys : List Int) (w : World) (hI : Ints w a len xs) (hJ : Ints w a' len' ys) :
    Calls Try.prog 14 #[.slice a len cap, .slice a' len' cap'] w fun e w' => e = .returned (.bool (decide (xs = ys))) ∧ ∃ k, w' = w.drewN k := by
  obtain ⟨rfl, hm, hc⟩ := hI
  obtain ⟨rfl, hm', hc'⟩ := hJ
  by_cases hne : xs.length = ys.length
  · have hb : ((xs.length : Int) != (ys.length : Int)) = false := by simp [hne]
    have HE : Hid (xs.length = ys.length) := hne
    clear hne
    go_enter Try.func14, Try.ntmps14
    go_wp2
    go_loopw [5] (fun i wr => (∃ k : Nat, k ≤ xs.length ∧ i = .int .i64 k ∧ xs.take k = ys.take k) ∧ ∃ q, wr = w.drewN q) (fun i _ => xs.length - (intOf i).toNat)
    case atStart => exact ⟨⟨0, Nat.zero_le _, rfl, rfl⟩, 0, rfl⟩
    case round =>
      obtain ⟨⟨k, hk, rfl, hn⟩, hq⟩ := hrel
      have HN : Hid (xs.take k = ys.take k) := hn
      have HQ : Hid (∃ q, wr = w.drewN q) := hq
      clear hn
      by_cases hlt : k < xs.length
      · have hlt' : k < ys.length := by have := HE.out; omega
        obtain ⟨b, off, rfl, hbb, hcell⟩ := hc (by omega)
        obtain ⟨b', off', rfl, hbb', hcell'⟩ := hc' (by omega)
        have hx : wr.cell? ⟨b, off + k, none⟩ = some (.int .i64 (xs[k]?.getD 0)) := by obtain ⟨q, rfl⟩ := hq; simpa using hcell k hlt
        have hy : wr.cell? ⟨b', off' + k, none⟩ = some (.int .i64 (ys[k]?.getD 0)) := by obtain ⟨q, rfl⟩ := hq; simpa using hcell' k hlt'
        clear hq hcell hcell' hc hc'
        cases hd : (xs[k] != ys[k])
        · have HS : Hid (xs.take (k + 1) = ys.take (k + 1)) := by
            have e : xs[k] = ys[k] := by simpa using hd
            unfold Hid; rw [List.take_succ_eq_append_getElem hlt, List.take_succ_eq_append_getElem hlt', HN.out, e]
          go_wp2_with fail
          go_quiet (fail)
          go_wp2
          go_roundw
          case rel => exact ⟨⟨k + 1, by omega, by go_num, HS.out⟩, by obtain ⟨q, e⟩ := HQ.out; exact ⟨q + nq, by rw [e, World.drewN_drewN]⟩⟩
          case measure => simp [intOf]; omega
        · have HS : Hid (decide (xs = ys) = false) := by
            have e : xs[k] ≠ ys[k] := by simpa using hd
            unfold Hid; rw [decide_eq_false_iff_not]; intro h; subst h; exact e rfl
          go_wp2_with fail
          go_quiet (fail)
          go_wp2
          go_ret
          exact ⟨by rw [HS.out]; rfl, by obtain ⟨q, e⟩ := HQ.out; exact ⟨q + nq, by rw [e, World.drewN_drewN]⟩⟩
      · have HS : Hid (decide (xs = ys) = true) := by
          have e : k = xs.length := by omega
          have h := HN.out
          have h2 := HE.out
          rw [e, List.take_length, h2, List.take_length] at h
          unfold Hid; simp [h]
        clear hq hc hc'
        go_wp2
        go_ret
        exact ⟨by rw [HS.out]; rfl, HQ.out⟩
  · have hb : ((xs.length : Int) != (ys.length : Int)) = true := by simp; omega
    have HS : Hid (decide (xs = ys) = false) := by unfold Hid; rw [decide_eq_false_iff_not]; intro h; subst h; exact hne rfl
    clear hne hc hc'
    go_enter Try.func14, Try.ntmps14
    go_wp2
    go_ret
    exact ⟨by rw [HS.out]; rfl, 0, rfl⟩

theorem refOf_any (a : Option Addr) (len cap : Nat) (xs : List Int) (n : Int) (w : World) (hI : Ints w a len xs) :
    Calls Try.prog 16 #[.slice a len cap, .int .i64 n] w fun e W' => ∃ v, e = .returned v ∧ W'.ownsRow w.heap.size 3 1 v (hits xs [n] len).length (nums (hits xs [n] len)) ∧ Below w.heap.size w W' := by
  obtain ⟨i0, hi, hz0, hz1, hz2⟩ := info_parts Try.info3
  have hmax := hI.hmax
  have hlen := hI.hlen
  go_enter Try.func16, Try.ntmps16
  go_wp2
  go_loopw [5, 6] (fun v i wr => ∃ k : Nat, k ≤ len ∧ i = .int .i64 k ∧ wr.ownsRow w.heap.size 3 1 v (hits xs [n] k).length (nums (hits xs [n] k)) ∧ Below w.heap.size w wr) (fun _ i _ => len - (intOf i).toNat)
  case atStart => exact ⟨0, Nat.zero_le _, rfl, World.ownsRow_nil _ _ _ _, Below.refl _ _⟩
  case round =>
    obtain ⟨k, hk, rfl, hown, hnx⟩ := hrel
    have hle := hits_le xs [n] k
    by_cases hlt : k < len
    · have hIr := hI.below hnx
      cases hh : hasB xs k n
      · have HH : Hid (hits xs [n] (k + 1) = hits xs [n] k) := hits_no (by have := hits_one xs n k (by omega); rw [hh] at this; simpa using this.symm)
        have H1 : Hid (hasB xs k n = false) := hh
        clear hh
        go_wp2_with (go_at_call 13; refine (hasOf_any _ _ _ xs _ _ _ hIr).mono ?_; rw [H1.out]; rintro e w' ⟨rfl, hw⟩; obtain rfl := hw.symm)
        go_roundw
        case rel => exact ⟨k + 1, by omega, by go_num, by rw [HH.out]; exact hown, hnx⟩
        case measure => simp [intOf]; omega
      · have HH : Hid (hits xs [n] (k + 1) = hits xs [n] k ++ [k]) := hits_yes (by have := hits_one xs n k (by omega); rw [hh] at this; simpa using this.symm)
        have H1 : Hid (hasB xs k n = true) := hh
        clear hh
        go_wp2_with (first
          | (go_at_call 13; refine (hasOf_any _ _ _ xs _ _ _ hIr).mono ?_; rw [H1.out]; rintro e w' ⟨rfl, hw⟩; obtain rfl := hw.symm)
          | (at_builtin; refine wpList_append_own _ rfl _ _ 22 rfl w.heap.size 3 i0 (.int .i64 0) 1 8 Try.underlying22 hi hz0 hz1 hz2 rfl (by decide) _ _ _ rfl (hown.alloc _) ⟨wr.heap.size, 0, none⟩ 1 1 [.int .i64 (k : Int)] rfl rfl (cell_one_new _ _ _) (by simp [Value.oneCell']) (by unfold maxLen; omega) (by omega) (by have := hnx.size; simp; omega) ?_; intro v' w1 hown' hgrow _))
        go_roundw
        case rel => exact ⟨k + 1, by omega, by go_num, by rw [HH.out]; simpa [nums] using hown', (hnx.alloc hnx.size _).grown hgrow (by have := hnx.size; simp; omega) (ownBlock_ge hown)⟩
        case measure => simp [intOf]; omega
    · obtain rfl : k = len := by omega
      go_wp2
      go_ret
      exact ⟨_, rfl, hown, hnx⟩

set_option maxHeartbeats 1000000 in
theorem refShare_any (a : Option Addr) (len cap : Nat) (xs : List Int) (m n : Int) (w : World) (hI : Ints w a len xs) :
    Calls Try.prog 18 #[.slice a len cap, .int .i64 m, .int .i64 n] w fun e W' => e = .returned (.bool !(hits xs [m, n] len).isEmpty) ∧ W' = w := by
  have hmax := hI.hmax
  have hlen := hI.hlen
  go_enter Try.func18, Try.ntmps18
  go_wp2
  go_loop [7] (fun i => ∃ k : Nat, k ≤ len ∧ i = .int .i64 k ∧ hits xs [m, n] k = []) (fun i => len - (intOf i).toNat)
  case atStart => exact ⟨0, Nat.zero_le _, rfl, rfl⟩
  case round =>
    obtain ⟨k, hk, rfl, hn⟩ := hrel
    by_cases hlt : k < len
    · have h2 := hits_two xs m n k (by omega)
      cases h4 : hasB xs k m
      · have HH : Hid (hits xs [m, n] (k + 1) = []) := by unfold Hid; rw [h4] at h2; rw [hits_no (by rw [← Bool.not_eq_false', ← h2]; rfl), hn]
        have H4 : Hid (hasB xs k m = false) := h4
        clear hn h2 h4
        go_wp2_with (go_at_call 13; refine (hasOf_any _ _ _ xs _ _ _ hI).mono ?_; rw [H4.out]; rintro e w' ⟨rfl, hw⟩; obtain rfl := hw.symm)
        go_round
        case rel => exact ⟨k + 1, by omega, by go_num, HH.out⟩
        case measure => simp [intOf]; omega
      · cases h5 : hasB xs k n
        · have HH : Hid (hits xs [m, n] (k + 1) = []) := by unfold Hid; rw [h4, h5] at h2; rw [hits_no (by rw [← Bool.not_eq_false', ← h2]; rfl), hn]
          have H4 : Hid (hasB xs k m = true) := h4
          have H5 : Hid (hasB xs k n = false) := h5
          clear hn h2 h4 h5
          go_wp2_with (first | (go_at_call_of 13 (Value.int IntKind.i64 m); refine (hasOf_any _ _ _ xs _ m _ hI).mono ?_; rw [H4.out]; rintro e w' ⟨rfl, hw⟩; obtain rfl := hw.symm) | (go_at_call 13; refine (hasOf_any _ _ _ xs _ n _ hI).mono ?_; rw [H5.out]; rintro e w' ⟨rfl, hw⟩; obtain rfl := hw.symm))
          go_round
          case rel => exact ⟨k + 1, by omega, by go_num, HH.out⟩
          case measure => simp [intOf]; omega
        · have HH : Hid ((hits xs [m, n] len).isEmpty = false) := by
            rw [h4, h5] at h2
            have e := hits_yes (xs := xs) (ns := [m, n]) (k := k) (by rw [← Bool.not_eq_true', ← h2]; rfl)
            have p := hits_prefix xs [m, n] (k + 1) len (by omega)
            rw [e] at p
            unfold Hid
            cases hh : hits xs [m, n] len with
            | nil => rw [hh] at p; have := List.prefix_nil.1 p; simp at this
            | cons y ys => rfl
          have H4 : Hid (hasB xs k m = true) := h4
          have H5 : Hid (hasB xs k n = true) := h5
          clear hn h2 h4 h5
          go_wp2_with (first | (go_at_call_of 13 (Value.int IntKind.i64 m); refine (hasOf_any _ _ _ xs _ m _ hI).mono ?_; rw [H4.out]; rintro e w' ⟨rfl, hw⟩; obtain rfl := hw.symm) | (go_at_call 13; refine (hasOf_any _ _ _ xs _ n _ hI).mono ?_; rw [H5.out]; rintro e w' ⟨rfl, hw⟩; obtain rfl := hw.symm))
          go_ret
          exact ⟨by rw [HH.out]; rfl, rfl⟩
    · obtain rfl : k = len := by omega
      have HH : Hid (hits xs [m, n] k = []) := hn
      clear hn
      go_wp2
      go_ret
      exact ⟨by rw [HH.out]; rfl, rfl⟩

theorem below_drewN {B : Nat} {a w : World} (h : Below B a w) (k : Nat) : Below B a (w.drewN k) :=
  ⟨h.os, h.tape, h.output, h.size, h.block⟩

/-- Behind a base world w0: what lay below n0 lies as it lay. -/
structure Since (w0 w : World) : Prop where
  below : Below w0.heap.size w0 w
theorem Since.refl (w : World) : Since w w := ⟨Below.refl _ _⟩
theorem Since.size {w0 w : World} (h : Since w0 w) : w0.heap.size ≤ w.heap.size := h.below.size
theorem Since.step {w0 w w' : World} (h : Since w0 w) (k : Below w.heap.size w w') : Since w0 w' := ⟨h.below.trans (k.mono h.size)⟩
theorem Ints.since {w w' : World} {a : Option Addr} {len : Nat} {xs : List Int} (h : Ints w a len xs) (k : Since w w') : Ints w' a len xs := h.below k.below

theorem two_s (w0 w : World) (h : Since w0 w) :
    Calls Try.prog 27 #[] w fun e w' => ∃ b cap, e = .returned (.slice (some ⟨b, 0, none⟩) 2 cap) ∧ Ints w' (some ⟨b, 0, none⟩) 2 [3, 6] ∧ Since w0 w' := by
  go_enter Try.func27, Try.ntmps27
  go_wp2
  go_ret
  refine ⟨_, _, rfl, ⟨rfl, by omega, fun _ => ⟨_, _, rfl, by simp, fun i hi => ?_⟩⟩, h.step ((Below.refl _ _).alloc (Nat.le_refl _) _)⟩
  rcases (show i = 0 ∨ i = 1 by omega) with rfl | rfl <;> simp [go_sem]

theorem check_s (w0 w : World) (nodes : Int) (a : Option Addr) (len cap : Nat) (xs : List Int) (hI : Ints w a len xs) (h : Since w0 w) :
    Calls Try.prog 10 #[.int .i64 nodes, .slice a len cap] w fun e w' => e = .returned (.int .i64 (chkE nodes xs)) ∧ Since w0 w' :=
  (check_any nodes a len cap xs w hI).mono fun e w' ⟨he, hw⟩ => ⟨he, by rw [hw]; exact h.step ((Below.refl _ _).alloc (Nat.le_refl _) _)⟩
theorem error_s (w0 w : World) (nodes : Int) (a : Option Addr) (len cap : Nat) (xs : List Int) (hI : Ints w a len xs) (h : Since w0 w) :
    Calls Try.prog 11 #[.int .i64 nodes, .slice a len cap] w fun e w' => e = .returned (.int .i64 (chkE nodes xs)) ∧ Since w0 w' :=
  (error_any nodes a len cap xs w hI).mono fun e w' ⟨he, k, hw⟩ => ⟨he, by rw [hw]; exact h.step (below_drewN (Below.refl _ _) k)⟩
theorem has_s (w0 w : World) (a : Option Addr) (len cap : Nat) (xs : List Int) (g n : Int) (hI : Ints w a len xs) (h : Since w0 w) :
    Calls Try.prog 12 #[.slice a len cap, .int .i64 g, .int .i64 n] w fun e w' => e = .returned (.bool (hasB xs g n)) ∧ Since w0 w' :=
  (has_any a len cap xs g n w hI).mono fun e w' ⟨he, hw⟩ => ⟨he, by rw [hw]; exact h⟩
theorem hasOf_s (w0 w : World) (a : Option Addr) (len cap : Nat) (xs : List Int) (g n : Int) (hI : Ints w a len xs) (h : Since w0 w) :
    Calls Try.prog 13 #[.slice a len cap, .int .i64 g, .int .i64 n] w fun e w' => e = .returned (.bool (hasB xs g n)) ∧ Since w0 w' :=
  (hasOf_any a len cap xs g n w hI).mono fun e w' ⟨he, hw⟩ => ⟨he, by rw [hw]; exact h⟩

/-- The numbers of the groups that have all of ns, as ints. -/
def hitI (xs ns : List Int) : List Int := (hits xs ns xs.length).map fun g : Nat => (g : Int)
theorem hits_max {w : World} {a : Option Addr} {len : Nat} {xs : List Int} (hI : Ints w a len xs) (ns : List Int) : (hits xs ns len).length ≤ 17592186043904 := by
  have := hits_le xs ns len; have := hI.hmax; omega

theorem of_s (w0 w : World) (a : Option Addr) (len cap : Nat) (xs : List Int) (n : Int) (hI : Ints w a len xs) (h : Since w0 w) :
    Calls Try.prog 15 #[.slice a len cap, .int .i64 n] w fun e w' => ∃ a' len' cap', e = .returned (.slice a' len' cap') ∧ Ints w' a' len' (hitI xs [n]) ∧ Since w0 w' ∧ Since w w' :=
  (of_any a len cap xs n w hI).mono fun e w' ⟨v, he, ho, hb⟩ => by
    obtain ⟨a', cap', rfl, hr⟩ := ints_of_row ho (hits_max hI _)
    exact ⟨a', _, cap', he, by unfold hitI; rw [hI.hlen]; exact hr, h.step hb, ⟨hb⟩⟩
theorem refOf_s (w0 w : World) (a : Option Addr) (len cap : Nat) (xs : List Int) (n : Int) (hI : Ints w a len xs) (h : Since w0 w) :
    Calls Try.prog 16 #[.slice a len cap, .int .i64 n] w fun e w' => ∃ a' len' cap', e = .returned (.slice a' len' cap') ∧ Ints w' a' len' (hitI xs [n]) ∧ Since w0 w' ∧ Since w w' :=
  (refOf_any a len cap xs n w hI).mono fun e w' ⟨v, he, ho, hb⟩ => by
    obtain ⟨a', cap', rfl, hr⟩ := ints_of_row ho (hits_max hI _)
    exact ⟨a', _, cap', he, by unfold hitI; rw [hI.hlen]; exact hr, h.step hb, ⟨hb⟩⟩

/-- Is there a group that has both? -/
def shareB (xs : List Int) (m n : Int) : Bool := !(hits xs [m, n] xs.length).isEmpty
theorem share_s (w0 w : World) (a : Option Addr) (len cap : Nat) (xs : List Int) (m n : Int) (hI : Ints w a len xs) (h : Since w0 w) :
    Calls Try.prog 17 #[.slice a len cap, .int .i64 m, .int .i64 n] w fun e w' => e = .returned (.bool (shareB xs m n)) ∧ Since w0 w' ∧ Since w w' :=
  (share_any a len cap xs m n w hI).mono fun e w' ⟨he, hb⟩ => ⟨by unfold shareB; rw [hI.hlen]; exact he, h.step hb, ⟨hb⟩⟩
theorem refShare_s (w0 w : World) (a : Option Addr) (len cap : Nat) (xs : List Int) (m n : Int) (hI : Ints w a len xs) (h : Since w0 w) :
    Calls Try.prog 18 #[.slice a len cap, .int .i64 m, .int .i64 n] w fun e w' => e = .returned (.bool (shareB xs m n)) ∧ Since w0 w' :=
  (refShare_any a len cap xs m n w hI).mono fun e w' ⟨he, hw⟩ => ⟨by unfold shareB; rw [hI.hlen]; exact he, by rw [hw]; exact h⟩
theorem sameInts_s (w0 w : World) (a : Option Addr) (len cap : Nat) (xs : List Int) (a' : Option Addr) (len' cap' : Nat) (ys : List Int) (hI : Ints w a len xs) (hJ : Ints w a' len' ys) (h : Since w0 w) :
    Calls Try.prog 14 #[.slice a len cap, .slice a' len' cap'] w fun e w' => e = .returned (.bool (decide (xs = ys))) ∧ Since w0 w' :=
  (sameInts_any a len cap xs a' len' cap' ys w hI hJ).mono fun e w' ⟨he, k, hw⟩ => ⟨he, by rw [hw]; exact h.step (below_drewN (Below.refl _ _) k)⟩

theorem ints_lit {w : World} {v : Int} : Ints (w.alloc (.cells #[.int .i64 v] 3)) (some ⟨w.heap.size, 0, none⟩) 1 [v] :=
  ⟨rfl, by omega, fun _ => ⟨_, _, rfl, by simp, fun i hi => by
    obtain rfl : i = 0 := by omega
    simp [go_sem]⟩⟩
theorem ints_lit2 {w : World} {u v : Int} : Ints (w.alloc (.cells #[.int .i64 u, .int .i64 v] 3)) (some ⟨w.heap.size, 0, none⟩) 2 [u, v] :=
  ⟨rfl, by omega, fun _ => ⟨_, _, rfl, by simp, fun i hi => by rcases (show i = 0 ∨ i = 1 by omega) with rfl | rfl <;> simp [go_sem]⟩⟩
theorem ints_nil {w : World} : Ints w none 0 [] := ⟨rfl, by omega, fun h => absurd h (by omega)⟩
theorem Since.alloc {w0 w : World} (h : Since w0 w) (o : Obj) : Since w0 (w.alloc o) := h.step ((Below.refl _ _).alloc (Nat.le_refl _) _)
theorem sinceA {w w1 : World} {o : Obj} (h : w.alloc o = w1) : Since w w1 := by rw [← h]; exact (Since.refl w).alloc _

set_option maxRecDepth 100000 in
set_option maxHeartbeats 2000000 in
theorem begun_s (w0 w : World) (h : Since w0 w) : Calls Try.prog 9 #[] w fun e w' => e = .returned (.bool true) ∧ Since w0 w' := by
  go_enter Try.func9, Try.ntmps9
  go_wp2_with fail
  refine (two_s w0 _ h).mono ?_
  rintro e w1 ⟨b1, c1, rfl, hI, h1⟩
  clear h; have h := h1; clear h1
  go_wp2_with fail
  refine (check_s w0 _ _ _ _ _ _ hI h).mono ?_
  rw [show chkE 3 [3, 6] = 0 from by decide]
  rintro e w1 ⟨rfl, h1⟩
  clear hI h; have h := h1; clear h1
  go_wp2_with fail
  refine (two_s w0 _ h).mono ?_
  rintro e w1 ⟨b1, c1, rfl, hI, h1⟩
  clear h; have h := h1; clear h1
  go_wp2_with fail
  refine (check_s w0 _ _ _ _ _ _ hI h).mono ?_
  rw [show chkE 0 [3, 6] = 3 from by decide]
  rintro e w1 ⟨rfl, h1⟩
  clear hI h; have h := h1; clear h1
  have hI := ints_nil (w := w1)
  go_wp2_with fail
  refine (check_s w0 _ _ _ _ _ _ ints_nil h).mono ?_
  rw [show chkE 3 [] = 2 from by decide]
  rintro e w1 ⟨rfl, h1⟩
  clear hI h; have h := h1; clear h1
  go_wp2_with fail
  refine (two_s w0 _ h).mono ?_
  rintro e w1 ⟨b1, c1, rfl, hI, h1⟩
  clear h; have h := h1; clear h1
  go_wp2_with fail
  refine (check_s w0 _ _ _ _ _ _ hI h).mono ?_
  rw [show chkE 2 [3, 6] = 1 from by decide]
  rintro e w1 ⟨rfl, h1⟩
  clear hI h; have h := h1; clear h1
  have hI := ints_nil (w := w1)
  go_wp2_with fail
  refine (check_s w0 _ _ _ _ _ _ ints_lit (h.alloc _)).mono ?_
  rw [show chkE 3 [0] = 1 from by decide]
  rintro e w1 ⟨rfl, h1⟩
  clear hI h; have h := h1; clear h1
  go_wp2_with fail
  refine (two_s w0 _ h).mono ?_
  rintro e w1 ⟨b1, c1, rfl, hI, h1⟩
  clear h; have h := h1; clear h1
  go_wp2_with fail
  refine (has_s w0 _ _ _ _ _ _ _ hI h).mono ?_
  rw [show hasB [3, 6] 0 1 = true from by decide]
  rintro e w1 ⟨rfl, h1⟩
  clear hI h; have h := h1; clear h1
  go_wp2_with fail
  refine (two_s w0 _ h).mono ?_
  rintro e w1 ⟨b1, c1, rfl, hI, h1⟩
  clear h; have h := h1; clear h1
  go_wp2_with fail
  refine (has_s w0 _ _ _ _ _ _ _ hI h).mono ?_
  rw [show hasB [3, 6] 0 2 = false from by decide]
  rintro e w1 ⟨rfl, h1⟩
  clear hI h; have h := h1; clear h1
  go_wp2_with fail
  refine (two_s w0 _ h).mono ?_
  rintro e w1 ⟨b1, c1, rfl, hI, h1⟩
  clear h; have h := h1; clear h1
  go_wp2_with fail
  refine (has_s w0 _ _ _ _ _ _ _ hI h).mono ?_
  rw [show hasB [3, 6] 2 0 = false from by decide]
  rintro e w1 ⟨rfl, h1⟩
  clear hI h; have h := h1; clear h1
  go_wp2_with fail
  refine (two_s w0 _ h).mono ?_
  rintro e w1 ⟨b1, c1, rfl, hI, h1⟩
  clear h; have h := h1; clear h1
  go_wp2_with fail
  refine (of_s w0 _ _ _ _ _ _ hI h).mono ?_
  rw [show hitI [3, 6] [1] = [0, 1] from by decide]
  rintro e w1 ⟨a1, l1, c1, rfl, hI1, h1, _⟩
  clear hI h; have hI := hI1; have h := h1; clear h1 hI1
  go_wp2_with fail
  refine (sameInts_s w0 _ _ _ _ _ _ _ _ _ (hI.alloc _) ints_lit2 (h.alloc _)).mono ?_
  rw [decide_eq_true rfl]
  rintro e w1 ⟨rfl, h1⟩
  clear hI h; have h := h1; clear h1
  go_wp2_with fail
  refine (two_s w0 _ h).mono ?_
  rintro e w1 ⟨b1, c1, rfl, hI, h1⟩
  clear h; have h := h1; clear h1
  go_wp2_with fail
  refine (of_s w0 _ _ _ _ _ _ hI h).mono ?_
  rw [show hitI [3, 6] [2] = [1] from by decide]
  rintro e w1 ⟨a1, l1, c1, rfl, hI1, h1, _⟩
  clear hI h; have hI := hI1; have h := h1; clear h1 hI1
  go_wp2_with fail
  refine (sameInts_s w0 _ _ _ _ _ _ _ _ _ (hI.alloc _) ints_lit (h.alloc _)).mono ?_
  rw [decide_eq_true rfl]
  rintro e w1 ⟨rfl, h1⟩
  clear hI h; have h := h1; clear h1
  go_wp2_with fail
  refine (two_s w0 _ h).mono ?_
  rintro e w1 ⟨b1, c1, rfl, hI, h1⟩
  clear h; have h := h1; clear h1
  go_wp2_with fail
  refine (share_s w0 _ _ _ _ _ _ _ hI h).mono ?_
  rw [show shareB [3, 6] 0 1 = true from by decide]
  rintro e w1 ⟨rfl, h1, _⟩
  clear hI h; have h := h1; clear h1
  go_wp2_with fail
  refine (two_s w0 _ h).mono ?_
  rintro e w1 ⟨b1, c1, rfl, hI, h1⟩
  clear h; have h := h1; clear h1
  go_wp2_with fail
  refine (share_s w0 _ _ _ _ _ _ _ hI h).mono ?_
  rw [show shareB [3, 6] 0 2 = false from by decide]
  rintro e w1 ⟨rfl, h1, _⟩
  clear hI h; have h := h1; clear h1
  go_wp2_with fail
  go_ret
  exact ⟨rfl, h⟩

theorem law_tells (nodes : Int) (a : Option Addr) (len cap : Nat) (xs : List Int) (g n : Int) (w : World) (hI : Ints w a len xs) :
    Calls Try.prog 3 #[.int .i64 nodes, .slice a len cap, .int .i64 g, .int .i64 n] w fun e w' => e = .returned (.bool true) ∧ Below w.heap.size w w' := by
  go_enter Try.func3, Try.ntmps3
  go_wp2_with fail
  refine (begun_s w _ (Since.refl _)).mono ?_
  rintro e w1 ⟨rfl, h⟩
  go_wp2_with fail
  refine (check_s w _ _ _ _ _ _ (hI.since h) h).mono ?_
  rintro e w2 ⟨rfl, h2⟩
  go_wp2_with fail
  refine (error_s w _ _ _ _ _ _ (hI.since h2) h2).mono ?_
  rintro e w3 ⟨rfl, h3⟩
  go_wp2_with fail
  refine (has_s w _ _ _ _ _ _ _ (hI.since h3) h3).mono ?_
  rintro e w4 ⟨rfl, h4⟩
  go_wp2_with fail
  refine (hasOf_s w _ _ _ _ _ _ _ (hI.since h4) h4).mono ?_
  rintro e w5 ⟨rfl, h5⟩
  go_wp2_with fail
  go_ret
  exact ⟨by simp, h5.below⟩

theorem law_of (a : Option Addr) (len cap : Nat) (xs : List Int) (m n : Int) (w : World) (hI : Ints w a len xs) :
    Calls Try.prog 4 #[.slice a len cap, .int .i64 m, .int .i64 n] w fun e w' => e = .returned (.bool true) ∧ Below w.heap.size w w' := by
  go_enter Try.func4, Try.ntmps4
  go_wp2_with fail
  refine (begun_s w _ (Since.refl _)).mono ?_
  rintro e w1 ⟨rfl, h⟩
  go_wp2_with fail
  refine (of_s w _ _ _ _ _ _ (hI.since h) h).mono ?_
  rintro e w2 ⟨a2, l2, c2, rfl, hI2, h2, _⟩
  go_wp2_with fail
  refine (refOf_s w _ _ _ _ _ _ (hI.since h2) h2).mono ?_
  rintro e w3 ⟨a3, l3, c3, rfl, hI3, h3, h23⟩
  go_wp2_with fail
  refine (sameInts_s w _ _ _ _ _ _ _ _ _ (hI2.since h23) hI3 h3).mono ?_
  rw [decide_eq_true rfl]
  rintro e w4 ⟨rfl, h4⟩
  go_wp2_with fail
  refine (share_s w _ _ _ _ _ _ _ (hI.since h4) h4).mono ?_
  rintro e w5 ⟨rfl, h5, _⟩
  go_wp2_with fail
  refine (refShare_s w _ _ _ _ _ _ _ (hI.since h5) h5).mono ?_
  rintro e w6 ⟨rfl, h6⟩
  go_wp2_with fail
  go_ret
  exact ⟨by simp, h6.below⟩
end Go.Proofs.Ytbkfpdohgjnegaa
