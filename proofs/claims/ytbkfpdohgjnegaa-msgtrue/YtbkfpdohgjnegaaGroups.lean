/- Contracts: what groups.Check, groups.Has and their answers by the document come to, at whatever slice of ints; no condition but that the slice reads as ints. -/
import Derived.Test.YtbkfpdohgjnegaaRows
import Derived.WalkKit
import Derived.WalkSpells
import Derived.Deep.QuietTactic
import Derived.BigQuiet
namespace Go.Proofs.Ytbkfpdohgjnegaa
set_option maxRecDepth 8000
open Go.RowKit

def inB (n lo hi : Int) : Bool := decide (lo ≤ n ∧ n ≤ hi)

theorem within_any (n lo hi : Int) (w : World) :
    Calls Try.prog 30 #[.int .i64 n, .int .i64 lo, .int .i64 hi] w fun e w' => e = .returned (.bool (inB n lo hi)) ∧ w' = w := by
  unfold inB
  by_cases h1 : lo ≤ n
  · by_cases h2 : n ≤ hi
    · go_enter Try.func30, Try.ntmps30
      go_wp2
      go_ret
      exact ⟨by simp [*], rfl⟩
    · go_enter Try.func30, Try.ntmps30
      go_wp2
      go_ret
      exact ⟨by simp [*], rfl⟩
  · go_enter Try.func30, Try.ntmps30
    go_wp2
    go_ret
    exact ⟨by simp; omega, rfl⟩

/-- Is bit n of x set: of the first four alone. -/
def bitB (x n : Int) : Bool := decide (0 ≤ n) && (decide (n < 4) && (bits BinOp.and IntKind.i64 (x / 2 ^ n.toNat) 1 == 1))

theorem member_any (x n : Int) (w : World) :
    Calls Try.prog 32 #[.int .i64 x, .int .i64 n] w fun e w' => e = .returned (.bool (bitB x n)) ∧ w' = w := by
  unfold bitB
  by_cases h1 : 0 ≤ n
  · by_cases h2 : n < 4
    · go_enter Try.func32, Try.ntmps32
      go_wp2
      go_ret
      exact ⟨by simp [*], rfl⟩
    · have h3 : decide (n < 4) = false := by simpa using h2
      go_enter Try.func32, Try.ntmps32
      go_wp2
      go_ret
      exact ⟨by simp [*], rfl⟩
  · have h3 : decide (0 ≤ n) = false := by simpa using h1
    go_enter Try.func32, Try.ntmps32
    go_wp2
    go_ret
    exact ⟨by simp, rfl⟩

/-- What the walk is told of a slice of ints: its elements. -/
structure Ints (w : World) (a : Option Addr) (len : Nat) (xs : List Int) : Prop where
  hlen : xs.length = len
  hmax : len ≤ 17592186043904
  cells : 0 < len → ∃ b off, a = some ⟨b, off, none⟩ ∧ b < w.heap.size ∧ ∀ i, i < len → w.cell? ⟨b, off + i, none⟩ = some (.int .i64 (xs[i]?.getD 0))

/-- Group g of xs has n. -/
def hasB (xs : List Int) (g n : Int) : Bool := decide (0 ≤ g) && (decide (g < xs.length) && bitB (xs[g.toNat]?.getD 0) n)

theorem has_any (a : Option Addr) (len cap : Nat) (xs : List Int) (g n : Int) (w : World) (hI : Ints w a len xs) :
    Calls Try.prog 12 #[.slice a len cap, .int .i64 g, .int .i64 n] w fun e w' => e = .returned (.bool (hasB xs g n)) ∧ w' = w := by
  obtain ⟨rfl, hmax, hc⟩ := hI
  unfold hasB
  by_cases h1 : 0 ≤ g
  · by_cases h2 : g < xs.length
    · obtain ⟨b, off, rfl, hb, hcell⟩ := hc (by omega)
      have hx := hcell g.toNat (by omega)
      have h3 : g.toNat < xs.length := by omega
      clear hcell hc
      go_enter Try.func12, Try.ntmps12
      go_wp2_with (go_at_call 32; refine (member_any _ _ _).mono ?_; rintro e w' ⟨rfl, rfl⟩)
      go_ret
      exact ⟨by simp [*], rfl⟩
    · have h3 : decide (g < xs.length) = false := by simpa using h2
      clear hc
      go_enter Try.func12, Try.ntmps12
      go_wp2
      go_ret
      exact ⟨by simp [*], rfl⟩
  · have h3 : decide (0 ≤ g) = false := by simpa using h1
    clear hc
    go_enter Try.func12, Try.ntmps12
    go_wp2
    go_ret
    exact ⟨by simp, rfl⟩

theorem hasOf_any (a : Option Addr) (len cap : Nat) (xs : List Int) (g n : Int) (w : World) (hI : Ints w a len xs) :
    Calls Try.prog 13 #[.slice a len cap, .int .i64 g, .int .i64 n] w fun e w' => e = .returned (.bool (hasB xs g n)) ∧ w' = w := by
  obtain ⟨rfl, hmax, hc⟩ := hI
  unfold hasB
  by_cases h1 : 0 ≤ g ∧ g < xs.length
  · obtain ⟨h1, h2⟩ := h1
    obtain ⟨b, off, rfl, hb, hcell⟩ := hc (by omega)
    have hx := hcell g.toNat (by omega)
    have h3 : g.toNat < xs.length := by omega
    have hi : inB g 0 (xs.length - 1) = true := by simp [inB]; omega
    clear hcell hc
    by_cases h4 : 0 ≤ n ∧ n < 4
    · obtain ⟨h4, h5⟩ := h4
      have hn : inB n 0 3 = true := by simp [inB]; omega
      go_enter Try.func13, Try.ntmps13
      go_wp2_with (go_at_call 30; refine (within_any _ _ _ _).mono ?_; rintro e w' ⟨rfl, rfl⟩)
      go_ret
      exact ⟨by simp [bitB, *], rfl⟩
    · have hn : inB n 0 3 = false := by simp [inB]; omega
      go_enter Try.func13, Try.ntmps13
      go_wp2_with (go_at_call 30; refine (within_any _ _ _ _).mono ?_; rintro e w' ⟨rfl, rfl⟩)
      go_ret
      refine ⟨?_, rfl⟩
      simp [bitB, *]
      omega
  · have hi : inB g 0 (xs.length - 1) = false := by simp [inB]; omega
    clear hc
    go_enter Try.func13, Try.ntmps13
    go_wp2_with (go_at_call 30; refine (within_any _ _ _ _).mono ?_; rintro e w' ⟨rfl, rfl⟩)
    go_ret
    refine ⟨?_, rfl⟩
    simp
    omega

/-- Two to the power. -/
def pw : Nat → Int
  | 0 => 1
  | k + 1 => 2 * pw k
theorem pw_bd (k : Nat) (h : k ≤ 4) : 1 ≤ pw k ∧ pw k ≤ 16 := by
  have : k = 0 ∨ k = 1 ∨ k = 2 ∨ k = 3 ∨ k = 4 := by omega
  rcases this with rfl | rfl | rfl | rfl | rfl <;> decide

theorem power_any (k : Nat) (hk : k ≤ 4) (w : World) :
    Calls Try.prog 31 #[.int .i64 k] w fun e w' => e = .returned (.int .i64 (pw k)) ∧ w' = w := by
  induction k with
  | zero =>
    go_enter Try.func31, Try.ntmps31
    go_wp2_with fail
    go_ret
    exact ⟨rfl, rfl⟩
  | succ k ih =>
    have H : Hid (Calls Try.prog 31 #[.int .i64 k] w fun e w' => e = .returned (.int .i64 (pw k)) ∧ w' = w) := ih (by omega)
    clear ih
    have hb := pw_bd k (by omega)
    go_enter Try.func31, Try.ntmps31
    go_wp2_with (go_at_call 31; refine (H.out).mono ?_; rintro e w' ⟨rfl, rfl⟩)
    go_ret
    exact ⟨rfl, rfl⟩

/-- A number that may be no group of that many nodes. -/
def wrongB (nodes x : Int) : Bool := decide (x ≤ 0) || (x / 2 ^ nodes.toNat != 0)

theorem wrong_iff (k : Nat) (hk : k ≤ 4) (x : Int) : wrongB k x = !inB x 1 (pw k - 1) := by
  have : k = 0 ∨ k = 1 ∨ k = 2 ∨ k = 3 ∨ k = 4 := by omega
  rcases this with rfl | rfl | rfl | rfl | rfl <;> simp [wrongB, inB, pw] <;> rw [Bool.eq_iff_iff] <;> simp <;> omega

theorem chk1_any (x n : Int) (w : World) (b : Nat) (h0 : 0 ≤ n) (h4 : n ≤ 4) (hc : w.cell? ⟨b, 0, none⟩ = some (.int .i64 n)) :
    Calls Try.prog 28 #[.int .i64 x, .pointer (some ⟨b, 0, none⟩)] w fun e w' => e = .returned (.bool (wrongB n x)) ∧ w' = w := by
  unfold wrongB
  by_cases h1 : x ≤ 0
  · go_enter Try.func28, Try.ntmps28
    go_wp2
    go_ret
    exact ⟨by simp [*], rfl⟩
  · have h2 : decide (x ≤ 0) = false := by simpa using h1
    go_enter Try.func28, Try.ntmps28
    go_wp2
    go_ret
    exact ⟨by simp, rfl⟩

theorem any_at {p : Int → Bool} {xs : List Int} {k : Nat} (h : k < xs.length) (hp : p xs[k] = true) : xs.any p = true :=
  List.any_eq_true.2 ⟨xs[k], List.getElem_mem h, hp⟩
theorem any_step {p : Int → Bool} {xs : List Int} {k : Nat} (h : k < xs.length) (h0 : (xs.take k).any p = false) (hp : p xs[k] = false) : (xs.take (k + 1)).any p = false := by
  rw [List.take_succ_eq_append_getElem h, List.any_append, h0]; simp [hp]

theorem index_wrong (a : Option Addr) (len cap : Nat) (xs : List Int) (n : Int) (b : Nat) (w : World) (hI : Ints w a len xs) (h0 : 0 ≤ n) (h4 : n ≤ 4) (hb : w.cell? ⟨b, 0, none⟩ = some (.int .i64 n)) :
    Calls Try.prog 39 #[.slice a len cap, .func (.func 28) #[] #[.pointer (some ⟨b, 0, none⟩)]] w fun e w' => ∃ r : Int, e = .returned (.int .i64 r) ∧ decide (0 ≤ r) = xs.any (wrongB n) ∧ w' = w := by
  obtain ⟨rfl, hmax, hc⟩ := hI
  go_enter Try.func39, Try.ntmps39
  go_wp2_with fail
  go_loop [5, 8] (fun _ i => ∃ k : Nat, k ≤ xs.length ∧ i = .int .i64 k ∧ (xs.take k).any (wrongB n) = false) (fun _ i => xs.length - (intOf i).toNat)
  case atStart => exact ⟨0, Nat.zero_le _, rfl, rfl⟩
  case round =>
    obtain ⟨k, hk, rfl, hn⟩ := hrel
    by_cases hlt : k < xs.length
    · obtain ⟨bb, off, rfl, hbb, hcell⟩ := hc (by omega)
      have hx := hcell k hlt
      clear hcell hc
      have HN : Hid _ := hn
      clear hn
      go_wp2_with (go_at_call 28; refine (chk1_any _ n _ b h0 h4 hb).mono ?_; rintro e w' ⟨rfl, rfl⟩)
      · go_ret
        exact ⟨_, rfl, by simp only [Int.natCast_nonneg, decide_true]; exact (any_at hlt ‹_›).symm, rfl⟩
      · go_round
        case rel => exact ⟨k + 1, by omega, by go_num, any_step hlt HN.out ‹_›⟩
        case measure => simp [intOf]; omega
    · have hk' : k = xs.length := by omega
      have HN : Hid (xs.any (wrongB n) = false) := by rw [hk', List.take_length] at hn; exact hn
      clear hn
      go_wp2
      go_ret
      exact ⟨_, rfl, by rw [HN.out]; rfl, rfl⟩

theorem contains_wrong (a : Option Addr) (len cap : Nat) (xs : List Int) (n : Int) (b : Nat) (w : World) (hI : Ints w a len xs) (h0 : 0 ≤ n) (h4 : n ≤ 4) (hb : w.cell? ⟨b, 0, none⟩ = some (.int .i64 n)) :
    Calls Try.prog 29 #[.slice a len cap, .func (.func 28) #[] #[.pointer (some ⟨b, 0, none⟩)]] w fun e w' => e = .returned (.bool (xs.any (wrongB n))) ∧ w' = w := by
  go_enter Try.func29, Try.ntmps29
  go_wp2_with (go_at_call 39; refine (index_wrong _ _ _ xs n b _ hI h0 h4 hb).mono ?_; rintro e w' ⟨r, rfl, hr, rfl⟩)
  go_ret
  exact ⟨by simp, rfl⟩

/-- What Check answers. -/
def chkE (nodes : Int) (xs : List Int) : Int :=
  if nodes < 1 ∨ 4 < nodes then 3 else if xs.length < 1 ∨ 3 < xs.length then 2 else if xs.any (wrongB nodes) then 1 else 0

theorem cell_new (w : World) (v : Value) (t : Nat) : (w.alloc (.cells #[v] t)).cell? ⟨w.heap.size, 0, none⟩ = some v := by simp [go_sem]

theorem Ints.alloc {w : World} {a : Option Addr} {len : Nat} {xs : List Int} (h : Ints w a len xs) (o : Obj) : Ints (w.alloc o) a len xs := by
  refine ⟨h.hlen, h.hmax, fun hp => ?_⟩
  obtain ⟨b, off, e, hb, hc⟩ := h.cells hp
  exact ⟨b, off, e, by simp; omega, fun i hi => (World.cell?_of_block (w := w) (Below.heap_alloc w o b hb)).trans (hc i hi)⟩

theorem check_any (nodes : Int) (a : Option Addr) (len cap : Nat) (xs : List Int) (w : World) (hI : Ints w a len xs) :
    Calls Try.prog 10 #[.int .i64 nodes, .slice a len cap] w fun e w' => e = .returned (.int .i64 (chkE nodes xs)) ∧ w' = w.alloc (.cells #[.int .i64 nodes] 3) := by
  have hmf : ∀ (fn : Fn) (first cap : Array Value) (w : World), (Instr.makeFunc fn first cap).run Try.prog w = .ok (.func fn first cap) w := fun _ _ _ _ => rfl
  have hl := hI.hlen
  have hm := hI.hmax
  subst hl
  by_cases h1 : nodes < 1
  · have HF : Hid (chkE nodes xs = 3) := by simp [chkE, h1, Hid]
    go_enter Try.func10, Try.ntmps10
    go_wp2
    go_ret
    exact ⟨by rw [HF.out]; rfl, rfl⟩
  by_cases h2 : 4 < nodes
  · have HF : Hid (chkE nodes xs = 3) := by simp [chkE, h2, Hid]
    go_enter Try.func10, Try.ntmps10
    go_wp2
    go_ret
    exact ⟨by rw [HF.out]; rfl, rfl⟩
  have h12 : ¬ (nodes < 1 ∨ 4 < nodes) := by omega
  by_cases h3 : (xs.length : Int) < 1
  · have HF : Hid (chkE nodes xs = 2) := by have : xs.length < 1 := by omega
                                            simp only [chkE, Hid]; rw [if_neg h12, if_pos (.inl this)]
    clear h12
    go_enter Try.func10, Try.ntmps10
    go_wp2
    go_ret
    exact ⟨by rw [HF.out]; rfl, rfl⟩
  by_cases h4 : 3 < (xs.length : Int)
  · have HF : Hid (chkE nodes xs = 2) := by have : 3 < xs.length := by omega
                                            simp only [chkE, Hid]; rw [if_neg h12, if_pos (.inr this)]
    clear h12
    go_enter Try.func10, Try.ntmps10
    go_wp2
    go_ret
    exact ⟨by rw [HF.out]; rfl, rfl⟩
  have h34 : ¬ (xs.length < 1 ∨ 3 < xs.length) := by omega
  have HI := hI.alloc (.cells #[.int .i64 nodes] 3)
  cases h5 : xs.any (wrongB nodes)
  · have HF : Hid (chkE nodes xs = 0) := by simp only [chkE, Hid]; rw [if_neg h12, if_neg h34, h5]; rfl
    have H5 : Hid _ := h5
    clear h12 h34 h5
    go_enter Try.func10, Try.ntmps10
    go_wp2_with (go_at_call 29; refine (contains_wrong _ _ _ xs nodes w.heap.size _ HI (by omega) (by omega) (cell_new _ _ _)).mono ?_; rw [H5.out]; rintro e w' ⟨rfl, rfl⟩)
    go_ret
    exact ⟨by rw [HF.out]; rfl, rfl⟩
  · have HF : Hid (chkE nodes xs = 1) := by simp only [chkE, Hid]; rw [if_neg h12, if_neg h34, h5]; rfl
    have H5 : Hid _ := h5
    clear h12 h34 h5
    go_enter Try.func10, Try.ntmps10
    go_wp2_with (go_at_call 29; refine (contains_wrong _ _ _ xs nodes w.heap.size _ HI (by omega) (by omega) (cell_new _ _ _)).mono ?_; rw [H5.out]; rintro e w' ⟨rfl, rfl⟩)
    go_ret
    exact ⟨by rw [HF.out]; rfl, rfl⟩

theorem error_any (nodes : Int) (a : Option Addr) (len cap : Nat) (xs : List Int) (w : World) (hI : Ints w a len xs) :
    Calls Try.prog 11 #[.int .i64 nodes, .slice a len cap] w fun e w' => e = .returned (.int .i64 (chkE nodes xs)) ∧ ∃ k, w' = w.drewN k := by
  obtain ⟨rfl, hm, hc⟩ := hI
  by_cases h1 : nodes < 1 ∨ 4 < nodes
  · have HF : Hid (chkE nodes xs = 3) := by simp [chkE, h1, Hid]
    have hi : inB nodes 1 4 = false := by simp [inB]; omega
    clear hc h1
    go_enter Try.func11, Try.ntmps11
    go_wp2_with (go_at_call 30; refine (within_any _ _ _ _).mono ?_; rintro e w' ⟨rfl, rfl⟩)
    go_ret
    exact ⟨by rw [HF.out]; rfl, 0, rfl⟩
  have hi : inB nodes 1 4 = true := by simp [inB]; omega
  by_cases h2 : xs.length < 1 ∨ 3 < xs.length
  · have HF : Hid (chkE nodes xs = 2) := by simp only [chkE, Hid]; rw [if_neg h1, if_pos h2]
    have hi2 : inB xs.length 1 3 = false := by simp [inB]; omega
    clear hc h1 h2
    go_enter Try.func11, Try.ntmps11
    go_wp2_with (go_at_call 30; refine (within_any _ _ _ _).mono ?_; rintro e w' ⟨rfl, rfl⟩)
    go_ret
    exact ⟨by rw [HF.out]; rfl, 0, rfl⟩
  have hi2 : inB xs.length 1 3 = true := by simp [inB]; omega
  have HF : Hid (chkE nodes xs = if xs.any (wrongB nodes) then 1 else 0) := by simp only [chkE, Hid]; rw [if_neg h1, if_neg h2]
  obtain ⟨nk, rfl⟩ := Int.eq_ofNat_of_zero_le (show 0 ≤ nodes by omega)
  obtain ⟨b, off, rfl, hb, hcell⟩ := hc (by omega)
  have hp := pw_bd nk (by omega)
  have hnk : nk ≤ 4 := by omega
  clear hc h1 h2
  go_enter Try.func11, Try.ntmps11
  go_wp2_with (go_at_call 30; refine (within_any _ _ _ _).mono ?_; rintro e w' ⟨rfl, hw⟩; obtain rfl := hw.symm)
  go_loopw [5] (fun i wr => (∃ k : Nat, k ≤ xs.length ∧ i = .int .i64 k ∧ (xs.take k).any (wrongB nk) = false) ∧ ∃ q, wr = w.drewN q) (fun i _ => xs.length - (intOf i).toNat)
  case atStart => exact ⟨⟨0, Nat.zero_le _, rfl, rfl⟩, 0, rfl⟩
  case round =>
    obtain ⟨⟨k, hk, rfl, hn⟩, hq⟩ := hrel
    have HN : Hid _ := hn
    have HQ : Hid (∃ q, wr = w.drewN q) := hq
    clear hn
    by_cases hlt : k < xs.length
    · have hx : wr.cell? ⟨b, off + k, none⟩ = some (.int .i64 (xs[k]?.getD 0)) := by obtain ⟨q, rfl⟩ := hq; simpa using hcell k hlt
      clear hq hcell
      cases hw : wrongB nk xs[k]
      · have hi3 : inB xs[k] 1 (pw nk - 1) = true := by have := wrong_iff nk hnk xs[k]; rw [hw] at this; simpa using this.symm
        have HW : Hid _ := hw
        clear hw
        go_wp2_with fail
        go_quiet ((first | (go_at_call 30; exact Calls.quiet_of_same (within_any _ _ _ _)) | (go_at_call 31; exact Calls.quiet_of_same (power_any _ hnk _))))
        go_wp2
        go_roundw
        case rel => exact ⟨⟨k + 1, by omega, by go_num, any_step hlt HN.out HW.out⟩, by obtain ⟨q, e⟩ := HQ.out; exact ⟨q + nq, by rw [e, World.drewN_drewN]⟩⟩
        case measure => simp [intOf]; omega
      · have hi3 : inB xs[k] 1 (pw nk - 1) = false := by have := wrong_iff nk hnk xs[k]; rw [hw] at this; simpa using this.symm
        have HF' : Hid (chkE nk xs = 1) := by have := HF.out; rw [any_at hlt hw] at this; simpa [Hid] using this
        clear hw
        go_wp2_with fail
        go_quiet ((first | (go_at_call 30; exact Calls.quiet_of_same (within_any _ _ _ _)) | (go_at_call 31; exact Calls.quiet_of_same (power_any _ hnk _))))
        go_wp2
        go_ret
        exact ⟨by rw [HF'.out]; rfl, by obtain ⟨q, e⟩ := HQ.out; exact ⟨q + nq, by rw [e, World.drewN_drewN]⟩⟩
    · have hk' : k = xs.length := by omega
      have HF' : Hid (chkE nk xs = 0) := by have := HF.out; have h := HN.out; rw [hk', List.take_length] at h; rw [h] at this; simpa [Hid] using this
      clear hq hcell
      go_wp2
      go_ret
      exact ⟨by rw [HF'.out]; rfl, HQ.out⟩
end Go.Proofs.Ytbkfpdohgjnegaa
