/- Contracts on messages: what msg.Check, furlongref.MsgError and furlongref.SameMsgs come to; no condition but that slices read as ints or messages. -/
import Derived.Test.YtbkfpdohgjnegaaMsg
namespace Go.Proofs.Ytbkfpdohgjnegaa
set_option maxRecDepth 8000
open Go.RowKit Go.Shelf

/-- Two messages are the same. -/
def sameM (a b : Mg) : Bool := a.fr == b.fr && (a.gr == b.gr && (a.st == b.st && (a.nul == b.nul && a.body == b.body)))
theorem sameM_iff (a b : Mg) : sameM a b = true ↔ a = b := by
  obtain ⟨af, ag, at1, an, ab⟩ := a
  obtain ⟨bf, bg, bt, bn, bb⟩ := b
  simp only [sameM, Bool.and_eq_true, beq_iff_eq, Mg.mk.injEq]
  refine and_congr Iff.rfl (and_congr Iff.rfl (and_congr Iff.rfl (and_congr Iff.rfl ?_)))
  rw [beq_toListBytes, beq_iff_eq, ByteArray.toList_eq, ByteArray.toList_eq]
  obtain ⟨⟨x⟩⟩ := ab
  obtain ⟨⟨y⟩⟩ := bb
  simp
theorem run_neq_msg (a b : Mg) (v : Bool) (h : sameM a b = v) (w : World) : (binOp .neq 31 (.agg #[.int .i64 a.fr, .int .i64 a.gr, .int .i64 a.st, .bool a.nul, .string a.body]) (.agg #[.int .i64 b.fr, .int .i64 b.gr, .int .i64 b.st, .bool b.nul, .string b.body])).run Try.prog w = .ok (.bool (!v)) w := by
  subst h
  obtain ⟨af, ag, at1, an, ab⟩ := a
  obtain ⟨bf, bg, bt, bn, bb⟩ := b
  simp only [sameM]
  by_cases h1 : af = bf <;> by_cases h2 : ag = bg <;> by_cases h3 : at1 = bt <;> by_cases h4 : an = bn <;> by_cases h5 : ab.toList = bb.toList <;>
    simp [go_sem, Try.underlying31, h1, h2, h3, h4, h5, beq_toListBytes]

/-- Two lists of messages are the same. -/
def sameMs : List Mg → List Mg → Bool
  | [], [] => true
  | a :: r, b :: s => sameM a b && sameMs r s
  | _, _ => false
theorem sameMs_iff : ∀ (xs ys : List Mg), sameMs xs ys = true ↔ xs = ys
  | [], [] => by simp [sameMs]
  | [], b :: s => by simp [sameMs]
  | a :: r, [] => by simp [sameMs]
  | a :: r, b :: s => by simp [sameMs, sameM_iff, sameMs_iff r s]
theorem sameMs_refl (xs : List Mg) : sameMs xs xs = true := (sameMs_iff xs xs).2 rfl

theorem sameMsgs_any (a : Option Addr) (len cap : Nat) (xs : List Mg) (a' : Option Addr) (len' cap' : Nat) (ys : List Mg) (w : World) (hI : Msgs w a len xs) (hJ : Msgs w a' len' ys) :
    Calls Try.prog 26 #[.slice a len cap, .slice a' len' cap'] w fun e w' => e = .returned (.bool (sameMs xs ys)) ∧ Since w w' := by
  obtain ⟨rfl, hm, hc⟩ := hI
  obtain ⟨rfl, hm', hc'⟩ := hJ
  by_cases hne : xs.length = ys.length
  · have hb : ((xs.length : Int) != (ys.length : Int)) = false := by simp [hne]
    have HE : Hid (xs.length = ys.length) := hne
    clear hne
    go_enter Try.func26, Try.ntmps26
    go_wp2
    go_loopw [5] (fun i wr => (∃ k : Nat, k ≤ xs.length ∧ i = .int .i64 k ∧ xs.take k = ys.take k) ∧ Since w wr) (fun i _ => xs.length - (intOf i).toNat)
    case atStart => exact ⟨⟨0, Nat.zero_le _, rfl, rfl⟩, Since.refl _⟩
    case round =>
      obtain ⟨⟨k, hk, rfl, hn⟩, hS⟩ := hrel
      have HN : Hid (xs.take k = ys.take k) := hn
      clear hn
      by_cases hlt : k < xs.length
      · have hlt' : k < ys.length := by have := HE.out; omega
        obtain ⟨b, off, rfl, hbb, hcell⟩ := hc (by omega)
        obtain ⟨b', off', rfl, hbb', hcell'⟩ := hc' (by omega)
        obtain ⟨m, hx⟩ : ∃ m, xs[k]? = some m := ⟨_, List.getElem?_eq_getElem hlt⟩
        obtain ⟨m', hy⟩ : ∃ m', ys[k]? = some m' := ⟨_, List.getElem?_eq_getElem hlt'⟩
        obtain ⟨d0, d1, d2, d3, d4⟩ := msgAt_of hcell k m hx
        obtain ⟨e0, e1, e2, e3, e4⟩ := msgAt_of hcell' k m' hy
        have hnE : Nonempty (Later w) := ⟨⟨w, Since.refl w⟩⟩
        have hg : ∀ (x : Later w) (o : Nat), x.w.cell? ⟨b, o, none⟩ = w.cell? ⟨b, o, none⟩ := fun x o => x.cell hbb
        have hg' : ∀ (x : Later w) (o : Nat), x.w.cell? ⟨b', o, none⟩ = w.cell? ⟨b', o, none⟩ := fun x o => x.cell hbb'
        have HX : Hid (xs[k]? = some m) := hx
        have HY : Hid (ys[k]? = some m') := hy
        clear hcell hcell' hc hc' hx hy
        cases hd : sameM m m'
        · have HS : Hid (sameMs xs ys = false) := by
            unfold Hid; rw [← Bool.not_eq_true, sameMs_iff]; intro h; subst h
            have e := HX.out.symm.trans HY.out
            cases e
            rw [(sameM_iff m m).2 rfl] at hd; cases hd
          have hnm := run_neq_msg m m' false hd
          go_wp2_with fail
          refine wp_region_since (by kernel_rfl) (by kernel_rfl) hS ?_
          repeat (go_big_quiet_step (fail))
          refine wpQuiet_nil ?_
          intro w9 hS9
          go_wp2
          go_ret
          exact ⟨by rw [HS.out]; rfl, hS9⟩
        · have HS : Hid (xs.take (k + 1) = ys.take (k + 1)) := by
            have e : m = m' := (sameM_iff m m').1 hd
            unfold Hid
            rw [List.take_add_one, List.take_add_one, HN.out, HX.out, HY.out, e]
          have hnm := run_neq_msg m m' true hd
          go_wp2_with fail
          refine wp_region_since (by kernel_rfl) (by kernel_rfl) hS ?_
          repeat (go_big_quiet_step (fail))
          refine wpQuiet_nil ?_
          intro w9 hS9
          go_wp2
          go_roundw
          case rel => exact ⟨⟨k + 1, by omega, by go_num, HS.out⟩, hS9⟩
          case measure => simp [intOf]; omega
      · have HS : Hid (sameMs xs ys = true) := by
          have e : k = xs.length := by omega
          have h := HN.out
          have h2 := HE.out
          rw [e, List.take_length, h2, List.take_length] at h
          unfold Hid; rw [h]; exact sameMs_refl ys
        clear hc hc'
        go_wp2
        go_ret
        exact ⟨by rw [HS.out]; rfl, hS⟩
  · have hb : ((xs.length : Int) != (ys.length : Int)) = true := by simp; omega
    have HS : Hid (sameMs xs ys = false) := by unfold Hid; rw [← Bool.not_eq_true, sameMs_iff]; intro h; subst h; exact hne rfl
    clear hne hc hc'
    go_enter Try.func26, Try.ntmps26
    go_wp2
    go_ret
    exact ⟨by rw [HS.out]; rfl, Since.refl _⟩

theorem say_any (n g st : Int) (body : ByteArray) (w : World) :
    Calls Try.prog 34 #[.int .i64 n, .int .i64 g, .int .i64 st, .string body] w fun e w' => e = .returned (.agg #[.int .i64 n, .int .i64 g, .int .i64 st, .bool false, .string body]) ∧ Since w w' := by
  go_enter Try.func34, Try.ntmps34
  go_wp2
  refine bodyPost_ret (v := .agg #[.int .i64 n, .int .i64 g, .int .i64 st, .bool false, .string body]) (by simp [results, Try.results34, go_sem]) rfl ?_
  exact ⟨rfl, (Since.refl _).alloc _⟩

theorem outside_any (x lo hi : Int) (w : World) :
    Calls Try.prog 35 #[.int .i64 x, .int .i64 lo, .int .i64 hi] w fun e w' => e = .returned (.bool (!inB x lo hi)) ∧ w' = w := by
  unfold inB
  by_cases h1 : x < lo
  · go_enter Try.func35, Try.ntmps35
    go_wp2
    go_ret
    exact ⟨by simp; omega, rfl⟩
  · have hd : decide (x < lo) = false := by simpa using h1
    by_cases h2 : hi < x
    · go_enter Try.func35, Try.ntmps35
      go_wp2
      go_ret
      exact ⟨by simp; omega, rfl⟩
    · have hd2 : decide (hi < x) = false := by simpa using h2
      go_enter Try.func35, Try.ntmps35
      go_wp2
      go_ret
      exact ⟨by simp_all, rfl⟩

/-- A body that may not be. -/
def badB (m : Mg) : Bool := decide (8 < m.body.size) || (m.nul && decide (m.body.size ≠ 0))
/-- What msg.Check answers. -/
def chkM (nodes : Int) (xs : List Int) (m : Mg) : Int :=
  if chkE nodes xs ≠ 0 then chkE nodes xs
  else if ¬ (inB m.fr 0 (nodes - 1) = true ∧ inB m.gr 0 (xs.length - 1) = true ∧ inB m.st 1 1048576 = true) then 3
  else if hasB xs m.gr m.fr = false then 5
  else if badB m then 1 else 0
theorem chkE_zero {nodes : Int} {xs : List Int} (h : chkE nodes xs = 0) : 1 ≤ nodes ∧ nodes ≤ 4 ∧ 1 ≤ xs.length ∧ xs.length ≤ 3 := by
  unfold chkE at h
  split at h
  · cases h
  · split at h
    · cases h
    · omega

theorem size_ne {b : ByteArray} (h : b.toList.isEmpty = false) : b.size ≠ 0 := by
  intro h0
  rw [ByteArray.toList_eq] at h
  have : b.data.toList = [] := List.eq_nil_of_length_eq_zero (by simpa using h0)
  rw [this] at h
  cases h
theorem size_eq {b : ByteArray} (h : b.toList.isEmpty = true) : b.size = 0 := by
  rw [ByteArray.toList_eq, List.isEmpty_iff] at h
  have := congrArg List.length h
  simpa using this

set_option maxHeartbeats 1000000 in
theorem msgCheck_any (nodes : Int) (a : Option Addr) (len cap : Nat) (xs : List Int) (m : Mg) (w : World) (hI : Ints w a len xs) :
    Calls Try.prog 20 #[.int .i64 nodes, .slice a len cap, .agg #[.int .i64 m.fr, .int .i64 m.gr, .int .i64 m.st, .bool m.nul, .string m.body]] w fun e w' => e = .returned (.int .i64 (chkM nodes xs m)) ∧ Since w w' := by
  obtain ⟨w1, hw1⟩ : ∃ w1, w.alloc (.cells #[.int .i64 m.fr, .int .i64 m.gr, .int .i64 m.st, .bool m.nul, .string m.body] 31) = w1 := ⟨_, rfl⟩
  have hS1 : Since w w1 := by rw [← hw1]; exact (Since.refl w).alloc _
  have hsz : w1.heap.size = w.heap.size + 1 := by rw [← hw1]; simp
  have hB : MsgAt w1 w.heap.size 0 m := by rw [← hw1]; constructor <;> simp [go_sem]
  have hlen := hI.hlen
  subst hlen
  obtain ⟨c, hce⟩ : ∃ c, chkE nodes xs = c := ⟨_, rfl⟩
  have HC : Hid (chkE nodes xs = c) := hce
  cases hc : (c != 0)
  · have hc0 : chkE nodes xs = 0 := by rw [hce]; simpa using hc
    obtain ⟨n1, n2, l1, l2⟩ := chkE_zero hc0
    have HF : Hid (chkM nodes xs m = if ¬ (inB m.fr 0 (nodes - 1) = true ∧ inB m.gr 0 (xs.length - 1) = true ∧ inB m.st 1 1048576 = true) then 3 else if hasB xs m.gr m.fr = false then 5 else if badB m then 1 else 0) := by
      unfold Hid chkM; rw [if_neg (by simp [hc0])]
    clear hce hc0
    go_enter Try.func20, Try.ntmps20
    go_wp2_with fail
    refine (check_s w1 _ _ _ _ _ _ (hI.since hS1) (Since.refl w1)).mono ?_
    rw [HC.out]
    rintro e w2 ⟨rfl, hS2⟩
    have hI2 := hI.since (hS1.trans hS2)
    have hR2 := hS1.trans hS2
    have hg : ∀ o : Nat, w2.cell? ⟨w.heap.size, o, none⟩ = w1.cell? ⟨w.heap.size, o, none⟩ := fun o => hS2.below.cell (p := ⟨w.heap.size, o, none⟩) (by show w.heap.size < _; omega)
    obtain ⟨f0, f1, f2, f3, f4⟩ := hB
    simp only [Nat.zero_add] at f0 f1 f2 f3 f4
    rw [← hg] at f0 f1 f2 f3 f4
    clear hg hw1
    cases i1 : inB m.fr 0 (nodes - 1)
    · have HV : Hid (chkM nodes xs m = 3) := by unfold Hid; rw [HF.out, if_pos (by simp [i1])]
      clear HF
      go_wp2_with (first | (go_at_call 35; refine (outside_any _ _ _ _).mono ?_; rintro e w' ⟨rfl, hw⟩; obtain rfl := hw.symm) | (go_at_call 12; refine (has_any _ _ _ xs _ _ _ hI2).mono ?_; rintro e w' ⟨rfl, hw⟩; obtain rfl := hw.symm))
      go_ret
      exact ⟨by rw [HV.out]; rfl, hR2⟩
    cases i2 : inB m.gr 0 (xs.length - 1)
    · have HV : Hid (chkM nodes xs m = 3) := by unfold Hid; rw [HF.out, if_pos (by simp [i2])]
      clear HF
      go_wp2_with (first | (go_at_call 35; refine (outside_any _ _ _ _).mono ?_; rintro e w' ⟨rfl, hw⟩; obtain rfl := hw.symm) | (go_at_call 12; refine (has_any _ _ _ xs _ _ _ hI2).mono ?_; rintro e w' ⟨rfl, hw⟩; obtain rfl := hw.symm))
      go_ret
      exact ⟨by rw [HV.out]; rfl, hR2⟩
    cases i3 : inB m.st 1 1048576
    · have HV : Hid (chkM nodes xs m = 3) := by unfold Hid; rw [HF.out, if_pos (by simp [i3])]
      clear HF
      go_wp2_with (first | (go_at_call 35; refine (outside_any _ _ _ _).mono ?_; rintro e w' ⟨rfl, hw⟩; obtain rfl := hw.symm) | (go_at_call 12; refine (has_any _ _ _ xs _ _ _ hI2).mono ?_; rintro e w' ⟨rfl, hw⟩; obtain rfl := hw.symm))
      go_ret
      exact ⟨by rw [HV.out]; rfl, hR2⟩
    cases i4 : hasB xs m.gr m.fr
    · have HV : Hid (chkM nodes xs m = 5) := by unfold Hid; rw [HF.out, if_neg (by simp [i1, i2, i3]), if_pos i4]
      clear HF
      go_wp2_with (first | (go_at_call 35; refine (outside_any _ _ _ _).mono ?_; rintro e w' ⟨rfl, hw⟩; obtain rfl := hw.symm) | (go_at_call 12; refine (has_any _ _ _ xs _ _ _ hI2).mono ?_; rintro e w' ⟨rfl, hw⟩; obtain rfl := hw.symm))
      go_ret
      exact ⟨by rw [HV.out]; rfl, hR2⟩
    have HG : Hid (chkM nodes xs m = if badB m then 1 else 0) := by unfold Hid; rw [HF.out, if_neg (by simp [i1, i2, i3]), if_neg (by simp [i4])]
    clear HF
    by_cases i5 : 8 < (m.body.size : Int)
    · have HV : Hid (chkM nodes xs m = 1) := by unfold Hid; rw [HG.out, if_pos (by simp [badB]; left; omega)]
      clear HG
      go_wp2_with (first | (go_at_call 35; refine (outside_any _ _ _ _).mono ?_; rintro e w' ⟨rfl, hw⟩; obtain rfl := hw.symm) | (go_at_call 12; refine (has_any _ _ _ xs _ _ _ hI2).mono ?_; rintro e w' ⟨rfl, hw⟩; obtain rfl := hw.symm))
      go_ret
      exact ⟨by rw [HV.out]; rfl, hR2⟩
    have i5' : decide (8 < (m.body.size : Int)) = false := by simpa using i5
    cases i6 : m.nul
    · have HV : Hid (chkM nodes xs m = 0) := by unfold Hid; rw [HG.out, if_neg (by simp [badB, i6]; omega)]
      clear HG
      rw [i6] at f3
      go_wp2_with (first | (go_at_call 35; refine (outside_any _ _ _ _).mono ?_; rintro e w' ⟨rfl, hw⟩; obtain rfl := hw.symm) | (go_at_call 12; refine (has_any _ _ _ xs _ _ _ hI2).mono ?_; rintro e w' ⟨rfl, hw⟩; obtain rfl := hw.symm))
      go_ret
      exact ⟨by rw [HV.out]; rfl, hR2⟩
    rw [i6] at f3
    cases i7 : (m.body.toList.isEmpty)
    · have HV : Hid (chkM nodes xs m = 1) := by unfold Hid; rw [HG.out, if_pos (by have := size_ne i7; simp [badB, i6, this])]
      clear HG
      go_wp2_with (first | (go_at_call 35; refine (outside_any _ _ _ _).mono ?_; rintro e w' ⟨rfl, hw⟩; obtain rfl := hw.symm) | (go_at_call 12; refine (has_any _ _ _ xs _ _ _ hI2).mono ?_; rintro e w' ⟨rfl, hw⟩; obtain rfl := hw.symm))
      go_ret
      exact ⟨by rw [HV.out]; rfl, hR2⟩
    · have HV : Hid (chkM nodes xs m = 0) := by unfold Hid; rw [HG.out, if_neg (by have := size_eq i7; simp [badB, this])]
      clear HG
      go_wp2_with (first | (go_at_call 35; refine (outside_any _ _ _ _).mono ?_; rintro e w' ⟨rfl, hw⟩; obtain rfl := hw.symm) | (go_at_call 12; refine (has_any _ _ _ xs _ _ _ hI2).mono ?_; rintro e w' ⟨rfl, hw⟩; obtain rfl := hw.symm))
      go_ret
      exact ⟨by rw [HV.out]; rfl, hR2⟩
  · have HF : Hid (chkM nodes xs m = c) := by unfold Hid chkM; rw [hce, if_pos (by simpa using hc)]
    clear hce
    go_enter Try.func20, Try.ntmps20
    go_wp2_with fail
    refine (check_s w1 _ _ _ _ _ _ (hI.since hS1) (Since.refl w1)).mono ?_
    rw [HC.out]
    rintro e w2 ⟨rfl, hS2⟩
    go_wp2
    go_ret
    exact ⟨by rw [HF.out]; rfl, hS1.trans hS2⟩

set_option maxHeartbeats 1000000 in
theorem msgError_any (nodes : Int) (a : Option Addr) (len cap : Nat) (xs : List Int) (m : Mg) (w : World) (hI : Ints w a len xs) :
    Calls Try.prog 21 #[.int .i64 nodes, .slice a len cap, .agg #[.int .i64 m.fr, .int .i64 m.gr, .int .i64 m.st, .bool m.nul, .string m.body]] w fun e w' => e = .returned (.int .i64 (chkM nodes xs m)) ∧ Since w w' := by
  obtain ⟨w1, hw1⟩ : ∃ w1, w.alloc (.cells #[.int .i64 m.fr, .int .i64 m.gr, .int .i64 m.st, .bool m.nul, .string m.body] 31) = w1 := ⟨_, rfl⟩
  have hS1 : Since w w1 := by rw [← hw1]; exact (Since.refl w).alloc _
  have hsz : w1.heap.size = w.heap.size + 1 := by rw [← hw1]; simp
  have hB : MsgAt w1 w.heap.size 0 m := by rw [← hw1]; constructor <;> simp [go_sem]
  have hlen := hI.hlen
  subst hlen
  obtain ⟨c, hce⟩ : ∃ c, chkE nodes xs = c := ⟨_, rfl⟩
  have HC : Hid (chkE nodes xs = c) := hce
  cases hc : (c != 0)
  · have hc0 : chkE nodes xs = 0 := by rw [hce]; simpa using hc
    obtain ⟨n1, n2, l1, l2⟩ := chkE_zero hc0
    have HF : Hid (chkM nodes xs m = if ¬ (inB m.fr 0 (nodes - 1) = true ∧ inB m.gr 0 (xs.length - 1) = true ∧ inB m.st 1 1048576 = true) then 3 else if hasB xs m.gr m.fr = false then 5 else if badB m then 1 else 0) := by
      unfold Hid chkM; rw [if_neg (by simp [hc0])]
    clear hce hc0
    go_enter Try.func21, Try.ntmps21
    go_wp2_with fail
    refine (error_s w1 _ _ _ _ _ _ (hI.since hS1) (Since.refl w1)).mono ?_
    rw [HC.out]
    rintro e w2 ⟨rfl, hS2⟩
    have hI2 := hI.since (hS1.trans hS2)
    have hR2 := hS1.trans hS2
    have hg : ∀ o : Nat, w2.cell? ⟨w.heap.size, o, none⟩ = w1.cell? ⟨w.heap.size, o, none⟩ := fun o => hS2.below.cell (p := ⟨w.heap.size, o, none⟩) (by show w.heap.size < _; omega)
    obtain ⟨f0, f1, f2, f3, f4⟩ := hB
    simp only [Nat.zero_add] at f0 f1 f2 f3 f4
    rw [← hg] at f0 f1 f2 f3 f4
    clear hg hw1
    cases i1 : inB m.fr 0 (nodes - 1)
    · have HV : Hid (chkM nodes xs m = 3) := by unfold Hid; rw [HF.out, if_pos (by simp [i1])]
      clear HF
      go_wp2_with (first | (go_at_call 30; refine (within_any _ _ _ _).mono ?_; rintro e w' ⟨rfl, hw⟩; obtain rfl := hw.symm) | (go_at_call 13; refine (hasOf_any _ _ _ xs _ _ _ hI2).mono ?_; rintro e w' ⟨rfl, hw⟩; obtain rfl := hw.symm))
      go_ret
      exact ⟨by rw [HV.out]; rfl, hR2⟩
    cases i2 : inB m.gr 0 (xs.length - 1)
    · have HV : Hid (chkM nodes xs m = 3) := by unfold Hid; rw [HF.out, if_pos (by simp [i2])]
      clear HF
      go_wp2_with (first | (go_at_call 30; refine (within_any _ _ _ _).mono ?_; rintro e w' ⟨rfl, hw⟩; obtain rfl := hw.symm) | (go_at_call 13; refine (hasOf_any _ _ _ xs _ _ _ hI2).mono ?_; rintro e w' ⟨rfl, hw⟩; obtain rfl := hw.symm))
      go_ret
      exact ⟨by rw [HV.out]; rfl, hR2⟩
    cases i3 : inB m.st 1 1048576
    · have HV : Hid (chkM nodes xs m = 3) := by unfold Hid; rw [HF.out, if_pos (by simp [i3])]
      clear HF
      go_wp2_with (first | (go_at_call 30; refine (within_any _ _ _ _).mono ?_; rintro e w' ⟨rfl, hw⟩; obtain rfl := hw.symm) | (go_at_call 13; refine (hasOf_any _ _ _ xs _ _ _ hI2).mono ?_; rintro e w' ⟨rfl, hw⟩; obtain rfl := hw.symm))
      go_ret
      exact ⟨by rw [HV.out]; rfl, hR2⟩
    cases i4 : hasB xs m.gr m.fr
    · have HV : Hid (chkM nodes xs m = 5) := by unfold Hid; rw [HF.out, if_neg (by simp [i1, i2, i3]), if_pos i4]
      clear HF
      go_wp2_with (first | (go_at_call 30; refine (within_any _ _ _ _).mono ?_; rintro e w' ⟨rfl, hw⟩; obtain rfl := hw.symm) | (go_at_call 13; refine (hasOf_any _ _ _ xs _ _ _ hI2).mono ?_; rintro e w' ⟨rfl, hw⟩; obtain rfl := hw.symm))
      go_ret
      exact ⟨by rw [HV.out]; rfl, hR2⟩
    have HG : Hid (chkM nodes xs m = if badB m then 1 else 0) := by unfold Hid; rw [HF.out, if_neg (by simp [i1, i2, i3]), if_neg (by simp [i4])]
    clear HF
    by_cases i5 : 8 < (m.body.size : Int)
    · have HV : Hid (chkM nodes xs m = 1) := by unfold Hid; rw [HG.out, if_pos (by simp [badB]; left; omega)]
      clear HG
      go_wp2_with (first | (go_at_call 30; refine (within_any _ _ _ _).mono ?_; rintro e w' ⟨rfl, hw⟩; obtain rfl := hw.symm) | (go_at_call 13; refine (hasOf_any _ _ _ xs _ _ _ hI2).mono ?_; rintro e w' ⟨rfl, hw⟩; obtain rfl := hw.symm))
      go_ret
      exact ⟨by rw [HV.out]; rfl, hR2⟩
    have i5' : decide (8 < (m.body.size : Int)) = false := by simpa using i5
    cases i6 : m.nul
    · have HV : Hid (chkM nodes xs m = 0) := by unfold Hid; rw [HG.out, if_neg (by simp [badB, i6]; omega)]
      clear HG
      rw [i6] at f3
      go_wp2_with (first | (go_at_call 30; refine (within_any _ _ _ _).mono ?_; rintro e w' ⟨rfl, hw⟩; obtain rfl := hw.symm) | (go_at_call 13; refine (hasOf_any _ _ _ xs _ _ _ hI2).mono ?_; rintro e w' ⟨rfl, hw⟩; obtain rfl := hw.symm))
      go_ret
      exact ⟨by rw [HV.out]; rfl, hR2⟩
    rw [i6] at f3
    cases i7 : (m.body.toList.isEmpty)
    · have HV : Hid (chkM nodes xs m = 1) := by unfold Hid; rw [HG.out, if_pos (by have := size_ne i7; simp [badB, i6, this])]
      clear HG
      go_wp2_with (first | (go_at_call 30; refine (within_any _ _ _ _).mono ?_; rintro e w' ⟨rfl, hw⟩; obtain rfl := hw.symm) | (go_at_call 13; refine (hasOf_any _ _ _ xs _ _ _ hI2).mono ?_; rintro e w' ⟨rfl, hw⟩; obtain rfl := hw.symm))
      go_ret
      exact ⟨by rw [HV.out]; rfl, hR2⟩
    · have HV : Hid (chkM nodes xs m = 0) := by unfold Hid; rw [HG.out, if_neg (by have := size_eq i7; simp [badB, this])]
      clear HG
      go_wp2_with (first | (go_at_call 30; refine (within_any _ _ _ _).mono ?_; rintro e w' ⟨rfl, hw⟩; obtain rfl := hw.symm) | (go_at_call 13; refine (hasOf_any _ _ _ xs _ _ _ hI2).mono ?_; rintro e w' ⟨rfl, hw⟩; obtain rfl := hw.symm))
      go_ret
      exact ⟨by rw [HV.out]; rfl, hR2⟩
  · have HF : Hid (chkM nodes xs m = c) := by unfold Hid chkM; rw [hce, if_pos (by simpa using hc)]
    clear hce
    go_enter Try.func21, Try.ntmps21
    go_wp2_with fail
    refine (error_s w1 _ _ _ _ _ _ (hI.since hS1) (Since.refl w1)).mono ?_
    rw [HC.out]
    rintro e w2 ⟨rfl, hS2⟩
    go_wp2
    go_ret
    exact ⟨by rw [HF.out]; rfl, hS1.trans hS2⟩
end Go.Proofs.Ytbkfpdohgjnegaa
