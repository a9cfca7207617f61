/- Contract: what furlongref.PutOf, the document's answer to Put, comes to, at whatever list of messages; no condition but that the slice reads as messages and its length is not above its capacity. -/
import Derived.Test.YtbkfpdohgjnegaaMsgPut
namespace Go.Proofs.Ytbkfpdohgjnegaa
set_option maxRecDepth 8000
open Go.RowKit Go.Shelf

theorem ownsRow_form {W : World} {base : Nat} {e : TypeId} {size : Nat} {v : Value} {n : Nat} {xs : List Value} (h : W.ownsRow base e size v n xs) : ∃ a cap, v = .slice a n cap ∧ n ≤ cap := by
  rcases h.2 with ⟨rfl, rfl⟩ | ⟨g, cap, cur, rfl, _, _, h4, _⟩
  · exact ⟨none, 0, rfl, Nat.le_refl _⟩
  · exact ⟨_, cap, rfl, h4⟩
theorem Later.old {w0 wr : World} (h : Since w0 wr) (x : Later wr) {b : Nat} (o : Nat) (hb : b < w0.heap.size) : x.w.cell? ⟨b, o, none⟩ = w0.cell? ⟨b, o, none⟩ := (h.trans x.h).cellAt hb o
theorem ownsRow_since {w w' : World} {base : Nat} {e : TypeId} {size : Nat} {v : Value} {n : Nat} {xs : List Value} (k : Since w w') (h : w.ownsRow base e size v n xs) : w'.ownsRow base e size v n xs := by
  refine ⟨h.1, ?_⟩
  rcases h.2 with h2 | ⟨g, cap, cur, e1, e2, e3, e4⟩
  · exact .inl h2
  · exact .inr ⟨g, cap, cur, e1, e2, (k.below.block g (Array.getElem?_eq_some_iff.1 e3).1).trans e3, e4⟩
theorem putE_at {m x : Mg} {ms : List Mg} (h1 : ¬ risesM ms = false) (h2 : ¬ 40 ≤ ms.length) (h3 : ms[placeM m ms]? = some x) : putE m ms = if lessM m x then 0 else 1 := by
  unfold putE; rw [if_neg h1, if_neg h2, h3]
theorem putE_end {m : Mg} {ms : List Mg} (h1 : ¬ risesM ms = false) (h2 : ¬ 40 ≤ ms.length) (h3 : placeM m ms = ms.length) : putE m ms = 0 := by
  unfold putE; rw [if_neg h1, if_neg h2, h3, List.getElem?_eq_none (Nat.le_refl _)]
theorem flat_snoc {ms : List Mg} {k : Nat} {x : Mg} (h : ms[k]? = some x) : flat (ms.take (k + 1)) = flat (ms.take k) ++ x.cells := by
  rw [List.take_add_one, flat_append, h]; simp [flat]

set_option maxRecDepth 8000 in
set_option maxHeartbeats 2000000 in
theorem putOf_some (a : Option Addr) (len cap : Nat) (ms : List Mg) (m : Mg) (w : World) (hM : Msgs w a len ms) (hcap : len ≤ cap) (h0 : 0 < len) :
    Calls Try.prog 25 #[.slice a len cap, .agg #[.int .i64 m.fr, .int .i64 m.gr, .int .i64 m.st, .bool m.nul, .string m.body]] w fun e w' => ∃ a' len' cap', e = .returned (.tuple #[.slice a' len' cap', .int .i64 (putE m ms)]) ∧ Msgs w' a' len' (putL m ms) ∧ len' ≤ cap' ∧ Since w w' := by
  obtain ⟨i0, hi, hz0, hz1, hz2⟩ := info_parts Try.infoMsg
  obtain ⟨w1, hw1⟩ : ∃ w1, w.alloc (.cells #[.int .i64 m.fr, .int .i64 m.gr, .int .i64 m.st, .bool m.nul, .string m.body] 31) = w1 := ⟨_, rfl⟩
  have hS1 : Since w w1 := by rw [← hw1]; exact (Since.refl w).alloc _
  have hsz : w1.heap.size = w.heap.size + 1 := by rw [← hw1]; simp
  have hB : MsgAt w1 w.heap.size 0 m := by rw [← hw1]; constructor <;> simp [go_sem]
  have hlen := hM.hlen
  have hmax := hM.hmax
  subst hlen
  cases hr : risesM ms
  · have HE : Hid (putE m ms = 1) := by unfold Hid putE; rw [if_pos hr]
    have HL : Hid (putL m ms = []) := putL_none m ms (by rw [HE.out]; decide)
    have HR : Hid (risesM ms = false) := hr
    clear hr
    go_enter Try.func25, Try.ntmps25
    go_wp2_with fail
    refine (refRises_any _ _ _ ms _ (hM.since hS1)).mono ?_
    rw [HR.out]
    rintro e w2 ⟨rfl, hS2⟩
    go_wp2_with fail
    go_ret2
    exact ⟨none, 0, 0, by rw [HE.out]; rfl, by rw [HL.out]; exact msgs_nil, Nat.le_refl _, hS1.trans hS2⟩
  have HR : Hid (risesM ms = true) := hr
  have hEr : ¬ risesM ms = false := by rw [hr]; decide
  clear hr
  by_cases hl : 40 ≤ ms.length
  · have HE : Hid (putE m ms = 2) := by unfold Hid putE; rw [if_neg hEr, if_pos hl]
    have HL : Hid (putL m ms = []) := putL_none m ms (by rw [HE.out]; decide)
    clear hEr
    go_enter Try.func25, Try.ntmps25
    go_wp2_with fail
    refine (refRises_any _ _ _ ms _ (hM.since hS1)).mono ?_
    rw [HR.out]
    rintro e w2 ⟨rfl, hS2⟩
    go_wp2_with fail
    go_ret2
    exact ⟨none, 0, 0, by rw [HE.out]; rfl, by rw [HL.out]; exact msgs_nil, Nat.le_refl _, hS1.trans hS2⟩
  have HEr : Hid (¬ risesM ms = false) := hEr
  clear hEr
  obtain ⟨g0, g1, g2, g3, g4⟩ := hB
  simp only [Nat.zero_add] at g0 g1 g2 g3 g4
  obtain ⟨b, off, rfl, hb, hcell⟩ := hM.cells h0
  go_enter Try.func25, Try.ntmps25
  go_wp2_with fail
  refine (refRises_any _ _ _ ms _ (hM.since hS1)).mono ?_
  rw [HR.out]
  rintro e w2 ⟨rfl, hS2⟩
  clear hw1
  go_wp2_with fail
  go_loopw [6, 7] (fun v i wr => (∃ k : Nat, k ≤ placeM m ms ∧ i = .int .i64 k ∧ wr.ownsRow w1.heap.size 31 5 v k (flat (ms.take k))) ∧ Since w1 wr) (fun _ i _ => ms.length - (intOf i).toNat)
  case atStart => exact ⟨⟨0, by omega, rfl, World.ownsRow_nil _ _ _ _⟩, hS2⟩
  case round =>
    obtain ⟨⟨k, hk, rfl, hown⟩, hS⟩ := hrel
    obtain ⟨va, vcap, rfl, hvc⟩ := ownsRow_form hown
    have HK : Hid (k ≤ placeM m ms) := hk
    have hkl : k ≤ ms.length := Nat.le_trans hk (placeM_le m ms)
    have hne : Nonempty (Later wr) := ⟨⟨wr, Since.refl wr⟩⟩
    have hg : ∀ (x : Later wr) (o : Nat), x.w.cell? ⟨b, o, none⟩ = w.cell? ⟨b, o, none⟩ := fun x o => Later.old (hS1.trans hS) x o hb
    have hg2 : ∀ (x : Later wr) (o : Nat), x.w.cell? ⟨w.heap.size, o, none⟩ = w1.cell? ⟨w.heap.size, o, none⟩ := fun x o => Later.old hS x o (by omega)
    clear hk hS2
    by_cases hlt : k < ms.length
    · obtain ⟨x, hx⟩ : ∃ x, ms[k]? = some x := ⟨_, List.getElem?_eq_getElem hlt⟩
      obtain ⟨d0, d1, d2, d3, d4⟩ := msgAt_of hcell k x hx
      have HX : Hid (ms[k]? = some x) := hx
      clear hx
      cases hl2 : lessM x m
      · have HP : Hid (placeM m ms = k) := placeM_no m ms k x HK.out HX.out hl2
        have HE2 : Hid (putE m ms = if lessM m x then 0 else 1) := putE_at HEr.out hl (by rw [HP.out]; exact HX.out)
        go_wp2_with fail
        refine wp_region_since (by kernel_rfl) (by kernel_rfl) (Since.refl wr) ?_
        repeat (go_big_quiet_step ((go_at_call 23; exact Later.call (lessOf_v wr x m _ hl2))))
        refine wpQuiet_nil ?_
        intro w8 hS8
        go_wp2_with fail
        have hkc : k < cap := by omega
        have hpos : decide (0 < ((ms.length - k : Nat) : Int)) = true := by simp; omega
        have hpos' : 0 < ms.length - k := by omega
        cases hl3 : lessM m x
        · have HV : Hid (putE m ms = 1) := by unfold Hid; rw [HE2.out, hl3]; rfl
          have HL : Hid (putL m ms = []) := putL_none m ms (by rw [HV.out]; decide)
          refine wp_region_since (by kernel_rfl) (by kernel_rfl) hS8 ?_
          repeat (go_big_quiet_step ((go_at_call 23; exact Later.call (lessOf_v wr m x _ hl3))))
          refine wpQuiet_nil ?_
          intro w9 hS9'
          go_wp2_with fail
          go_ret2
          exact ⟨none, 0, 0, by rw [HV.out]; rfl, by rw [HL.out]; exact msgs_nil, Nat.le_refl _, hS1.trans (hS.trans hS9')⟩
        · have HV : Hid (putE m ms = 0) := by unfold Hid; rw [HE2.out, hl3]; rfl
          refine wp_region_since (by kernel_rfl) (by kernel_rfl) hS8 ?_
          repeat (go_big_quiet_step ((go_at_call 23; exact Later.call (lessOf_v wr m x _ hl3))))
          refine wpQuiet_nil ?_
          intro w9 hS9'
          have hown9 := ownsRow_since hS9' hown
          have hS9 : Since w1 w9 := hS.trans hS9'
          have hgb : ∀ o : Nat, w9.cell? ⟨w.heap.size, o, none⟩ = w1.cell? ⟨w.heap.size, o, none⟩ := fun o => hS9.cellAt (by omega) o
          clear hg hg2 d0 d1 d2 d3 d4 hown hS8 hS9'
          go_wp2_with (first
            | (at_builtin; refine wpList_append_own _ rfl _ _ 35 rfl w1.heap.size 31 i0 (.agg #[.int .i64 0, .int .i64 0, .int .i64 0, .bool false, .string ByteArray.empty]) 5 48 Try.underlying35 hi hz0 hz1 hz2 rfl (by decide) _ _ _ rfl hown3 ⟨b, off + k * 5, none⟩ (ms.length - k) (cap - k) (flat (ms.drop k)) rfl (by rw [flat_length, List.length_drop]) (fun j u hj => by rw [add_at, hS12.cellAt (by omega), hS1.cellAt hb, Nat.add_assoc]; exact hcell _ _ (flat_drop_get hkl hj)) (fun u hu => flat_one u _ hu) (by unfold maxLen; omega) (by omega) hS12.size ?_; intro v4 w13 hown4 hgr4 _; have hS13' : Since w1 w13 := hS12.grown hgr4 (ownBlock_ge hown3))
            | (at_builtin; refine wpList_append_own _ rfl _ _ 35 rfl w1.heap.size 31 i0 (.agg #[.int .i64 0, .int .i64 0, .int .i64 0, .bool false, .string ByteArray.empty]) 5 48 Try.underlying35 hi hz0 hz1 hz2 rfl (by decide) _ _ _ rfl (hown9.alloc _) ⟨w9.heap.size, 0, none⟩ 1 1 m.cells rfl rfl (msg_new _ _ _) (fun u hu => flat_one u [m] (by simpa [flat] using hu)) (by unfold maxLen; omega) (by omega) (by have := hS9.size; simp; omega) ?_; intro v3 w12 hown3 hgr3 _; have hS12 : Since w1 w12 := (hS9.alloc _).grown hgr3 (ownBlock_ge hown9)))
          obtain ⟨a', len', cap', rfl, hMs, hcs⟩ := put_end HV.out HP.out (by omega) hown4 (by omega) (by simp)
          go_ret2
          exact ⟨a', len', cap', by rw [HV.out]; rfl, hMs, hcs, hS1.trans hS13'⟩
      · have HF : Hid (k + 1 ≤ placeM m ms) := placeM_yes m ms k x HK.out HX.out hl2
        have HFL : Hid (flat (ms.take (k + 1)) = flat (ms.take k) ++ x.cells) := flat_snoc HX.out
        go_wp2_with fail
        refine wp_region_since (by kernel_rfl) (by kernel_rfl) (Since.refl wr) ?_
        repeat (go_big_quiet_step ((go_at_call 23; exact Later.call (lessOf_v wr x m _ hl2))))
        refine wpQuiet_nil ?_
        intro w9 hS9'
        have hown9 := ownsRow_since hS9' hown
        have hS9 : Since w1 w9 := hS.trans hS9'
        have hgb : ∀ o : Nat, w9.cell? ⟨b, o, none⟩ = w.cell? ⟨b, o, none⟩ := fun o => (hS1.trans hS9).cellAt hb o
        clear hg hg2 hown hS9'
        go_wp2_with (at_builtin; refine wpList_append_own _ rfl _ _ 35 rfl w1.heap.size 31 i0 (.agg #[.int .i64 0, .int .i64 0, .int .i64 0, .bool false, .string ByteArray.empty]) 5 48 Try.underlying35 hi hz0 hz1 hz2 rfl (by decide) _ _ _ rfl (hown9.alloc _) ⟨w9.heap.size, 0, none⟩ 1 1 x.cells rfl rfl (msg_new _ _ _) (fun u hu => flat_one u [x] (by simpa [flat] using hu)) (by unfold maxLen; omega) (by omega) (by have := hS9.size; simp; omega) ?_; intro v3 w12 hown3 hgr3 _; have hS12 : Since w1 w12 := (hS9.alloc _).grown hgr3 (ownBlock_ge hown9))
        go_roundw
        case rel => exact ⟨⟨k + 1, HF.out, by go_num, by rw [HFL.out]; exact hown3⟩, hS12⟩
        case measure => simp [intOf]; omega
    · have HPL : Hid (k = ms.length) := by unfold Hid; omega
      have HP : Hid (placeM m ms = k) := by have := placeM_le m ms; have := HK.out; have := HPL.out; unfold Hid; omega
      have HV : Hid (putE m ms = 0) := putE_end HEr.out hl (by rw [HP.out]; exact HPL.out)
      have hd : decide ((k : Int) < (ms.length : Int)) = false := by simpa using hlt
      have hd' : decide (k < ms.length) = false := by simpa using hlt
      go_wp2_with fail
      refine wp_region_since (by kernel_rfl) (by kernel_rfl) (Since.refl wr) ?_
      repeat (go_big_quiet_step (fail))
      refine wpQuiet_nil ?_
      intro w8 hS8
      by_cases hcp : cap = k
      · obtain rfl : k = cap := hcp.symm
        go_wp2_with fail
        refine wp_region_since (by kernel_rfl) (by kernel_rfl) hS8 ?_
        repeat (go_big_quiet_step (fail))
        refine wpQuiet_nil ?_
        intro w9 hS9'
        have hown9 := ownsRow_since hS9' hown
        have hS9 : Since w1 w9 := hS.trans hS9'
        have hgb : ∀ o : Nat, w9.cell? ⟨w.heap.size, o, none⟩ = w1.cell? ⟨w.heap.size, o, none⟩ := fun o => hS9.cellAt (by omega) o
        clear hg hg2 hown hS8 hS9'
        go_wp2_with (first
          | (at_builtin; refine wpList_append_own _ rfl _ _ 35 rfl w1.heap.size 31 i0 (.agg #[.int .i64 0, .int .i64 0, .int .i64 0, .bool false, .string ByteArray.empty]) 5 48 Try.underlying35 hi hz0 hz1 hz2 rfl (by decide) _ _ _ rfl hown3 ⟨b, off, none⟩ 0 0 [] rfl rfl (fun j u hj => by simp at hj) (fun u hu => by cases hu) (by unfold maxLen; omega) (by omega) hS12.size ?_; intro v4 w13 hown4 hgr4 _; have hS13' : Since w1 w13 := hS12.grown hgr4 (ownBlock_ge hown3))
          | (at_builtin; refine wpList_append_own _ rfl _ _ 35 rfl w1.heap.size 31 i0 (.agg #[.int .i64 0, .int .i64 0, .int .i64 0, .bool false, .string ByteArray.empty]) 5 48 Try.underlying35 hi hz0 hz1 hz2 rfl (by decide) _ _ _ rfl (hown9.alloc _) ⟨w9.heap.size, 0, none⟩ 1 1 m.cells rfl rfl (msg_new _ _ _) (fun u hu => flat_one u [m] (by simpa [flat] using hu)) (by unfold maxLen; omega) (by omega) (by have := hS9.size; simp; omega) ?_; intro v3 w12 hown3 hgr3 _; have hS12 : Since w1 w12 := (hS9.alloc _).grown hgr3 (ownBlock_ge hown9)))
        obtain ⟨a', len', cap', rfl, hMs, hcs⟩ := put_end HV.out HP.out (by omega) hown4 (by have := HPL.out; omega) (by rw [List.drop_eq_nil_of_le (Nat.le_of_eq HPL.out.symm)]; simp [flat])
        go_ret2
        exact ⟨a', len', cap', by rw [HV.out]; rfl, hMs, hcs, hS1.trans hS13'⟩
      · have hcp2 : k < cap := by have := HPL.out; omega
        have hnz : decide (0 < ms.length - k) = false := by have := HPL.out; simp; omega
        go_wp2_with fail
        refine wp_region_since (by kernel_rfl) (by kernel_rfl) hS8 ?_
        repeat (go_big_quiet_step (fail))
        refine wpQuiet_nil ?_
        intro w9 hS9'
        have hown9 := ownsRow_since hS9' hown
        have hS9 : Since w1 w9 := hS.trans hS9'
        have hgb : ∀ o : Nat, w9.cell? ⟨w.heap.size, o, none⟩ = w1.cell? ⟨w.heap.size, o, none⟩ := fun o => hS9.cellAt (by omega) o
        clear hg hg2 hown hS8 hS9'
        go_wp2_with (first
          | (at_builtin; refine wpList_append_own _ rfl _ _ 35 rfl w1.heap.size 31 i0 (.agg #[.int .i64 0, .int .i64 0, .int .i64 0, .bool false, .string ByteArray.empty]) 5 48 Try.underlying35 hi hz0 hz1 hz2 rfl (by decide) _ _ _ rfl hown3 ⟨b, off + k * 5, none⟩ (ms.length - k) (cap - k) (flat (ms.drop k)) rfl (by rw [flat_length, List.length_drop]) (fun j u hj => by rw [add_at, hS12.cellAt (by omega), hS1.cellAt hb, Nat.add_assoc]; exact hcell _ _ (flat_drop_get hkl hj)) (fun u hu => flat_one u _ hu) (by unfold maxLen; omega) (by omega) hS12.size ?_; intro v4 w13 hown4 hgr4 _; have hS13' : Since w1 w13 := hS12.grown hgr4 (ownBlock_ge hown3))
          | (at_builtin; refine wpList_append_own _ rfl _ _ 35 rfl w1.heap.size 31 i0 (.agg #[.int .i64 0, .int .i64 0, .int .i64 0, .bool false, .string ByteArray.empty]) 5 48 Try.underlying35 hi hz0 hz1 hz2 rfl (by decide) _ _ _ rfl (hown9.alloc _) ⟨w9.heap.size, 0, none⟩ 1 1 m.cells rfl rfl (msg_new _ _ _) (fun u hu => flat_one u [m] (by simpa [flat] using hu)) (by unfold maxLen; omega) (by omega) (by have := hS9.size; simp; omega) ?_; intro v3 w12 hown3 hgr3 _; have hS12 : Since w1 w12 := (hS9.alloc _).grown hgr3 (ownBlock_ge hown9)))
        obtain ⟨a', len', cap', rfl, hMs, hcs⟩ := put_end HV.out HP.out (by omega) hown4 (by have := HPL.out; omega) (by simp)
        go_ret2
        exact ⟨a', len', cap', by rw [HV.out]; rfl, hMs, hcs, hS1.trans hS13'⟩

set_option maxRecDepth 8000 in
set_option maxHeartbeats 1000000 in
theorem putOf_zero (a : Option Addr) (cap : Nat) (m : Mg) (w : World) :
    Calls Try.prog 25 #[.slice a 0 cap, .agg #[.int .i64 m.fr, .int .i64 m.gr, .int .i64 m.st, .bool m.nul, .string m.body]] w fun e w' => ∃ a' len' cap', e = .returned (.tuple #[.slice a' len' cap', .int .i64 (putE m [])]) ∧ Msgs w' a' len' (putL m []) ∧ len' ≤ cap' ∧ Since w w' := by
  obtain ⟨i0, hi, hz0, hz1, hz2⟩ := info_parts Try.infoMsg
  obtain ⟨w1, hw1⟩ : ∃ w1, w.alloc (.cells #[.int .i64 m.fr, .int .i64 m.gr, .int .i64 m.st, .bool m.nul, .string m.body] 31) = w1 := ⟨_, rfl⟩
  have hS1 : Since w w1 := by rw [← hw1]; exact (Since.refl w).alloc _
  have hsz : w1.heap.size = w.heap.size + 1 := by rw [← hw1]; simp
  have hB : MsgAt w1 w.heap.size 0 m := by rw [← hw1]; constructor <;> simp [go_sem]
  obtain ⟨g0, g1, g2, g3, g4⟩ := hB
  simp only [Nat.zero_add] at g0 g1 g2 g3 g4
  cases a with
  | none =>
    go_enter Try.func25, Try.ntmps25
    go_wp2_with fail
    refine (refRises_any _ _ _ [] _ msgs_nil).mono ?_
    rw [show risesM [] = true from rfl]
    rintro e w2 ⟨rfl, hS2⟩
    clear hw1
    go_wp2_with fail
    go_loopw [6, 7] (fun v i wr => (v = .slice none 0 0 ∧ i = .int .i64 0) ∧ Since w1 wr) (fun _ _ _ => 0)
    case atStart => exact ⟨⟨rfl, rfl⟩, hS2⟩
    case round =>
      obtain ⟨⟨rfl, rfl⟩, hS⟩ := hrel
      have hne : Nonempty (Later w1) := ⟨⟨w1, Since.refl w1⟩⟩
      clear hS2
      go_wp2_with fail
      refine wp_region_since (by kernel_rfl) (by kernel_rfl) hS ?_
      repeat (go_big_quiet_step (fail))
      refine wpQuiet_nil ?_
      intro w8 hS8
      go_wp2_with fail
      refine wp_region_since (by kernel_rfl) (by kernel_rfl) hS8 ?_
      repeat (go_big_quiet_step (fail))
      refine wpQuiet_nil ?_
      intro w9 hS9
      have hown : w9.ownsRow w1.heap.size 31 5 (.slice none 0 0) 0 [] := World.ownsRow_nil _ _ _ _
      have hgb : ∀ o : Nat, w9.cell? ⟨w.heap.size, o, none⟩ = w1.cell? ⟨w.heap.size, o, none⟩ := fun o => hS9.cellAt (by omega) o
      clear hS8 hS
      go_wp2_with (at_builtin; refine wpList_append_own _ rfl _ _ 35 rfl w1.heap.size 31 i0 (.agg #[.int .i64 0, .int .i64 0, .int .i64 0, .bool false, .string ByteArray.empty]) 5 48 Try.underlying35 hi hz0 hz1 hz2 rfl (by decide) _ _ _ rfl (hown.alloc _) ⟨w9.heap.size, 0, none⟩ 1 1 m.cells rfl rfl (msg_new _ _ _) (fun u hu => flat_one u [m] (by simpa [flat] using hu)) (by unfold maxLen; omega) (by omega) (by have := hS9.size; simp; omega) ?_; intro v3 w12 hown3 hgr3 _; have hS12 : Since w1 w12 := (hS9.alloc _).grown hgr3 (ownBlock_ge hown); obtain ⟨g', cap', rfl⟩ := ownsRow_succ hown3; have hcp : 1 ≤ cap' := ownsRow_cap hown3)
      obtain ⟨a', len', cap'', e1, hMs, hcs⟩ := put_end (m := m) (ms := []) (p := 0) rfl rfl (by simp) hown3 (by simp) (by simp [flat])
      go_ret2
      exact ⟨a', len', cap'', by rw [← e1]; rfl, hMs, hcs, hS1.trans hS12⟩
  | some x =>
    by_cases hc0 : cap = 0
    · subst hc0
      go_enter Try.func25, Try.ntmps25
      go_wp2_with fail
      refine (refRises_any _ _ _ [] _ msgs_nil).mono ?_
      rw [show risesM [] = true from rfl]
      rintro e w2 ⟨rfl, hS2⟩
      clear hw1
      go_wp2_with fail
      go_loopw [6, 7] (fun v i wr => (v = .slice none 0 0 ∧ i = .int .i64 0) ∧ Since w1 wr) (fun _ _ _ => 0)
      case atStart => exact ⟨⟨rfl, rfl⟩, hS2⟩
      case round =>
        obtain ⟨⟨rfl, rfl⟩, hS⟩ := hrel
        have hne : Nonempty (Later w1) := ⟨⟨w1, Since.refl w1⟩⟩
        clear hS2
        go_wp2_with fail
        refine wp_region_since (by kernel_rfl) (by kernel_rfl) hS ?_
        repeat (go_big_quiet_step (fail))
        refine wpQuiet_nil ?_
        intro w8 hS8
        go_wp2_with fail
        refine wp_region_since (by kernel_rfl) (by kernel_rfl) hS8 ?_
        repeat (go_big_quiet_step (fail))
        refine wpQuiet_nil ?_
        intro w9 hS9
        have hown : w9.ownsRow w1.heap.size 31 5 (.slice none 0 0) 0 [] := World.ownsRow_nil _ _ _ _
        have hgb : ∀ o : Nat, w9.cell? ⟨w.heap.size, o, none⟩ = w1.cell? ⟨w.heap.size, o, none⟩ := fun o => hS9.cellAt (by omega) o
        clear hS8 hS
        go_wp2_with (at_builtin; refine wpList_append_own _ rfl _ _ 35 rfl w1.heap.size 31 i0 (.agg #[.int .i64 0, .int .i64 0, .int .i64 0, .bool false, .string ByteArray.empty]) 5 48 Try.underlying35 hi hz0 hz1 hz2 rfl (by decide) _ _ _ rfl (hown.alloc _) ⟨w9.heap.size, 0, none⟩ 1 1 m.cells rfl rfl (msg_new _ _ _) (fun u hu => flat_one u [m] (by simpa [flat] using hu)) (by unfold maxLen; omega) (by omega) (by have := hS9.size; simp; omega) ?_; intro v3 w12 hown3 hgr3 _; have hS12 : Since w1 w12 := (hS9.alloc _).grown hgr3 (ownBlock_ge hown); obtain ⟨g', cap', rfl⟩ := ownsRow_succ hown3; have hcp : 1 ≤ cap' := ownsRow_cap hown3)
        obtain ⟨a', len', cap'', e1, hMs, hcs⟩ := put_end (m := m) (ms := []) (p := 0) rfl rfl (by simp) hown3 (by simp) (by simp [flat])
        go_ret2
        exact ⟨a', len', cap'', by rw [← e1]; rfl, hMs, hcs, hS1.trans hS12⟩
    · have hc1 : 0 < cap := by omega
      go_enter Try.func25, Try.ntmps25
      go_wp2_with fail
      refine (refRises_any _ _ _ [] _ msgs_nil).mono ?_
      rw [show risesM [] = true from rfl]
      rintro e w2 ⟨rfl, hS2⟩
      clear hw1
      go_wp2_with fail
      go_loopw [6, 7] (fun v i wr => (v = .slice none 0 0 ∧ i = .int .i64 0) ∧ Since w1 wr) (fun _ _ _ => 0)
      case atStart => exact ⟨⟨rfl, rfl⟩, hS2⟩
      case round =>
        obtain ⟨⟨rfl, rfl⟩, hS⟩ := hrel
        have hne : Nonempty (Later w1) := ⟨⟨w1, Since.refl w1⟩⟩
        clear hS2
        go_wp2_with fail
        refine wp_region_since (by kernel_rfl) (by kernel_rfl) hS ?_
        repeat (go_big_quiet_step (fail))
        refine wpQuiet_nil ?_
        intro w8 hS8
        go_wp2_with fail
        refine wp_region_since (by kernel_rfl) (by kernel_rfl) hS8 ?_
        repeat (go_big_quiet_step (fail))
        refine wpQuiet_nil ?_
        intro w9 hS9
        have hown : w9.ownsRow w1.heap.size 31 5 (.slice none 0 0) 0 [] := World.ownsRow_nil _ _ _ _
        have hgb : ∀ o : Nat, w9.cell? ⟨w.heap.size, o, none⟩ = w1.cell? ⟨w.heap.size, o, none⟩ := fun o => hS9.cellAt (by omega) o
        clear hS8 hS
        go_wp2_with (at_builtin; refine wpList_append_own _ rfl _ _ 35 rfl w1.heap.size 31 i0 (.agg #[.int .i64 0, .int .i64 0, .int .i64 0, .bool false, .string ByteArray.empty]) 5 48 Try.underlying35 hi hz0 hz1 hz2 rfl (by decide) _ _ _ rfl (hown.alloc _) ⟨w9.heap.size, 0, none⟩ 1 1 m.cells rfl rfl (msg_new _ _ _) (fun u hu => flat_one u [m] (by simpa [flat] using hu)) (by unfold maxLen; omega) (by omega) (by have := hS9.size; simp; omega) ?_; intro v3 w12 hown3 hgr3 _; have hS12 : Since w1 w12 := (hS9.alloc _).grown hgr3 (ownBlock_ge hown); obtain ⟨g', cap', rfl⟩ := ownsRow_succ hown3; have hcp : 1 ≤ cap' := ownsRow_cap hown3)
        obtain ⟨a', len', cap'', e1, hMs, hcs⟩ := put_end (m := m) (ms := []) (p := 0) rfl rfl (by simp) hown3 (by simp) (by simp [flat])
        go_ret2
        exact ⟨a', len', cap'', by rw [← e1]; rfl, hMs, hcs, hS1.trans hS12⟩

theorem putOf_any (a : Option Addr) (len cap : Nat) (ms : List Mg) (m : Mg) (w : World) (hM : Msgs w a len ms) (hcap : len ≤ cap) :
    Calls Try.prog 25 #[.slice a len cap, .agg #[.int .i64 m.fr, .int .i64 m.gr, .int .i64 m.st, .bool m.nul, .string m.body]] w fun e w' => ∃ a' len' cap', e = .returned (.tuple #[.slice a' len' cap', .int .i64 (putE m ms)]) ∧ Msgs w' a' len' (putL m ms) ∧ len' ≤ cap' ∧ Since w w' := by
  by_cases h0 : 0 < len
  · exact putOf_some a len cap ms m w hM hcap h0
  · have hl := hM.hlen
    obtain rfl : len = 0 := by omega
    obtain rfl : ms = [] := List.eq_nil_of_length_eq_zero hl
    exact putOf_zero a cap m w
end Go.Proofs.Ytbkfpdohgjnegaa
