/- Contract: what msg.Put comes to, at whatever list of messages; no condition but that the slice reads as messages and its length is not above its capacity. -/
import Derived.Test.YtbkfpdohgjnegaaMsg
import Derived.Deep.AppendSrc
import Derived.Maps.AppendAt
namespace Go.Proofs.Ytbkfpdohgjnegaa
set_option maxRecDepth 8000
open Go.RowKit Go.Shelf

theorem Try.infoMsg : (Try.prog.info? 31).map (fun i => (i.zero, i.size, i.bytes)) = some (some (.agg #[.int .i64 0, .int .i64 0, .int .i64 0, .bool false, .string ByteArray.empty]), 5, 48) := by kernel_rfl
theorem Since.grown {w1 w w' : World} {row : Option Nat} (h : Since w1 w) (hg : w.grownBy w' row) (hr : ∀ k, row = some k → w1.heap.size ≤ k) : Since w1 w' := ⟨h.below.grown hg h.size hr⟩
theorem Since.cellAt {w1 w : World} (h : Since w1 w) {b : Nat} (hb : b < w1.heap.size) (o : Nat) : w.cell? ⟨b, o, none⟩ = w1.cell? ⟨b, o, none⟩ := h.below.cell (p := ⟨b, o, none⟩) hb
theorem add_at (b off j : Nat) : (⟨b, off, none⟩ : Addr).add j = ⟨b, off + j, none⟩ := by
  by_cases h : j = 0
  · subst h; simp [Addr.add]
  · simp [Addr.add, h]
theorem flat_take_get {ms : List Mg} {p j : Nat} {u : Value} (h : (flat (ms.take p))[j]? = some u) : (flat ms)[j]? = some u := by
  have e : flat ms = flat (ms.take p) ++ flat (ms.drop p) := by rw [← flat_append, List.take_append_drop]
  rw [e, List.getElem?_append_left (List.getElem?_eq_some_iff.1 h).1]; exact h
theorem flat_drop_get {ms : List Mg} {p j : Nat} {u : Value} (hp : p ≤ ms.length) (h : (flat (ms.drop p))[j]? = some u) : (flat ms)[p * 5 + j]? = some u := by
  have e : flat ms = flat (ms.take p) ++ flat (ms.drop p) := by rw [← flat_append, List.take_append_drop]
  have hl : (flat (ms.take p)).length = p * 5 := by rw [flat_length]; simp; omega
  rw [e, List.getElem?_append_right (by omega), hl]
  rw [show p * 5 + j - p * 5 = j from by omega]; exact h

theorem msg_new (w : World) (m : Mg) (t : Nat) : ∀ j u, m.cells[j]? = some u → (w.alloc (.cells #[.int .i64 m.fr, .int .i64 m.gr, .int .i64 m.st, .bool m.nul, .string m.body] t)).cell? ((⟨w.heap.size, 0, none⟩ : Addr).add j) = some u := by
  intro j u hj
  rw [add_at]
  have hl := (List.getElem?_eq_some_iff.1 hj).1
  simp [Mg.cells] at hl
  rcases (show j = 0 ∨ j = 1 ∨ j = 2 ∨ j = 3 ∨ j = 4 by omega) with rfl | rfl | rfl | rfl | rfl <;> simp [Mg.cells] at hj <;> subst hj <;> simp [go_sem]
/-- What Put answers: the error. -/
def putE (m : Mg) (ms : List Mg) : Int :=
  if risesM ms = false then 1 else if 40 ≤ ms.length then 2 else
    match ms[placeM m ms]? with
    | some x => if lessM m x then 0 else 1
    | none => 0
/-- What Put answers: the list. -/
def putL (m : Mg) (ms : List Mg) : List Mg := if putE m ms = 0 then ms.take (placeM m ms) ++ [m] ++ ms.drop (placeM m ms) else []

theorem putL_len (m : Mg) (ms : List Mg) (h : putE m ms = 0) : (putL m ms).length = ms.length + 1 := by
  have := placeM_le m ms
  unfold putL; rw [if_pos h]; simp; omega
theorem putL_none (m : Mg) (ms : List Mg) (h : putE m ms ≠ 0) : putL m ms = [] := by unfold putL; rw [if_neg h]

/-- Behind the three appends. -/
theorem put_end {W : World} {base : Nat} {v : Value} {m : Mg} {ms : List Mg} {p n : Nat} {l : List Value} (hE : putE m ms = 0) (hp : placeM m ms = p) (hmax : ms.length < 40) (h : W.ownsRow base 31 5 v n l) (hn : n = ms.length + 1) (hl : l = flat (ms.take p) ++ m.cells ++ flat (ms.drop p)) :
    ∃ a' len' cap', v = .slice a' len' cap' ∧ Msgs W a' len' (putL m ms) ∧ len' ≤ cap' := by
  have e : flat (putL m ms) = l := by unfold putL; rw [if_pos hE, hp, flat_append, flat_append, hl]; simp [flat]
  have hn' : n = (putL m ms).length := by rw [putL_len m ms hE]; exact hn
  rw [← e, hn'] at h
  obtain ⟨a, cap, rfl, hM⟩ := msgs_of_row h (by rw [putL_len m ms hE]; omega)
  refine ⟨_, _, _, rfl, hM, ?_⟩
  rcases h.2 with ⟨h1, h2⟩ | ⟨g, cap', cur, h1, h2, h3, h4, _⟩
  · rw [putL_len m ms hE] at h2; omega
  · simp only [Value.slice.injEq] at h1; rw [h1.2.2]; exact h4

theorem ownsRow_cap {W : World} {base : Nat} {e : TypeId} {size : Nat} {x : Addr} {n k cap : Nat} {xs : List Value} (h : W.ownsRow base e size (.slice (some x) k cap) n xs) : n ≤ cap := by
  rcases h.2 with ⟨h1, _⟩ | ⟨g, cap', cur, h1, _, _, h4, _⟩
  · cases h1
  · simp only [Value.slice.injEq] at h1; rw [h1.2.2]; exact h4

set_option maxHeartbeats 2000000 in
theorem put_some (a : Option Addr) (len cap : Nat) (ms : List Mg) (m : Mg) (w : World) (hM : Msgs w a len ms) (hcap : len ≤ cap) (h0 : 0 < len) :
    Calls Try.prog 24 #[.slice a len cap, .agg #[.int .i64 m.fr, .int .i64 m.gr, .int .i64 m.st, .bool m.nul, .string m.body]] w fun e w' => ∃ a' len' cap', e = .returned (.tuple #[.slice a' len' cap', .int .i64 (putE m ms)]) ∧ Msgs w' a' len' (putL m ms) ∧ len' ≤ cap' ∧ Since w w' := by
  obtain ⟨i0, hi, hz0, hz1, hz2⟩ := info_parts Try.infoMsg
  obtain ⟨w1, hw1⟩ : ∃ w1, w.alloc (.cells #[.int .i64 m.fr, .int .i64 m.gr, .int .i64 m.st, .bool m.nul, .string m.body] 31) = w1 := ⟨_, rfl⟩
  have hS1 : Since w w1 := by rw [← hw1]; exact (Since.refl w).alloc _
  have hsz : w1.heap.size = w.heap.size + 1 := by rw [← hw1]; simp
  have hB : MsgAt w1 w.heap.size 0 m := by rw [← hw1]; constructor <;> simp [go_sem]
  have hlen := hM.hlen
  have hmax := hM.hmax
  subst hlen
  cases hr : risesM ms
  · have HE : Hid (putE m ms = 1) := by unfold Hid putE; rw [if_pos hr]
    have HL : Hid (putL m ms = []) := putL_none m ms (by rw [HE.out]; decide)
    have HR : Hid (risesM ms = false) := hr
    clear hr
    go_enter Try.func24, Try.ntmps24
    go_wp2_with fail
    refine (rises_any _ _ _ ms _ (hM.since hS1)).mono ?_
    rw [HR.out]
    rintro e w2 ⟨rfl, hS2⟩
    go_wp2_with fail
    go_ret2
    exact ⟨none, 0, 0, by rw [HE.out]; rfl, by rw [HL.out]; exact msgs_nil, Nat.le_refl _, hS1.trans hS2⟩
  have HR : Hid (risesM ms = true) := hr
  have hEr : ¬ risesM ms = false := by rw [hr]; decide
  clear hr
  by_cases hl : 40 ≤ ms.length
  · have HE : Hid (putE m ms = 2) := by unfold Hid putE; rw [if_neg hEr, if_pos hl]
    have HL : Hid (putL m ms = []) := putL_none m ms (by rw [HE.out]; decide)
    clear hEr
    go_enter Try.func24, Try.ntmps24
    go_wp2_with fail
    refine (rises_any _ _ _ ms _ (hM.since hS1)).mono ?_
    rw [HR.out]
    rintro e w2 ⟨rfl, hS2⟩
    go_wp2_with fail
    go_ret2
    exact ⟨none, 0, 0, by rw [HE.out]; rfl, by rw [HL.out]; exact msgs_nil, Nat.le_refl _, hS1.trans hS2⟩
  have HE0 : Hid (putE m ms = match ms[placeM m ms]? with | some x => if lessM m x then 0 else 1 | none => 0) := by unfold Hid putE; rw [if_neg hEr, if_neg hl]
  clear hEr
  go_enter Try.func24, Try.ntmps24
  go_wp2_with fail
  refine (rises_any _ _ _ ms _ (hM.since hS1)).mono ?_
  rw [HR.out]
  rintro e w2 ⟨rfl, hS2⟩
  have hg : ∀ o : Nat, w2.cell? ⟨w.heap.size, o, none⟩ = w1.cell? ⟨w.heap.size, o, none⟩ := fun o => hS2.cellAt (by omega) o
  obtain ⟨f0, f1, f2, f3, f4⟩ := hB
  simp only [Nat.zero_add] at f0 f1 f2 f3 f4
  have g0 := f0; have g1 := f1; have g2 := f2; have g3 := f3; have g4 := f4
  rw [← hg] at f0 f1 f2 f3 f4
  clear hg hw1
  go_wp2_with fail
  refine (place_any _ _ _ ms m _ (hM.since (hS1.trans hS2))).mono ?_
  rintro e w3 ⟨rfl, hS3⟩
  have hS13 := hS2.trans hS3
  have hple := placeM_le m ms
  obtain ⟨p, hpe⟩ : ∃ p, placeM m ms = p := ⟨_, rfl⟩
  have HE : Hid (putE m ms = match ms[p]? with | some x => if lessM m x then 0 else 1 | none => 0) := by rw [← hpe]; exact HE0.out
  rw [hpe] at hple ⊢
  have HP : Hid (placeM m ms = p) := hpe
  clear hpe f0 f1 f2 f3 f4 hS2 hS3 HE0
  have hne : Nonempty (Later w1) := ⟨⟨w1, Since.refl w1⟩⟩
  have hg2 : ∀ (x : Later w1) (o : Nat), x.w.cell? ⟨w.heap.size, o, none⟩ = w1.cell? ⟨w.heap.size, o, none⟩ := fun x o => x.cell (by omega)
  by_cases hp : p < ms.length
  · obtain ⟨b, off, rfl, hb, hcell⟩ := hM.cells (by omega)
    obtain ⟨x, hx⟩ : ∃ x, ms[p]? = some x := ⟨_, List.getElem?_eq_getElem hp⟩
    obtain ⟨d0, d1, d2, d3, d4⟩ := msgAt_of hcell p x hx
    have hg : ∀ (x : Later w1) (o : Nat), x.w.cell? ⟨b, o, none⟩ = w.cell? ⟨b, o, none⟩ := fun x o => (x.cell (by omega)).trans (hS1.below.cell (p := ⟨b, o, none⟩) hb)
    have HE2 : Hid (putE m ms = if lessM m x then 0 else 1) := by unfold Hid; rw [HE.out, hx]
    clear HE hx
    cases hlx : lessM m x
    · have HV : Hid (putE m ms = 1) := by unfold Hid; rw [HE2.out, hlx]; rfl
      have HL : Hid (putL m ms = []) := putL_none m ms (by rw [HV.out]; decide)
      clear HE2
      go_wp2_with fail
      refine wp_region_since (by kernel_rfl) (by kernel_rfl) hS13 ?_
      repeat (go_big_quiet_step ((go_at_call 22; exact Later.call (less_v w1 m x _ hlx))))
      refine wpQuiet_nil ?_
      intro w9 hS9
      go_wp2_with fail
      go_ret2
      exact ⟨none, 0, 0, by rw [HV.out]; rfl, by rw [HL.out]; exact msgs_nil, Nat.le_refl _, hS1.trans hS9⟩
    · have HV : Hid (putE m ms = 0) := by unfold Hid; rw [HE2.out, hlx]; rfl
      clear HE2
      go_wp2_with fail
      refine wp_region_since (by kernel_rfl) (by kernel_rfl) hS13 ?_
      repeat (go_big_quiet_step ((go_at_call 22; exact Later.call (less_v w1 m x _ hlx))))
      refine wpQuiet_nil ?_
      intro w9 hS9
      clear hg hg2 d0 d1 d2 d3 d4
      go_wp2_with (first
        | (at_make; refine wpList_make_own _ rfl _ _ 35 rfl w1.heap.size 31 i0 (.agg #[.int .i64 0, .int .i64 0, .int .i64 0, .bool false, .string ByteArray.empty]) 5 Try.underlying35 hi hz0 hz1 .i64 .i64 _ (ms.length + 1) rfl rfl (by simp) (by rw [hz2]; omega) (by unfold maxLen; omega) hS9.size ?_; intro w10 hown hgr; have hS10 : Since w1 w10 := hS9.grown hgr (fun k e => by cases e))
        | (at_builtin; refine wpList_append_own _ rfl _ _ 35 rfl w1.heap.size 31 i0 (.agg #[.int .i64 0, .int .i64 0, .int .i64 0, .bool false, .string ByteArray.empty]) 5 48 Try.underlying35 hi hz0 hz1 hz2 rfl (by decide) _ _ _ rfl hown3 ⟨b, off + p * 5, none⟩ (ms.length - p) (cap - p) (flat (ms.drop p)) rfl (by rw [flat_length, List.length_drop]) (fun j u hj => by rw [add_at, hS12.cellAt (by omega), hS1.cellAt hb, Nat.add_assoc]; exact hcell _ _ (flat_drop_get hple hj)) (fun u hu => flat_one u _ hu) (by unfold maxLen; omega) (by omega) hS12.size ?_; intro v4 w13 hown4 hgr4 _; have hS13' : Since w1 w13 := hS12.grown hgr4 (ownBlock_ge hown3))
        | (at_builtin; refine wpList_append_own _ rfl _ _ 35 rfl w1.heap.size 31 i0 (.agg #[.int .i64 0, .int .i64 0, .int .i64 0, .bool false, .string ByteArray.empty]) 5 48 Try.underlying35 hi hz0 hz1 hz2 rfl (by decide) _ _ _ rfl (hown2.alloc _) ⟨w11.heap.size, 0, none⟩ 1 1 m.cells rfl rfl (msg_new _ _ _) (fun u hu => flat_one u [m] (by simpa [flat] using hu)) (by unfold maxLen; omega) (by omega) (by have := hS11.size; simp; omega) ?_; intro v3 w12 hown3 hgr3 _; have hS12 : Since w1 w12 := (hS11.alloc _).grown hgr3 (ownBlock_ge hown2))
        | (at_builtin; refine wpList_append_own _ rfl _ _ 35 rfl w1.heap.size 31 i0 (.agg #[.int .i64 0, .int .i64 0, .int .i64 0, .bool false, .string ByteArray.empty]) 5 48 Try.underlying35 hi hz0 hz1 hz2 rfl (by decide) _ _ _ rfl hown ⟨b, off, none⟩ p cap (flat (ms.take p)) rfl (by rw [flat_length, List.length_take, Nat.min_eq_left hple]) (fun j u hj => by rw [add_at, hS10.cellAt (by omega), hS1.cellAt hb]; exact hcell _ _ (flat_take_get hj)) (fun u hu => flat_one u _ hu) (by unfold maxLen; omega) (by omega) hS10.size ?_; intro v2 w11 hown2 hgr2 _; have hS11 : Since w1 w11 := hS10.grown hgr2 (ownBlock_ge hown); have hgb : ∀ o : Nat, w11.cell? ⟨w.heap.size, o, none⟩ = w1.cell? ⟨w.heap.size, o, none⟩ := fun o => hS11.cellAt (by omega) o))
      obtain ⟨a', len', cap', rfl, hMs, hcs⟩ := put_end HV.out HP.out (by omega) hown4 (by omega) (by simp)
      go_ret2
      exact ⟨a', len', cap', by rw [HV.out]; rfl, hMs, hcs, hS1.trans hS13'⟩
  · have hpl : p = ms.length := by omega
    have HV : Hid (putE m ms = 0) := by unfold Hid; rw [HE.out, hpl, List.getElem?_eq_none (Nat.le_refl _)]
    have HPL : Hid (p = ms.length) := hpl
    have hd : decide ((p : Int) < (ms.length : Int)) = false := by simpa using hp
    have hd' : decide (p < ms.length) = false := by simpa using hp
    clear HE hpl
    go_wp2_with fail
    refine wp_region_since (by kernel_rfl) (by kernel_rfl) hS13 ?_
    repeat (go_big_quiet_step (fail))
    refine wpQuiet_nil ?_
    intro w9 hS9
    clear hg2
    by_cases hcp : cap = p
    · obtain rfl : p = cap := hcp.symm
      obtain ⟨b, off, rfl, hb, hcell⟩ := hM.cells h0
      go_wp2_with (first
        | (at_make; refine wpList_make_own _ rfl _ _ 35 rfl w1.heap.size 31 i0 (.agg #[.int .i64 0, .int .i64 0, .int .i64 0, .bool false, .string ByteArray.empty]) 5 Try.underlying35 hi hz0 hz1 .i64 .i64 _ (ms.length + 1) rfl rfl (by simp) (by rw [hz2]; omega) (by unfold maxLen; omega) hS9.size ?_; intro w10 hown hgr; have hS10 : Since w1 w10 := hS9.grown hgr (fun k e => by cases e))
        | (at_builtin; refine wpList_append_own _ rfl _ _ 35 rfl w1.heap.size 31 i0 (.agg #[.int .i64 0, .int .i64 0, .int .i64 0, .bool false, .string ByteArray.empty]) 5 48 Try.underlying35 hi hz0 hz1 hz2 rfl (by decide) _ _ _ rfl hown3 ⟨b, off, none⟩ 0 0 [] rfl rfl (fun j u hj => by simp at hj) (fun u hu => by cases hu) (by unfold maxLen; omega) (by omega) hS12.size ?_; intro v4 w13 hown4 hgr4 _; have hS13' : Since w1 w13 := hS12.grown hgr4 (ownBlock_ge hown3))
        | (at_builtin; refine wpList_append_own _ rfl _ _ 35 rfl w1.heap.size 31 i0 (.agg #[.int .i64 0, .int .i64 0, .int .i64 0, .bool false, .string ByteArray.empty]) 5 48 Try.underlying35 hi hz0 hz1 hz2 rfl (by decide) _ _ _ rfl (hown2.alloc _) ⟨w11.heap.size, 0, none⟩ 1 1 m.cells rfl rfl (msg_new _ _ _) (fun u hu => flat_one u [m] (by simpa [flat] using hu)) (by unfold maxLen; omega) (by omega) (by have := hS11.size; simp; omega) ?_; intro v3 w12 hown3 hgr3 _; have hS12 : Since w1 w12 := (hS11.alloc _).grown hgr3 (ownBlock_ge hown2))
        | (at_builtin; refine wpList_append_own _ rfl _ _ 35 rfl w1.heap.size 31 i0 (.agg #[.int .i64 0, .int .i64 0, .int .i64 0, .bool false, .string ByteArray.empty]) 5 48 Try.underlying35 hi hz0 hz1 hz2 rfl (by decide) _ _ _ rfl hown ⟨b, off, none⟩ p p (flat (ms.take p)) rfl (by rw [flat_length, List.length_take, Nat.min_eq_left hple]) (fun j u hj => by rw [add_at, hS10.cellAt (by omega), hS1.cellAt hb]; exact hcell _ _ (flat_take_get hj)) (fun u hu => flat_one u _ hu) (by unfold maxLen; omega) (by omega) hS10.size ?_; intro v2 w11 hown2 hgr2 _; have hS11 : Since w1 w11 := hS10.grown hgr2 (ownBlock_ge hown); have hgb : ∀ o : Nat, w11.cell? ⟨w.heap.size, o, none⟩ = w1.cell? ⟨w.heap.size, o, none⟩ := fun o => hS11.cellAt (by omega) o))
      obtain ⟨a', len', cap', rfl, hMs, hcs⟩ := put_end HV.out HP.out (by omega) hown4 (by have := HPL.out; omega) (by rw [List.drop_eq_nil_of_le (Nat.le_of_eq HPL.out.symm)]; simp [flat])
      go_ret2
      exact ⟨a', len', cap', by rw [HV.out]; rfl, hMs, hcs, hS1.trans hS13'⟩
    · have hcp2 : p < cap := by have := HPL.out; omega
      obtain ⟨b, off, rfl, hb, hcell⟩ := hM.cells h0
      go_wp2_with (first
        | (at_make; refine wpList_make_own _ rfl _ _ 35 rfl w1.heap.size 31 i0 (.agg #[.int .i64 0, .int .i64 0, .int .i64 0, .bool false, .string ByteArray.empty]) 5 Try.underlying35 hi hz0 hz1 .i64 .i64 _ (ms.length + 1) rfl rfl (by simp) (by rw [hz2]; omega) (by unfold maxLen; omega) hS9.size ?_; intro w10 hown hgr; have hS10 : Since w1 w10 := hS9.grown hgr (fun k e => by cases e))
        | (at_builtin; refine wpList_append_own _ rfl _ _ 35 rfl w1.heap.size 31 i0 (.agg #[.int .i64 0, .int .i64 0, .int .i64 0, .bool false, .string ByteArray.empty]) 5 48 Try.underlying35 hi hz0 hz1 hz2 rfl (by decide) _ _ _ rfl hown3 ⟨b, off + p * 5, none⟩ (ms.length - p) (cap - p) (flat (ms.drop p)) rfl (by rw [flat_length, List.length_drop]) (fun j u hj => by rw [add_at, hS12.cellAt (by omega), hS1.cellAt hb, Nat.add_assoc]; exact hcell _ _ (flat_drop_get hple hj)) (fun u hu => flat_one u _ hu) (by unfold maxLen; omega) (by omega) hS12.size ?_; intro v4 w13 hown4 hgr4 _; have hS13' : Since w1 w13 := hS12.grown hgr4 (ownBlock_ge hown3))
        | (at_builtin; refine wpList_append_own _ rfl _ _ 35 rfl w1.heap.size 31 i0 (.agg #[.int .i64 0, .int .i64 0, .int .i64 0, .bool false, .string ByteArray.empty]) 5 48 Try.underlying35 hi hz0 hz1 hz2 rfl (by decide) _ _ _ rfl (hown2.alloc _) ⟨w11.heap.size, 0, none⟩ 1 1 m.cells rfl rfl (msg_new _ _ _) (fun u hu => flat_one u [m] (by simpa [flat] using hu)) (by unfold maxLen; omega) (by omega) (by have := hS11.size; simp; omega) ?_; intro v3 w12 hown3 hgr3 _; have hS12 : Since w1 w12 := (hS11.alloc _).grown hgr3 (ownBlock_ge hown2))
        | (at_builtin; refine wpList_append_own _ rfl _ _ 35 rfl w1.heap.size 31 i0 (.agg #[.int .i64 0, .int .i64 0, .int .i64 0, .bool false, .string ByteArray.empty]) 5 48 Try.underlying35 hi hz0 hz1 hz2 rfl (by decide) _ _ _ rfl hown ⟨b, off, none⟩ p cap (flat (ms.take p)) rfl (by rw [flat_length, List.length_take, Nat.min_eq_left hple]) (fun j u hj => by rw [add_at, hS10.cellAt (by omega), hS1.cellAt hb]; exact hcell _ _ (flat_take_get hj)) (fun u hu => flat_one u _ hu) (by unfold maxLen; omega) (by omega) hS10.size ?_; intro v2 w11 hown2 hgr2 _; have hS11 : Since w1 w11 := hS10.grown hgr2 (ownBlock_ge hown); have hgb : ∀ o : Nat, w11.cell? ⟨w.heap.size, o, none⟩ = w1.cell? ⟨w.heap.size, o, none⟩ := fun o => hS11.cellAt (by omega) o))
      obtain ⟨a', len', cap', rfl, hMs, hcs⟩ := put_end HV.out HP.out (by omega) hown4 (by omega) (by simp)
      go_ret2
      exact ⟨a', len', cap', by rw [HV.out]; rfl, hMs, hcs, hS1.trans hS13'⟩

set_option maxHeartbeats 1000000 in
theorem put_zero (a : Option Addr) (cap : Nat) (m : Mg) (w : World) :
    Calls Try.prog 24 #[.slice a 0 cap, .agg #[.int .i64 m.fr, .int .i64 m.gr, .int .i64 m.st, .bool m.nul, .string m.body]] w fun e w' => ∃ a' len' cap', e = .returned (.tuple #[.slice a' len' cap', .int .i64 (putE m [])]) ∧ Msgs w' a' len' (putL m []) ∧ len' ≤ cap' ∧ Since w w' := by
  obtain ⟨i0, hi, hz0, hz1, hz2⟩ := info_parts Try.infoMsg
  obtain ⟨w1, hw1⟩ : ∃ w1, w.alloc (.cells #[.int .i64 m.fr, .int .i64 m.gr, .int .i64 m.st, .bool m.nul, .string m.body] 31) = w1 := ⟨_, rfl⟩
  have hS1 : Since w w1 := by rw [← hw1]; exact (Since.refl w).alloc _
  have hsz : w1.heap.size = w.heap.size + 1 := by rw [← hw1]; simp
  have hB : MsgAt w1 w.heap.size 0 m := by rw [← hw1]; constructor <;> simp [go_sem]
  obtain ⟨g0, g1, g2, g3, g4⟩ := hB
  simp only [Nat.zero_add] at g0 g1 g2 g3 g4
  cases a with
  | none =>
    go_enter Try.func24, Try.ntmps24
    go_wp2_with fail
    refine (rises_any _ _ _ [] _ msgs_nil).mono ?_
    rw [show risesM [] = true from rfl]
    rintro e w2 ⟨rfl, hS2⟩
    have hg : ∀ o : Nat, w2.cell? ⟨w.heap.size, o, none⟩ = w1.cell? ⟨w.heap.size, o, none⟩ := fun o => hS2.cellAt (by omega) o
    have f0 := (hg 0).trans g0; have f1 := (hg 1).trans g1; have f2 := (hg 2).trans g2; have f3 := (hg 3).trans g3; have f4 := (hg 4).trans g4
    clear hg hw1
    go_wp2_with fail
    refine (place_any _ _ _ [] m _ msgs_nil).mono ?_
    rw [show placeM m [] = 0 from rfl]
    rintro e w3 ⟨rfl, hS3⟩
    have hS13 := hS2.trans hS3
    clear f0 f1 f2 f3 f4 hS2 hS3
    have hne : Nonempty (Later w1) := ⟨⟨w1, Since.refl w1⟩⟩
    go_wp2_with fail
    refine wp_region_since (by kernel_rfl) (by kernel_rfl) hS13 ?_
    repeat (go_big_quiet_step (fail))
    refine wpQuiet_nil ?_
    intro w9 hS9
    clear hS13
    go_wp2_with (first
      | (at_make; refine wpList_make_own _ rfl _ _ 35 rfl w1.heap.size 31 i0 (.agg #[.int .i64 0, .int .i64 0, .int .i64 0, .bool false, .string ByteArray.empty]) 5 Try.underlying35 hi hz0 hz1 .i64 .i64 _ 1 rfl rfl (by simp) (by rw [hz2]; omega) (by unfold maxLen; omega) hS9.size ?_; intro w10 hown hgr; have hS10 : Since w1 w10 := hS9.grown hgr (fun k e => by cases e); have hgb : ∀ o : Nat, w10.cell? ⟨w.heap.size, o, none⟩ = w1.cell? ⟨w.heap.size, o, none⟩ := fun o => hS10.cellAt (by omega) o)
      | (at_builtin; refine wpList_append_own _ rfl _ _ 35 rfl w1.heap.size 31 i0 (.agg #[.int .i64 0, .int .i64 0, .int .i64 0, .bool false, .string ByteArray.empty]) 5 48 Try.underlying35 hi hz0 hz1 hz2 rfl (by decide) _ _ _ rfl (hown.alloc _) ⟨w10.heap.size, 0, none⟩ 1 1 m.cells rfl rfl (msg_new _ _ _) (fun u hu => flat_one u [m] (by simpa [flat] using hu)) (by unfold maxLen; omega) (by omega) (by have := hS10.size; simp; omega) ?_; intro v3 w12 hown3 hgr3 _; have hS12 : Since w1 w12 := (hS10.alloc _).grown hgr3 (ownBlock_ge hown); obtain ⟨g', cap', rfl⟩ := ownsRow_succ hown3; have hcp : 1 ≤ cap' := ownsRow_cap hown3))
    obtain ⟨a', len', cap'', e1, hMs, hcs⟩ := put_end (m := m) (ms := []) (p := 0) rfl rfl (by simp) hown3 (by simp) (by simp [flat])
    go_ret2
    exact ⟨a', len', cap'', by rw [← e1]; rfl, hMs, hcs, hS1.trans hS12⟩
  | some x =>
    by_cases hc0 : cap = 0
    · subst hc0
      go_enter Try.func24, Try.ntmps24
      go_wp2_with fail
      refine (rises_any _ _ _ [] _ msgs_nil).mono ?_
      rw [show risesM [] = true from rfl]
      rintro e w2 ⟨rfl, hS2⟩
      have hg : ∀ o : Nat, w2.cell? ⟨w.heap.size, o, none⟩ = w1.cell? ⟨w.heap.size, o, none⟩ := fun o => hS2.cellAt (by omega) o
      have f0 := (hg 0).trans g0; have f1 := (hg 1).trans g1; have f2 := (hg 2).trans g2; have f3 := (hg 3).trans g3; have f4 := (hg 4).trans g4
      clear hg hw1
      go_wp2_with fail
      refine (place_any _ _ _ [] m _ msgs_nil).mono ?_
      rw [show placeM m [] = 0 from rfl]
      rintro e w3 ⟨rfl, hS3⟩
      have hS13 := hS2.trans hS3
      clear f0 f1 f2 f3 f4 hS2 hS3
      have hne : Nonempty (Later w1) := ⟨⟨w1, Since.refl w1⟩⟩
      go_wp2_with fail
      refine wp_region_since (by kernel_rfl) (by kernel_rfl) hS13 ?_
      repeat (go_big_quiet_step (fail))
      refine wpQuiet_nil ?_
      intro w9 hS9
      clear hS13
      go_wp2_with (first
        | (at_make; refine wpList_make_own _ rfl _ _ 35 rfl w1.heap.size 31 i0 (.agg #[.int .i64 0, .int .i64 0, .int .i64 0, .bool false, .string ByteArray.empty]) 5 Try.underlying35 hi hz0 hz1 .i64 .i64 _ 1 rfl rfl (by simp) (by rw [hz2]; omega) (by unfold maxLen; omega) hS9.size ?_; intro w10 hown hgr; have hS10 : Since w1 w10 := hS9.grown hgr (fun k e => by cases e); have hgb : ∀ o : Nat, w10.cell? ⟨w.heap.size, o, none⟩ = w1.cell? ⟨w.heap.size, o, none⟩ := fun o => hS10.cellAt (by omega) o)
        | (at_builtin; refine wpList_append_own _ rfl _ _ 35 rfl w1.heap.size 31 i0 (.agg #[.int .i64 0, .int .i64 0, .int .i64 0, .bool false, .string ByteArray.empty]) 5 48 Try.underlying35 hi hz0 hz1 hz2 rfl (by decide) _ _ _ rfl (hown.alloc _) ⟨w10.heap.size, 0, none⟩ 1 1 m.cells rfl rfl (msg_new _ _ _) (fun u hu => flat_one u [m] (by simpa [flat] using hu)) (by unfold maxLen; omega) (by omega) (by have := hS10.size; simp; omega) ?_; intro v3 w12 hown3 hgr3 _; have hS12 : Since w1 w12 := (hS10.alloc _).grown hgr3 (ownBlock_ge hown); obtain ⟨g', cap', rfl⟩ := ownsRow_succ hown3; have hcp : 1 ≤ cap' := ownsRow_cap hown3))
      obtain ⟨a', len', cap'', e1, hMs, hcs⟩ := put_end (m := m) (ms := []) (p := 0) rfl rfl (by simp) hown3 (by simp) (by simp [flat])
      go_ret2
      exact ⟨a', len', cap'', by rw [← e1]; rfl, hMs, hcs, hS1.trans hS12⟩
    · have hc1 : 0 < cap := by omega
      go_enter Try.func24, Try.ntmps24
      go_wp2_with fail
      refine (rises_any _ _ _ [] _ msgs_nil).mono ?_
      rw [show risesM [] = true from rfl]
      rintro e w2 ⟨rfl, hS2⟩
      have hg : ∀ o : Nat, w2.cell? ⟨w.heap.size, o, none⟩ = w1.cell? ⟨w.heap.size, o, none⟩ := fun o => hS2.cellAt (by omega) o
      have f0 := (hg 0).trans g0; have f1 := (hg 1).trans g1; have f2 := (hg 2).trans g2; have f3 := (hg 3).trans g3; have f4 := (hg 4).trans g4
      clear hg hw1
      go_wp2_with fail
      refine (place_any _ _ _ [] m _ msgs_nil).mono ?_
      rw [show placeM m [] = 0 from rfl]
      rintro e w3 ⟨rfl, hS3⟩
      have hS13 := hS2.trans hS3
      clear f0 f1 f2 f3 f4 hS2 hS3
      have hne : Nonempty (Later w1) := ⟨⟨w1, Since.refl w1⟩⟩
      go_wp2_with fail
      refine wp_region_since (by kernel_rfl) (by kernel_rfl) hS13 ?_
      repeat (go_big_quiet_step (fail))
      refine wpQuiet_nil ?_
      intro w9 hS9
      clear hS13
      go_wp2_with (first
        | (at_make; refine wpList_make_own _ rfl _ _ 35 rfl w1.heap.size 31 i0 (.agg #[.int .i64 0, .int .i64 0, .int .i64 0, .bool false, .string ByteArray.empty]) 5 Try.underlying35 hi hz0 hz1 .i64 .i64 _ 1 rfl rfl (by simp) (by rw [hz2]; omega) (by unfold maxLen; omega) hS9.size ?_; intro w10 hown hgr; have hS10 : Since w1 w10 := hS9.grown hgr (fun k e => by cases e); have hgb : ∀ o : Nat, w10.cell? ⟨w.heap.size, o, none⟩ = w1.cell? ⟨w.heap.size, o, none⟩ := fun o => hS10.cellAt (by omega) o)
        | (at_builtin; refine wpList_append_own _ rfl _ _ 35 rfl w1.heap.size 31 i0 (.agg #[.int .i64 0, .int .i64 0, .int .i64 0, .bool false, .string ByteArray.empty]) 5 48 Try.underlying35 hi hz0 hz1 hz2 rfl (by decide) _ _ _ rfl (hown.alloc _) ⟨w10.heap.size, 0, none⟩ 1 1 m.cells rfl rfl (msg_new _ _ _) (fun u hu => flat_one u [m] (by simpa [flat] using hu)) (by unfold maxLen; omega) (by omega) (by have := hS10.size; simp; omega) ?_; intro v3 w12 hown3 hgr3 _; have hS12 : Since w1 w12 := (hS10.alloc _).grown hgr3 (ownBlock_ge hown); obtain ⟨g', cap', rfl⟩ := ownsRow_succ hown3; have hcp : 1 ≤ cap' := ownsRow_cap hown3))
      obtain ⟨a', len', cap'', e1, hMs, hcs⟩ := put_end (m := m) (ms := []) (p := 0) rfl rfl (by simp) hown3 (by simp) (by simp [flat])
      go_ret2
      exact ⟨a', len', cap'', by rw [← e1]; rfl, hMs, hcs, hS1.trans hS12⟩

theorem put_any (a : Option Addr) (len cap : Nat) (ms : List Mg) (m : Mg) (w : World) (hM : Msgs w a len ms) (hcap : len ≤ cap) :
    Calls Try.prog 24 #[.slice a len cap, .agg #[.int .i64 m.fr, .int .i64 m.gr, .int .i64 m.st, .bool m.nul, .string m.body]] w fun e w' => ∃ a' len' cap', e = .returned (.tuple #[.slice a' len' cap', .int .i64 (putE m ms)]) ∧ Msgs w' a' len' (putL m ms) ∧ len' ≤ cap' ∧ Since w w' := by
  by_cases h0 : 0 < len
  · exact put_some a len cap ms m w hM hcap h0
  · have hl := hM.hlen
    obtain rfl : len = 0 := by omega
    obtain rfl : ms = [] := List.eq_nil_of_length_eq_zero hl
    exact put_zero a cap m w
end Go.Proofs.Ytbkfpdohgjnegaa
