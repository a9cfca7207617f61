/- The plain facts on messages that are put, then the walk of the law MsgTrue; no condition but that the slice reads as messages and its length is not above its capacity. -/
import Derived.Test.YtbkfpdohgjnegaaMLaws
import Derived.Deep.RegionHeld3
import Derived.Deep.DeepCutAuto
namespace Go.Proofs.Ytbkfpdohgjnegaa
set_option maxRecDepth 8000
open Go.RowKit Go.Shelf

theorem lessM_irr (a : Mg) : lessM a a = false := by simp [lessM]
theorem lessM_asym {a b : Mg} (h : lessM a b = true) : lessM b a = false := by
  simp [lessM] at h ⊢; omega
theorem lessM_trans {a b c : Mg} (h : lessM a b = true) (k : lessM b c = true) : lessM a c = true := by
  simp [lessM] at h k ⊢; omega
theorem lessM_same {a b : Mg} (h : lessM a b = true) : ¬ (a.st = b.st ∧ a.fr = b.fr) := by
  simp [lessM] at h; omega
theorem lessM_none {a b : Mg} (h : lessM a b = false) (k : lessM b a = false) : a.st = b.st ∧ a.fr = b.fr := by
  simp [lessM] at h k; omega
theorem lessM_ne {a b : Mg} (h : lessM a b = true) : sameM a b = false := by
  rw [← Bool.not_eq_true, sameM_iff]; intro e; subst e; rw [lessM_irr] at h; cases h

theorem placeM_lt (m : Mg) : ∀ (ms : List Mg) (k : Nat) (y : Mg), k < placeM m ms → ms[k]? = some y → lessM y m = true
  | [], k, y, _, h => by simp at h
  | x :: r, k, y, hk, h => by
    unfold placeM at hk
    split at hk
    · rename_i hx
      cases k with
      | zero => simp at h; subst h; exact hx
      | succ k => exact placeM_lt m r k y (by omega) (by simpa using h)
    · omega
theorem putE_zero {m : Mg} {ms : List Mg} (h : putE m ms = 0) : risesM ms = true ∧ ms.length < 40 ∧ ∀ y, ms[placeM m ms]? = some y → lessM m y = true := by
  unfold putE at h
  split at h
  · cases h
  · rename_i h1
    split at h
    · cases h
    · rename_i h2
      refine ⟨by simpa using h1, by omega, fun y hy => ?_⟩
      rw [hy] at h
      cases hl : lessM m y
      · simp [hl] at h
      · rfl
theorem putL_eq {m : Mg} {ms : List Mg} (h : putE m ms = 0) : putL m ms = ms.take (placeM m ms) ++ [m] ++ ms.drop (placeM m ms) := by unfold putL; rw [if_pos h]
theorem putL_lo {m : Mg} {ms : List Mg} (h : putE m ms = 0) {k : Nat} (hk : k < placeM m ms) : (putL m ms)[k]? = ms[k]? := by
  have hp := placeM_le m ms
  rw [putL_eq h, List.append_assoc, List.getElem?_append_left (by simp; omega), List.getElem?_take, if_pos hk]
theorem putL_at {m : Mg} {ms : List Mg} (h : putE m ms = 0) : (putL m ms)[placeM m ms]? = some m := by
  have hp := placeM_le m ms
  have hl : (ms.take (placeM m ms)).length = placeM m ms := by simp; omega
  rw [putL_eq h, List.append_assoc, List.getElem?_append_right (by omega), hl]
  simp
theorem putL_hi {m : Mg} {ms : List Mg} (h : putE m ms = 0) {k : Nat} (hk : placeM m ms < k) : (putL m ms)[k]? = ms[k - 1]? := by
  have hp := placeM_le m ms
  have hl : (ms.take (placeM m ms) ++ [m]).length = placeM m ms + 1 := by simp; omega
  rw [putL_eq h, List.getElem?_append_right (by omega), hl, List.getElem?_drop]
  congr 1; omega
theorem putL_rises {m : Mg} {ms : List Mg} (h : putE m ms = 0) : risesM (putL m ms) = true := by
  obtain ⟨hr, _, hn⟩ := putE_zero h
  rw [risesM_iff] at hr ⊢
  intro i x y hx hy
  rcases Nat.lt_trichotomy i (placeM m ms) with h1 | h1 | h1
  · rw [putL_lo h h1] at hx
    by_cases h2 : i + 1 < placeM m ms
    · rw [putL_lo h h2] at hy; exact hr i x y hx hy
    · have e : i + 1 = placeM m ms := by omega
      rw [e, putL_at h] at hy
      cases hy
      exact placeM_lt m ms i x h1 hx
  · subst h1
    rw [putL_at h] at hx
    cases hx
    rw [putL_hi h (by omega)] at hy
    exact hn y (by simpa using hy)
  · rw [putL_hi h h1] at hx
    rw [putL_hi h (by omega)] at hy
    exact hr (i - 1) x y hx (by rw [← hy]; congr 1; omega)
theorem putL_rest {m : Mg} {ms : List Mg} (h : putE m ms = 0) : (putL m ms).take (placeM m ms) ++ (putL m ms).drop (placeM m ms + 1) = ms := by
  have hp := placeM_le m ms
  have hl : (ms.take (placeM m ms)).length = placeM m ms := by simp; omega
  have hl2 : (ms.take (placeM m ms) ++ [m]).length = placeM m ms + 1 := by simp; omega
  rw [putL_eq h]
  rw [List.drop_left' hl2, List.append_assoc, List.take_left' hl, List.take_append_drop]

theorem step_append_own {P : Program} {ops : Array Oper} {o : Oper} {a : Act} {w : World} {K : Act → World → Prop} {Q : Exit → Act → World → Prop} {E : Prop}
    (hg : o.guard = none) (s x : Operand) (t : TypeId) (hop : o.op = Op.call { callee := Callee.builtin Builtin.append, args := #[s, x], argTypes := #[t, t] })
    (base : Nat) (e : TypeId) (i : TypeInfo) (z : Value) (size bytes : Nat) (h1 : P.underlying t = some (.slice e)) (h2 : P.info? e = some i) (h3 : i.zero = some z) (h4 : i.size = size) (h5 : i.bytes = bytes) (h6 : z.cells.size = size) (h7 : 0 < size)
    (v : Value) (k : Nat) (xs : List Value) (hs : a.eval s = v) (hown : w.ownsRow base e size v k xs) (ad : Addr) (m c : Nat) (news : List Value) (hx : a.eval x = .slice (some ad) m c) (hn : news.length = m * size)
    (hc : ∀ j u, news[j]? = some u → w.cell? (ad.add j) = some u) (h1c : ∀ u ∈ news, u.oneCell' = true) (b1 : k + m ≤ maxLen) (b2 : (k + m) * bytes ≤ 140737488355328) (b3 : base ≤ w.heap.size)
    (hK : ∀ v' w', w'.ownsRow base e size v' (k + m) (xs ++ news) → w.grownBy w' v.ownBlock → K (a.put o.dst v') w') :
    if Region.wanted o (yielded ops a.tmps) = true then Oper.wp P o a w K Q else E := by
  have hw : Region.wanted o (yielded ops a.tmps) = true := by simp [Region.wanted, hg]
  rw [if_pos hw]
  obtain ⟨v', w', hrun, r1, r2, _⟩ := run_append_own (P := P) w base t o.type e i z size bytes h1 h2 h3 h4 h5 h6 h7 v k xs hown ad m c news hn hc h1c b1 b2 b3
  unfold Oper.wp
  simp [execOp, hop, resolve, invoke, builtin, hs, hx, hrun, Result.andThen]
  exact hK v' w' r1 r2
theorem Since.drew' {w0 w : World} (h : Since w0 w) : Since w0 w.drew := h.drew
theorem own_empty (w : World) (base : Nat) (t : TypeId) (hb : base ≤ w.heap.size) : (w.alloc (.cells #[] t)).ownsRow base t 5 (.slice (some ⟨w.heap.size, 0, none⟩) 0 0) 0 [] :=
  ⟨by simp, .inr ⟨w.heap.size, 0, #[], rfl, hb, World.alloc_heap_new w _, Nat.le_refl _, by unfold maxLen; omega, rfl, rfl⟩⟩

theorem rest_end {W : World} {base : Nat} {v : Value} {ms : List Mg} {n : Nat} {l : List Value} (h : W.ownsRow base 31 5 v n l) (hn : n = ms.length) (hl : l = flat ms) (hmax : ms.length ≤ 1000) :
    ∃ a' len' cap', v = .slice a' len' cap' ∧ Msgs W a' len' ms := by
  rw [hl, hn] at h
  obtain ⟨a, cap, rfl, hM⟩ := msgs_of_row h (by omega)
  exact ⟨_, _, _, rfl, hM⟩
theorem three_at {w w1 : World} {a b c : Mg} (hw1 : ((w.alloc (.cells #[.int .i64 a.fr, .int .i64 a.gr, .int .i64 a.st, .bool a.nul, .string a.body] 31)).alloc (.cells #[.int .i64 b.fr, .int .i64 b.gr, .int .i64 b.st, .bool b.nul, .string b.body] 31)).alloc (.cells #[.int .i64 c.fr, .int .i64 c.gr, .int .i64 c.st, .bool c.nul, .string c.body] 31) = w1) :
    Since w w1 ∧ w1.heap.size = w.heap.size + 3 ∧ MsgAt w1 w.heap.size 0 a ∧ MsgAt w1 (w.heap.size + 1) 0 b ∧ MsgAt w1 (w.heap.size + 1 + 1) 0 c := by
  subst hw1
  refine ⟨(((Since.refl w).alloc _).alloc _).alloc _, by simp, ?_, ?_, ?_⟩ <;> constructor <;> simp [go_sem]

set_option maxHeartbeats 4000000 in
set_option maxRecDepth 100000 in
theorem law_msgTrue (a b c : Mg) (x : Option Addr) (len cap : Nat) (ms : List Mg) (w : World) (hM : Msgs w x len ms) (hcap : len ≤ cap) :
    Calls Try.prog 8 #[.agg #[.int .i64 a.fr, .int .i64 a.gr, .int .i64 a.st, .bool a.nul, .string a.body], .agg #[.int .i64 b.fr, .int .i64 b.gr, .int .i64 b.st, .bool b.nul, .string b.body], .agg #[.int .i64 c.fr, .int .i64 c.gr, .int .i64 c.st, .bool c.nul, .string c.body], .slice x len cap] w fun e w' => e = .returned (.bool true) ∧ Below w.heap.size w w' := by
  obtain ⟨i0, hi, hz0, hz1, hz2⟩ := info_parts Try.infoMsg
  obtain ⟨w1, hw1⟩ : ∃ w1, ((w.alloc (.cells #[.int .i64 a.fr, .int .i64 a.gr, .int .i64 a.st, .bool a.nul, .string a.body] 31)).alloc (.cells #[.int .i64 b.fr, .int .i64 b.gr, .int .i64 b.st, .bool b.nul, .string b.body] 31)).alloc (.cells #[.int .i64 c.fr, .int .i64 c.gr, .int .i64 c.st, .bool c.nul, .string c.body] 31) = w1 := ⟨_, rfl⟩
  obtain ⟨hS1, hsz, ⟨a0, a1, a2, a3, a4⟩, ⟨b0, b1, b2, b3, b4⟩, ⟨c0, c1, c2, c3, c4⟩⟩ := three_at hw1
  simp only [Nat.zero_add] at a0 a1 a2 a3 a4 b0 b1 b2 b3 b4 c0 c1 c2 c3 c4
  go_enter Try.func8, Try.ntmps8
  go_upto_region 1 with fail
  obtain ⟨sm, hsm⟩ : ∃ sm, (a.st == b.st && a.fr == b.fr) = sm := ⟨_, rfl⟩
  go_cut [9] (fun s9 wx => s9 = .bool sm ∧ w1 = wx)
  case first =>
    by_cases h1 : a.st = b.st
    · have h1' : (a.st == b.st) = true := by simp [h1]
      have h2' : (a.fr == b.fr) = sm := by rw [← hsm, h1']; rfl
      clear h1 hsm
      go_wp2_with fail
      go_meet
      case rel => exact ⟨rfl, rfl⟩
    · have h1' : (a.st == b.st) = false := by simp [h1]
      have h2' : sm = false := by rw [← hsm, h1']; rfl
      subst h2'
      clear h1 hsm
      go_wp2_with fail
      go_meet
      case rel => exact ⟨rfl, rfl⟩
  case rest =>
  obtain ⟨rfl, rfl⟩ := hcut
  go_upto_region 2 with fail
  have hL := lessM_irr a
  have hSr := Since.refl w1
  have HSM : Hid ((a.st == b.st && a.fr == b.fr) = sm) := hsm
  clear hsm hw1
  go_cut [67] (fun s67 wx => s67 = .bool false ∧ Since w1 wx)
  case first =>
    cases hp : lessM a b
    · cases hq : lessM b a
      · have hsm : sm = true := by rw [← HSM.out]; have := lessM_none hp hq; simp [this]
        subst hsm
        go_wp2_with (go_at_call 22; refine (less_s w1 _ _ _ (by assumption)).mono ?_; rintro e w' ⟨rfl, hS'⟩; have ha' : ∀ o : Nat, w'.cell? ⟨w.heap.size, o, none⟩ = w1.cell? ⟨w.heap.size, o, none⟩ := fun o => hS'.cellAt (by omega) o; have hb' : ∀ o : Nat, w'.cell? ⟨w.heap.size + 1, o, none⟩ = w1.cell? ⟨w.heap.size + 1, o, none⟩ := fun o => hS'.cellAt (by omega) o; have hc' : ∀ o : Nat, w'.cell? ⟨w.heap.size + 1 + 1, o, none⟩ = w1.cell? ⟨w.heap.size + 1 + 1, o, none⟩ := fun o => hS'.cellAt (by omega) o)
        go_meet
        case rel => exact ⟨rfl, by assumption⟩
      · have hsm : sm = false := by rw [← HSM.out]; have := lessM_same hq; simp; intro h k; exact this ⟨h.symm, k.symm⟩
        subst hsm
        go_wp2_with (go_at_call 22; refine (less_s w1 _ _ _ (by assumption)).mono ?_; rintro e w' ⟨rfl, hS'⟩; have ha' : ∀ o : Nat, w'.cell? ⟨w.heap.size, o, none⟩ = w1.cell? ⟨w.heap.size, o, none⟩ := fun o => hS'.cellAt (by omega) o; have hb' : ∀ o : Nat, w'.cell? ⟨w.heap.size + 1, o, none⟩ = w1.cell? ⟨w.heap.size + 1, o, none⟩ := fun o => hS'.cellAt (by omega) o; have hc' : ∀ o : Nat, w'.cell? ⟨w.heap.size + 1 + 1, o, none⟩ = w1.cell? ⟨w.heap.size + 1 + 1, o, none⟩ := fun o => hS'.cellAt (by omega) o)
        go_meet
        case rel => exact ⟨rfl, by assumption⟩
    · have hq := lessM_asym hp
      have hsm : sm = false := by rw [← HSM.out]; have := lessM_same hp; simp; intro h k; exact this ⟨h, k⟩
      subst hsm
      cases hr : lessM b c
      · go_wp2_with (go_at_call 22; refine (less_s w1 _ _ _ (by assumption)).mono ?_; rintro e w' ⟨rfl, hS'⟩; have ha' : ∀ o : Nat, w'.cell? ⟨w.heap.size, o, none⟩ = w1.cell? ⟨w.heap.size, o, none⟩ := fun o => hS'.cellAt (by omega) o; have hb' : ∀ o : Nat, w'.cell? ⟨w.heap.size + 1, o, none⟩ = w1.cell? ⟨w.heap.size + 1, o, none⟩ := fun o => hS'.cellAt (by omega) o; have hc' : ∀ o : Nat, w'.cell? ⟨w.heap.size + 1 + 1, o, none⟩ = w1.cell? ⟨w.heap.size + 1 + 1, o, none⟩ := fun o => hS'.cellAt (by omega) o)
        go_meet
        case rel => exact ⟨rfl, by assumption⟩
      · have ht := lessM_trans hp hr
        go_wp2_with (go_at_call 22; refine (less_s w1 _ _ _ (by assumption)).mono ?_; rintro e w' ⟨rfl, hS'⟩; have ha' : ∀ o : Nat, w'.cell? ⟨w.heap.size, o, none⟩ = w1.cell? ⟨w.heap.size, o, none⟩ := fun o => hS'.cellAt (by omega) o; have hb' : ∀ o : Nat, w'.cell? ⟨w.heap.size + 1, o, none⟩ = w1.cell? ⟨w.heap.size + 1, o, none⟩ := fun o => hS'.cellAt (by omega) o; have hc' : ∀ o : Nat, w'.cell? ⟨w.heap.size + 1 + 1, o, none⟩ = w1.cell? ⟨w.heap.size + 1 + 1, o, none⟩ := fun o => hS'.cellAt (by omega) o)
        go_meet
        case rel => exact ⟨rfl, by assumption⟩
  case rest =>
  obtain ⟨rfl, hS2⟩ := hcut
  have f0 := (hS2.cellAt (b := w.heap.size) (by omega) 0).trans a0
  have f1 := (hS2.cellAt (b := w.heap.size) (by omega) 1).trans a1
  have f2 := (hS2.cellAt (b := w.heap.size) (by omega) 2).trans a2
  have f3 := (hS2.cellAt (b := w.heap.size) (by omega) 3).trans a3
  have f4 := (hS2.cellAt (b := w.heap.size) (by omega) 4).trans a4
  clear b0 b1 b2 b3 b4 c0 c1 c2 c3 c4 hL hSr HSM
  go_wp2_with fail
  refine (put_any _ _ _ ms a _ (hM.since (hS1.trans hS2)) hcap).mono ?_
  rintro e w3 ⟨xa, xl, xc, rfl, hMx, hxc, hS3⟩
  clear f0 f1 f2 f3 f4
  obtain ⟨er, her⟩ : ∃ er, putE a ms = er := ⟨_, rfl⟩
  rw [her]
  cases he : (er != 0)
  · have hE : putE a ms = 0 := by rw [her]; simpa using he
    have hXl := putL_len a ms hE
    have hple := placeM_le a ms
    obtain ⟨hrs, hm40, _⟩ := putE_zero hE
    have h1 : ∀ k y, k < placeM a ms → (putL a ms)[k]? = some y → sameM y a = false := fun k y hk hy => lessM_ne (placeM_lt a ms k y hk (by rw [← putL_lo hE hk]; exact hy))
    have h2 := putL_at hE
    have h3 := putL_rises hE
    have h4 := putL_rest hE
    obtain ⟨X, hX⟩ : ∃ X, putL a ms = X := ⟨_, rfl⟩
    obtain ⟨p, hp⟩ : ∃ p, placeM a ms = p := ⟨_, rfl⟩
    rw [hX] at hMx hXl h1 h2 h3 h4
    rw [hp] at hple h1 h2 h4
    have H1 : Hid (∀ k y, k < p → X[k]? = some y → sameM y a = false) := h1
    have H2 : Hid (X[p]? = some a) := h2
    have H3 : Hid (risesM X = true) := h3
    have H4 : Hid (X.take p ++ X.drop (p + 1) = ms) := h4
    have hx1 : ms.length + 1 ≤ X.length := by omega
    have hx2 : X.length ≤ ms.length + 1 := by omega
    clear h1 h2 h3 h4 hX hp hE her hrs hXl
    have hxl := hMx.hlen
    subst hxl
    obtain ⟨bx, ox, rfl, hbx, hcx⟩ := hMx.cells (by omega)
    have hne : Nonempty (Later w3) := ⟨⟨w3, Since.refl w3⟩⟩
    have hS13 := hS2.trans hS3
    have hsz3 : w1.heap.size ≤ w3.heap.size := hS13.size
    go_wp2_with fail
    go_loopw [12] (fun i wr => (∃ k : Nat, k ≤ p ∧ i = .int .i64 k) ∧ Since w3 wr) (fun i _ => p + 1 - (intOf i).toNat)
    case atStart => exact ⟨⟨0, by omega, rfl⟩, Since.refl _⟩
    case round =>
      obtain ⟨⟨k, hk, rfl⟩, hS⟩ := hrel
      have hlt : k < X.length := by omega
      obtain ⟨y, hy⟩ : ∃ y, X[k]? = some y := ⟨_, List.getElem?_eq_getElem hlt⟩
      obtain ⟨d0, d1, d2, d3, d4⟩ := msgAt_of hcx k y hy
      have HY : Hid (X[k]? = some y) := hy
      have hg : ∀ (x : Later w3) (o : Nat), x.w.cell? ⟨bx, o, none⟩ = w3.cell? ⟨bx, o, none⟩ := fun x o => x.cell hbx
      have hga : ∀ (x : Later w3) (o : Nat), x.w.cell? ⟨w.heap.size, o, none⟩ = w1.cell? ⟨w.heap.size, o, none⟩ := fun x o => Later.old hS13 x o (by omega)
      clear hy
      by_cases hkp : k < p
      · have hsm := H1.out k y hkp HY.out
        have hnm := run_neq_msg y a false hsm
        go_wp2_with fail
        refine wp_region_since (by kernel_rfl) (by kernel_rfl) hS ?_
        repeat (go_big_quiet_step (fail))
        refine wpQuiet_nil ?_
        intro w9 hS9
        go_wp2
        go_roundw
        case rel => exact ⟨⟨k + 1, by omega, by go_num⟩, hS9⟩
        case measure => simp [intOf]; omega
      · obtain rfl : k = p := by omega
        have hsm : sameM y a = true := by have := HY.out; rw [H2.out] at this; cases this; exact (sameM_iff _ _).2 rfl
        have hnm := run_neq_msg y a true hsm
        have n1 : ((k : Int) == (X.length : Int)) = false := by simp; omega
        have n2 : ((X.length : Int) != (ms.length : Int) + 1) = false := by simp; omega
        have hlen := hM.hlen
        subst hlen
        go_wp2_with fail
        refine wp_region_since (by kernel_rfl) (by kernel_rfl) hS ?_
        repeat (go_big_quiet_step (fail))
        refine wpQuiet_nil ?_
        intro w6 hS6
        clear hg hga d0 d1 d2 d3 d4 hnm
        go_wp2_with fail
        have hb6 : bx < w6.heap.size := by have := hS6.size; omega
        have z1 : (0 : Int) ≤ (k : Int) := by omega
        have z2 : (k : Int) ≤ (xc : Int) := by omega
        obtain ⟨k1, hk1, hke⟩ : ∃ k1 : Nat, (k : Int) + 1 = (k1 : Int) ∧ k1 = k + 1 := ⟨k + 1, by omega, rfl⟩
        have HK1 : Hid (k1 = k + 1) := hke
        have z3 : (k1 : Int) ≤ (X.length : Int) := by omega
        have z5 : (0 : Int) ≤ (k1 : Int) := by omega
        have hlt1 : k1 ≤ X.length := by omega
        have hwk : IntKind.i64.wrap (k1 : Int) = (k1 : Int) := IntWalk.i64_in _ (by omega)
        have z4 : (X.length : Int) ≤ (xc : Int) := by omega
        clear hke
        go_cut [13] (fun s13 wx => ∃ ra rl rc, s13 = .slice ra rl rc ∧ Msgs wx ra rl ms ∧ Since w6 wx)
        case first =>
          by_cases hxk : xc = k1
          · obtain rfl : k1 = xc := hxk.symm
            go_region_held3 (fun w' => Since w6 w')
              (first | assumption | exact (Since.refl _).drew' | exact ((Since.refl _).alloc _).drew' | exact ((Since.refl _).drew').alloc _)
              (first
                | (refine step_append_own (by rfl) _ _ 35 (by rfl) w6.heap.size 31 i0 (.agg #[.int .i64 0, .int .i64 0, .int .i64 0, .bool false, .string ByteArray.empty]) 5 48 Try.underlying35 hi hz0 hz1 hz2 rfl (by decide) _ _ _ (by rfl) hown2 ⟨bx, ox, none⟩ 0 0 [] (by rfl) rfl (fun j u hj => by simp at hj) (fun u hu => by cases hu) (by unfold maxLen; omega) (by omega) hN.size ?_; intro v3 w8 hown3 hgr3; have hN2 : Since w6 w8 := hN.grown hgr3 (ownBlock_ge hown2))
                | (refine step_append_own (by rfl) _ _ 35 (by rfl) w6.heap.size 31 i0 (.agg #[.int .i64 0, .int .i64 0, .int .i64 0, .bool false, .string ByteArray.empty]) 5 48 Try.underlying35 hi hz0 hz1 hz2 rfl (by decide) _ _ _ (by rfl) (own_empty w6 w6.heap.size 31 (Nat.le_refl _)) ⟨bx, ox, none⟩ k k1 (flat (X.take k)) (by rfl) (by rw [flat_length, List.length_take, Nat.min_eq_left (by omega)]) (fun j u hj => by rw [add_at, Since.cellAt (((Since.refl w6).alloc (.cells #[] 31)).drew') (by omega), hS6.cellAt hbx]; exact hcx _ _ (flat_take_get hj)) (fun u hu => flat_one u _ hu) (by unfold maxLen; omega) (by omega) (by simp) ?_; intro v2 w7 hown2 hgr2; have hN : Since w6 w7 := (((Since.refl w6).alloc (.cells #[] 31)).drew').grown hgr2 (ownBlock_ge (own_empty w6 w6.heap.size 31 (Nat.le_refl _)))))
            obtain ⟨ra, rl, rc, rfl, hMr⟩ := rest_end (ms := ms) hown3 (by have := HK1.out; omega) (by rw [← H4.out, flat_append, ← HK1.out, List.drop_eq_nil_of_le (by omega)]; simp [flat]) (by omega)
            go_wp2_with fail
            go_meet
            case rel => exact ⟨ra, rl, rc, rfl, hMr, hN2⟩
          · have hxk2 : k1 < xc := by omega
            go_region_held3 (fun w' => Since w6 w')
              (first | assumption | exact (Since.refl _).drew' | exact ((Since.refl _).alloc _).drew' | exact ((Since.refl _).drew').alloc _)
              (first
                | (refine step_append_own (by rfl) _ _ 35 (by rfl) w6.heap.size 31 i0 (.agg #[.int .i64 0, .int .i64 0, .int .i64 0, .bool false, .string ByteArray.empty]) 5 48 Try.underlying35 hi hz0 hz1 hz2 rfl (by decide) _ _ _ (by rfl) hown2 ⟨bx, ox + k1 * 5, none⟩ (X.length - k1) (xc - k1) (flat (X.drop k1)) (by rfl) (by rw [flat_length, List.length_drop]) (fun j u hj => by rw [add_at, hN.cellAt (by omega), hS6.cellAt hbx, Nat.add_assoc]; exact hcx _ _ (flat_drop_get hlt1 hj)) (fun u hu => flat_one u _ hu) (by unfold maxLen; omega) (by omega) hN.size ?_; intro v3 w8 hown3 hgr3; have hN2 : Since w6 w8 := hN.grown hgr3 (ownBlock_ge hown2))
                | (refine step_append_own (by rfl) _ _ 35 (by rfl) w6.heap.size 31 i0 (.agg #[.int .i64 0, .int .i64 0, .int .i64 0, .bool false, .string ByteArray.empty]) 5 48 Try.underlying35 hi hz0 hz1 hz2 rfl (by decide) _ _ _ (by rfl) (own_empty w6 w6.heap.size 31 (Nat.le_refl _)) ⟨bx, ox, none⟩ k xc (flat (X.take k)) (by rfl) (by rw [flat_length, List.length_take, Nat.min_eq_left (by omega)]) (fun j u hj => by rw [add_at, Since.cellAt (((Since.refl w6).alloc (.cells #[] 31)).drew') (by omega), hS6.cellAt hbx]; exact hcx _ _ (flat_take_get hj)) (fun u hu => flat_one u _ hu) (by unfold maxLen; omega) (by omega) (by simp) ?_; intro v2 w7 hown2 hgr2; have hN : Since w6 w7 := (((Since.refl w6).alloc (.cells #[] 31)).drew').grown hgr2 (ownBlock_ge (own_empty w6 w6.heap.size 31 (Nat.le_refl _)))))
            obtain ⟨ra, rl, rc, rfl, hMr⟩ := rest_end (ms := ms) hown3 (by have := HK1.out; omega) (by rw [← H4.out, flat_append, ← HK1.out]; simp) (by omega)
            go_wp2_with fail
            go_meet
            case rel => exact ⟨ra, rl, rc, rfl, hMr, hN2⟩
        case rest =>
        obtain ⟨ra, rl, rc, rfl, hMr, hSc⟩ := hcut
        clear z1 z2 z3 z4 z5 hk1 hwk HK1 hlt1 hsm n1 n2 H1 H2 H4
        have hS3c := hS6.trans hSc
        go_wp2_with fail
        go_loopw [14] (fun i wr => (∃ j : Nat, 1 ≤ j ∧ i = .int .i64 j) ∧ Since wc wr) (fun i _ => X.length - (intOf i).toNat)
        case atStart => exact ⟨⟨1, by omega, rfl⟩, Since.refl _⟩
        case round =>
          obtain ⟨⟨j, hj, rfl⟩, hSj⟩ := hrel
          by_cases hjl : j < X.length
          · obtain ⟨j', hj0, hj1, hjl'⟩ : ∃ j' : Nat, j = j' + 1 ∧ (j : Int) - 1 = (j' : Int) ∧ j' < X.length := ⟨j - 1, by omega, by omega, by omega⟩
            have hwj : IntKind.i64.wrap (j' : Int) = (j' : Int) := IntWalk.i64_in _ (by omega)
            obtain ⟨y, hy⟩ : ∃ y, X[j]? = some y := ⟨_, List.getElem?_eq_getElem hjl⟩
            obtain ⟨y', hy'⟩ : ∃ y', X[j']? = some y' := ⟨_, List.getElem?_eq_getElem hjl'⟩
            obtain ⟨d0, d1, d2, d3, d4⟩ := msgAt_of hcx j y hy
            obtain ⟨e0, e1, e2, e3, e4⟩ := msgAt_of hcx j' y' hy'
            have hl := (risesM_iff X).1 H3.out j' y' y hy' (by rw [← hj0]; exact hy)
            have hnc : Nonempty (Later wc) := ⟨⟨wc, Since.refl wc⟩⟩
            have hg : ∀ (x : Later wc) (o : Nat), x.w.cell? ⟨bx, o, none⟩ = w3.cell? ⟨bx, o, none⟩ := fun x o => Later.old hS3c x o hbx
            clear hy hy' hj0
            go_wp2_with fail
            refine wp_region_since (by kernel_rfl) (by kernel_rfl) hSj ?_
            repeat (go_big_quiet_step ((go_at_call 22; exact Later.call (less_v wc y' y _ hl))))
            refine wpQuiet_nil ?_
            intro w9 hS9
            go_wp2
            go_roundw
            case rel => exact ⟨⟨j + 1, by omega, by go_num⟩, hS9⟩
            case measure => simp [intOf]; omega
          · go_wp2_with fail
            refine (msgBegun_s wc _ hSj).mono ?_
            rintro e w4 ⟨rfl, hS4⟩
            go_wp2_with fail
            refine (sameMsgs_any _ _ _ _ _ _ _ _ _ (hMr.since hS4) (hM.since (hS1.trans (hS13.trans (hS3c.trans hS4))))).mono ?_
            rw [sameMs_refl]
            rintro e w5 ⟨rfl, hS5⟩
            go_wp2_with fail
            go_ret
            exact ⟨by simp, (hS1.trans (hS13.trans (hS3c.trans (hS4.trans hS5)))).below⟩
  · go_wp2_with fail
    refine (msgBegun_s w3 _ (Since.refl _)).mono ?_
    rintro e w4 ⟨rfl, hS4⟩
    go_wp2_with fail
    go_ret
    exact ⟨rfl, (hS1.trans (hS2.trans (hS3.trans hS4))).below⟩
end Go.Proofs.Ytbkfpdohgjnegaa
