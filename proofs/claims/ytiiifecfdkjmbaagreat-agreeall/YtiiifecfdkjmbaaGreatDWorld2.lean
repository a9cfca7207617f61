/- Contract of furlongref.wireFine; no condition but that the world reads as one and has that wire. -/
import Derived.Test.YtiiifecfdkjmbaaGreatDWorld1
namespace Go.Proofs.YtiiifecfdkjmbaaGreat
set_option maxRecDepth 8000
open Go.RowKit Go.Shelf
def stRises : List Mg → Bool
 | [] => true
 | [_] => true
 | a :: b :: r => decide (a.st < b.st) && stRises (b :: r)
theorem stRises_iff : ∀ (ms : List Mg), stRises ms = true ↔ ∀ i a b, ms[i]? = some a → ms[i + 1]? = some b → a.st < b.st
 | [] => by simp [stRises]
 | [x] => by
  refine ⟨fun _ i a b _ h2 => ?_, fun _ => rfl⟩
  simp at h2
 | x :: y :: r => by
  rw [stRises, Bool.and_eq_true, stRises_iff (y :: r), decide_eq_true_eq]
  constructor
  ·rintro ⟨h1, h2⟩ i a b ha hb
   cases i with
   | zero => simp at ha hb; subst ha hb; exact h1
   | succ i => exact h2 i a b (by simpa using ha) (by simpa using hb)
  ·intro h
   exact ⟨h 0 x y rfl rfl, fun i a b ha hb => h (i + 1) a b (by simpa using ha) (by simpa using hb)⟩
def wireOkB (f : Int) (l : List Mg) : Bool := (l.all fun m => decide (m.fr = f)) && stRises l
def wireFineB (d : Wd) (f t : Nat) (l : List Mg) : Bool := wireOkB f l && (listFineB d l t && (decide (f ≠ t) || decide (l.length = 0)))
theorem len_zero {α : Type} (l : List α) : ((l.length : Int) == 0) = decide (l.length = 0) := by rw [Bool.eq_iff_iff]; simp
theorem wireOk_iff (f : Int) (l : List Mg) : wireOkB f l = true ↔ (∀ (i : Nat) (m : Mg), l[i]? = some m → m.fr = f) ∧ ∀ i a b, l[i]? = some a → l[i + 1]? = some b → a.st < b.st := by
 unfold wireOkB
 rw [Bool.and_eq_true, stRises_iff, List.all_eq_true]
 refine and_congr ⟨fun h i m hm => by simpa using h m (List.mem_of_getElem? hm), fun h m hm => ?_⟩ Iff.rfl
 obtain ⟨i, hi⟩ := List.getElem?_of_mem hm
 simpa using h i m hi
theorem listFine_v (w0 : World) (x : WV) (d : Wd) (a : Option Addr) (len cap : Nat) (ms : List Mg) (n : Int) (v : Bool) (hv : listFineB d ms n = v) (hW : WAt w0 x d) (hM : Msgs w0 a len ms) (w : World) (h : Since w0 w) :
  Calls Tryz.prog 156 #[.agg #[.slice x.ga x.gl x.gc, .slice x.na x.nl x.nc, .slice x.wa x.wl x.wc], .slice a len cap, .int .i64 n] w fun e w' => e = .returned (.bool v) ∧ Since w0 w' :=
 (listFine_any x d a len cap ms n w (hW.since h) (hM.since h)).mono fun _ _ ⟨he, hw⟩ => ⟨by rw [← hv]; exact he, h.trans hw⟩
set_option maxHeartbeats 1000000 in
theorem wireFine_any (x : WV) (d : Wd) (f t : Nat) (row : List (List Mg)) (l : List Mg) (w : World) (hW : WAt w x d) (hr : d.wires[f]? = some row) (hl : row[t]? = some l) :
  Calls Tryz.prog 99 #[.agg #[.slice x.ga x.gl x.gc, .slice x.na x.nl x.nc, .slice x.wa x.wl x.wc], .int .i64 f, .int .i64 t] w fun e w' => e = .returned (.bool (wireFineB d f t l)) ∧ Since w w' := by
 have hfl := (List.getElem?_eq_some_iff.1 hr).1
 have htl := (List.getElem?_eq_some_iff.1 hl).1
 obtain ⟨ga, gl, gc, na, nl, nc, wa, wl, wc⟩ := x
 have hwl := hW.r.hlen
 have hwm := hW.r.hmax
 obtain ⟨bw, ow, hwa, hbw, hcw⟩ := hW.r.cells (by omega)
 dsimp only at hwl hwm hwa ⊢
 subst hwa
 obtain ⟨v1, k1, ra, rc, rfl, hrc, hR⟩ := hcw f row hr
 obtain ⟨br, orr, rfl, hbr, hcr⟩ := hR.cells (by omega)
 obtain ⟨v2, k2, la, lc, rfl, hlc, hM⟩ := hcr t l hl
 have hrm := hR.hmax
 obtain ⟨_, hlm, hc⟩ := hM
 obtain ⟨w1, hw1⟩ : ∃ w1, w.alloc (.cells #[.slice ga gl gc, .slice na nl nc, .slice (some ⟨bw, ow, none⟩) wl wc] 26) = w1 := ⟨_, rfl⟩
 have hS1 := sinceA hw1
 have hsz : w1.heap.size = w.heap.size + 1 := by rw [← hw1]; simp
 have b0 : w1.cell? ⟨w.heap.size, 0, none⟩ = some (.slice ga gl gc) := by rw [← hw1]; simp [go_sem]
 have b1 : w1.cell? ⟨w.heap.size, 1, none⟩ = some (.slice na nl nc) := by rw [← hw1]; simp [go_sem]
 have b2 : w1.cell? ⟨w.heap.size, 2, none⟩ = some (.slice (some ⟨bw, ow, none⟩) wl wc) := by rw [← hw1]; simp [go_sem]
 have k1' : w1.cell? ⟨bw, ow + f, none⟩ = some (.slice (some ⟨br, orr, none⟩) row.length rc) := (hS1.cellAt hbw _).trans k1
 have k2' : w1.cell? ⟨br, orr + t, none⟩ = some (.slice la l.length lc) := (hS1.cellAt hbr _).trans k2
 have f1 : (f : Int) < (wl : Int) := by omega
 have t1 : (t : Int) < (row.length : Int) := by omega
 have hM1 : Msgs w1 la l.length l := Msgs.since ⟨rfl, hlm, hc⟩ hS1
 have hW1 := hW.since hS1
 have hne : Nonempty (Later w1) := ⟨⟨w1, Since.refl w1⟩⟩
 clear hcw hcr hfl htl k1 k2 hwl
 go_enter Tryz.func99, Tryz.ntmps99
 go_wp2
 clear hw1 k1' k2'
 go_loopw [8] (fun i wr => (∃ k : Nat, k ≤ l.length ∧ i = .int .i64 k ∧ (∀ (i : Nat) (m : Mg), i < k → l[i]? = some m → m.fr = f) ∧ ∀ i a b, i + 1 < k → l[i]? = some a → l[i + 1]? = some b → a.st < b.st) ∧ Since w1 wr) (fun i _ => l.length - (intOf i).toNat)
 case atStart => exact ⟨⟨0, Nat.zero_le _, rfl, fun i m h => by omega, fun i a b h => by omega⟩, Since.refl _⟩
 case round =>
  obtain ⟨⟨k, hk, rfl, hn1, hn2⟩, hS⟩ := hrel
  have H1 : Hid (∀ (i : Nat) (m : Mg), i < k → l[i]? = some m → m.fr = f) := hn1
  have H2 : Hid (∀ i a b, i + 1 < k → l[i]? = some a → l[i + 1]? = some b → a.st < b.st) := hn2
  clear hn1 hn2
  by_cases hlt : k < l.length
  ·obtain ⟨b, off, rfl, hb, hcell⟩ := hc (by omega)
   obtain ⟨m, hm⟩ : ∃ m, l[k]? = some m := ⟨_, List.getElem?_eq_getElem hlt⟩
   obtain ⟨d0, d1, d2, d3, d4⟩ := msgAt_of hcell k m hm
   have hg : ∀ (y : Later w1) (o : Nat), y.w.cell? ⟨b, o, none⟩ = w.cell? ⟨b, o, none⟩ := fun y o => Later.old hS1 y o hb
   have HM : Hid (l[k]? = some m) := hm
   clear hm hc
   cases h1 : (m.fr != (f : Int))
   ·have hfr : Hid (m.fr = f) := by unfold Hid; simpa using h1
    by_cases h0 : 0 < k
    ·obtain ⟨k', hk0, hk1, hlt'⟩ : ∃ k' : Nat, k = k' + 1 ∧ (k : Int) - 1 = (k' : Int) ∧ k' < l.length := ⟨k - 1, by omega, by omega, by omega⟩
     have HK : Hid (k = k' + 1) := hk0
     have hwk : IntKind.i64.wrap (k' : Int) = (k' : Int) := IntWalk.i64_in _ (by omega)
     obtain ⟨m', hm'⟩ : ∃ m', l[k']? = some m' := ⟨_, List.getElem?_eq_getElem hlt'⟩
     obtain ⟨e0, e1, e2, e3, e4⟩ := msgAt_of hcell k' m' hm'
     have HM' : Hid (l[k']? = some m') := hm'
     have hd0 : decide (0 < k) = true := by simpa using h0
     clear hm' hcell hk0
     cases h2 : decide (m.st ≤ m'.st)
     ·go_wp2_with fail
      refine wp_region_since (by kernel_rfl) (by kernel_rfl) hS ?_
      repeat (go_big_quiet_step (fail))
      refine wpQuiet_nil ?_
      intro w9 hS9
      go_wp2
      go_roundw
      case rel =>
       refine ⟨⟨k + 1, by omega, by go_num, fun i y hi hy => ?_, fun i y z hi hy hz => ?_⟩, hS9⟩
       ·by_cases hik : i < k
        ·exact H1.out i y hik hy
        ·obtain rfl : i = k := by omega
         have := HM.out.symm.trans hy; cases this; exact hfr.out
       ·by_cases hik : i + 1 < k
        ·exact H2.out i y z hik hy hz
        ·have e : i = k' := by have := HK.out; omega
         subst e
         have a1 := HM'.out.symm.trans hy
         rw [← HK.out] at hz
         have a2 := HM.out.symm.trans hz
         cases a1; cases a2
         have : ¬ m.st ≤ m'.st := by simpa using h2
         omega
      case measure => simp [intOf]; omega
     ·have HF : Hid (wireFineB d f t l = false) := by
       unfold Hid wireFineB
       have : wireOkB f l = false := by
        rw [← Bool.not_eq_true, wireOk_iff]
        rintro ⟨_, h⟩
        have := h k' m' m HM'.out (by rw [← HK.out]; exact HM.out)
        have h3 : m.st ≤ m'.st := by simpa using h2
        omega
       rw [this]; rfl
      go_wp2_with fail
      refine wp_region_since (by kernel_rfl) (by kernel_rfl) hS ?_
      repeat (go_big_quiet_step (fail))
      refine wpQuiet_nil ?_
      intro w9 hS9
      go_wp2
      go_ret
      exact ⟨by rw [HF.out]; rfl, hS1.trans hS9⟩
    ·have hd0 : decide (0 < k) = false := by simpa using h0
     clear hcell
     go_wp2_with fail
     refine wp_region_since (by kernel_rfl) (by kernel_rfl) hS ?_
     repeat (go_big_quiet_step (fail))
     refine wpQuiet_nil ?_
     intro w9 hS9
     go_wp2
     go_roundw
     case rel =>
      refine ⟨⟨k + 1, by omega, by go_num, fun i y hi hy => ?_, fun i y z hi hy hz => by omega⟩, hS9⟩
      obtain rfl : i = k := by omega
      have := HM.out.symm.trans hy; cases this; exact hfr.out
     case measure => simp [intOf]; omega
   ·have HF : Hid (wireFineB d f t l = false) := by
     unfold Hid wireFineB
     have : wireOkB f l = false := by
      rw [← Bool.not_eq_true, wireOk_iff]
      rintro ⟨h, _⟩
      have := h k m HM.out
      simp [this] at h1
     rw [this]; rfl
    clear hcell
    go_wp2_with fail
    refine wp_region_since (by kernel_rfl) (by kernel_rfl) hS ?_
    repeat (go_big_quiet_step (fail))
    refine wpQuiet_nil ?_
    intro w9 hS9
    go_wp2
    go_ret
    exact ⟨by rw [HF.out]; rfl, hS1.trans hS9⟩
  ·have HO : Hid (wireOkB f l = true) := by
    unfold Hid
    rw [wireOk_iff]
    refine ⟨fun i m hm => H1.out i m ?_ hm, fun i a b ha hb => H2.out i a b ?_ ha hb⟩
    ·have := (List.getElem?_eq_some_iff.1 hm).1; omega
    ·have := (List.getElem?_eq_some_iff.1 hb).1; omega
   have hg2 : ∀ o : Nat, wr.cell? ⟨w.heap.size, o, none⟩ = w1.cell? ⟨w.heap.size, o, none⟩ := fun o => hS.cellAt (by omega) o
   clear hc
   cases h3 : listFineB d l t
   ·have HF : Hid (wireFineB d f t l = false) := by unfold Hid wireFineB; rw [h3]; simp
    have H3 : Hid (listFineB d l t = false) := h3
    clear h3
    go_wp2_with (go_at_call 156; refine (listFine_v w1 ⟨ga, gl, gc, na, nl, nc, _, wl, wc⟩ d _ _ _ l _ _ H3.out hW1 hM1 _ hS).mono ?_; rintro e w' ⟨rfl, hS'⟩)
    go_ret
    exact ⟨by rw [HF.out]; rfl, hS1.trans hS'⟩
   ·have H3 : Hid (listFineB d l t = true) := h3
    cases h4 : ((f : Int) != (t : Int))
    ·have hft : Hid (f = t) := by unfold Hid; have h5 := h4; simp at h5; omega
     have HF : Hid (wireFineB d f t l = decide (l.length = 0)) := by unfold Hid wireFineB; rw [HO.out, h3, hft.out]; simp
     clear h3
     go_wp2_with (go_at_call 156; refine (listFine_v w1 ⟨ga, gl, gc, na, nl, nc, _, wl, wc⟩ d _ _ _ l _ _ H3.out hW1 hM1 _ hS).mono ?_; rintro e w' ⟨rfl, hS'⟩)
     go_ret
     exact ⟨by rw [HF.out, ← len_zero]; rfl, hS1.trans hS'⟩
    ·have hft : Hid (f ≠ t) := by unfold Hid; have h5 := h4; simp at h5; omega
     have HF : Hid (wireFineB d f t l = true) := by unfold Hid wireFineB; rw [HO.out, h3]; simp [hft.out]
     clear h3
     go_wp2_with (go_at_call 156; refine (listFine_v w1 ⟨ga, gl, gc, na, nl, nc, _, wl, wc⟩ d _ _ _ l _ _ H3.out hW1 hM1 _ hS).mono ?_; rintro e w' ⟨rfl, hS'⟩)
     go_ret
     exact ⟨by rw [HF.out]; rfl, hS1.trans hS'⟩
end Go.Proofs.YtiiifecfdkjmbaaGreat
