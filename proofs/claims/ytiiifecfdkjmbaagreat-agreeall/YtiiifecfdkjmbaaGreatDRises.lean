/- Contracts of world.rises at the two orders that the program hands to it; no condition but that the slice reads as messages. -/
import Derived.Test.YtiiifecfdkjmbaaGreatDMust
import Derived.Test.YtiiifecfdkjmbaaGreatDWorld2
namespace Go.Proofs.YtiiifecfdkjmbaaGreat
set_option maxRecDepth 8000
open Go.RowKit Go.Shelf
theorem stLess_any (a b : Mg) (w : World) :
  Calls Tryz.prog 223 #[.agg #[.int .i64 a.fr, .int .i64 a.gr, .int .i64 a.st, .bool a.nul, .string a.body], .agg #[.int .i64 b.fr, .int .i64 b.gr, .int .i64 b.st, .bool b.nul, .string b.body]] w fun e w' =>
   e = .returned (.bool (decide (a.st < b.st))) ∧ w' = (w.alloc (.cells #[.int .i64 a.fr, .int .i64 a.gr, .int .i64 a.st, .bool a.nul, .string a.body] 42)).alloc (.cells #[.int .i64 b.fr, .int .i64 b.gr, .int .i64 b.st, .bool b.nul, .string b.body] 42) := by
 obtain ⟨af, ag, ast, an, ab⟩ := a
 obtain ⟨bf, bg, bst, bn, bb⟩ := b
 go_enter Tryz.func223, Tryz.ntmps223
 go_wp2
 go_ret
 exact ⟨by simp, rfl⟩
theorem stLess_v (w0 : World) (a b : Mg) (v : Bool) (hv : decide (a.st < b.st) = v) (w : World) (h : Since w0 w) :
  Calls Tryz.prog 223 #[.agg #[.int .i64 a.fr, .int .i64 a.gr, .int .i64 a.st, .bool a.nul, .string a.body], .agg #[.int .i64 b.fr, .int .i64 b.gr, .int .i64 b.st, .bool b.nul, .string b.body]] w fun e w' =>
   e = .returned (.bool v) ∧ Since w0 w' :=
 (stLess_any a b w).mono fun e w' ⟨he, hw⟩ => ⟨by rw [← hv]; exact he, by rw [hw]; exact (h.alloc _).alloc _⟩
theorem stRises_iff' (ms : List Mg) : stRises ms = true ↔ ∀ i a b, ms[i]? = some a → ms[i + 1]? = some b → decide (a.st < b.st) = true := by
 rw [stRises_iff]; simp only [decide_eq_true_eq]
theorem risesLess_any (a : Option Addr) (len cap : Nat) (ms : List Mg) (w : World) (hM : Msgs w a len ms) :
  Calls Tryz.prog 199 #[.slice a len cap, .func (.func 170) #[] #[]] w fun e w' => e = .returned (.bool (risesM ms)) ∧ Since w w' := by
 obtain ⟨rfl, hmax, hc⟩ := hM
 go_enter Tryz.func199, Tryz.ntmps199
 go_wp2
 go_loopw [5] (fun i wr => (∃ k : Nat, 1 ≤ k ∧ i = .int .i64 k ∧ ∀ i a b, i + 1 < k → ms[i]? = some a → ms[i + 1]? = some b → lessM a b = true) ∧ Since w wr) (fun i _ => ms.length - (intOf i).toNat)
 case atStart => exact ⟨⟨1, by omega, rfl, fun i a b h => by omega⟩, Since.refl _⟩
 case round =>
  obtain ⟨⟨k, hk, rfl, hr⟩, hS⟩ := hrel
  have HR : Hid (∀ i a b, i + 1 < k → ms[i]? = some a → ms[i + 1]? = some b → lessM a b = true) := hr
  clear hr
  by_cases hlt : k < ms.length
  ·obtain ⟨k', hk0, hk1, hlt'⟩ : ∃ k' : Nat, k = k' + 1 ∧ (k : Int) - 1 = (k' : Int) ∧ k' < ms.length := ⟨k - 1, by omega, by omega, by omega⟩
   have HK : Hid (k = k' + 1) := hk0
   have hwk : IntKind.i64.wrap (k' : Int) = (k' : Int) := IntWalk.i64_in _ (by omega)
   obtain ⟨b, off, rfl, hb, hcell⟩ := hc (by omega)
   obtain ⟨m, hm⟩ : ∃ m, ms[k]? = some m := ⟨_, List.getElem?_eq_getElem hlt⟩
   obtain ⟨m', hm'⟩ : ∃ m', ms[k']? = some m' := ⟨_, List.getElem?_eq_getElem hlt'⟩
   obtain ⟨d0, d1, d2, d3, d4⟩ := msgAt_of hcell k m hm
   obtain ⟨e0, e1, e2, e3, e4⟩ := msgAt_of hcell k' m' hm'
   have hne : Nonempty (Later w) := ⟨⟨w, Since.refl w⟩⟩
   have hg : ∀ (x : Later w) (o : Nat), x.w.cell? ⟨b, o, none⟩ = w.cell? ⟨b, o, none⟩ := fun x o => x.cell hb
   have HM : Hid (ms[k]? = some m) := hm
   have HM' : Hid (ms[k']? = some m') := hm'
   clear hm hm' hcell hc hk0
   cases hl : lessM m' m
   ·have HF : Hid (risesM ms = false) := by
     unfold Hid
     rw [← Bool.not_eq_true, risesM_iff]
     intro h
     have := h k' m' m HM'.out (by rw [← HK.out]; exact HM.out)
     rw [hl] at this
     cases this
    go_wp2_with fail
    refine wp_region_since (by kernel_rfl) (by kernel_rfl) hS ?_
    repeat (go_big_quiet_step ((go_at_call 170; exact Later.call (less_v w m' m _ hl))))
    refine wpQuiet_nil ?_
    intro w9 hS9
    go_wp2
    go_ret
    exact ⟨by rw [HF.out]; rfl, hS9⟩
   ·have HF : Hid (∀ i a b, i + 1 < k + 1 → ms[i]? = some a → ms[i + 1]? = some b → lessM a b = true) := by
     intro i a b hi ha hb
     by_cases h : i + 1 < k
     ·exact HR.out i a b h ha hb
     ·have e : i = k' := by have := HK.out; omega
      subst e
      have h1 := HM'.out
      have h2 := HM.out
      rw [HK.out] at h2
      rw [h1] at ha
      rw [h2] at hb
      cases ha; cases hb
      exact hl
    go_wp2_with fail
    refine wp_region_since (by kernel_rfl) (by kernel_rfl) hS ?_
    repeat (go_big_quiet_step ((go_at_call 170; exact Later.call (less_v w m' m _ hl))))
    refine wpQuiet_nil ?_
    intro w9 hS9
    go_wp2
    go_roundw
    case rel => exact ⟨⟨k + 1, by omega, by go_num, HF.out⟩, hS9⟩
    case measure => simp [intOf]; omega
  ·have HF : Hid (risesM ms = true) := by
    unfold Hid
    rw [risesM_iff]
    intro i a b ha hb
    refine HR.out i a b ?_ ha hb
    have := (List.getElem?_eq_some_iff.1 hb).1
    omega
   clear hc
   go_wp2
   go_ret
   exact ⟨by rw [HF.out]; rfl, hS⟩
theorem risesSt_any (a : Option Addr) (len cap : Nat) (ms : List Mg) (w : World) (hM : Msgs w a len ms) :
  Calls Tryz.prog 199 #[.slice a len cap, .func (.func 223) #[] #[]] w fun e w' => e = .returned (.bool (stRises ms)) ∧ Since w w' := by
 obtain ⟨rfl, hmax, hc⟩ := hM
 go_enter Tryz.func199, Tryz.ntmps199
 go_wp2
 go_loopw [5] (fun i wr => (∃ k : Nat, 1 ≤ k ∧ i = .int .i64 k ∧ ∀ i a b, i + 1 < k → ms[i]? = some a → ms[i + 1]? = some b → decide (a.st < b.st) = true) ∧ Since w wr) (fun i _ => ms.length - (intOf i).toNat)
 case atStart => exact ⟨⟨1, by omega, rfl, fun i a b h => by omega⟩, Since.refl _⟩
 case round =>
  obtain ⟨⟨k, hk, rfl, hr⟩, hS⟩ := hrel
  have HR : Hid (∀ i a b, i + 1 < k → ms[i]? = some a → ms[i + 1]? = some b → decide (a.st < b.st) = true) := hr
  clear hr
  by_cases hlt : k < ms.length
  ·obtain ⟨k', hk0, hk1, hlt'⟩ : ∃ k' : Nat, k = k' + 1 ∧ (k : Int) - 1 = (k' : Int) ∧ k' < ms.length := ⟨k - 1, by omega, by omega, by omega⟩
   have HK : Hid (k = k' + 1) := hk0
   have hwk : IntKind.i64.wrap (k' : Int) = (k' : Int) := IntWalk.i64_in _ (by omega)
   obtain ⟨b, off, rfl, hb, hcell⟩ := hc (by omega)
   obtain ⟨m, hm⟩ : ∃ m, ms[k]? = some m := ⟨_, List.getElem?_eq_getElem hlt⟩
   obtain ⟨m', hm'⟩ : ∃ m', ms[k']? = some m' := ⟨_, List.getElem?_eq_getElem hlt'⟩
   obtain ⟨d0, d1, d2, d3, d4⟩ := msgAt_of hcell k m hm
   obtain ⟨e0, e1, e2, e3, e4⟩ := msgAt_of hcell k' m' hm'
   have hne : Nonempty (Later w) := ⟨⟨w, Since.refl w⟩⟩
   have hg : ∀ (x : Later w) (o : Nat), x.w.cell? ⟨b, o, none⟩ = w.cell? ⟨b, o, none⟩ := fun x o => x.cell hb
   have HM : Hid (ms[k]? = some m) := hm
   have HM' : Hid (ms[k']? = some m') := hm'
   clear hm hm' hcell hc hk0
   cases hl : decide (m'.st < m.st)
   ·have HF : Hid (stRises ms = false) := by
     unfold Hid
     rw [← Bool.not_eq_true, stRises_iff']
     intro h
     have := h k' m' m HM'.out (by rw [← HK.out]; exact HM.out)
     rw [hl] at this
     cases this
    go_wp2_with fail
    refine wp_region_since (by kernel_rfl) (by kernel_rfl) hS ?_
    repeat (go_big_quiet_step ((go_at_call 223; exact Later.call (stLess_v w m' m _ hl))))
    refine wpQuiet_nil ?_
    intro w9 hS9
    go_wp2
    go_ret
    exact ⟨by rw [HF.out]; rfl, hS9⟩
   ·have HF : Hid (∀ i a b, i + 1 < k + 1 → ms[i]? = some a → ms[i + 1]? = some b → decide (a.st < b.st) = true) := by
     intro i a b hi ha hb
     by_cases h : i + 1 < k
     ·exact HR.out i a b h ha hb
     ·have e : i = k' := by have := HK.out; omega
      subst e
      have h1 := HM'.out
      have h2 := HM.out
      rw [HK.out] at h2
      rw [h1] at ha
      rw [h2] at hb
      cases ha; cases hb
      exact hl
    go_wp2_with fail
    refine wp_region_since (by kernel_rfl) (by kernel_rfl) hS ?_
    repeat (go_big_quiet_step ((go_at_call 223; exact Later.call (stLess_v w m' m _ hl))))
    refine wpQuiet_nil ?_
    intro w9 hS9
    go_wp2
    go_roundw
    case rel => exact ⟨⟨k + 1, by omega, by go_num, HF.out⟩, hS9⟩
    case measure => simp [intOf]; omega
  ·have HF : Hid (stRises ms = true) := by
    unfold Hid
    rw [stRises_iff']
    intro i a b ha hb
    refine HR.out i a b ?_ ha hb
    have := (List.getElem?_eq_some_iff.1 hb).1
    omega
   clear hc
   go_wp2
   go_ret
   exact ⟨by rw [HF.out]; rfl, hS⟩
end Go.Proofs.YtiiifecfdkjmbaaGreat
