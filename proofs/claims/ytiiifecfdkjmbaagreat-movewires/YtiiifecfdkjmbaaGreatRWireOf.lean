/- Contract of furlongref.WireOf; conditions: the world reads as one. -/
import Derived.BigQuiet
import Derived.Test.YtiiifecfdkjmbaaGreatRWire
namespace Go.Proofs.YtiiifecfdkjmbaaGreat
set_option maxRecDepth 8000
open Go.RowKit Go.Shelf
open _root_.Go.Proofs.YtiiifecfdkjmbaaGreat.Pure
set_option linter.unusedVariables false
set_option linter.unusedSimpArgs false

set_option maxHeartbeats 1000000 in
theorem refWireOf_any (x : WV) (d : Wd) (n g : Int) (w : World) (hW : WAt w x d) :
    Calls Tryz.prog 37 #[.agg #[.slice x.ga x.gl x.gc, .slice x.na x.nl x.nc, .slice x.wa x.wl x.wc], .int .i64 n, .int .i64 g] w fun e w' => Hid (Res3 w (checked d (wireSD d n g)) e w') := by
  obtain ⟨ga, gl, gc, na, nl, nc, wa, wl, wc⟩ := x
  dsimp only
  obtain ⟨wp, hwp⟩ : ∃ wp, w.alloc (.cells #[.slice ga gl gc, .slice na nl nc, .slice wa wl wc] 26) = wp := ⟨_, rfl⟩
  have hPp : ParBox wp w.heap.size ⟨ga, gl, gc, na, nl, nc, wa, wl, wc⟩ := by rw [← hwp]; exact ParBox.new w ⟨ga, gl, gc, na, nl, nc, wa, wl, wc⟩ _
  have hSp : Since w wp := by rw [← hwp]; exact (Since.refl w).alloc _
  obtain ⟨w1, hw1⟩ : ∃ w1, wp.alloc (.cells #[.slice none 0 0, .slice none 0 0, .slice none 0 0] 26) = w1 := ⟨_, rfl⟩
  have hNB : NilBox w1 wp.heap.size := by rw [← hw1]; exact NilBox.new wp _
  have hSp1 : Since wp w1 := by rw [← hw1]; exact (Since.refl wp).alloc _
  have hP1 := hPp.since hSp1
  have hS1 := hSp.trans hSp1
  have hW1 := hW.since hS1
  have p0 := hP1.c0
  have p1 := hP1.c1
  have p2 := hP1.c2
  dsimp only at p0 p1 p2
  have PF : Hid (∀ y, Since w1 y → ParBox y w.heap.size ⟨ga, gl, gc, na, nl, nc, wa, wl, wc⟩) := fun y hy => hP1.since hy
  cases hE : (moveErr d n g != 0)
  · have hz : moveErr d n g = 0 := by simpa using hE
    have h0 : nodeErr d n = 0 ∧ nodeErr d g = 0 := by
      unfold moveErr at hz
      by_cases h : nodeErr d n = 0
      · rw [if_neg (by simpa using h)] at hz; exact ⟨h, hz⟩
      · rw [if_pos h] at hz; exact ⟨hz, absurd hz h⟩
    have hw0 : worldE d = 0 := by
      by_cases h : worldE d = 0
      · exact h
      · have := h0.1; unfold nodeErr at this; rw [if_neg h] at this; exact this
    have hin : ∀ k : Int, nodeErr d k = 0 → inB k 0 ((d.nodes.length : Int) - 1) = true := by
      intro k hk
      unfold nodeErr at hk; rw [if_pos hw0] at hk
      cases hb : inB k 0 ((d.nodes.length : Int) - 1)
      · rw [hb] at hk; simp at hk
      · rfl
    have hn := hin n h0.1
    have hg := hin g h0.2
    have hMO : checked d (wireSD d n g) = (wireD d n.toNat g.toNat).bind fun r => .ok (r.1, (r.2 : Int)) := by unfold checked wireSD; rw [if_pos hw0, hn, hg]; rfl
    have hR : Right d := (right_iff d).1 hw0
    unfold inB at hn hg
    simp only [decide_eq_true_eq] at hn hg
    obtain ⟨f, rfl⟩ := Int.eq_ofNat_of_zero_le hn.1
    obtain ⟨t, rfl⟩ := Int.eq_ofNat_of_zero_le hg.1
    rw [hMO]
    rw [Int.toNat_natCast, Int.toNat_natCast]
    have hf : f < d.nodes.length := by omega
    have ht : t < d.nodes.length := by omega
    clear hn hg hMO hw0 h0 hin hz
    obtain ⟨r, hr⟩ : ∃ r, ((wireD d f t).bind fun r => .ok (r.1, (r.2 : Int)) : Except Int (Wd × Int)) = r := ⟨_, rfl⟩
    rw [hr]
    have HRR := (show Hid _ from hr)
    clear hr
    cases r with
    | error er =>
      go_enter Tryz.func37, Tryz.ntmps37
      go_wp2_with (first
        | (go_at_call 92; refine (moveError_any ⟨ga, gl, gc, na, nl, nc, wa, wl, wc⟩ d f t w1 hW1).mono ?_; rintro e w2 ⟨rfl, hS2⟩; obtain ⟨lt2, f0, f1, f2⟩ := PF.out _ hS2; dsimp only at f0 f1 f2)
        | (go_at_call 97; refine (refWire_any ⟨ga, gl, gc, na, nl, nc, wa, wl, wc⟩ d f t hf ht w2 (hW1.since hS2) hR).mono ?_; rintro e w3 hR3; obtain ⟨rfl, hF3⟩ := hR3.out.1 er HRR.out; have hS3 := hF3.none; have hSr := hS2.trans hS3; obtain ⟨lt, r0, r1, r2, r3, r4, r5⟩ := hNB.since hSr))
      refine bodyPost_ret (v := .tuple #[.agg #[.slice none 0 0, .slice none 0 0, .slice none 0 0], .int .i64 0, .int .i64 er]) ?_ rfl (show Hid _ from res3_err (nil_since hSp.size (hS1.trans hSr)))
      simp [results, Tryz.results37, go_sem, r0, r1, r2]
    | ok dm =>
      obtain ⟨d', m⟩ := dm
      go_enter Tryz.func37, Tryz.ntmps37
      go_wp2_with (first
        | (go_at_call 92; refine (moveError_any ⟨ga, gl, gc, na, nl, nc, wa, wl, wc⟩ d f t w1 hW1).mono ?_; rintro e w2 ⟨rfl, hS2⟩; obtain ⟨lt2, f0, f1, f2⟩ := PF.out _ hS2; dsimp only at f0 f1 f2)
        | (go_at_call 97; refine (refWire_any ⟨ga, gl, gc, na, nl, nc, wa, wl, wc⟩ d f t hf ht w2 (hW1.since hS2) hR).mono ?_; rintro e w3 hR3; obtain ⟨L, rfl, hO, hF3⟩ := hR3.out.2 d' m HRR.out; have hS3 := hF3.none; simp only [wval]; have hSr := hS2.trans hS3; obtain ⟨lt, r0, r1, r2, r3, r4, r5⟩ := hNB.since hSr))
      obtain ⟨hO2, hSf⟩ := hO.result (w0 := w) (p := wp.heap.size) (Nat.lt_of_lt_of_le hNB.lt hS2.size) hSp.size (hS1.trans hSr) (Nat.le_trans hS1.size hS2.size)
      refine bodyPost_ret (v := .tuple #[wval L d', .int .i64 m, .int .i64 0]) ?_ rfl (show Hid _ from res3_ok hO2 hSf)
      simp [results, Tryz.results37, go_sem, r0, r1, r2, wval]
  · have hne : moveErr d n g ≠ 0 := by simpa using hE
    have HF : Hid (checked d (wireSD d n g) = .error (moveErr d n g)) := by
      unfold Hid checked wireSD
      by_cases hw0 : worldE d = 0
      · rw [if_pos hw0]
        have hk : ∀ k : Int, nodeErr d k = if inB k 0 ((d.nodes.length : Int) - 1) then 0 else 4 := fun k => by unfold nodeErr; rw [if_pos hw0]
        unfold moveErr at hne ⊢
        rw [hk n, hk g] at hne ⊢
        cases h1 : inB n 0 ((d.nodes.length : Int) - 1) <;> cases h2 : inB g 0 ((d.nodes.length : Int) - 1) <;> simp [h1, h2] at hne ⊢
      · rw [if_neg hw0]
        have hk : ∀ k : Int, nodeErr d k = worldE d := fun k => by unfold nodeErr; rw [if_neg hw0]
        unfold moveErr
        rw [hk n, if_pos hw0]
    clear hne
    go_enter Tryz.func37, Tryz.ntmps37
    go_wp2_with (go_at_call 92; refine (moveError_any ⟨ga, gl, gc, na, nl, nc, wa, wl, wc⟩ d n g w1 hW1).mono ?_; rintro e w2 ⟨rfl, hS2⟩; obtain ⟨lt, r0, r1, r2, r3, r4, r5⟩ := hNB.since hS2)
    refine bodyPost_ret (v := .tuple #[.agg #[.slice none 0 0, .slice none 0 0, .slice none 0 0], .int .i64 0, .int .i64 (moveErr d n g)]) ?_ rfl (by unfold Hid; rw [HF.out]; exact res3_err (nil_since hSp.size (hS1.trans hS2)))
    simp [results, Tryz.results37, go_sem, r0, r1, r2]
end Go.Proofs.YtiiifecfdkjmbaaGreat
