/- The law MoveTrue answers true; conditions: the world reads as one. -/
import Derived.Test.YtiiifecfdkjmbaaGreatLMove
import Derived.Test.YtiiifecfdkjmbaaGreatOwnZ
import Derived.Test.YtiiifecfdkjmbaaGreatSameW
import Derived.Test.YtiiifecfdkjmbaaGreatPureT
import Derived.Test.YtiiifecfdkjmbaaGreatLBoundX
namespace Go.Proofs.YtiiifecfdkjmbaaGreat
set_option maxRecDepth 8000
open Go.RowKit Go.Shelf
open _root_.Go.Proofs.YtiiifecfdkjmbaaGreat.Pure
set_option linter.unusedVariables false
set_option linter.unusedSimpArgs false
set_option maxHeartbeats 1000000 in
theorem lawMoveTrue_err (x : WV) (d : Wd) (f t : Int) (er : Int) (w : World) (hW : WAt w x d) (hr : moveOfD d f t = .error er) (her : (er != 0) = true) :
  Calls Tryz.prog 7 #[.agg #[.slice x.ga x.gl x.gc, .slice x.na x.nl x.nc, .slice x.wa x.wl x.wc], .int .i64 f, .int .i64 t] w fun e w' => e = .returned (.bool true) ∧ Since w w' := by
 obtain ⟨ga, gl, gc, na, nl, nc, wa, wl, wk⟩ := x
 dsimp only
 obtain ⟨w1, hw1⟩ : ∃ wp, w.alloc (.cells #[.slice ga gl gc, .slice na nl nc, .slice wa wl wk] 26) = wp := ⟨_, rfl⟩
 have hP1 : ParBox w1 w.heap.size ⟨ga, gl, gc, na, nl, nc, wa, wl, wk⟩ := by rw [← hw1]; exact ParBox.new w ⟨ga, gl, gc, na, nl, nc, wa, wl, wk⟩ _
 have hS1 : Since w w1 := by rw [← hw1]; exact (Since.refl w).alloc _
 have hW1 := hW.since hS1
 have p0 := hP1.c0
 have p1 := hP1.c1
 have p2 := hP1.c2
 dsimp only at p0 p1 p2
 have hA := moveOne_any ⟨ga, gl, gc, na, nl, nc, wa, wl, wk⟩ d f t w1 hW1
 rw [hr] at hA
 dsimp only at hA
 clear hr hW
 go_enter Tryz.func7, Tryz.ntmps7
 go_wp2_with fail
 refine hA.mono ?_
 rintro e w2 hR2
 obtain ⟨rfl, hS2⟩ := hR2.out.1 er rfl
 obtain ⟨w3, hw3⟩ : ∃ y, w2.alloc (.cells #[.slice none 0 0, .slice none 0 0, .slice none 0 0] 26) = y := ⟨_, rfl⟩
 have hS3' : Since w2 w3 := by rw [← hw3]; exact (Since.refl w2).alloc _
 have hN3 : NilBox w3 w2.heap.size := by rw [← hw3]; exact NilBox.new w2 _
 obtain ⟨w4, hw4⟩ : ∃ y, ((w3.setCell ⟨w2.heap.size, 0, none⟩ (.slice none 0 0)).setCell ⟨w2.heap.size, 1, none⟩ (.slice none 0 0)).setCell ⟨w2.heap.size, 2, none⟩ (.slice none 0 0) = y := ⟨_, rfl⟩
 have hF4 : Fr (fun i => i = w2.heap.size) w3 w4 := by rw [← hw4]; exact put3_fr w3 w2.heap.size _ _ _
 have hS4 : Since w2 w4 := hF4.sinceBase hS3' (fun i hi e => by omega)
 obtain ⟨_, r0, r1, r2, r3, r4, r5⟩ := hN3
 go_wp2_with (go_at_call 35; refine (moveBegun_any w4).mono ?_; rintro e w8 ⟨rfl, hS8⟩)
 go_ret
 exact ⟨by simp, hS1.trans (hS2.trans (hS4.trans hS8))⟩
set_option maxHeartbeats 2000000 in
theorem lawMoveTrue_true (x : WV) (d d' : Wd) (f t : Nat) (nd nd' : Nd) (m : Mg) (rest : List Mg) (row row' : List (List Mg)) (w : World) (hW : WAt w x d) (T : MoveTrueD d d' f t nd nd' m rest row row') (hr : moveOfD d (f : Int) (t : Int) = .ok d') (hnul : m.nul = true) :
  Calls Tryz.prog 7 #[.agg #[.slice x.ga x.gl x.gc, .slice x.na x.nl x.nc, .slice x.wa x.wl x.wc], .int .i64 f, .int .i64 t] w fun e w' => e = .returned (.bool true) ∧ Since w w' := by
 have HT : Hid (MoveTrueD d d' f t nd nd' m rest row row') := T
 have hE0 := (right_iff d).2 T.was
 have hE1 := (right_iff d').2 T.right
 obtain ⟨ga, gl, gc, na, nl, nc, wa, wl, wk⟩ := x
 dsimp only
 obtain ⟨w1, hw1⟩ : ∃ wp, w.alloc (.cells #[.slice ga gl gc, .slice na nl nc, .slice wa wl wk] 26) = wp := ⟨_, rfl⟩
 have hP1 : ParBox w1 w.heap.size ⟨ga, gl, gc, na, nl, nc, wa, wl, wk⟩ := by rw [← hw1]; exact ParBox.new w ⟨ga, gl, gc, na, nl, nc, wa, wl, wk⟩ _
 have hS1 : Since w w1 := by rw [← hw1]; exact (Since.refl w).alloc _
 have hW1 := hW.since hS1
 have p0 := hP1.c0
 have p1 := hP1.c1
 have p2 := hP1.c2
 dsimp only at p0 p1 p2
 have hA := moveOne_any ⟨ga, gl, gc, na, nl, nc, wa, wl, wk⟩ d f t w1 hW1
 rw [hr] at hA
 dsimp only at hA
 have hnl := hW1.n.hlen
 have hwl := hW1.r.hlen
 dsimp only at hnl hwl
 have hwd := T.was.wlen
 have hrw := T.was.rlen f row T.hr
 have hflt := T.flt
 have htlt := T.tlt
 obtain ⟨bn, on, rfl, hbn, hcn⟩ := hW1.n.cells (by dsimp only; omega)
 obtain ⟨k0, ⟨v1, k1, la, lc, rfl, hlc, hL⟩, ⟨v2, k2, ha, hc, rfl, hhc, hH⟩, ⟨v3, k3, ta, tc, rfl, htc, hTo⟩⟩ := hcn t nd T.hx
 obtain ⟨bw, ow, rfl, hbw, hcw⟩ := hW1.r.cells (by dsimp only; omega)
 obtain ⟨v4, c1, ra, rc, rfl, hrc, hRow⟩ := hcw f row T.hr
 obtain ⟨bR, oR, rfl, hbR, hcR⟩ := hRow.cells (by omega)
 obtain ⟨v5, c2, ma, mc, rfl, hmc, hM⟩ := hcR t (m :: rest) T.hl
 obtain ⟨bh, oh, rfl, hbh, hch⟩ := hM.cells (by simp)
 obtain ⟨m0, m1, m2, m3, m4⟩ := msgAt_of hch 0 m rfl
 simp only [Nat.zero_mul, Nat.add_zero] at m0 m1 m2 m3 m4
 rw [hnul] at m3
 simp only [List.length_cons] at c2 hmc
 have hr40 : rest.length ≤ 40 := by have := T.was.wireN f t; rw [wireAt_some T.hr T.hl] at this; simp at this; omega
 obtain ⟨sa, sc, HSL, HMS⟩ : ∃ sa sc, Hid ((mc = 1 ∧ rest.length = 0 ∧ sa = some ⟨bh, oh, none⟩ ∧ sc = 0) ∨ (1 < mc ∧ sa = some ⟨bh, oh + 5, none⟩ ∧ sc = mc - 1)) ∧ Msgs w1 sa rest.length rest := by
  by_cases e : mc = 1
  ·have h0 : rest.length = 0 := by omega
   refine ⟨some ⟨bh, oh, none⟩, 0, .inl ⟨e, h0, rfl, rfl⟩, rfl, by omega, fun hp => by omega⟩
  ·refine ⟨some ⟨bh, oh + 5, none⟩, mc - 1, .inr ⟨by omega, rfl, rfl⟩, rfl, by omega, fun hp => ⟨bh, oh + 5, rfl, hbh, fun j u hj => ?_⟩⟩
   have := hch (5 + j) u (by
    have e5 : flat (m :: rest) = m.cells ++ flat rest := rfl
    rw [e5, List.getElem?_append_right (by show 5 ≤ 5 + j; omega)]
    have e6 : 5 + j - m.cells.length = j := by show 5 + j - 5 = j; omega
    rw [e6]; exact hj)
   rw [← Nat.add_assoc] at this; exact this
 have hlm : (rest.length : Int) + 1 ≤ (mc : Int) := by omega
 have hMW := hM
 have hwx := hW1
 have PF : Hid (∀ y, Since w1 y → ParBox y w.heap.size ⟨ga, gl, gc, some ⟨bn, on, none⟩, nl, nc, some ⟨bw, ow, none⟩, wl, wk⟩) := fun y hy => hP1.since hy
 have HWE := fun (y : World) (hy : Since w1 y) => worldError_any ⟨ga, gl, gc, some ⟨bn, on, none⟩, nl, nc, some ⟨bw, ow, none⟩, wl, wk⟩ d y (hW1.since hy)
 rw [hE0] at HWE
 dsimp only at HWE
 have a1 : (f : Int) < (nl : Int) := by omega
 have a2 : (t : Int) < (nl : Int) := by omega
 have a3 : (f : Int) < (wl : Int) := by omega
 have a4 : (t : Int) < (row.length : Int) := by omega
 have u1 : decide ((f : Int) < 0) = false := by simp
 have u2 : decide ((t : Int) < 0) = false := by simp
 have u3 : decide ((nl : Int) ≤ (f : Int)) = false := by simp; omega
 have u4 : decide ((nl : Int) ≤ (t : Int)) = false := by simp; omega
 have u5 : decide (nl ≤ f) = false := by simp; omega
 have u6 : decide (nl ≤ t) = false := by simp; omega
 have u7 : ((rest.length : Int) + 1 == 0) = false := by rw [beq_eq_false_iff_ne]; omega
 have HNL : Hid (d.nodes.length = nl ∧ d.wires.length = wl) := ⟨hnl, hwl⟩
 have g1 : decide (nd'.clock < nd.clock) = false := by have := T.clk; simp; omega
 have g2 : decide (nd'.clock < m.st) = false := by have := T.clm; simp; omega
 have g3 : ((nd'.held.length : Int) + (nd'.told.length : Int)) = ((nd.held.length : Int) + (nd.told.length : Int)) + 0 := by have := T.count; rw [hnul] at this; simp at this; omega
 have q1' := T.was.heldN t
 have q2' := T.was.toldN t
 have q3' := T.right.heldN t
 have q4' := T.right.toldN t
 rw [heldAt_of T.hx] at q1'
 rw [toldAt_of T.hx] at q2'
 rw [heldAt_of T.hx'] at q3'
 rw [toldAt_of T.hx'] at q4'
 have g4 : IntKind.i64.wrap ((nd.held.length : Int) + (nd.told.length : Int)) = ((nd.held.length : Int) + (nd.told.length : Int)) := IntWalk.i64_in _ (by omega)
 have g5 : IntKind.i64.wrap ((nd'.held.length : Int) + (nd'.told.length : Int)) = ((nd'.held.length : Int) + (nd'.told.length : Int)) := IntWalk.i64_in _ (by omega)
 have g6 : IntKind.i64.wrap (((nd.held.length : Int) + (nd.told.length : Int)) + 0) = ((nd.held.length : Int) + (nd.told.length : Int)) + 0 := IntWalk.i64_in _ (by omega)
 have g7 : (((nd'.held.length : Int) + (nd'.told.length : Int)) != ((nd.held.length : Int) + (nd.told.length : Int)) + 0) = false := by rw [g3]; simp
 have g8 : (((nd'.held.length : Int) + (nd'.told.length : Int)) != ((nd.held.length : Int) + (nd.told.length : Int))) = false := by rw [g3]; simp
 have HG3 := (show Hid _ from g3)
 clear g3 q1' q2' q3' q4' hr hcn hcw hcR hch hM T hnl hwl hwd hrw hflt htlt hnul hW hP1
 go_enter Tryz.func7, Tryz.ntmps7
 go_wp2_with fail
 refine hA.mono ?_
 rintro e w2 hR2
 obtain ⟨L, rfl, hO2, hS2⟩ := hR2.out.2 d' rfl
 obtain ⟨bm, om, cm, hL1, hlm1, hbm, hbkm, _⟩ := hO2.lies (ix := (1, 0, 0)) ⟨rfl, rfl⟩ (by show 0 < d'.nodes.length; rw [HT.out.len]; have := HT.out.tlt; omega)
 obtain ⟨i0, i1, i2, i3, iz⟩ := hO2.cells HT.out.hx' hL1
 obtain ⟨bv, ov, cv, br, orr, cr, hL2, hL7, hbv, hbr, hlr, s1, s2, s3⟩ := hO2.wires3 HT.out.hr' (by rw [HT.out.rlen]; omega)
 have s4 := s2 t rest HT.out.hl'
 have s5 := s3 t (by rw [HT.out.rlen]; omega)
 rw [HT.out.rlen] at s1
 obtain ⟨⟨xa, xc⟩, hL8⟩ : ∃ s : Sl, L (8, f, t) = s := ⟨_, rfl⟩
 have hMX : Msgs w2 xa rest.length rest := by
  have ok8 : okI d' (8, f, t) := ⟨(List.getElem?_eq_some_iff.1 HT.out.hr').1, by rw [rowAt_of HT.out.hr']; exact (List.getElem?_eq_some_iff.1 HT.out.hl').1⟩
  have hq : Row w2 w1.heap.size 5 (L (8, f, t)) (wrAt d' f t).length (flat (wrAt d' f t)) := hO2.row _ ok8
  rw [wrAt_of HT.out.hr' HT.out.hl', hL8] at hq
  exact row_msgs hq (by omega)
 rw [hL8] at s4
 dsimp only [Sl.v] at s4
 obtain ⟨⟨la', lc'⟩, hL3e⟩ : ∃ s : Sl, L (3, t, 0) = s := ⟨_, rfl⟩
 obtain ⟨⟨ha', hc'⟩, hL5e⟩ : ∃ s : Sl, L (5, t, 0) = s := ⟨_, rfl⟩
 obtain ⟨⟨ta', tc'⟩, hL6e⟩ : ∃ s : Sl, L (6, t, 0) = s := ⟨_, rfl⟩
 rw [hL3e] at i1
 rw [hL5e] at i2
 rw [hL6e] at i3
 dsimp only [Sl.v] at i1 i2 i3
 obtain ⟨⟨xga, xgc⟩, hL0⟩ : ∃ s : Sl, L (0, 0, 0) = s := ⟨_, rfl⟩
 obtain ⟨xgl, hxgl⟩ : ∃ z, d'.groups.length = z := ⟨_, rfl⟩
 have hlN : d'.nodes.length = nl := HT.out.len.trans HNL.out.1
 have hlW : d'.wires.length = wl := HT.out.wlen.trans HNL.out.2
 have hwv : wvOf L d' = ⟨xga, xgl, xgc, some ⟨bm, om, none⟩, nl, cm, some ⟨bv, ov, none⟩, wl, cv⟩ := by unfold wvOf; rw [hL0, hL1, hL2, hlN, hlW, hxgl]
 have hval : wval L d' = .agg #[.slice xga xgl xgc, .slice (some ⟨bm, om, none⟩) nl cm, .slice (some ⟨bv, ov, none⟩) wl cv] := by rw [wval_wv, hwv]; rfl
 have hX2 := hO2.wat
 rw [hwv] at hX2
 rw [hval]
 have HL : Hid (L (1, 0, 0) = ⟨some ⟨bm, om, none⟩, cm⟩ ∧ L (7, f, 0) = ⟨some ⟨br, orr, none⟩, cr⟩ ∧ wvOf L d' = ⟨xga, xgl, xgc, some ⟨bm, om, none⟩, nl, cm, some ⟨bv, ov, none⟩, wl, cv⟩) := ⟨hL1, hL7, hwv⟩
 have hnebr : bm ≠ br := fun e => by
  have ok7 : okI d' (7, f, 0) := ⟨(List.getElem?_eq_some_iff.1 HT.out.hr').1, rfl⟩
  obtain ⟨b', o', c', hq, _, _, hbk, _⟩ := hO2.lies ok7 (by show 0 < (rowAt d' f).length; rw [rowAt_of HT.out.hr', HT.out.rlen]; omega)
  have hq2 := hL7.symm.trans hq
  cases hq2
  have := hO2.inj (1, 0, 0) (7, f, 0) bm ⟨rfl, rfl⟩ ok7 hbkm (by rw [e]; exact hbk)
  simp at this
 have hnebv : bv ≠ bm := fun e => by
  obtain ⟨b', o', c', hq, _, _, hbk, _⟩ := hO2.lies (ix := (2, 0, 0)) ⟨rfl, rfl⟩ (by show 0 < d'.wires.length; omega)
  have hq2 := hL2.symm.trans hq
  cases hq2
  have := hO2.inj (2, 0, 0) (1, 0, 0) bv ⟨rfl, rfl⟩ ⟨rfl, rfl⟩ hbk (by rw [e]; exact hbkm)
  simp at this
 clear hL0 hL1 hL2 hL3e hL5e hL6e hL7 hL8 hwv hval hlN hlW hxgl s2 s3 hR2 hA
 obtain ⟨w3, hw3⟩ : ∃ y, w2.alloc (.cells #[.slice xga xgl xgc, .slice (some ⟨bm, om, none⟩) nl cm, .slice (some ⟨bv, ov, none⟩) wl cv] 26) = y := ⟨_, rfl⟩
 have hS3 : Since w2 w3 := by rw [← hw3]; exact (Since.refl w2).alloc _
 have hQ3 : ParBox w3 w2.heap.size ⟨xga, xgl, xgc, some ⟨bm, om, none⟩, nl, cm, some ⟨bv, ov, none⟩, wl, cv⟩ := by rw [← hw3]; exact ParBox.new w2 ⟨xga, xgl, xgc, some ⟨bm, om, none⟩, nl, cm, some ⟨bv, ov, none⟩, wl, cv⟩ _
 have QF : Hid (∀ y, Since w3 y → ParBox y w2.heap.size ⟨xga, xgl, xgc, some ⟨bm, om, none⟩, nl, cm, some ⟨bv, ov, none⟩, wl, cv⟩) := fun y hy => hQ3.since hy
 have h13 := hS2.trans hS3
 have hX3 := hX2.since hS3
 have HWC := fun (y : World) (hy : Since w3 y) => worldCheck_any ⟨xga, xgl, xgc, some ⟨bm, om, none⟩, nl, cm, some ⟨bv, ov, none⟩, wl, cv⟩ d' y (hX3.since hy)
 rw [hE1] at HWC
 dsimp only at HWC
 obtain ⟨_, f0, f1, f2⟩ := PF.out _ h13
 dsimp only at f0 f1 f2
 have e1 := (h13.cellAt hbw _).trans c1
 have e2 := (h13.cellAt hbR _).trans c2
 go_wp2_with (first
  | (go_at_call 38; refine (HWE w3 h13).mono ?_; rintro e w6 ⟨rfl, hS6⟩; have h16 := h13.trans hS6; obtain ⟨_, y0, y1, y2⟩ := PF.out _ h16; dsimp only at y0 y1 y2; have e3 := (h16.cellAt hbw _).trans c1; have e4 := (h16.cellAt hbR _).trans c2; obtain ⟨_, z0, z1, z2⟩ := QF.out _ hS6; dsimp only at z0 z1 z2)
  | (go_at_call 39; refine (HWC w6 hS6).mono ?_; rintro e w7 ⟨rfl, hS7⟩; have h17 := h16.trans hS7; have h37 := hS6.trans hS7; obtain ⟨_, t0, t1, t2⟩ := PF.out _ h17; dsimp only at t0 t1 t2; have e5 := (h17.cellAt hbw _).trans c1; have e6 := (h17.cellAt hbR _).trans c2; obtain ⟨_, r0, r1, r2⟩ := QF.out _ h37; dsimp only at r0 r1 r2; have n0 := (h17.cellAt hbh _).trans m0; have n1 := (h17.cellAt hbh _).trans m1; have n2 := (h17.cellAt hbh _).trans m2; have n3 := (h17.cellAt hbh _).trans m3; have n4 := (h17.cellAt hbh _).trans m4))
 clear f0 f1 f2 e1 e2 y0 y1 y2 e3 e4 z0 z1 z2 t0 t1 t2 e5 e6 r0 r1 r2 n0 n1 n2 n3 n4 p0 p1 p2 hw3 hw1 HWC HWE
 obtain ⟨w8, hw8⟩ : ∃ y, w7.alloc (.cells #[.int .i64 m.fr, .int .i64 m.gr, .int .i64 m.st, .bool true, .string m.body] 42) = y := ⟨_, rfl⟩
 have hS8 : Since w7 w8 := by rw [← hw8]; exact (Since.refl w7).alloc _
 have MF : Hid (∀ y, Since w8 y → MsgAt y w7.heap.size 0 ⟨m.fr, m.gr, m.st, true, m.body⟩) := fun y hy => msg_box w7 42 ⟨m.fr, m.gr, m.st, true, m.body⟩ (by rw [← hw8] at hy; exact hy)
 have h18 := h17.trans hS8
 have h38 := h37.trans hS8
 try rw [hw8]
 clear hw8
 obtain ⟨S0, hS0⟩ : ∃ S0 : World → Prop, ∀ w', S0 w' ↔ Since w8 w' := ⟨_, fun _ => Iff.rfl⟩
 obtain ⟨W0, hW0⟩ : ∃ y, w8.drew = y := ⟨_, rfl⟩
 have hs0 : Since w8 W0 := by rw [← hW0]; exact Since.drew (Since.refl _)
 have hSi0 := (hS0 W0).2 hs0
 have hne : Nonempty (HeldW S0) := ⟨⟨_, hSi0⟩⟩
 have hneT := heldTrue w
 have x1 : ∀ y : HeldW S0, y.w.cell? ⟨w.heap.size, 1, none⟩ = some (.slice (some ⟨bn, on, none⟩) nl nc) := fun y => (PF.out _ (h18.trans ((hS0 _).1 y.h))).c1
 have x2 : ∀ y : HeldW S0, y.w.cell? ⟨w2.heap.size, 1, none⟩ = some (.slice (some ⟨bm, om, none⟩) nl cm) := fun y => (QF.out _ (h38.trans ((hS0 _).1 y.h))).c1
 have h28 := hS3.trans h38
 have j0 : ∀ y : HeldW S0, y.w.cell? ⟨bn, on + t * 4, none⟩ = _ := fun y => ((h18.trans ((hS0 _).1 y.h)).cellAt hbn _).trans k0
 have j1 : ∀ y : HeldW S0, y.w.cell? ⟨bn, on + t * 4 + 1, none⟩ = _ := fun y => ((h18.trans ((hS0 _).1 y.h)).cellAt hbn _).trans k1
 have j2 : ∀ y : HeldW S0, y.w.cell? ⟨bn, on + t * 4 + 2, none⟩ = _ := fun y => ((h18.trans ((hS0 _).1 y.h)).cellAt hbn _).trans k2
 have j3 : ∀ y : HeldW S0, y.w.cell? ⟨bn, on + t * 4 + 3, none⟩ = _ := fun y => ((h18.trans ((hS0 _).1 y.h)).cellAt hbn _).trans k3
 have I0 := i0
 have I1 := i1
 have I2 := i2
 have I3 := i3
 clear i0 i1 i2 i3
 have i0 : ∀ y : HeldW S0, y.w.cell? ⟨bm, om + t * 4, none⟩ = _ := fun y => ((h28.trans ((hS0 _).1 y.h)).cellAt hbm _).trans I0
 have i1 : ∀ y : HeldW S0, y.w.cell? ⟨bm, om + t * 4 + 1, none⟩ = _ := fun y => ((h28.trans ((hS0 _).1 y.h)).cellAt hbm _).trans I1
 have i2 : ∀ y : HeldW S0, y.w.cell? ⟨bm, om + t * 4 + 2, none⟩ = _ := fun y => ((h28.trans ((hS0 _).1 y.h)).cellAt hbm _).trans I2
 have i3 : ∀ y : HeldW S0, y.w.cell? ⟨bm, om + t * 4 + 3, none⟩ = _ := fun y => ((h28.trans ((hS0 _).1 y.h)).cellAt hbm _).trans I3
 go_upto_region 7 with fail
 go_cut [10, 11] (fun s10 s11 wx => ∃ p q, s10 = .pointer (some ⟨p, 0, none⟩) ∧ s11 = .pointer (some ⟨q, 0, none⟩) ∧ NdBox wx p (.int .i64 nd.clock) (.slice la nd.last.length lc) (.slice ha nd.held.length hc) (.slice ta nd.told.length tc) ∧ NdBox wx q (.int .i64 nd'.clock) (.slice la' nd'.last.length lc') (.slice ha' nd'.held.length hc') (.slice ta' nd'.told.length tc') ∧ Since w8 wx)
 case first =>
  refine beginM (fun w' => ∃ x : HeldW S0, w' = x.w) (by kernel_rfl) ?_
  rw [hW0]
  clear hW0
  refine tW 0 rfl ?_
  go_big_quiet_op
  refine tM 1 rfl (heldS_mk hSi0) ?_
  go_big_quiet_op
  refine tW 2 rfl ?_
  go_big_quiet_op
  refine tW 3 rfl ?_
  go_big_quiet_op
  refine tM 4 rfl (heldS_mk hSi0) ?_
  go_big_quiet_op
  refine tW 5 rfl ?_
  go_big_quiet_op
  refine tM 6 rfl (heldS_mk hSi0) ?_
  go_big_quiet_op
  refine tW 7 rfl ?_
  go_big_quiet_op
  refine tW 8 rfl ?_
  go_big_quiet_op
  refine tM 9 rfl (heldS_mk hSi0) ?_
  go_big_quiet_op
  obtain ⟨WA, hWA⟩ : ∃ y, W0.alloc (.cells #[.int .i64 0, .slice none 0 0, .slice none 0 0, .slice none 0 0] 45) = y := ⟨_, rfl⟩
  obtain ⟨WB, hWB⟩ : ∃ y, WA.alloc (.cells #[.int .i64 0, .slice none 0 0, .slice none 0 0, .slice none 0 0] 45) = y := ⟨_, rfl⟩
  have hSA : Since W0 WA := by rw [← hWA]; exact (Since.refl W0).alloc _
  have hSB : Since WA WB := by rw [← hWB]; exact (Since.refl WA).alloc _
  have hbA : NdBox WA W0.heap.size (.int .i64 0) (.slice none 0 0) (.slice none 0 0) (.slice none 0 0) := by rw [← hWA]; exact NdBox.new W0 _ _ _ _ _
  have hbB : NdBox WB WA.heap.size (.int .i64 0) (.slice none 0 0) (.slice none 0 0) (.slice none 0 0) := by rw [← hWB]; exact NdBox.new WA _ _ _ _ _
  have hsA := hs0.trans hSA
  have hsB := hsA.trans hSB
  have hPQ : ¬ W0.heap.size = WA.heap.size := by have := hbA.lt; omega
  have hQP : ¬ WA.heap.size = W0.heap.size := by have := hbA.lt; omega
  refine actM2 10 11 rfl rfl (by kernel_rfl) ?_ ?_
  ·intro K hK
   go_simp
   refine hK _ _ (fun _ _ => heldS_mk ((hS0 _).2 hsA)) ?_
   clear hK K
   refine actM 11 rfl (by kernel_rfl) ?_
   intro K hK
   go_simp
   refine hK _ _ (fun _ _ => heldS_mk ((hS0 _).2 hsB)) ?_
   clear hK K
   obtain ⟨WC, hWC⟩ : ∃ y, (((WB.setCell ⟨W0.heap.size, 0, none⟩ (.int .i64 nd.clock)).setCell ⟨W0.heap.size, 1, none⟩ (.slice la nd.last.length lc)).setCell ⟨W0.heap.size, 2, none⟩ (.slice ha nd.held.length hc)).setCell ⟨W0.heap.size, 3, none⟩ (.slice ta nd.told.length tc) = y := ⟨_, rfl⟩
   obtain ⟨WD, hWD⟩ : ∃ y, (((WC.setCell ⟨WA.heap.size, 0, none⟩ (.int .i64 nd'.clock)).setCell ⟨WA.heap.size, 1, none⟩ (.slice la' nd'.last.length lc')).setCell ⟨WA.heap.size, 2, none⟩ (.slice ha' nd'.held.length hc')).setCell ⟨WA.heap.size, 3, none⟩ (.slice ta' nd'.told.length tc') = y := ⟨_, rfl⟩
   have hFC : Fr (fun i => i = W0.heap.size) WB WC := by rw [← hWC]; exact put4_fr WB W0.heap.size _ _ _ _
   have hFD : Fr (fun i => i = WA.heap.size) WC WD := by rw [← hWD]; exact put4_fr WC WA.heap.size _ _ _ _
   have hbP : NdBox WB W0.heap.size (.int .i64 0) (.slice none 0 0) (.slice none 0 0) (.slice none 0 0) := by first | exact hbB | exact hbA.since hSB
   have hbQ : NdBox WB WA.heap.size (.int .i64 0) (.slice none 0 0) (.slice none 0 0) (.slice none 0 0) := by first | exact hbB | exact hbA.since hSB
   have hbPC : NdBox WC W0.heap.size (.int .i64 nd.clock) (.slice la nd.last.length lc) (.slice ha nd.held.length hc) (.slice ta nd.told.length tc) := by rw [← hWC]; exact hbP.put _ _ _ _
   have hbQC := hbQ.fr hFC hQP
   have hbQD : NdBox WD WA.heap.size (.int .i64 nd'.clock) (.slice la' nd'.last.length lc') (.slice ha' nd'.held.length hc') (.slice ta' nd'.told.length tc') := by rw [← hWD]; exact hbQC.put _ _ _ _
   have hbPD := hbPC.fr hFD hPQ
   have hsC : Since w8 WC := hFC.sinceBase hsB (fun i hi e => by have := hs0.size; have := hsA.size; omega)
   have hsD : Since w8 WD := hFD.sinceBase hsC (fun i hi e => by have := hs0.size; have := hsA.size; omega)
   obtain ⟨_, y0, y1, y2, y3, z0, z1, z2, z3⟩ := hbP
   obtain ⟨_, q0, q1, q2, q3, s0, s1, s2, s3⟩ := hbQC
   refine actM 12 rfl (by kernel_rfl) ?_
   intro K hK
   go_simp
   refine hK _ _ (fun _ _ => heldS_mk ((hS0 _).2 hsC)) ?_
   clear hK K
   refine actM 13 rfl (by kernel_rfl) ?_
   intro K hK
   go_simp
   refine hK _ _ (fun h => absurd h (by decide +kernel)) ?_
   clear hK K
   refine doneM (by kernel_rfl) ?_
   clear x1 x2 j0 j1 j2 j3 i0 i1 i2 i3 hne hneT y0 y1 y2 y3 z0 z1 z2 z3 q0 q1 q2 q3 s0 s1 s2 s3 hWC hWD hWA hWB
   go_wp2_with fail
   go_meet
   case rel => exact ⟨W0.heap.size, WA.heap.size, rfl, rfl, hbPD, hbQD, hsD⟩
  ·intro K hK
   go_simp
   refine hK _ _ (fun _ _ => heldS_mk ((hS0 _).2 hsA)) ?_
   clear hK K
   refine actM 10 rfl (by kernel_rfl) ?_
   intro K hK
   go_simp
   refine hK _ _ (fun _ _ => heldS_mk ((hS0 _).2 hsB)) ?_
   clear hK K
   obtain ⟨WC, hWC⟩ : ∃ y, (((WB.setCell ⟨WA.heap.size, 0, none⟩ (.int .i64 nd.clock)).setCell ⟨WA.heap.size, 1, none⟩ (.slice la nd.last.length lc)).setCell ⟨WA.heap.size, 2, none⟩ (.slice ha nd.held.length hc)).setCell ⟨WA.heap.size, 3, none⟩ (.slice ta nd.told.length tc) = y := ⟨_, rfl⟩
   obtain ⟨WD, hWD⟩ : ∃ y, (((WC.setCell ⟨W0.heap.size, 0, none⟩ (.int .i64 nd'.clock)).setCell ⟨W0.heap.size, 1, none⟩ (.slice la' nd'.last.length lc')).setCell ⟨W0.heap.size, 2, none⟩ (.slice ha' nd'.held.length hc')).setCell ⟨W0.heap.size, 3, none⟩ (.slice ta' nd'.told.length tc') = y := ⟨_, rfl⟩
   have hFC : Fr (fun i => i = WA.heap.size) WB WC := by rw [← hWC]; exact put4_fr WB WA.heap.size _ _ _ _
   have hFD : Fr (fun i => i = W0.heap.size) WC WD := by rw [← hWD]; exact put4_fr WC W0.heap.size _ _ _ _
   have hbP : NdBox WB WA.heap.size (.int .i64 0) (.slice none 0 0) (.slice none 0 0) (.slice none 0 0) := by first | exact hbB | exact hbA.since hSB
   have hbQ : NdBox WB W0.heap.size (.int .i64 0) (.slice none 0 0) (.slice none 0 0) (.slice none 0 0) := by first | exact hbB | exact hbA.since hSB
   have hbPC : NdBox WC WA.heap.size (.int .i64 nd.clock) (.slice la nd.last.length lc) (.slice ha nd.held.length hc) (.slice ta nd.told.length tc) := by rw [← hWC]; exact hbP.put _ _ _ _
   have hbQC := hbQ.fr hFC hPQ
   have hbQD : NdBox WD W0.heap.size (.int .i64 nd'.clock) (.slice la' nd'.last.length lc') (.slice ha' nd'.held.length hc') (.slice ta' nd'.told.length tc') := by rw [← hWD]; exact hbQC.put _ _ _ _
   have hbPD := hbPC.fr hFD hQP
   have hsC : Since w8 WC := hFC.sinceBase hsB (fun i hi e => by have := hs0.size; have := hsA.size; omega)
   have hsD : Since w8 WD := hFD.sinceBase hsC (fun i hi e => by have := hs0.size; have := hsA.size; omega)
   obtain ⟨_, y0, y1, y2, y3, z0, z1, z2, z3⟩ := hbP
   obtain ⟨_, q0, q1, q2, q3, s0, s1, s2, s3⟩ := hbQC
   refine actM 12 rfl (by kernel_rfl) ?_
   intro K hK
   go_simp
   refine hK _ _ (fun _ _ => heldS_mk ((hS0 _).2 hsC)) ?_
   clear hK K
   refine actM 13 rfl (by kernel_rfl) ?_
   intro K hK
   go_simp
   refine hK _ _ (fun h => absurd h (by decide +kernel)) ?_
   clear hK K
   refine doneM (by kernel_rfl) ?_
   clear x1 x2 j0 j1 j2 j3 i0 i1 i2 i3 hne hneT y0 y1 y2 y3 z0 z1 z2 z3 q0 q1 q2 q3 s0 s1 s2 s3 hWC hWD hWA hWB
   go_wp2_with fail
   go_meet
   case rel => exact ⟨WA.heap.size, W0.heap.size, rfl, rfl, hbPD, hbQD, hsD⟩
 obtain ⟨p, q, rfl, rfl, hbp, hbq, hSx⟩ := hcut
 clear j0 j1 j2 j3 i0 i1 i2 i3 x1 x2 hne hneT hS0 hs0 hSi0 hW0 W0 S0
 have h1c := h18.trans hSx
 have h3c := h38.trans hSx
 have h2c := h28.trans hSx
 obtain ⟨b0, b1, b2, b3, b4⟩ := MF.out _ hSx
 simp only [Nat.zero_add] at b0 b1 b2 b3 b4
 go_wp2_with fail
 clear b0 b1 b2 b3 b4
 obtain ⟨S0, hS0⟩ : ∃ S0 : World → Prop, ∀ w', S0 w' ↔ Since wc w' := ⟨_, fun _ => Iff.rfl⟩
 obtain ⟨W0, hW0⟩ : ∃ y, wc.drew = y := ⟨_, rfl⟩
 have hs0 : Since wc W0 := by rw [← hW0]; exact Since.drew (Since.refl _)
 have hSi0 := (hS0 W0).2 hs0
 have hne : Nonempty (HeldW S0) := ⟨⟨_, hSi0⟩⟩
 have hneT := heldTrue w
 have NF : Hid (∀ z, Since wc z → NdBox z p (.int .i64 nd.clock) (.slice la nd.last.length lc) (.slice ha nd.held.length hc) (.slice ta nd.told.length tc) ∧ NdBox z q (.int .i64 nd'.clock) (.slice la' nd'.last.length lc') (.slice ha' nd'.held.length hc') (.slice ta' nd'.told.length tc')) := fun z hz => ⟨hbp.since hz, hbq.since hz⟩
 have x1 : ∀ y : HeldW S0, y.w.cell? ⟨w.heap.size, 2, none⟩ = some (.slice (some ⟨bw, ow, none⟩) wl wk) := fun y => (PF.out _ (h1c.trans ((hS0 _).1 y.h))).c2
 have x2 : ∀ y : HeldW S0, y.w.cell? ⟨w2.heap.size, 2, none⟩ = some (.slice (some ⟨bv, ov, none⟩) wl cv) := fun y => (QF.out _ (h3c.trans ((hS0 _).1 y.h))).c2
 have x3 : ∀ y : HeldW S0, y.w.cell? ⟨bw, ow + f, none⟩ = _ := fun y => ((h1c.trans ((hS0 _).1 y.h)).cellAt hbw _).trans c1
 have x4 : ∀ y : HeldW S0, y.w.cell? ⟨bR, oR + t, none⟩ = _ := fun y => ((h1c.trans ((hS0 _).1 y.h)).cellAt hbR _).trans c2
 have x5 : ∀ y : HeldW S0, y.w.cell? ⟨bv, ov + f, none⟩ = _ := fun y => ((h2c.trans ((hS0 _).1 y.h)).cellAt hbv _).trans s1
 have x6 : ∀ y : HeldW S0, y.w.cell? ⟨br, orr + t, none⟩ = _ := fun y => ((h2c.trans ((hS0 _).1 y.h)).cellAt hbr _).trans s4
 have y0 : ∀ y : HeldW S0, y.w.cell? ⟨p, 0, none⟩ = _ := fun y => (NF.out _ ((hS0 _).1 y.h)).1.c0
 have y2 : ∀ y : HeldW S0, y.w.cell? ⟨p, 2, none⟩ = _ := fun y => (NF.out _ ((hS0 _).1 y.h)).1.c2
 have y3 : ∀ y : HeldW S0, y.w.cell? ⟨p, 3, none⟩ = _ := fun y => (NF.out _ ((hS0 _).1 y.h)).1.c3
 have z0 : ∀ y : HeldW S0, y.w.cell? ⟨q, 0, none⟩ = _ := fun y => (NF.out _ ((hS0 _).1 y.h)).2.c0
 have z2 : ∀ y : HeldW S0, y.w.cell? ⟨q, 2, none⟩ = _ := fun y => (NF.out _ ((hS0 _).1 y.h)).2.c2
 have z3 : ∀ y : HeldW S0, y.w.cell? ⟨q, 3, none⟩ = _ := fun y => (NF.out _ ((hS0 _).1 y.h)).2.c3
 have t2 : ∀ y : HeldW S0, y.w.cell? ⟨w7.heap.size, 2, none⟩ = some (.int .i64 m.st) := fun y => by have := (MF.out _ (hSx.trans ((hS0 _).1 y.h))).c2; simpa using this
 have hsl := HSL.out
 refine beginM (fun w' => ∃ x : HeldW S0, w' = x.w) (by kernel_rfl) ?_
 rw [hW0]
 clear hW0
 refine tW 0 rfl ?_
 go_big_quiet_op
 refine tM 1 rfl (heldS_mk hSi0) ?_
 go_big_quiet_op
 refine tW 2 rfl ?_
 go_big_quiet_op
 refine tW 3 rfl ?_
 go_big_quiet_op
 refine tM 4 rfl (heldS_mk hSi0) ?_
 go_big_quiet_op
 refine tW 5 rfl ?_
 go_big_quiet_op
 refine tW 6 rfl ?_
 go_big_quiet_op
 refine tM 7 rfl (heldS_mk hSi0) ?_
 go_big_quiet_op
 refine tW 8 rfl ?_
 go_big_quiet_op
 refine tM 9 rfl (heldS_mk hSi0) ?_
 go_big_quiet_op
 refine tW 10 rfl ?_
 go_big_quiet_op
 refine tW 11 rfl ?_
 go_big_quiet_op
 refine tM 12 rfl (heldS_mk hSi0) ?_
 go_big_quiet_op
 refine tW 13 rfl ?_
 go_big_quiet_op
 refine tW 14 rfl ?_
 go_big_quiet_op
 refine tM 15 rfl (heldS_mk hSi0) ?_
 go_big_quiet_op
 refine tM 16 rfl (heldS_mk hSi0) ?_
 refine quiet_out (v := .slice sa rest.length sc) ?_ ?_
 ·rcases hsl with ⟨h1, h2, h3, h4⟩ | ⟨h1, h3, h4⟩
  ·subst h1 h3 h4
   have hr : rest = [] := List.eq_nil_of_length_eq_zero h2
   subst hr
   go_big_quiet_op
   simp [Act.put]
  ·subst h3 h4
   have h1' : (1 : Int) < (mc : Int) := by omega
   go_big_quiet_op
   simp [Act.put]
 simp only [Act.put, List.setIfInBounds_toArray, List.set_cons_zero, List.set_cons_succ]
 refine actM 17 rfl (by kernel_rfl) ?_
 intro K hK
 go_simp
 refine (sameMsgs_any xa _ xc rest sa _ sc rest W0 (hMX.since (h2c.trans hs0)) (HMS.since (h1c.trans hs0))).mono ?_
 rw [sameMs_refl]
 rintro e W1 ⟨rfl, hs1⟩
 have hs01 := hs0.trans hs1
 have hSi1 := (hS0 W1).2 hs01
 refine hK _ _ (fun _ _ => heldS_mk hSi1) ?_
 clear hK K
 refine tW 18 rfl ?_
 go_big_quiet_op
 refine tW 19 rfl ?_
 go_big_quiet_op
 refine tW 20 rfl ?_
 go_big_quiet_op
 refine tM 21 rfl (heldS_mk hSi1) ?_
 go_big_quiet_op
 refine tW 22 rfl ?_
 go_big_quiet_op
 refine tM 23 rfl (heldS_mk hSi1) ?_
 go_big_quiet_op
 refine tW 24 rfl ?_
 go_big_quiet_op
 refine tW 25 rfl ?_
 go_big_quiet_op
 refine tW 26 rfl ?_
 go_big_quiet_op
 refine tW 27 rfl ?_
 go_big_quiet_op
 refine tM 28 rfl (heldS_mk hSi1) ?_
 go_big_quiet_op
 refine tW 29 rfl ?_
 go_big_quiet_op
 refine tM 30 rfl (heldS_mk hSi1) ?_
 go_big_quiet_op
 refine tW 31 rfl ?_
 go_big_quiet_op
 refine tW 32 rfl ?_
 go_big_quiet_op
 refine tW 33 rfl ?_
 go_big_quiet_op
 refine tW 34 rfl ?_
 go_big_quiet_op
 refine tM 35 rfl (heldS_mk hSi1) ?_
 go_big_quiet_op
 refine tM 36 rfl (heldS_mk hSi1) ?_
 go_big_quiet_op
 refine tW 37 rfl ?_
 go_big_quiet_op
 refine tM 38 rfl (heldS_mk hSi1) ?_
 go_big_quiet_op
 refine tM 39 rfl (heldS_mk hSi1) ?_
 go_big_quiet_op
 refine tW 40 rfl ?_
 go_big_quiet_op
 refine tW 41 rfl ?_
 go_big_quiet_op
 refine tM 42 rfl (heldS_mk hSi1) ?_
 go_big_quiet_op
 refine tM 43 rfl (heldS_mk hSi1) ?_
 go_big_quiet_op
 refine tW 44 rfl ?_
 go_big_quiet_op
 refine tM 45 rfl (heldS_mk hSi1) ?_
 go_big_quiet_op
 refine tM 46 rfl (heldS_mk hSi1) ?_
 go_big_quiet_op
 refine tW 47 rfl ?_
 go_big_quiet_op
 refine tW 48 rfl ?_
 go_big_quiet_op
 refine tW 49 rfl ?_
 go_big_quiet_op
 refine tW 50 rfl ?_
 go_big_quiet_op
 refine tW 51 rfl ?_
 go_big_quiet_op
 refine doneM (by kernel_rfl) ?_
 clear x1 x2 x3 x4 x5 x6 y0 y2 y3 z0 z2 z3 t2 hne hneT hsl hS0 hSi0 hSi1 S0
 have h1d := h1c.trans hs01
 have h3d := h3c.trans hs01
 have h2d := h2c.trans hs01
 obtain ⟨⟨_, y0, y1, y2, y3, _, _, _, _⟩, _⟩ := NF.out _ hs01
 obtain ⟨_, q0, q1, q2⟩ := QF.out _ h3d
 dsimp only at q0 q1 q2
 have i0 := (h2d.cellAt hbm _).trans I0
 have i1 := (h2d.cellAt hbm _).trans I1
 have i2 := (h2d.cellAt hbm _).trans I2
 have i3 := (h2d.cellAt hbm _).trans I3
 have z0 := (h2d.below.frozen (p := ⟨bm, om + t * 4, none⟩) hbm).trans (iz 0 (by omega))
 have z1 := (h2d.below.frozen (p := ⟨bm, om + t * 4 + 1, none⟩) hbm).trans (iz 1 (by omega))
 have z2 := (h2d.below.frozen (p := ⟨bm, om + t * 4 + 2, none⟩) hbm).trans (iz 2 (by omega))
 have z3 := (h2d.below.frozen (p := ⟨bm, om + t * 4 + 3, none⟩) hbm).trans (iz 3 (by omega))
 have s6 := (h2d.cellAt hbr _).trans s4
 obtain ⟨wN, hwN⟩ : ∃ y, (((W1.setCell ⟨bm, om + t * 4, none⟩ (.int .i64 nd.clock)).setCell ⟨bm, om + t * 4 + 1, none⟩ (.slice la nd.last.length lc)).setCell ⟨bm, om + t * 4 + 2, none⟩ (.slice ha nd.held.length hc)).setCell ⟨bm, om + t * 4 + 3, none⟩ (.slice ta nd.told.length tc) = y := ⟨_, rfl⟩
 have hFN : Fr (fun i => i = bm) W1 wN := by rw [← hwN]; exact put4at_fr W1 bm (om + t * 4) _ _ _ _
 have h1N : Since w1 wN := hFN.sinceBase h1d (fun i hi e => by omega)
 have hbmd : bm < W1.heap.size := Nat.lt_of_lt_of_le hbm h2d.size
 have hbrd : br < W1.heap.size := Nat.lt_of_lt_of_le hbr h2d.size
 have hbvd : bv < W1.heap.size := Nat.lt_of_lt_of_le hbv h2d.size
 have hlq : w2.heap.size < W1.heap.size := Nat.lt_of_lt_of_le hQ3.lt h3d.size
 have QN : Hid (∀ j, wN.cell? ⟨w2.heap.size, j, none⟩ = W1.cell? ⟨w2.heap.size, j, none⟩) := fun j => hFN.cell (p := ⟨w2.heap.size, j, none⟩) hlq (fun e => by simp at e; omega)
 have N0 := (QN.out 0).trans q0
 have N1 := (QN.out 1).trans q1
 have N2 := (QN.out 2).trans q2
 have R1 := (hFN.cell (p := ⟨bv, ov + f, none⟩) hbvd hnebv).trans ((h2d.cellAt hbv _).trans s1)
 have R2 := (hFN.cell (p := ⟨br, orr + t, none⟩) hbrd (fun e => hnebr e.symm)).trans s6
 have R3 : wN.frozen? ⟨br, orr + t, none⟩ = false := (hFN.frozen (p := ⟨br, orr + t, none⟩) hbrd (fun e => hnebr e.symm)).trans ((h2d.below.frozen (p := ⟨br, orr + t, none⟩) hbr).trans s5)
 go_wp2_with fail
 clear y0 y1 y2 y3 q0 q1 q2 z0 z1 z2 z3
 obtain ⟨S0, hS0⟩ : ∃ S0 : World → Prop, ∀ w', S0 w' ↔ Since wN w' := ⟨_, fun _ => Iff.rfl⟩
 obtain ⟨V0, hV0⟩ : ∃ y, wN.drew = y := ⟨_, rfl⟩
 have ht0 : Since wN V0 := by rw [← hV0]; exact Since.drew (Since.refl _)
 have hSi0 := (hS0 V0).2 ht0
 have hne : Nonempty (HeldW S0) := ⟨⟨_, hSi0⟩⟩
 have hneT := heldTrue w
 have hlN : w2.heap.size < wN.heap.size := Nat.lt_of_lt_of_le hlq hFN.size
 have hbvN : bv < wN.heap.size := Nat.lt_of_lt_of_le hbvd hFN.size
 have hbrN : br < wN.heap.size := Nat.lt_of_lt_of_le hbrd hFN.size
 have x1 : ∀ y : HeldW S0, y.w.cell? ⟨w.heap.size, 2, none⟩ = some (.slice (some ⟨bw, ow, none⟩) wl wk) := fun y => (PF.out _ (h1N.trans ((hS0 _).1 y.h))).c2
 have x2 : ∀ y : HeldW S0, y.w.cell? ⟨w2.heap.size, 2, none⟩ = some (.slice (some ⟨bv, ov, none⟩) wl cv) := fun y => (((hS0 _).1 y.h).cellAt hlN _).trans N2
 have x3 : ∀ y : HeldW S0, y.w.cell? ⟨bw, ow + f, none⟩ = _ := fun y => ((h1N.trans ((hS0 _).1 y.h)).cellAt hbw _).trans c1
 have x4 : ∀ y : HeldW S0, y.w.cell? ⟨bR, oR + t, none⟩ = _ := fun y => ((h1N.trans ((hS0 _).1 y.h)).cellAt hbR _).trans c2
 have x5 : ∀ y : HeldW S0, y.w.cell? ⟨bv, ov + f, none⟩ = _ := fun y => (((hS0 _).1 y.h).cellAt hbvN _).trans R1
 have r2 := (ht0.cellAt hbrN _).trans R2
 have r3 := (ht0.below.frozen (p := ⟨br, orr + t, none⟩) hbrN).trans R3
 obtain ⟨wF, hwF⟩ : ∃ y, V0.setCell ⟨br, orr + t, none⟩ (.slice (some ⟨bh, oh, none⟩) (rest.length + 1) mc) = y := ⟨_, rfl⟩
 have hBo := borrow_of (v := .slice (some ⟨bh, oh, none⟩) (rest.length + 1) mc) i0 i1 i2 i3 s6 hbmd hbrd hnebr hwN ht0
 have hFF : Fr (fun i => i = br) V0 wF := by rw [← hwF]; exact (Fr.refl _ V0).setCell _ _ (fun _ => rfl)
 have h1F : Since w1 wF := hFF.sinceBase (h1N.trans ht0) (fun i hi e => by omega)
 rw [hwF] at hBo
 have hXF : WAt wF ⟨xga, xgl, xgc, some ⟨bm, om, none⟩, nl, cm, some ⟨bv, ov, none⟩, wl, cv⟩ d := by
  have T := HT.out
  have h := (hO2.since h2d).borrow (d0 := d) (x := nd) (row := row) (row' := row') (l := m :: rest) HL.out.1 HL.out.2.1 hBo T.hx T.groups T.len T.wlen T.node T.wire T.hr T.hr' T.rlen T.rows T.hl rfl ⟨la, lc, rfl, hlc, hL.since vints_stable h1F⟩ ⟨ha, hc, rfl, hhc, hH.since h1F⟩ ⟨ta, tc, rfl, htc, hTo.since h1F⟩ ⟨some ⟨bh, oh, none⟩, mc, rfl, hmc, hMW.since h1F⟩
  rw [HL.out.2.2] at h
  exact h
 refine beginM (fun w' => ∃ x : HeldW S0, w' = x.w) (by kernel_rfl) ?_
 rw [hV0]
 clear hV0
 refine tW 0 rfl ?_
 go_big_quiet_op
 refine tM 1 rfl (heldS_mk hSi0) ?_
 go_big_quiet_op
 refine tW 2 rfl ?_
 go_big_quiet_op
 refine tW 3 rfl ?_
 go_big_quiet_op
 refine tM 4 rfl (heldS_mk hSi0) ?_
 go_big_quiet_op
 refine tW 5 rfl ?_
 go_big_quiet_op
 refine tW 6 rfl ?_
 go_big_quiet_op
 refine tM 7 rfl (heldS_mk hSi0) ?_
 go_big_quiet_op
 refine tW 8 rfl ?_
 go_big_quiet_op
 refine tW 9 rfl ?_
 go_big_quiet_op
 refine tM 10 rfl (heldS_mk hSi0) ?_
 go_big_quiet_op
 refine tW 11 rfl ?_
 go_big_quiet_op
 refine tW 12 rfl ?_
 go_big_quiet_op
 refine tM 13 rfl (heldS_mk hSi0) ?_
 go_big_quiet_op
 refine tW 14 rfl ?_
 go_big_quiet_op
 refine actM 15 rfl (by kernel_rfl) ?_
 intro K hK
 go_simp
 refine hK _ _ (fun h => absurd h (by decide +kernel)) ?_
 clear hK K
 refine doneM (by kernel_rfl) ?_
 try rw [hwF]
 clear x1 x2 x3 x4 x5 r2 r3 hne hneT hwF
 have BF : Hid (∀ j, wF.cell? ⟨w2.heap.size, j, none⟩ = wN.cell? ⟨w2.heap.size, j, none⟩) := fun j => (hFF.cell (p := ⟨w2.heap.size, j, none⟩) (Nat.lt_of_lt_of_le hlN ht0.size) (fun e => by simp at e; omega)).trans (ht0.cellAt hlN _)
 have XF : Hid (∀ y, Since wF y → y.cell? ⟨w2.heap.size, 0, none⟩ = some (.slice xga xgl xgc) ∧ y.cell? ⟨w2.heap.size, 1, none⟩ = some (.slice (some ⟨bm, om, none⟩) nl cm) ∧ y.cell? ⟨w2.heap.size, 2, none⟩ = some (.slice (some ⟨bv, ov, none⟩) wl cv)) := fun y hy => by
  have hlF : w2.heap.size < wF.heap.size := Nat.lt_of_lt_of_le (Nat.lt_of_lt_of_le hlN ht0.size) hFF.size
  exact ⟨(hy.cellAt hlF _).trans ((BF.out 0).trans N0), (hy.cellAt hlF _).trans ((BF.out 1).trans N1), (hy.cellAt hlF _).trans ((BF.out 2).trans N2)⟩
 have hSW := fun (y : World) (hy : Since wF y) => sameWorlds_true ⟨xga, xgl, xgc, some ⟨bm, om, none⟩, nl, cm, some ⟨bv, ov, none⟩, wl, cv⟩ ⟨ga, gl, gc, some ⟨bn, on, none⟩, nl, nc, some ⟨bw, ow, none⟩, wl, wk⟩ d y (hXF.since hy) (hwx.since (h1F.trans hy))
 dsimp only at hSW
 go_wp2_with (first
  | (go_at_call 35; refine (moveBegun_any wF).mono ?_; rintro e w10 ⟨rfl, hS10⟩; obtain ⟨y0, y1, y2⟩ := XF.out _ hS10; obtain ⟨_, f0, f1, f2⟩ := PF.out _ (h1F.trans hS10); dsimp only at f0 f1 f2)
  | (go_at_call 31; refine (hSW w10 hS10).mono ?_; rintro e w11 ⟨rfl, hS11⟩))
 go_ret
 exact ⟨by simp, hS1.trans (h1F.trans (hS10.trans hS11))⟩
set_option maxHeartbeats 2000000 in
theorem lawMoveTrue_false (x : WV) (d d' : Wd) (f t : Nat) (nd nd' : Nd) (m : Mg) (rest : List Mg) (row row' : List (List Mg)) (w : World) (hW : WAt w x d) (T : MoveTrueD d d' f t nd nd' m rest row row') (hr : moveOfD d (f : Int) (t : Int) = .ok d') (hnul : m.nul = false) :
  Calls Tryz.prog 7 #[.agg #[.slice x.ga x.gl x.gc, .slice x.na x.nl x.nc, .slice x.wa x.wl x.wc], .int .i64 f, .int .i64 t] w fun e w' => e = .returned (.bool true) ∧ Since w w' := by
 have HT : Hid (MoveTrueD d d' f t nd nd' m rest row row') := T
 have hE0 := (right_iff d).2 T.was
 have hE1 := (right_iff d').2 T.right
 obtain ⟨ga, gl, gc, na, nl, nc, wa, wl, wk⟩ := x
 dsimp only
 obtain ⟨w1, hw1⟩ : ∃ wp, w.alloc (.cells #[.slice ga gl gc, .slice na nl nc, .slice wa wl wk] 26) = wp := ⟨_, rfl⟩
 have hP1 : ParBox w1 w.heap.size ⟨ga, gl, gc, na, nl, nc, wa, wl, wk⟩ := by rw [← hw1]; exact ParBox.new w ⟨ga, gl, gc, na, nl, nc, wa, wl, wk⟩ _
 have hS1 : Since w w1 := by rw [← hw1]; exact (Since.refl w).alloc _
 have hW1 := hW.since hS1
 have p0 := hP1.c0
 have p1 := hP1.c1
 have p2 := hP1.c2
 dsimp only at p0 p1 p2
 have hA := moveOne_any ⟨ga, gl, gc, na, nl, nc, wa, wl, wk⟩ d f t w1 hW1
 rw [hr] at hA
 dsimp only at hA
 have hnl := hW1.n.hlen
 have hwl := hW1.r.hlen
 dsimp only at hnl hwl
 have hwd := T.was.wlen
 have hrw := T.was.rlen f row T.hr
 have hflt := T.flt
 have htlt := T.tlt
 obtain ⟨bn, on, rfl, hbn, hcn⟩ := hW1.n.cells (by dsimp only; omega)
 obtain ⟨k0, ⟨v1, k1, la, lc, rfl, hlc, hL⟩, ⟨v2, k2, ha, hc, rfl, hhc, hH⟩, ⟨v3, k3, ta, tc, rfl, htc, hTo⟩⟩ := hcn t nd T.hx
 obtain ⟨bw, ow, rfl, hbw, hcw⟩ := hW1.r.cells (by dsimp only; omega)
 obtain ⟨v4, c1, ra, rc, rfl, hrc, hRow⟩ := hcw f row T.hr
 obtain ⟨bR, oR, rfl, hbR, hcR⟩ := hRow.cells (by omega)
 obtain ⟨v5, c2, ma, mc, rfl, hmc, hM⟩ := hcR t (m :: rest) T.hl
 obtain ⟨bh, oh, rfl, hbh, hch⟩ := hM.cells (by simp)
 obtain ⟨m0, m1, m2, m3, m4⟩ := msgAt_of hch 0 m rfl
 simp only [Nat.zero_mul, Nat.add_zero] at m0 m1 m2 m3 m4
 rw [hnul] at m3
 simp only [List.length_cons] at c2 hmc
 have hr40 : rest.length ≤ 40 := by have := T.was.wireN f t; rw [wireAt_some T.hr T.hl] at this; simp at this; omega
 obtain ⟨sa, sc, HSL, HMS⟩ : ∃ sa sc, Hid ((mc = 1 ∧ rest.length = 0 ∧ sa = some ⟨bh, oh, none⟩ ∧ sc = 0) ∨ (1 < mc ∧ sa = some ⟨bh, oh + 5, none⟩ ∧ sc = mc - 1)) ∧ Msgs w1 sa rest.length rest := by
  by_cases e : mc = 1
  ·have h0 : rest.length = 0 := by omega
   refine ⟨some ⟨bh, oh, none⟩, 0, .inl ⟨e, h0, rfl, rfl⟩, rfl, by omega, fun hp => by omega⟩
  ·refine ⟨some ⟨bh, oh + 5, none⟩, mc - 1, .inr ⟨by omega, rfl, rfl⟩, rfl, by omega, fun hp => ⟨bh, oh + 5, rfl, hbh, fun j u hj => ?_⟩⟩
   have := hch (5 + j) u (by
    have e5 : flat (m :: rest) = m.cells ++ flat rest := rfl
    rw [e5, List.getElem?_append_right (by show 5 ≤ 5 + j; omega)]
    have e6 : 5 + j - m.cells.length = j := by show 5 + j - 5 = j; omega
    rw [e6]; exact hj)
   rw [← Nat.add_assoc] at this; exact this
 have hlm : (rest.length : Int) + 1 ≤ (mc : Int) := by omega
 have hMW := hM
 have hwx := hW1
 have PF : Hid (∀ y, Since w1 y → ParBox y w.heap.size ⟨ga, gl, gc, some ⟨bn, on, none⟩, nl, nc, some ⟨bw, ow, none⟩, wl, wk⟩) := fun y hy => hP1.since hy
 have HWE := fun (y : World) (hy : Since w1 y) => worldError_any ⟨ga, gl, gc, some ⟨bn, on, none⟩, nl, nc, some ⟨bw, ow, none⟩, wl, wk⟩ d y (hW1.since hy)
 rw [hE0] at HWE
 dsimp only at HWE
 have a1 : (f : Int) < (nl : Int) := by omega
 have a2 : (t : Int) < (nl : Int) := by omega
 have a3 : (f : Int) < (wl : Int) := by omega
 have a4 : (t : Int) < (row.length : Int) := by omega
 have u1 : decide ((f : Int) < 0) = false := by simp
 have u2 : decide ((t : Int) < 0) = false := by simp
 have u3 : decide ((nl : Int) ≤ (f : Int)) = false := by simp; omega
 have u4 : decide ((nl : Int) ≤ (t : Int)) = false := by simp; omega
 have u5 : decide (nl ≤ f) = false := by simp; omega
 have u6 : decide (nl ≤ t) = false := by simp; omega
 have u7 : ((rest.length : Int) + 1 == 0) = false := by rw [beq_eq_false_iff_ne]; omega
 have HNL : Hid (d.nodes.length = nl ∧ d.wires.length = wl) := ⟨hnl, hwl⟩
 have g1 : decide (nd'.clock < nd.clock) = false := by have := T.clk; simp; omega
 have g2 : decide (nd'.clock < m.st) = false := by have := T.clm; simp; omega
 have g3 : ((nd'.held.length : Int) + (nd'.told.length : Int)) = ((nd.held.length : Int) + (nd.told.length : Int)) + 1 := by have := T.count; rw [hnul] at this; simp at this; omega
 have q1' := T.was.heldN t
 have q2' := T.was.toldN t
 have q3' := T.right.heldN t
 have q4' := T.right.toldN t
 rw [heldAt_of T.hx] at q1'
 rw [toldAt_of T.hx] at q2'
 rw [heldAt_of T.hx'] at q3'
 rw [toldAt_of T.hx'] at q4'
 have g4 : IntKind.i64.wrap ((nd.held.length : Int) + (nd.told.length : Int)) = ((nd.held.length : Int) + (nd.told.length : Int)) := IntWalk.i64_in _ (by omega)
 have g5 : IntKind.i64.wrap ((nd'.held.length : Int) + (nd'.told.length : Int)) = ((nd'.held.length : Int) + (nd'.told.length : Int)) := IntWalk.i64_in _ (by omega)
 have g6 : IntKind.i64.wrap (((nd.held.length : Int) + (nd.told.length : Int)) + 1) = ((nd.held.length : Int) + (nd.told.length : Int)) + 1 := IntWalk.i64_in _ (by omega)
 have g7 : (((nd'.held.length : Int) + (nd'.told.length : Int)) != ((nd.held.length : Int) + (nd.told.length : Int)) + 1) = false := by rw [g3]; simp
 have g8 : (((nd'.held.length : Int) + (nd'.told.length : Int)) != ((nd.held.length : Int) + (nd.told.length : Int))) = true := by rw [g3, bne_iff_ne]; omega
 have HG3 := (show Hid _ from g3)
 clear g3 q1' q2' q3' q4' hr hcn hcw hcR hch hM T hnl hwl hwd hrw hflt htlt hnul hW hP1
 go_enter Tryz.func7, Tryz.ntmps7
 go_wp2_with fail
 refine hA.mono ?_
 rintro e w2 hR2
 obtain ⟨L, rfl, hO2, hS2⟩ := hR2.out.2 d' rfl
 obtain ⟨bm, om, cm, hL1, hlm1, hbm, hbkm, _⟩ := hO2.lies (ix := (1, 0, 0)) ⟨rfl, rfl⟩ (by show 0 < d'.nodes.length; rw [HT.out.len]; have := HT.out.tlt; omega)
 obtain ⟨i0, i1, i2, i3, iz⟩ := hO2.cells HT.out.hx' hL1
 obtain ⟨bv, ov, cv, br, orr, cr, hL2, hL7, hbv, hbr, hlr, s1, s2, s3⟩ := hO2.wires3 HT.out.hr' (by rw [HT.out.rlen]; omega)
 have s4 := s2 t rest HT.out.hl'
 have s5 := s3 t (by rw [HT.out.rlen]; omega)
 rw [HT.out.rlen] at s1
 obtain ⟨⟨xa, xc⟩, hL8⟩ : ∃ s : Sl, L (8, f, t) = s := ⟨_, rfl⟩
 have hMX : Msgs w2 xa rest.length rest := by
  have ok8 : okI d' (8, f, t) := ⟨(List.getElem?_eq_some_iff.1 HT.out.hr').1, by rw [rowAt_of HT.out.hr']; exact (List.getElem?_eq_some_iff.1 HT.out.hl').1⟩
  have hq : Row w2 w1.heap.size 5 (L (8, f, t)) (wrAt d' f t).length (flat (wrAt d' f t)) := hO2.row _ ok8
  rw [wrAt_of HT.out.hr' HT.out.hl', hL8] at hq
  exact row_msgs hq (by omega)
 rw [hL8] at s4
 dsimp only [Sl.v] at s4
 obtain ⟨⟨la', lc'⟩, hL3e⟩ : ∃ s : Sl, L (3, t, 0) = s := ⟨_, rfl⟩
 obtain ⟨⟨ha', hc'⟩, hL5e⟩ : ∃ s : Sl, L (5, t, 0) = s := ⟨_, rfl⟩
 obtain ⟨⟨ta', tc'⟩, hL6e⟩ : ∃ s : Sl, L (6, t, 0) = s := ⟨_, rfl⟩
 rw [hL3e] at i1
 rw [hL5e] at i2
 rw [hL6e] at i3
 dsimp only [Sl.v] at i1 i2 i3
 obtain ⟨⟨xga, xgc⟩, hL0⟩ : ∃ s : Sl, L (0, 0, 0) = s := ⟨_, rfl⟩
 obtain ⟨xgl, hxgl⟩ : ∃ z, d'.groups.length = z := ⟨_, rfl⟩
 have hlN : d'.nodes.length = nl := HT.out.len.trans HNL.out.1
 have hlW : d'.wires.length = wl := HT.out.wlen.trans HNL.out.2
 have hwv : wvOf L d' = ⟨xga, xgl, xgc, some ⟨bm, om, none⟩, nl, cm, some ⟨bv, ov, none⟩, wl, cv⟩ := by unfold wvOf; rw [hL0, hL1, hL2, hlN, hlW, hxgl]
 have hval : wval L d' = .agg #[.slice xga xgl xgc, .slice (some ⟨bm, om, none⟩) nl cm, .slice (some ⟨bv, ov, none⟩) wl cv] := by rw [wval_wv, hwv]; rfl
 have hX2 := hO2.wat
 rw [hwv] at hX2
 rw [hval]
 have HL : Hid (L (1, 0, 0) = ⟨some ⟨bm, om, none⟩, cm⟩ ∧ L (7, f, 0) = ⟨some ⟨br, orr, none⟩, cr⟩ ∧ wvOf L d' = ⟨xga, xgl, xgc, some ⟨bm, om, none⟩, nl, cm, some ⟨bv, ov, none⟩, wl, cv⟩) := ⟨hL1, hL7, hwv⟩
 have hnebr : bm ≠ br := fun e => by
  have ok7 : okI d' (7, f, 0) := ⟨(List.getElem?_eq_some_iff.1 HT.out.hr').1, rfl⟩
  obtain ⟨b', o', c', hq, _, _, hbk, _⟩ := hO2.lies ok7 (by show 0 < (rowAt d' f).length; rw [rowAt_of HT.out.hr', HT.out.rlen]; omega)
  have hq2 := hL7.symm.trans hq
  cases hq2
  have := hO2.inj (1, 0, 0) (7, f, 0) bm ⟨rfl, rfl⟩ ok7 hbkm (by rw [e]; exact hbk)
  simp at this
 have hnebv : bv ≠ bm := fun e => by
  obtain ⟨b', o', c', hq, _, _, hbk, _⟩ := hO2.lies (ix := (2, 0, 0)) ⟨rfl, rfl⟩ (by show 0 < d'.wires.length; omega)
  have hq2 := hL2.symm.trans hq
  cases hq2
  have := hO2.inj (2, 0, 0) (1, 0, 0) bv ⟨rfl, rfl⟩ ⟨rfl, rfl⟩ hbk (by rw [e]; exact hbkm)
  simp at this
 clear hL0 hL1 hL2 hL3e hL5e hL6e hL7 hL8 hwv hval hlN hlW hxgl s2 s3 hR2 hA
 obtain ⟨w3, hw3⟩ : ∃ y, w2.alloc (.cells #[.slice xga xgl xgc, .slice (some ⟨bm, om, none⟩) nl cm, .slice (some ⟨bv, ov, none⟩) wl cv] 26) = y := ⟨_, rfl⟩
 have hS3 : Since w2 w3 := by rw [← hw3]; exact (Since.refl w2).alloc _
 have hQ3 : ParBox w3 w2.heap.size ⟨xga, xgl, xgc, some ⟨bm, om, none⟩, nl, cm, some ⟨bv, ov, none⟩, wl, cv⟩ := by rw [← hw3]; exact ParBox.new w2 ⟨xga, xgl, xgc, some ⟨bm, om, none⟩, nl, cm, some ⟨bv, ov, none⟩, wl, cv⟩ _
 have QF : Hid (∀ y, Since w3 y → ParBox y w2.heap.size ⟨xga, xgl, xgc, some ⟨bm, om, none⟩, nl, cm, some ⟨bv, ov, none⟩, wl, cv⟩) := fun y hy => hQ3.since hy
 have h13 := hS2.trans hS3
 have hX3 := hX2.since hS3
 have HWC := fun (y : World) (hy : Since w3 y) => worldCheck_any ⟨xga, xgl, xgc, some ⟨bm, om, none⟩, nl, cm, some ⟨bv, ov, none⟩, wl, cv⟩ d' y (hX3.since hy)
 rw [hE1] at HWC
 dsimp only at HWC
 obtain ⟨_, f0, f1, f2⟩ := PF.out _ h13
 dsimp only at f0 f1 f2
 have e1 := (h13.cellAt hbw _).trans c1
 have e2 := (h13.cellAt hbR _).trans c2
 go_wp2_with (first
  | (go_at_call 38; refine (HWE w3 h13).mono ?_; rintro e w6 ⟨rfl, hS6⟩; have h16 := h13.trans hS6; obtain ⟨_, y0, y1, y2⟩ := PF.out _ h16; dsimp only at y0 y1 y2; have e3 := (h16.cellAt hbw _).trans c1; have e4 := (h16.cellAt hbR _).trans c2; obtain ⟨_, z0, z1, z2⟩ := QF.out _ hS6; dsimp only at z0 z1 z2)
  | (go_at_call 39; refine (HWC w6 hS6).mono ?_; rintro e w7 ⟨rfl, hS7⟩; have h17 := h16.trans hS7; have h37 := hS6.trans hS7; obtain ⟨_, t0, t1, t2⟩ := PF.out _ h17; dsimp only at t0 t1 t2; have e5 := (h17.cellAt hbw _).trans c1; have e6 := (h17.cellAt hbR _).trans c2; obtain ⟨_, r0, r1, r2⟩ := QF.out _ h37; dsimp only at r0 r1 r2; have n0 := (h17.cellAt hbh _).trans m0; have n1 := (h17.cellAt hbh _).trans m1; have n2 := (h17.cellAt hbh _).trans m2; have n3 := (h17.cellAt hbh _).trans m3; have n4 := (h17.cellAt hbh _).trans m4))
 clear f0 f1 f2 e1 e2 y0 y1 y2 e3 e4 z0 z1 z2 t0 t1 t2 e5 e6 r0 r1 r2 n0 n1 n2 n3 n4 p0 p1 p2 hw3 hw1 HWC HWE
 obtain ⟨w8, hw8⟩ : ∃ y, w7.alloc (.cells #[.int .i64 m.fr, .int .i64 m.gr, .int .i64 m.st, .bool false, .string m.body] 42) = y := ⟨_, rfl⟩
 have hS8 : Since w7 w8 := by rw [← hw8]; exact (Since.refl w7).alloc _
 have MF : Hid (∀ y, Since w8 y → MsgAt y w7.heap.size 0 ⟨m.fr, m.gr, m.st, false, m.body⟩) := fun y hy => msg_box w7 42 ⟨m.fr, m.gr, m.st, false, m.body⟩ (by rw [← hw8] at hy; exact hy)
 have h18 := h17.trans hS8
 have h38 := h37.trans hS8
 try rw [hw8]
 clear hw8
 obtain ⟨S0, hS0⟩ : ∃ S0 : World → Prop, ∀ w', S0 w' ↔ Since w8 w' := ⟨_, fun _ => Iff.rfl⟩
 obtain ⟨W0, hW0⟩ : ∃ y, w8.drew = y := ⟨_, rfl⟩
 have hs0 : Since w8 W0 := by rw [← hW0]; exact Since.drew (Since.refl _)
 have hSi0 := (hS0 W0).2 hs0
 have hne : Nonempty (HeldW S0) := ⟨⟨_, hSi0⟩⟩
 have hneT := heldTrue w
 have x1 : ∀ y : HeldW S0, y.w.cell? ⟨w.heap.size, 1, none⟩ = some (.slice (some ⟨bn, on, none⟩) nl nc) := fun y => (PF.out _ (h18.trans ((hS0 _).1 y.h))).c1
 have x2 : ∀ y : HeldW S0, y.w.cell? ⟨w2.heap.size, 1, none⟩ = some (.slice (some ⟨bm, om, none⟩) nl cm) := fun y => (QF.out _ (h38.trans ((hS0 _).1 y.h))).c1
 have h28 := hS3.trans h38
 have j0 : ∀ y : HeldW S0, y.w.cell? ⟨bn, on + t * 4, none⟩ = _ := fun y => ((h18.trans ((hS0 _).1 y.h)).cellAt hbn _).trans k0
 have j1 : ∀ y : HeldW S0, y.w.cell? ⟨bn, on + t * 4 + 1, none⟩ = _ := fun y => ((h18.trans ((hS0 _).1 y.h)).cellAt hbn _).trans k1
 have j2 : ∀ y : HeldW S0, y.w.cell? ⟨bn, on + t * 4 + 2, none⟩ = _ := fun y => ((h18.trans ((hS0 _).1 y.h)).cellAt hbn _).trans k2
 have j3 : ∀ y : HeldW S0, y.w.cell? ⟨bn, on + t * 4 + 3, none⟩ = _ := fun y => ((h18.trans ((hS0 _).1 y.h)).cellAt hbn _).trans k3
 have I0 := i0
 have I1 := i1
 have I2 := i2
 have I3 := i3
 clear i0 i1 i2 i3
 have i0 : ∀ y : HeldW S0, y.w.cell? ⟨bm, om + t * 4, none⟩ = _ := fun y => ((h28.trans ((hS0 _).1 y.h)).cellAt hbm _).trans I0
 have i1 : ∀ y : HeldW S0, y.w.cell? ⟨bm, om + t * 4 + 1, none⟩ = _ := fun y => ((h28.trans ((hS0 _).1 y.h)).cellAt hbm _).trans I1
 have i2 : ∀ y : HeldW S0, y.w.cell? ⟨bm, om + t * 4 + 2, none⟩ = _ := fun y => ((h28.trans ((hS0 _).1 y.h)).cellAt hbm _).trans I2
 have i3 : ∀ y : HeldW S0, y.w.cell? ⟨bm, om + t * 4 + 3, none⟩ = _ := fun y => ((h28.trans ((hS0 _).1 y.h)).cellAt hbm _).trans I3
 go_upto_region 7 with fail
 go_cut [10, 11] (fun s10 s11 wx => ∃ p q, s10 = .pointer (some ⟨p, 0, none⟩) ∧ s11 = .pointer (some ⟨q, 0, none⟩) ∧ NdBox wx p (.int .i64 nd.clock) (.slice la nd.last.length lc) (.slice ha nd.held.length hc) (.slice ta nd.told.length tc) ∧ NdBox wx q (.int .i64 nd'.clock) (.slice la' nd'.last.length lc') (.slice ha' nd'.held.length hc') (.slice ta' nd'.told.length tc') ∧ Since w8 wx)
 case first =>
  refine beginM (fun w' => ∃ x : HeldW S0, w' = x.w) (by kernel_rfl) ?_
  rw [hW0]
  clear hW0
  refine tW 0 rfl ?_
  go_big_quiet_op
  refine tM 1 rfl (heldS_mk hSi0) ?_
  go_big_quiet_op
  refine tW 2 rfl ?_
  go_big_quiet_op
  refine tW 3 rfl ?_
  go_big_quiet_op
  refine tM 4 rfl (heldS_mk hSi0) ?_
  go_big_quiet_op
  refine tW 5 rfl ?_
  go_big_quiet_op
  refine tM 6 rfl (heldS_mk hSi0) ?_
  go_big_quiet_op
  refine tW 7 rfl ?_
  go_big_quiet_op
  refine tW 8 rfl ?_
  go_big_quiet_op
  refine tM 9 rfl (heldS_mk hSi0) ?_
  go_big_quiet_op
  obtain ⟨WA, hWA⟩ : ∃ y, W0.alloc (.cells #[.int .i64 0, .slice none 0 0, .slice none 0 0, .slice none 0 0] 45) = y := ⟨_, rfl⟩
  obtain ⟨WB, hWB⟩ : ∃ y, WA.alloc (.cells #[.int .i64 0, .slice none 0 0, .slice none 0 0, .slice none 0 0] 45) = y := ⟨_, rfl⟩
  have hSA : Since W0 WA := by rw [← hWA]; exact (Since.refl W0).alloc _
  have hSB : Since WA WB := by rw [← hWB]; exact (Since.refl WA).alloc _
  have hbA : NdBox WA W0.heap.size (.int .i64 0) (.slice none 0 0) (.slice none 0 0) (.slice none 0 0) := by rw [← hWA]; exact NdBox.new W0 _ _ _ _ _
  have hbB : NdBox WB WA.heap.size (.int .i64 0) (.slice none 0 0) (.slice none 0 0) (.slice none 0 0) := by rw [← hWB]; exact NdBox.new WA _ _ _ _ _
  have hsA := hs0.trans hSA
  have hsB := hsA.trans hSB
  have hPQ : ¬ W0.heap.size = WA.heap.size := by have := hbA.lt; omega
  have hQP : ¬ WA.heap.size = W0.heap.size := by have := hbA.lt; omega
  refine actM2 10 11 rfl rfl (by kernel_rfl) ?_ ?_
  ·intro K hK
   go_simp
   refine hK _ _ (fun _ _ => heldS_mk ((hS0 _).2 hsA)) ?_
   clear hK K
   refine actM 11 rfl (by kernel_rfl) ?_
   intro K hK
   go_simp
   refine hK _ _ (fun _ _ => heldS_mk ((hS0 _).2 hsB)) ?_
   clear hK K
   obtain ⟨WC, hWC⟩ : ∃ y, (((WB.setCell ⟨W0.heap.size, 0, none⟩ (.int .i64 nd.clock)).setCell ⟨W0.heap.size, 1, none⟩ (.slice la nd.last.length lc)).setCell ⟨W0.heap.size, 2, none⟩ (.slice ha nd.held.length hc)).setCell ⟨W0.heap.size, 3, none⟩ (.slice ta nd.told.length tc) = y := ⟨_, rfl⟩
   obtain ⟨WD, hWD⟩ : ∃ y, (((WC.setCell ⟨WA.heap.size, 0, none⟩ (.int .i64 nd'.clock)).setCell ⟨WA.heap.size, 1, none⟩ (.slice la' nd'.last.length lc')).setCell ⟨WA.heap.size, 2, none⟩ (.slice ha' nd'.held.length hc')).setCell ⟨WA.heap.size, 3, none⟩ (.slice ta' nd'.told.length tc') = y := ⟨_, rfl⟩
   have hFC : Fr (fun i => i = W0.heap.size) WB WC := by rw [← hWC]; exact put4_fr WB W0.heap.size _ _ _ _
   have hFD : Fr (fun i => i = WA.heap.size) WC WD := by rw [← hWD]; exact put4_fr WC WA.heap.size _ _ _ _
   have hbP : NdBox WB W0.heap.size (.int .i64 0) (.slice none 0 0) (.slice none 0 0) (.slice none 0 0) := by first | exact hbB | exact hbA.since hSB
   have hbQ : NdBox WB WA.heap.size (.int .i64 0) (.slice none 0 0) (.slice none 0 0) (.slice none 0 0) := by first | exact hbB | exact hbA.since hSB
   have hbPC : NdBox WC W0.heap.size (.int .i64 nd.clock) (.slice la nd.last.length lc) (.slice ha nd.held.length hc) (.slice ta nd.told.length tc) := by rw [← hWC]; exact hbP.put _ _ _ _
   have hbQC := hbQ.fr hFC hQP
   have hbQD : NdBox WD WA.heap.size (.int .i64 nd'.clock) (.slice la' nd'.last.length lc') (.slice ha' nd'.held.length hc') (.slice ta' nd'.told.length tc') := by rw [← hWD]; exact hbQC.put _ _ _ _
   have hbPD := hbPC.fr hFD hPQ
   have hsC : Since w8 WC := hFC.sinceBase hsB (fun i hi e => by have := hs0.size; have := hsA.size; omega)
   have hsD : Since w8 WD := hFD.sinceBase hsC (fun i hi e => by have := hs0.size; have := hsA.size; omega)
   obtain ⟨_, y0, y1, y2, y3, z0, z1, z2, z3⟩ := hbP
   obtain ⟨_, q0, q1, q2, q3, s0, s1, s2, s3⟩ := hbQC
   refine actM 12 rfl (by kernel_rfl) ?_
   intro K hK
   go_simp
   refine hK _ _ (fun _ _ => heldS_mk ((hS0 _).2 hsC)) ?_
   clear hK K
   refine actM 13 rfl (by kernel_rfl) ?_
   intro K hK
   go_simp
   refine hK _ _ (fun h => absurd h (by decide +kernel)) ?_
   clear hK K
   refine doneM (by kernel_rfl) ?_
   clear x1 x2 j0 j1 j2 j3 i0 i1 i2 i3 hne hneT y0 y1 y2 y3 z0 z1 z2 z3 q0 q1 q2 q3 s0 s1 s2 s3 hWC hWD hWA hWB
   go_wp2_with fail
   go_meet
   case rel => exact ⟨W0.heap.size, WA.heap.size, rfl, rfl, hbPD, hbQD, hsD⟩
  ·intro K hK
   go_simp
   refine hK _ _ (fun _ _ => heldS_mk ((hS0 _).2 hsA)) ?_
   clear hK K
   refine actM 10 rfl (by kernel_rfl) ?_
   intro K hK
   go_simp
   refine hK _ _ (fun _ _ => heldS_mk ((hS0 _).2 hsB)) ?_
   clear hK K
   obtain ⟨WC, hWC⟩ : ∃ y, (((WB.setCell ⟨WA.heap.size, 0, none⟩ (.int .i64 nd.clock)).setCell ⟨WA.heap.size, 1, none⟩ (.slice la nd.last.length lc)).setCell ⟨WA.heap.size, 2, none⟩ (.slice ha nd.held.length hc)).setCell ⟨WA.heap.size, 3, none⟩ (.slice ta nd.told.length tc) = y := ⟨_, rfl⟩
   obtain ⟨WD, hWD⟩ : ∃ y, (((WC.setCell ⟨W0.heap.size, 0, none⟩ (.int .i64 nd'.clock)).setCell ⟨W0.heap.size, 1, none⟩ (.slice la' nd'.last.length lc')).setCell ⟨W0.heap.size, 2, none⟩ (.slice ha' nd'.held.length hc')).setCell ⟨W0.heap.size, 3, none⟩ (.slice ta' nd'.told.length tc') = y := ⟨_, rfl⟩
   have hFC : Fr (fun i => i = WA.heap.size) WB WC := by rw [← hWC]; exact put4_fr WB WA.heap.size _ _ _ _
   have hFD : Fr (fun i => i = W0.heap.size) WC WD := by rw [← hWD]; exact put4_fr WC W0.heap.size _ _ _ _
   have hbP : NdBox WB WA.heap.size (.int .i64 0) (.slice none 0 0) (.slice none 0 0) (.slice none 0 0) := by first | exact hbB | exact hbA.since hSB
   have hbQ : NdBox WB W0.heap.size (.int .i64 0) (.slice none 0 0) (.slice none 0 0) (.slice none 0 0) := by first | exact hbB | exact hbA.since hSB
   have hbPC : NdBox WC WA.heap.size (.int .i64 nd.clock) (.slice la nd.last.length lc) (.slice ha nd.held.length hc) (.slice ta nd.told.length tc) := by rw [← hWC]; exact hbP.put _ _ _ _
   have hbQC := hbQ.fr hFC hPQ
   have hbQD : NdBox WD W0.heap.size (.int .i64 nd'.clock) (.slice la' nd'.last.length lc') (.slice ha' nd'.held.length hc') (.slice ta' nd'.told.length tc') := by rw [← hWD]; exact hbQC.put _ _ _ _
   have hbPD := hbPC.fr hFD hQP
   have hsC : Since w8 WC := hFC.sinceBase hsB (fun i hi e => by have := hs0.size; have := hsA.size; omega)
   have hsD : Since w8 WD := hFD.sinceBase hsC (fun i hi e => by have := hs0.size; have := hsA.size; omega)
   obtain ⟨_, y0, y1, y2, y3, z0, z1, z2, z3⟩ := hbP
   obtain ⟨_, q0, q1, q2, q3, s0, s1, s2, s3⟩ := hbQC
   refine actM 12 rfl (by kernel_rfl) ?_
   intro K hK
   go_simp
   refine hK _ _ (fun _ _ => heldS_mk ((hS0 _).2 hsC)) ?_
   clear hK K
   refine actM 13 rfl (by kernel_rfl) ?_
   intro K hK
   go_simp
   refine hK _ _ (fun h => absurd h (by decide +kernel)) ?_
   clear hK K
   refine doneM (by kernel_rfl) ?_
   clear x1 x2 j0 j1 j2 j3 i0 i1 i2 i3 hne hneT y0 y1 y2 y3 z0 z1 z2 z3 q0 q1 q2 q3 s0 s1 s2 s3 hWC hWD hWA hWB
   go_wp2_with fail
   go_meet
   case rel => exact ⟨WA.heap.size, W0.heap.size, rfl, rfl, hbPD, hbQD, hsD⟩
 obtain ⟨p, q, rfl, rfl, hbp, hbq, hSx⟩ := hcut
 clear j0 j1 j2 j3 i0 i1 i2 i3 x1 x2 hne hneT hS0 hs0 hSi0 hW0 W0 S0
 have h1c := h18.trans hSx
 have h3c := h38.trans hSx
 have h2c := h28.trans hSx
 obtain ⟨b0, b1, b2, b3, b4⟩ := MF.out _ hSx
 simp only [Nat.zero_add] at b0 b1 b2 b3 b4
 go_wp2_with fail
 clear b0 b1 b2 b3 b4
 obtain ⟨S0, hS0⟩ : ∃ S0 : World → Prop, ∀ w', S0 w' ↔ Since wc w' := ⟨_, fun _ => Iff.rfl⟩
 obtain ⟨W0, hW0⟩ : ∃ y, wc.drew = y := ⟨_, rfl⟩
 have hs0 : Since wc W0 := by rw [← hW0]; exact Since.drew (Since.refl _)
 have hSi0 := (hS0 W0).2 hs0
 have hne : Nonempty (HeldW S0) := ⟨⟨_, hSi0⟩⟩
 have hneT := heldTrue w
 have NF : Hid (∀ z, Since wc z → NdBox z p (.int .i64 nd.clock) (.slice la nd.last.length lc) (.slice ha nd.held.length hc) (.slice ta nd.told.length tc) ∧ NdBox z q (.int .i64 nd'.clock) (.slice la' nd'.last.length lc') (.slice ha' nd'.held.length hc') (.slice ta' nd'.told.length tc')) := fun z hz => ⟨hbp.since hz, hbq.since hz⟩
 have x1 : ∀ y : HeldW S0, y.w.cell? ⟨w.heap.size, 2, none⟩ = some (.slice (some ⟨bw, ow, none⟩) wl wk) := fun y => (PF.out _ (h1c.trans ((hS0 _).1 y.h))).c2
 have x2 : ∀ y : HeldW S0, y.w.cell? ⟨w2.heap.size, 2, none⟩ = some (.slice (some ⟨bv, ov, none⟩) wl cv) := fun y => (QF.out _ (h3c.trans ((hS0 _).1 y.h))).c2
 have x3 : ∀ y : HeldW S0, y.w.cell? ⟨bw, ow + f, none⟩ = _ := fun y => ((h1c.trans ((hS0 _).1 y.h)).cellAt hbw _).trans c1
 have x4 : ∀ y : HeldW S0, y.w.cell? ⟨bR, oR + t, none⟩ = _ := fun y => ((h1c.trans ((hS0 _).1 y.h)).cellAt hbR _).trans c2
 have x5 : ∀ y : HeldW S0, y.w.cell? ⟨bv, ov + f, none⟩ = _ := fun y => ((h2c.trans ((hS0 _).1 y.h)).cellAt hbv _).trans s1
 have x6 : ∀ y : HeldW S0, y.w.cell? ⟨br, orr + t, none⟩ = _ := fun y => ((h2c.trans ((hS0 _).1 y.h)).cellAt hbr _).trans s4
 have y0 : ∀ y : HeldW S0, y.w.cell? ⟨p, 0, none⟩ = _ := fun y => (NF.out _ ((hS0 _).1 y.h)).1.c0
 have y2 : ∀ y : HeldW S0, y.w.cell? ⟨p, 2, none⟩ = _ := fun y => (NF.out _ ((hS0 _).1 y.h)).1.c2
 have y3 : ∀ y : HeldW S0, y.w.cell? ⟨p, 3, none⟩ = _ := fun y => (NF.out _ ((hS0 _).1 y.h)).1.c3
 have z0 : ∀ y : HeldW S0, y.w.cell? ⟨q, 0, none⟩ = _ := fun y => (NF.out _ ((hS0 _).1 y.h)).2.c0
 have z2 : ∀ y : HeldW S0, y.w.cell? ⟨q, 2, none⟩ = _ := fun y => (NF.out _ ((hS0 _).1 y.h)).2.c2
 have z3 : ∀ y : HeldW S0, y.w.cell? ⟨q, 3, none⟩ = _ := fun y => (NF.out _ ((hS0 _).1 y.h)).2.c3
 have t2 : ∀ y : HeldW S0, y.w.cell? ⟨w7.heap.size, 2, none⟩ = some (.int .i64 m.st) := fun y => by have := (MF.out _ (hSx.trans ((hS0 _).1 y.h))).c2; simpa using this
 have hsl := HSL.out
 refine beginM (fun w' => ∃ x : HeldW S0, w' = x.w) (by kernel_rfl) ?_
 rw [hW0]
 clear hW0
 refine tW 0 rfl ?_
 go_big_quiet_op
 refine tM 1 rfl (heldS_mk hSi0) ?_
 go_big_quiet_op
 refine tW 2 rfl ?_
 go_big_quiet_op
 refine tW 3 rfl ?_
 go_big_quiet_op
 refine tM 4 rfl (heldS_mk hSi0) ?_
 go_big_quiet_op
 refine tW 5 rfl ?_
 go_big_quiet_op
 refine tW 6 rfl ?_
 go_big_quiet_op
 refine tM 7 rfl (heldS_mk hSi0) ?_
 go_big_quiet_op
 refine tW 8 rfl ?_
 go_big_quiet_op
 refine tM 9 rfl (heldS_mk hSi0) ?_
 go_big_quiet_op
 refine tW 10 rfl ?_
 go_big_quiet_op
 refine tW 11 rfl ?_
 go_big_quiet_op
 refine tM 12 rfl (heldS_mk hSi0) ?_
 go_big_quiet_op
 refine tW 13 rfl ?_
 go_big_quiet_op
 refine tW 14 rfl ?_
 go_big_quiet_op
 refine tM 15 rfl (heldS_mk hSi0) ?_
 go_big_quiet_op
 refine tM 16 rfl (heldS_mk hSi0) ?_
 refine quiet_out (v := .slice sa rest.length sc) ?_ ?_
 ·rcases hsl with ⟨h1, h2, h3, h4⟩ | ⟨h1, h3, h4⟩
  ·subst h1 h3 h4
   have hr : rest = [] := List.eq_nil_of_length_eq_zero h2
   subst hr
   go_big_quiet_op
   simp [Act.put]
  ·subst h3 h4
   have h1' : (1 : Int) < (mc : Int) := by omega
   go_big_quiet_op
   simp [Act.put]
 simp only [Act.put, List.setIfInBounds_toArray, List.set_cons_zero, List.set_cons_succ]
 refine actM 17 rfl (by kernel_rfl) ?_
 intro K hK
 go_simp
 refine (sameMsgs_any xa _ xc rest sa _ sc rest W0 (hMX.since (h2c.trans hs0)) (HMS.since (h1c.trans hs0))).mono ?_
 rw [sameMs_refl]
 rintro e W1 ⟨rfl, hs1⟩
 have hs01 := hs0.trans hs1
 have hSi1 := (hS0 W1).2 hs01
 refine hK _ _ (fun _ _ => heldS_mk hSi1) ?_
 clear hK K
 refine tW 18 rfl ?_
 go_big_quiet_op
 refine tW 19 rfl ?_
 go_big_quiet_op
 refine tW 20 rfl ?_
 go_big_quiet_op
 refine tM 21 rfl (heldS_mk hSi1) ?_
 go_big_quiet_op
 refine tW 22 rfl ?_
 go_big_quiet_op
 refine tM 23 rfl (heldS_mk hSi1) ?_
 go_big_quiet_op
 refine tW 24 rfl ?_
 go_big_quiet_op
 refine tW 25 rfl ?_
 go_big_quiet_op
 refine tW 26 rfl ?_
 go_big_quiet_op
 refine tW 27 rfl ?_
 go_big_quiet_op
 refine tM 28 rfl (heldS_mk hSi1) ?_
 go_big_quiet_op
 refine tW 29 rfl ?_
 go_big_quiet_op
 refine tM 30 rfl (heldS_mk hSi1) ?_
 go_big_quiet_op
 refine tW 31 rfl ?_
 go_big_quiet_op
 refine tW 32 rfl ?_
 go_big_quiet_op
 refine tW 33 rfl ?_
 go_big_quiet_op
 refine tW 34 rfl ?_
 go_big_quiet_op
 refine tM 35 rfl (heldS_mk hSi1) ?_
 go_big_quiet_op
 refine tM 36 rfl (heldS_mk hSi1) ?_
 go_big_quiet_op
 refine tW 37 rfl ?_
 go_big_quiet_op
 refine tM 38 rfl (heldS_mk hSi1) ?_
 go_big_quiet_op
 refine tM 39 rfl (heldS_mk hSi1) ?_
 go_big_quiet_op
 refine tW 40 rfl ?_
 go_big_quiet_op
 refine tW 41 rfl ?_
 go_big_quiet_op
 refine tM 42 rfl (heldS_mk hSi1) ?_
 go_big_quiet_op
 refine tM 43 rfl (heldS_mk hSi1) ?_
 go_big_quiet_op
 refine tW 44 rfl ?_
 go_big_quiet_op
 refine tM 45 rfl (heldS_mk hSi1) ?_
 go_big_quiet_op
 refine tM 46 rfl (heldS_mk hSi1) ?_
 go_big_quiet_op
 refine tW 47 rfl ?_
 go_big_quiet_op
 refine tW 48 rfl ?_
 go_big_quiet_op
 refine tW 49 rfl ?_
 go_big_quiet_op
 refine tW 50 rfl ?_
 go_big_quiet_op
 refine tW 51 rfl ?_
 go_big_quiet_op
 refine doneM (by kernel_rfl) ?_
 clear x1 x2 x3 x4 x5 x6 y0 y2 y3 z0 z2 z3 t2 hne hneT hsl hS0 hSi0 hSi1 S0
 have h1d := h1c.trans hs01
 have h3d := h3c.trans hs01
 have h2d := h2c.trans hs01
 obtain ⟨⟨_, y0, y1, y2, y3, _, _, _, _⟩, _⟩ := NF.out _ hs01
 obtain ⟨_, q0, q1, q2⟩ := QF.out _ h3d
 dsimp only at q0 q1 q2
 have i0 := (h2d.cellAt hbm _).trans I0
 have i1 := (h2d.cellAt hbm _).trans I1
 have i2 := (h2d.cellAt hbm _).trans I2
 have i3 := (h2d.cellAt hbm _).trans I3
 have z0 := (h2d.below.frozen (p := ⟨bm, om + t * 4, none⟩) hbm).trans (iz 0 (by omega))
 have z1 := (h2d.below.frozen (p := ⟨bm, om + t * 4 + 1, none⟩) hbm).trans (iz 1 (by omega))
 have z2 := (h2d.below.frozen (p := ⟨bm, om + t * 4 + 2, none⟩) hbm).trans (iz 2 (by omega))
 have z3 := (h2d.below.frozen (p := ⟨bm, om + t * 4 + 3, none⟩) hbm).trans (iz 3 (by omega))
 have s6 := (h2d.cellAt hbr _).trans s4
 obtain ⟨wN, hwN⟩ : ∃ y, (((W1.setCell ⟨bm, om + t * 4, none⟩ (.int .i64 nd.clock)).setCell ⟨bm, om + t * 4 + 1, none⟩ (.slice la nd.last.length lc)).setCell ⟨bm, om + t * 4 + 2, none⟩ (.slice ha nd.held.length hc)).setCell ⟨bm, om + t * 4 + 3, none⟩ (.slice ta nd.told.length tc) = y := ⟨_, rfl⟩
 have hFN : Fr (fun i => i = bm) W1 wN := by rw [← hwN]; exact put4at_fr W1 bm (om + t * 4) _ _ _ _
 have h1N : Since w1 wN := hFN.sinceBase h1d (fun i hi e => by omega)
 have hbmd : bm < W1.heap.size := Nat.lt_of_lt_of_le hbm h2d.size
 have hbrd : br < W1.heap.size := Nat.lt_of_lt_of_le hbr h2d.size
 have hbvd : bv < W1.heap.size := Nat.lt_of_lt_of_le hbv h2d.size
 have hlq : w2.heap.size < W1.heap.size := Nat.lt_of_lt_of_le hQ3.lt h3d.size
 have QN : Hid (∀ j, wN.cell? ⟨w2.heap.size, j, none⟩ = W1.cell? ⟨w2.heap.size, j, none⟩) := fun j => hFN.cell (p := ⟨w2.heap.size, j, none⟩) hlq (fun e => by simp at e; omega)
 have N0 := (QN.out 0).trans q0
 have N1 := (QN.out 1).trans q1
 have N2 := (QN.out 2).trans q2
 have R1 := (hFN.cell (p := ⟨bv, ov + f, none⟩) hbvd hnebv).trans ((h2d.cellAt hbv _).trans s1)
 have R2 := (hFN.cell (p := ⟨br, orr + t, none⟩) hbrd (fun e => hnebr e.symm)).trans s6
 have R3 : wN.frozen? ⟨br, orr + t, none⟩ = false := (hFN.frozen (p := ⟨br, orr + t, none⟩) hbrd (fun e => hnebr e.symm)).trans ((h2d.below.frozen (p := ⟨br, orr + t, none⟩) hbr).trans s5)
 go_wp2_with fail
 clear y0 y1 y2 y3 q0 q1 q2 z0 z1 z2 z3
 obtain ⟨S0, hS0⟩ : ∃ S0 : World → Prop, ∀ w', S0 w' ↔ Since wN w' := ⟨_, fun _ => Iff.rfl⟩
 obtain ⟨V0, hV0⟩ : ∃ y, wN.drew = y := ⟨_, rfl⟩
 have ht0 : Since wN V0 := by rw [← hV0]; exact Since.drew (Since.refl _)
 have hSi0 := (hS0 V0).2 ht0
 have hne : Nonempty (HeldW S0) := ⟨⟨_, hSi0⟩⟩
 have hneT := heldTrue w
 have hlN : w2.heap.size < wN.heap.size := Nat.lt_of_lt_of_le hlq hFN.size
 have hbvN : bv < wN.heap.size := Nat.lt_of_lt_of_le hbvd hFN.size
 have hbrN : br < wN.heap.size := Nat.lt_of_lt_of_le hbrd hFN.size
 have x1 : ∀ y : HeldW S0, y.w.cell? ⟨w.heap.size, 2, none⟩ = some (.slice (some ⟨bw, ow, none⟩) wl wk) := fun y => (PF.out _ (h1N.trans ((hS0 _).1 y.h))).c2
 have x2 : ∀ y : HeldW S0, y.w.cell? ⟨w2.heap.size, 2, none⟩ = some (.slice (some ⟨bv, ov, none⟩) wl cv) := fun y => (((hS0 _).1 y.h).cellAt hlN _).trans N2
 have x3 : ∀ y : HeldW S0, y.w.cell? ⟨bw, ow + f, none⟩ = _ := fun y => ((h1N.trans ((hS0 _).1 y.h)).cellAt hbw _).trans c1
 have x4 : ∀ y : HeldW S0, y.w.cell? ⟨bR, oR + t, none⟩ = _ := fun y => ((h1N.trans ((hS0 _).1 y.h)).cellAt hbR _).trans c2
 have x5 : ∀ y : HeldW S0, y.w.cell? ⟨bv, ov + f, none⟩ = _ := fun y => (((hS0 _).1 y.h).cellAt hbvN _).trans R1
 have r2 := (ht0.cellAt hbrN _).trans R2
 have r3 := (ht0.below.frozen (p := ⟨br, orr + t, none⟩) hbrN).trans R3
 obtain ⟨wF, hwF⟩ : ∃ y, V0.setCell ⟨br, orr + t, none⟩ (.slice (some ⟨bh, oh, none⟩) (rest.length + 1) mc) = y := ⟨_, rfl⟩
 have hBo := borrow_of (v := .slice (some ⟨bh, oh, none⟩) (rest.length + 1) mc) i0 i1 i2 i3 s6 hbmd hbrd hnebr hwN ht0
 have hFF : Fr (fun i => i = br) V0 wF := by rw [← hwF]; exact (Fr.refl _ V0).setCell _ _ (fun _ => rfl)
 have h1F : Since w1 wF := hFF.sinceBase (h1N.trans ht0) (fun i hi e => by omega)
 rw [hwF] at hBo
 have hXF : WAt wF ⟨xga, xgl, xgc, some ⟨bm, om, none⟩, nl, cm, some ⟨bv, ov, none⟩, wl, cv⟩ d := by
  have T := HT.out
  have h := (hO2.since h2d).borrow (d0 := d) (x := nd) (row := row) (row' := row') (l := m :: rest) HL.out.1 HL.out.2.1 hBo T.hx T.groups T.len T.wlen T.node T.wire T.hr T.hr' T.rlen T.rows T.hl rfl ⟨la, lc, rfl, hlc, hL.since vints_stable h1F⟩ ⟨ha, hc, rfl, hhc, hH.since h1F⟩ ⟨ta, tc, rfl, htc, hTo.since h1F⟩ ⟨some ⟨bh, oh, none⟩, mc, rfl, hmc, hMW.since h1F⟩
  rw [HL.out.2.2] at h
  exact h
 refine beginM (fun w' => ∃ x : HeldW S0, w' = x.w) (by kernel_rfl) ?_
 rw [hV0]
 clear hV0
 refine tW 0 rfl ?_
 go_big_quiet_op
 refine tM 1 rfl (heldS_mk hSi0) ?_
 go_big_quiet_op
 refine tW 2 rfl ?_
 go_big_quiet_op
 refine tW 3 rfl ?_
 go_big_quiet_op
 refine tM 4 rfl (heldS_mk hSi0) ?_
 go_big_quiet_op
 refine tW 5 rfl ?_
 go_big_quiet_op
 refine tW 6 rfl ?_
 go_big_quiet_op
 refine tM 7 rfl (heldS_mk hSi0) ?_
 go_big_quiet_op
 refine tW 8 rfl ?_
 go_big_quiet_op
 refine tW 9 rfl ?_
 go_big_quiet_op
 refine tM 10 rfl (heldS_mk hSi0) ?_
 go_big_quiet_op
 refine tW 11 rfl ?_
 go_big_quiet_op
 refine tW 12 rfl ?_
 go_big_quiet_op
 refine tM 13 rfl (heldS_mk hSi0) ?_
 go_big_quiet_op
 refine tW 14 rfl ?_
 go_big_quiet_op
 refine actM 15 rfl (by kernel_rfl) ?_
 intro K hK
 go_simp
 refine hK _ _ (fun h => absurd h (by decide +kernel)) ?_
 clear hK K
 refine doneM (by kernel_rfl) ?_
 try rw [hwF]
 clear x1 x2 x3 x4 x5 r2 r3 hne hneT hwF
 have BF : Hid (∀ j, wF.cell? ⟨w2.heap.size, j, none⟩ = wN.cell? ⟨w2.heap.size, j, none⟩) := fun j => (hFF.cell (p := ⟨w2.heap.size, j, none⟩) (Nat.lt_of_lt_of_le hlN ht0.size) (fun e => by simp at e; omega)).trans (ht0.cellAt hlN _)
 have XF : Hid (∀ y, Since wF y → y.cell? ⟨w2.heap.size, 0, none⟩ = some (.slice xga xgl xgc) ∧ y.cell? ⟨w2.heap.size, 1, none⟩ = some (.slice (some ⟨bm, om, none⟩) nl cm) ∧ y.cell? ⟨w2.heap.size, 2, none⟩ = some (.slice (some ⟨bv, ov, none⟩) wl cv)) := fun y hy => by
  have hlF : w2.heap.size < wF.heap.size := Nat.lt_of_lt_of_le (Nat.lt_of_lt_of_le hlN ht0.size) hFF.size
  exact ⟨(hy.cellAt hlF _).trans ((BF.out 0).trans N0), (hy.cellAt hlF _).trans ((BF.out 1).trans N1), (hy.cellAt hlF _).trans ((BF.out 2).trans N2)⟩
 have hSW := fun (y : World) (hy : Since wF y) => sameWorlds_true ⟨xga, xgl, xgc, some ⟨bm, om, none⟩, nl, cm, some ⟨bv, ov, none⟩, wl, cv⟩ ⟨ga, gl, gc, some ⟨bn, on, none⟩, nl, nc, some ⟨bw, ow, none⟩, wl, wk⟩ d y (hXF.since hy) (hwx.since (h1F.trans hy))
 dsimp only at hSW
 go_wp2_with (first
  | (go_at_call 35; refine (moveBegun_any wF).mono ?_; rintro e w10 ⟨rfl, hS10⟩; obtain ⟨y0, y1, y2⟩ := XF.out _ hS10; obtain ⟨_, f0, f1, f2⟩ := PF.out _ (h1F.trans hS10); dsimp only at f0 f1 f2)
  | (go_at_call 31; refine (hSW w10 hS10).mono ?_; rintro e w11 ⟨rfl, hS11⟩))
 go_ret
 exact ⟨by simp, hS1.trans (h1F.trans (hS10.trans hS11))⟩
theorem lawMoveTrue_any (x : WV) (d : Wd) (f t : Int) (w : World) (hW : WAt w x d) :
  Calls Tryz.prog 7 #[.agg #[.slice x.ga x.gl x.gc, .slice x.na x.nl x.nc, .slice x.wa x.wl x.wc], .int .i64 f, .int .i64 t] w fun e w' => e = .returned (.bool true) ∧ Since w w' := by
 cases hr : moveOfD d f t with
 | error er =>
  refine lawMoveTrue_err x d f t er w hW hr ?_
  have h3 : doD d ⟨3, f, t, ByteArray.empty⟩ = .error er := by
   unfold doD; dsimp only; rw [if_neg (by decide), if_neg (by decide), if_pos rfl]; exact hr
  have := doD_nz (by simp) h3
  simpa using this
 | ok d' =>
  obtain ⟨a, b, nd, nd', m, rest, row, row', rfl, rfl, T⟩ := moveTrueD hr
  cases hn : m.nul
  ·exact lawMoveTrue_false x d d' a b nd nd' m rest row row' w hW T hr hn
  ·exact lawMoveTrue_true x d d' a b nd nd' m rest row row' w hW T hr hn
end Go.Proofs.YtiiifecfdkjmbaaGreat
