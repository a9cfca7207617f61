/- The law CastTrue answers true; conditions: the world reads as one. -/
import Derived.Test.YtiiifecfdkjmbaaLCast
import Derived.Test.YtiiifecfdkjmbaaPureT
namespace Go.Proofs.Ytiiifecfdkjmbaa
set_option maxRecDepth 8000
open Go.RowKit Go.Shelf
open _root_.Go.Proofs.Ytiiifecfdkjmbaa.Pure
set_option linter.unusedVariables false
set_option linter.unusedSimpArgs false
set_option maxHeartbeats 1000000 in
theorem lawCastTrue_err (x : WV) (d : Wd) (n g : Int) (body : ByteArray) (er : Int) (w : World) (hW : WAt w x d) (hr : checked d (castD d n g false body) = .error er) (her : (er != 0) = true) :
  Calls Try.prog 9 #[.agg #[.slice x.ga x.gl x.gc, .slice x.na x.nl x.nc, .slice x.wa x.wl x.wc], .int .i64 n, .int .i64 g, .string body] w fun e w' => e = .returned (.bool true) ∧ Since w w' := by
 obtain ⟨ga, gl, gc, na, nl, nc, wa, wl, wk⟩ := x
 dsimp only
 obtain ⟨w1, hw1⟩ : ∃ wp, w.alloc (.cells #[.slice ga gl gc, .slice na nl nc, .slice wa wl wk] 26) = wp := ⟨_, rfl⟩
 have hP1 : ParBox w1 w.heap.size ⟨ga, gl, gc, na, nl, nc, wa, wl, wk⟩ := by rw [← hw1]; exact ParBox.new w ⟨ga, gl, gc, na, nl, nc, wa, wl, wk⟩ _
 have hS1 : Since w w1 := by rw [← hw1]; exact (Since.refl w).alloc _
 have hW1 := hW.since hS1
 have p0 := hP1.c0
 have p1 := hP1.c1
 have p2 := hP1.c2
 dsimp only at p0 p1 p2
 have hA := castSend_any ⟨ga, gl, gc, na, nl, nc, wa, wl, wk⟩ d n g body w1 hW1
 rw [hr] at hA
 dsimp only at hA
 clear hr hW
 go_enter Try.func9, Try.ntmps9
 go_wp2_with fail
 refine hA.mono ?_
 rintro e w2 hR2
 obtain ⟨rfl, hS2⟩ := hR2.out.1 er rfl
 obtain ⟨w3, hw3⟩ : ∃ y, w2.alloc (.cells #[.slice none 0 0, .slice none 0 0, .slice none 0 0] 26) = y := ⟨_, rfl⟩
 have hS3' : Since w2 w3 := by rw [← hw3]; exact (Since.refl w2).alloc _
 have hN3 : NilBox w3 w2.heap.size := by rw [← hw3]; exact NilBox.new w2 _
 obtain ⟨w4, hw4⟩ : ∃ y, ((w3.setCell ⟨w2.heap.size, 0, none⟩ (.slice none 0 0)).setCell ⟨w2.heap.size, 1, none⟩ (.slice none 0 0)).setCell ⟨w2.heap.size, 2, none⟩ (.slice none 0 0) = y := ⟨_, rfl⟩
 have hF4 : Fr (fun i => i = w2.heap.size) w3 w4 := by rw [← hw4]; exact put3_fr w3 w2.heap.size _ _ _
 have hS4 : Since w2 w4 := hF4.sinceBase hS3' (fun i hi e => by omega)
 obtain ⟨_, r0, r1, r2, r3, r4, r5⟩ := hN3
 go_wp2_with (go_at_call 30; refine (castBegun_any w4).mono ?_; rintro e w8 ⟨rfl, hS8⟩)
 go_ret
 exact ⟨by simp, hS1.trans (hS2.trans (hS4.trans hS8))⟩
set_option maxHeartbeats 2000000 in
theorem lawCastTrue_ok (x : WV) (d d' : Wd) (n : Nat) (g : Int) (body : ByteArray) (nd nd' : Nd) (w : World) (hW : WAt w x d) (T : CastTrueD d d' n g body nd nd') (hr : checked d (castD d (n : Int) g false body) = .ok d') :
  Calls Try.prog 9 #[.agg #[.slice x.ga x.gl x.gc, .slice x.na x.nl x.nc, .slice x.wa x.wl x.wc], .int .i64 n, .int .i64 g, .string body] w fun e w' => e = .returned (.bool true) ∧ Since w w' := by
 have hn := node_lt T.hx
 have hE0 := (right_iff d).2 T.was
 have hE1 := (right_iff d').2 T.right
 obtain ⟨ga, gl, gc, na, nl, nc, wa, wl, wk⟩ := x
 dsimp only
 obtain ⟨w1, hw1⟩ : ∃ wp, w.alloc (.cells #[.slice ga gl gc, .slice na nl nc, .slice wa wl wk] 26) = wp := ⟨_, rfl⟩
 have hP1 : ParBox w1 w.heap.size ⟨ga, gl, gc, na, nl, nc, wa, wl, wk⟩ := by rw [← hw1]; exact ParBox.new w ⟨ga, gl, gc, na, nl, nc, wa, wl, wk⟩ _
 have hS1 : Since w w1 := by rw [← hw1]; exact (Since.refl w).alloc _
 have hW1 := hW.since hS1
 have p0 := hP1.c0
 have p1 := hP1.c1
 have p2 := hP1.c2
 dsimp only at p0 p1 p2
 have PF : Hid (∀ y, Since w1 y → ParBox y w.heap.size ⟨ga, gl, gc, na, nl, nc, wa, wl, wk⟩) := fun y hy => hP1.since hy
 have hA := castSend_any ⟨ga, gl, gc, na, nl, nc, wa, wl, wk⟩ d n g body w1 hW1
 rw [hr] at hA
 dsimp only at hA
 have hnl := hW1.n.hlen
 have hwl := hW1.r.hlen
 have hG1 := hW1.g
 have hnm := hW1.n.hmax
 have hwm := hW1.r.hmax
 dsimp only at hnl hwl hG1 hnm hwm
 obtain ⟨bn, on, rfl, hbn, hcn⟩ := hW1.n.cells (by dsimp only; omega)
 obtain ⟨k0, ⟨v1, k1, la, lc, rfl, hlc, hL⟩, ⟨v2, k2, ha, hc, rfl, hhc, hH⟩, ⟨v3, k3, ta, tc, rfl, htc, hT⟩⟩ := hcn n nd T.hx
 obtain ⟨bw, ow, rfl, hbw, hcw⟩ := hW1.r.cells (by dsimp only; have := T.dlen; omega)
 have HT : Hid (CastTrueD d d' n g body nd nd') := T
 have HCW : Hid (∀ i x, d.wires[i]? = some x → ∃ v, w1.cell? ⟨bw, ow + i, none⟩ = some v ∧ VSlices VMsgs w1 v x) := hcw
 have HWA := fun (y : World) (hy : Since w1 y) => worldError_any ⟨ga, gl, gc, some ⟨bn, on, none⟩, nl, nc, some ⟨bw, ow, none⟩, wl, wk⟩ d y (hW1.since hy)
 rw [hE0] at HWA
 dsimp only at HWA
 have HNL : Hid (d.nodes.length = nl) := hnl
 have HWL : Hid (d.wires.length = wl) := hwl
 have n1 : (n : Int) < (nl : Int) := by omega
 have u1 : decide (nl ≤ n) = false := by simp; omega
 have u2 : decide ((n : Int) < 0) = false := by simp
 have u3 : decide ((nl : Int) ≤ (n : Int)) = false := by simp; omega
 have hclk := T.clk
 have htop := T.top
 have hlo := (T.was.clk n).1
 rw [clkAt_of T.hx] at hlo
 have HCLK : Hid (nd'.clock = nd.clock + 1) := hclk
 have hadd : IntKind.i64.wrap (nd.clock + 1) = nd.clock + 1 := IntWalk.i64_in _ (by omega)
 have HN1 : Hid (d'.nodes.length = d.nodes.length) := T.len
 have HW' : Hid (d'.wires.length = d.wires.length) := T.wlen
 clear hr hW hcn T hcw hnl hwl hclk
 go_enter Try.func9, Try.ntmps9
 go_wp2_with fail
 refine hA.mono ?_
 rintro e w2 hR2
 obtain ⟨⟨xga, xgl, xgc, xna, xnl, xnc, xwa, xwl, xwc⟩, rfl, hX2, hS2⟩ := resW_wat hR2
 dsimp only
 obtain ⟨w3, hw3⟩ : ∃ y, w2.alloc (.cells #[.slice xga xgl xgc, .slice xna xnl xnc, .slice xwa xwl xwc] 26) = y := ⟨_, rfl⟩
 have hS3 : Since w2 w3 := by rw [← hw3]; exact (Since.refl w2).alloc _
 have hQ3 : ParBox w3 w2.heap.size ⟨xga, xgl, xgc, xna, xnl, xnc, xwa, xwl, xwc⟩ := by rw [← hw3]; exact ParBox.new w2 ⟨xga, xgl, xgc, xna, xnl, xnc, xwa, xwl, xwc⟩ _
 have h13 := hS2.trans hS3
 have hX3 := hX2.since hS3
 have hxnl : xnl = nl := by have := hX3.n.hlen; dsimp only at this; have := HN1.out; have := HNL.out; omega
 have hxwl : xwl = wl := by have := hX3.r.hlen; dsimp only at this; have := HW'.out; have := HWL.out; omega
 subst hxnl hxwl
 obtain ⟨bm, om, hxe, hbm, hcm⟩ := hX3.n.cells (by dsimp only; omega)
 dsimp only at hxe
 subst hxe
 obtain ⟨i0, ⟨y1, i1, la', lc', rfl, hlc', hL'⟩, ⟨y2, i2, ha', hc', rfl, hhc', hH'⟩, ⟨y3, i3, ta', tc', rfl, htc', hT'⟩⟩ := hcm n nd' HT.out.hx'
 obtain ⟨bv, ov, hxe, hbv, hcv⟩ := hX3.r.cells (by dsimp only; have := HWL.out; have := HT.out.dlen; have := HNL.out; omega)
 dsimp only at hxe
 subst hxe
 have HCV : Hid (∀ i x, d'.wires[i]? = some x → ∃ v, w3.cell? ⟨bv, ov + i, none⟩ = some v ∧ VSlices VMsgs w3 v x) := hcv
 have QF : Hid (∀ y, Since w3 y → ParBox y w2.heap.size ⟨xga, xgl, xgc, some ⟨bm, om, none⟩, xnl, xnc, some ⟨bv, ov, none⟩, xwl, xwc⟩) := fun y hy => hQ3.since hy
 have HWC := fun (y : World) (hy : Since w3 y) => worldCheck_any ⟨xga, xgl, xgc, some ⟨bm, om, none⟩, xnl, xnc, some ⟨bv, ov, none⟩, xwl, xwc⟩ d' y (hX3.since hy)
 rw [hE1] at HWC
 dsimp only at HWC
 obtain ⟨_, f0, f1, f2⟩ := PF.out _ h13
 dsimp only at f0 f1 f2
 have q0 := hQ3.c0
 have q1 := hQ3.c1
 have q2 := hQ3.c2
 dsimp only at q0 q1 q2
 rw [HCLK.out] at i0
 clear hcm hcv hR2 hA hE0 hE1
 go_wp2_with (go_at_call 18; refine (HWA w3 h13).mono ?_; rintro e w6 ⟨rfl, hS6⟩; obtain ⟨_, g0, g1, g2⟩ := PF.out _ (h13.trans hS6); dsimp only at g0 g1 g2)
 clear f0 f1 f2 q0 q1 q2 hw3 hw1 g0 g1 g2 p0 p1 p2
 have h16 := h13.trans hS6
 obtain ⟨S0, hS0⟩ : ∃ S0 : World → Prop, ∀ w', S0 w' ↔ Since w6 w' := ⟨_, fun _ => Iff.rfl⟩
 have x0 : ∀ y : HeldW S0, y.w.cell? ⟨w2.heap.size, 0, none⟩ = some (.slice xga xgl xgc) := fun y => (QF.out _ (hS6.trans ((hS0 _).1 y.h))).c0
 have x1 : ∀ y : HeldW S0, y.w.cell? ⟨w2.heap.size, 1, none⟩ = some (.slice (some ⟨bm, om, none⟩) xnl xnc) := fun y => (QF.out _ (hS6.trans ((hS0 _).1 y.h))).c1
 have x2 : ∀ y : HeldW S0, y.w.cell? ⟨w2.heap.size, 2, none⟩ = some (.slice (some ⟨bv, ov, none⟩) xwl xwc) := fun y => (QF.out _ (hS6.trans ((hS0 _).1 y.h))).c2
 have y0 : ∀ y : HeldW S0, y.w.cell? ⟨w.heap.size, 1, none⟩ = some (.slice (some ⟨bn, on, none⟩) xnl nc) := fun y => (PF.out _ (h16.trans ((hS0 _).1 y.h))).c1
 have j0 : ∀ y : HeldW S0, y.w.cell? ⟨bn, on + n * 4, none⟩ = _ := fun y => ((h16.trans ((hS0 _).1 y.h)).cellAt hbn _).trans k0
 have l0 : ∀ y : HeldW S0, y.w.cell? ⟨bm, om + n * 4, none⟩ = _ := fun y => ((hS6.trans ((hS0 _).1 y.h)).cellAt hbm _).trans i0
 obtain ⟨W0, hW0⟩ : ∃ y, w6.drew = y := ⟨_, rfl⟩
 have hs0 : Since w6 W0 := by rw [← hW0]; exact Since.drew (Since.refl _)
 have hSi0 := (hS0 W0).2 hs0
 have hne : Nonempty (HeldW S0) := ⟨⟨_, hSi0⟩⟩
 have hneT := heldTrue w
 refine beginM (fun w' => ∃ x : HeldW S0, w' = x.w) (by kernel_rfl) ?_
 rw [hW0]
 clear hW0
 refine tM 0 rfl (heldS_mk hSi0) ?_
 go_big_quiet_op
 refine actM 1 rfl (by kernel_rfl) ?_
 intro K hK
 go_simp
 refine (HWC W0 (hS6.trans hs0)).mono ?_
 rintro e W1 ⟨rfl, hs1⟩
 have hs01 := hs0.trans hs1
 have hSi1 := (hS0 W1).2 hs01
 refine hK _ _ (fun _ _ => heldS_mk hSi1) ?_
 clear hK K
 refine tW 2 rfl ?_
 go_big_quiet_op
 refine tW 3 rfl ?_
 go_big_quiet_op
 refine tW 4 rfl ?_
 go_big_quiet_op
 refine tM 5 rfl (heldS_mk hSi1) ?_
 go_big_quiet_op
 refine tM 6 rfl (heldS_mk hSi1) ?_
 go_big_quiet_op
 refine tW 7 rfl ?_
 go_big_quiet_op
 refine tM 8 rfl (heldS_mk hSi1) ?_
 go_big_quiet_op
 refine tM 9 rfl (heldS_mk hSi1) ?_
 go_big_quiet_op
 refine tW 10 rfl ?_
 go_big_quiet_op
 refine tW 11 rfl ?_
 go_big_quiet_op
 refine tW 12 rfl ?_
 go_big_quiet_op
 refine tW 13 rfl ?_
 go_big_quiet_op
 refine tM 14 rfl (heldS_mk hSi1) ?_
 go_big_quiet_op
 refine tW 15 rfl ?_
 go_big_quiet_op
 refine tW 16 rfl ?_
 go_big_quiet_op
 refine tW 17 rfl ?_
 go_big_quiet_op
 refine tM 18 rfl (heldS_mk hSi1) ?_
 go_big_quiet_op
 refine tW 19 rfl ?_
 go_big_quiet_op
 refine tM 20 rfl (heldS_mk hSi1) ?_
 go_big_quiet_op
 refine tW 21 rfl ?_
 go_big_quiet_op
 refine tW 22 rfl ?_
 go_big_quiet_op
 refine tW 23 rfl ?_
 go_big_quiet_op
 refine tM 24 rfl (heldS_mk hSi1) ?_
 go_big_quiet_op
 refine tW 25 rfl ?_
 go_big_quiet_op
 refine tW 26 rfl ?_
 go_big_quiet_op
 refine tW 27 rfl ?_
 go_big_quiet_op
 refine doneM (by kernel_rfl) ?_
 clear x0 x1 x2 y0 j0 l0 hne hneT
 have h1W := h16.trans hs01
 have h3W := hS6.trans hs01
 obtain ⟨_, q0, q1, q2⟩ := QF.out _ h3W
 dsimp only at q0 q1 q2
 have m0 := (h3W.cellAt hbm _).trans i0
 go_wp2_with (go_at_call 31; refine (say_any _ _ _ _ W1).mono ?_; rintro e w7 ⟨rfl, hS7⟩)
 obtain ⟨w8, hw8⟩ : ∃ y, w7.alloc (.cells #[.int .i64 n, .int .i64 g, .int .i64 (nd.clock + 1), .bool false, .string body] 48) = y := ⟨_, rfl⟩
 rw [hw8]
 have hS8 : Since w7 w8 := by rw [← hw8]; exact (Since.refl w7).alloc _
 have hW8 := hS7.trans hS8
 have h18 := h1W.trans hW8
 have h38 := h3W.trans hW8
 have MF : Hid (∀ y, Since w8 y → MsgAt y w7.heap.size 0 ⟨(n : Int), g, nd.clock + 1, false, body⟩) := fun y hy => msg_box w7 48 ⟨(n : Int), g, nd.clock + 1, false, body⟩ (by rw [← hw8] at hy; exact hy)
 have HWIRE : Hid (∀ a b, wireAt d' a b = if a = n ∧ b ≠ n ∧ b < d.nodes.length ∧ hasB d.groups g b = true then wireAt d a b ++ [⟨(n : Int), g, nd.clock + 1, false, body⟩] else wireAt d a b) := fun a b => by
  have := HT.out.wire a b; rw [HCLK.out] at this; exact this
 clear q0 q1 q2 m0 hw8
 go_loopw [12] (fun i wr => ∃ a : Nat, a ≤ xwl ∧ i = .int .i64 a ∧ Since w8 wr) (fun i _ => xwl - (intOf i).toNat)
 case atStart => exact ⟨0, Nat.zero_le _, rfl, Since.refl _⟩
 case round =>
  obtain ⟨wo, rfl⟩ : ∃ wo, wo = wr := ⟨_, rfl⟩
  obtain ⟨a, ha, rfl, hSo⟩ := hrel
  have h1o := h18.trans hSo
  have h3o := h38.trans hSo
  obtain ⟨_, f0, f1, f2⟩ := PF.out _ h1o
  dsimp only at f0 f1 f2
  by_cases hlt : a < xwl
  ·obtain ⟨row, hrow⟩ : ∃ r, d.wires[a]? = some r := ⟨_, List.getElem?_eq_getElem (by rw [HWL.out]; exact hlt)⟩
   obtain ⟨row', hrow'⟩ : ∃ r, d'.wires[a]? = some r := ⟨_, List.getElem?_eq_getElem (by rw [HW'.out, HWL.out]; exact hlt)⟩
   obtain ⟨v, c1, ra, rc, rfl, hrc, hRow⟩ := HCW.out a row hrow
   obtain ⟨v', c1', ra', rc', rfl, hrc', hRow'⟩ := HCV.out a row' hrow'
   have HRN : Hid (row.length = d.nodes.length) := HT.out.was.rlen a row hrow
   have HRL : Hid (row'.length = row.length) := by have h1 := HT.out.right.rlen a row' hrow'; have h2 := HRN.out; have h3 := HN1.out; unfold Hid; omega
   have a1 : (a : Int) < (xwl : Int) := by omega
   have j1 := (h1o.cellAt hbw _).trans c1
   have hrm := hRow.hmax
   have HR : Hid (d.wires[a]? = some row) := hrow
   have HR' : Hid (d'.wires[a]? = some row') := hrow'
   clear hrow hrow'
   go_wp2_with fail
   go_loopw [13] (fun i wr => ∃ b : Nat, b ≤ row.length ∧ i = .int .i64 b ∧ Since w8 wr) (fun i _ => row.length - (intOf i).toNat)
   case atStart => exact ⟨0, Nat.zero_le _, rfl, hSo⟩
   case round =>
    clear f0 f1 f2 j1
    obtain ⟨wi, rfl⟩ : ∃ wi, wi = wr := ⟨_, rfl⟩
    obtain ⟨b, hb, rfl, hSi⟩ := hrel
    have h1i := h18.trans hSi
    have h3i := h38.trans hSi
    obtain ⟨_, f0, f1, f2⟩ := PF.out _ h1i
    dsimp only at f0 f1 f2
    have j1 := (h1i.cellAt hbw _).trans c1
    by_cases hbl : b < row.length
    ·obtain ⟨l, hl⟩ : ∃ l, row[b]? = some l := ⟨_, List.getElem?_eq_getElem hbl⟩
     obtain ⟨l', hl'⟩ : ∃ l, row'[b]? = some l := ⟨_, List.getElem?_eq_getElem (by rw [HRL.out]; exact hbl)⟩
     obtain ⟨bR, oR, rfl, hbR, hcR⟩ := hRow.cells (by omega)
     obtain ⟨v5, k5, ma, mc, rfl, hmc, hM⟩ := hcR b l hl
     obtain ⟨bR', oR', rfl, hbR', hcR'⟩ := hRow'.cells (by have := HRL.out; omega)
     obtain ⟨v6, k6, ma', mc', rfl, hmc', hM'⟩ := hcR' b l' hl'
     have HEQ := (show Hid _ from HWIRE.out a b)
     rw [wireAt_some HR'.out hl', wireAt_some HR.out hl] at HEQ
     have l40 : l.length ≤ 40 := by have := HT.out.was.wireN a b; rw [wireAt_some HR.out hl] at this; exact this
     have l40' : l'.length ≤ 40 := by have := HT.out.right.wireN a b; rw [wireAt_some HR'.out hl'] at this; exact this
     have HBN : Hid (b < d.nodes.length) := by have := HRN.out; unfold Hid; omega
     have j2 := (h1i.cellAt hbR _).trans k5
     have b1 : (b : Int) < (row.length : Int) := by omega
     have b1' : (b : Int) < (row'.length : Int) := by have := HRL.out; omega
     obtain ⟨wA, hwA⟩ : ∃ y, wi.alloc (.cells #[] 48) = y := ⟨_, rfl⟩
     have hSA : Since wi wA := by rw [← hwA]; exact (Since.refl wi).alloc _
     have hRA : Row wA w8.heap.size 5 ⟨some ⟨wi.heap.size, 0, none⟩, 0⟩ 0 [] := by rw [← hwA]; exact Row.empty wi _ 5 _
     have FA := PF.out _ (h1i.trans hSA)
     have fa0 := FA.c0
     have fa1 := FA.c1
     have fa2 := FA.c2
     dsimp only at fa0 fa1 fa2
     have ja1 := ((h1i.trans hSA).cellAt hbw _).trans c1
     have ja2 := ((h1i.trans hSA).cellAt hbR _).trans k5
     clear hcR hcR' hl hl' FA
     cases e1 : ((a : Int) == (n : Int))
     ·have HL : Hid (l' = l) := by have := HEQ.out; rwa [if_neg (by intro h; rw [h.1] at e1; simp at e1)] at this
      obtain rfl := HL.out
      go_wp2_with (first
       | (at_builtin; refine wp_app etMsg rfl _ _ 39 rfl rfl hRA rfl (src_msgs (c := mc) (hM.since (h1i.trans hSA))) (by omega) (Nat.le_trans hSi.size hSA.size) ?_; intro sa sc wB hRB hFB hBB; simp only [Nat.zero_add, List.nil_append] at hRB; have hSB : Since w8 wB := (hSi.trans hSA).trans (hFB.since (fun i _ e => by unfold Sl.blk at e; simp at e)); have e1b := h18.trans hSB; have e3b := h38.trans hSB; obtain ⟨_, f0b, f1b, f2b⟩ := PF.out _ e1b; dsimp only at f0b f1b f2b; obtain ⟨_, q0b, q1b, q2b⟩ := QF.out _ e3b; dsimp only at q0b q1b q2b; obtain ⟨t0b, t1b, t2b, t3b, t4b⟩ := MF.out _ hSB; have j1b := (e1b.cellAt hbw _).trans c1; have j2b := (e1b.cellAt hbR _).trans k5; have i1b := (e3b.cellAt hbv _).trans c1'; have i2b := (e3b.cellAt hbR' _).trans k6; try simp only [Nat.zero_add])
       | (go_at_call 24; refine (sameMsgs_any ma' _ mc' l' sa _ sc l' wB (hM'.since e3b) (row_msgs hRB (by omega))).mono ?_; rw [sameMs_refl]; rintro e wC ⟨rfl, hSC⟩))
      go_roundw
      case rel => exact ⟨b + 1, by omega, by go_num, hSB.trans hSC⟩
      case measure => simp [intOf]; omega
     ·have hae : a = n := by have := beq_iff_eq.1 e1; omega
      have HAE : Hid (a = n) := hae
      clear hae
      cases e2 : ((b : Int) != (n : Int))
      ·have HL : Hid (l' = l) := by have := HEQ.out; rwa [if_neg (by intro h; have h1 := h.2.1; simp at e2; omega)] at this
       obtain rfl := HL.out
       go_wp2_with (first
        | (at_builtin; refine wp_app etMsg rfl _ _ 39 rfl rfl hRA rfl (src_msgs (c := mc) (hM.since (h1i.trans hSA))) (by omega) (Nat.le_trans hSi.size hSA.size) ?_; intro sa sc wB hRB hFB hBB; simp only [Nat.zero_add, List.nil_append] at hRB; have hSB : Since w8 wB := (hSi.trans hSA).trans (hFB.since (fun i _ e => by unfold Sl.blk at e; simp at e)); have e1b := h18.trans hSB; have e3b := h38.trans hSB; obtain ⟨_, f0b, f1b, f2b⟩ := PF.out _ e1b; dsimp only at f0b f1b f2b; obtain ⟨_, q0b, q1b, q2b⟩ := QF.out _ e3b; dsimp only at q0b q1b q2b; obtain ⟨t0b, t1b, t2b, t3b, t4b⟩ := MF.out _ hSB; have j1b := (e1b.cellAt hbw _).trans c1; have j2b := (e1b.cellAt hbR _).trans k5; have i1b := (e3b.cellAt hbv _).trans c1'; have i2b := (e3b.cellAt hbR' _).trans k6; try simp only [Nat.zero_add])
        | (go_at_call 24; refine (sameMsgs_any ma' _ mc' l' sa _ sc l' wB (hM'.since e3b) (row_msgs hRB (by omega))).mono ?_; rw [sameMs_refl]; rintro e wC ⟨rfl, hSC⟩))
       go_roundw
       case rel => exact ⟨b + 1, by omega, by go_num, hSB.trans hSC⟩
       case measure => simp [intOf]; omega
      ·cases e3 : hasB d.groups g b
       ·have HL : Hid (l' = l) := by have := HEQ.out; rwa [if_neg (by intro h; have h1 := h.2.2.2; rw [e3] at h1; cases h1)] at this
        obtain rfl := HL.out
        go_wp2_with (first
         | (at_builtin; refine wp_app etMsg rfl _ _ 39 rfl rfl hRA rfl (src_msgs (c := mc) (hM.since (h1i.trans hSA))) (by omega) (Nat.le_trans hSi.size hSA.size) ?_; intro sa sc wB hRB hFB hBB; simp only [Nat.zero_add, List.nil_append] at hRB; have hSB : Since w8 wB := (hSi.trans hSA).trans (hFB.since (fun i _ e => by unfold Sl.blk at e; simp at e)); have e1b := h18.trans hSB; have e3b := h38.trans hSB; obtain ⟨_, f0b, f1b, f2b⟩ := PF.out _ e1b; dsimp only at f0b f1b f2b; obtain ⟨_, q0b, q1b, q2b⟩ := QF.out _ e3b; dsimp only at q0b q1b q2b; obtain ⟨t0b, t1b, t2b, t3b, t4b⟩ := MF.out _ hSB; have j1b := (e1b.cellAt hbw _).trans c1; have j2b := (e1b.cellAt hbR _).trans k5; have i1b := (e3b.cellAt hbv _).trans c1'; have i2b := (e3b.cellAt hbR' _).trans k6; try simp only [Nat.zero_add])
         | (go_at_call 25; refine (has_any _ _ _ d.groups _ _ wB (hG1.since e1b)).mono ?_; rw [e3]; rintro e w' ⟨rfl, hw'⟩; obtain rfl := hw'.symm)
         | (go_at_call 24; refine (sameMsgs_any ma' _ mc' l' sa _ sc l' wB (hM'.since e3b) (row_msgs hRB (by omega))).mono ?_; rw [sameMs_refl]; rintro e wC ⟨rfl, hSC⟩))
        go_roundw
        case rel => exact ⟨b + 1, by omega, by go_num, hSB.trans hSC⟩
        case measure => simp [intOf]; omega
       ·have HL : Hid (l' = l ++ [⟨(n : Int), g, nd.clock + 1, false, body⟩]) := by have := HEQ.out; rwa [if_pos ⟨HAE.out, by intro h; rw [h] at e2; simp at e2, HBN.out, e3⟩] at this
        have HLL : Hid (l.length + 1 = l'.length) := by unfold Hid; rw [HL.out]; simp
        have hlt40 : l.length + 1 ≤ 40 := by have := HLL.out; omega
        go_wp2_with (first
         | (at_builtin; refine wp_app etMsg rfl _ _ 39 rfl rfl hRA rfl (src_msgs (c := mc) (hM.since (h1i.trans hSA))) (by omega) (Nat.le_trans hSi.size hSA.size) ?_; intro sa sc wB hRB hFB hBB; simp only [Nat.zero_add, List.nil_append] at hRB; have hSB : Since w8 wB := (hSi.trans hSA).trans (hFB.since (fun i _ e => by unfold Sl.blk at e; simp at e)); have e1b := h18.trans hSB; have e3b := h38.trans hSB; obtain ⟨_, f0b, f1b, f2b⟩ := PF.out _ e1b; dsimp only at f0b f1b f2b; obtain ⟨_, q0b, q1b, q2b⟩ := QF.out _ e3b; dsimp only at q0b q1b q2b; obtain ⟨t0b, t1b, t2b, t3b, t4b⟩ := MF.out _ hSB; have j1b := (e1b.cellAt hbw _).trans c1; have j2b := (e1b.cellAt hbR _).trans k5; have i1b := (e3b.cellAt hbv _).trans c1'; have i2b := (e3b.cellAt hbR' _).trans k6; try simp only [Nat.zero_add])
         | (go_at_call 25; refine (has_any _ _ _ d.groups _ _ wB (hG1.since e1b)).mono ?_; rw [e3]; rintro e w' ⟨rfl, hw'⟩; obtain rfl := hw'.symm)
         | (at_builtin; have hsrc := src_new (size := 5) (T := 48) (w := wB) etMsg.und [.int .i64 n, .int .i64 g, .int .i64 (nd.clock + 1), .bool false, .string body] rfl (fun u hu => by simp at hu; rcases hu with rfl | rfl | rfl | rfl | rfl <;> rfl) 1; refine wp_app etMsg rfl _ _ 39 rfl rfl (hRB.since ((Since.refl wB).alloc _)) rfl hsrc (by omega) (Nat.le_trans hSB.size (by simp)) ?_; intro sa2 sc2 wE hRE hFE hBE; have hSE : Since w8 wE := hFE.sinceBase (hSB.alloc _) (fun i hi e => by have := hRB.blk_ge i e; omega); have e1e := h18.trans hSE; have e3e := h38.trans hSE; obtain ⟨_, f0e, f1e, f2e⟩ := PF.out _ e1e; dsimp only at f0e f1e f2e; obtain ⟨_, q0e, q1e, q2e⟩ := QF.out _ e3e; dsimp only at q0e q1e q2e; obtain ⟨t0e, t1e, t2e, t3e, t4e⟩ := MF.out _ hSE; have j1e := (e1e.cellAt hbw _).trans c1; have j2e := (e1e.cellAt hbR _).trans k5; have i1e := (e3e.cellAt hbv _).trans c1'; have i2e := (e3e.cellAt hbR' _).trans k6)
         | (go_at_call 24; refine (sameMsgs_any ma' _ mc' l' sa2 _ sc2 l' wE (hM'.since e3e) (by have h0 : Row wE w8.heap.size 5 ⟨sa2, sc2⟩ l'.length (flat l') := (by rw [HL.out, List.length_append, flat_append]; exact hRE); have h1 := row_msgs h0 (by omega); rw [← HLL.out] at h1; exact h1)).mono ?_; rw [sameMs_refl]; rintro e wC ⟨rfl, hSC⟩))
        go_roundw
        case rel => exact ⟨b + 1, by omega, by go_num, hSE.trans hSC⟩
        case measure => simp [intOf]; omega
    ·go_wp2_with fail
     go_roundw
     case rel => exact ⟨a + 1, by omega, by go_num, hSi⟩
     case measure => simp [intOf]; omega
  ·have T := HT.out
   have hc1 := T.right.heldN n
   have hc2 := T.right.toldN n
   have hc3 := T.was.heldN n
   have hc4 := T.was.toldN n
   rw [heldAt_of T.hx'] at hc1
   rw [toldAt_of T.hx'] at hc2
   rw [heldAt_of T.hx] at hc3
   rw [toldAt_of T.hx] at hc4
   have d1 : IntKind.i64.wrap ((nd'.held.length : Int) + (nd'.told.length : Int)) = (nd'.held.length : Int) + (nd'.told.length : Int) := IntWalk.i64_in _ (by omega)
   have d2 : IntKind.i64.wrap ((nd.held.length : Int) + (nd.told.length : Int)) = (nd.held.length : Int) + (nd.told.length : Int) := IntWalk.i64_in _ (by omega)
   have d3 : IntKind.i64.wrap ((nd.held.length : Int) + (nd.told.length : Int) + 1) = (nd.held.length : Int) + (nd.told.length : Int) + 1 := IntWalk.i64_in _ (by omega)
   have d4 : ((nd'.held.length : Int) + (nd'.told.length : Int) == (nd.held.length : Int) + (nd.told.length : Int) + 1) = true := by have := T.count; rw [beq_iff_eq]; omega
   clear T hc1 hc2 hc3 hc4
   obtain ⟨S0, hS0⟩ : ∃ S0 : World → Prop, ∀ w', S0 w' ↔ Since wo w' := ⟨_, fun _ => Iff.rfl⟩
   have x1 : ∀ y : HeldW S0, y.w.cell? ⟨w2.heap.size, 1, none⟩ = some (.slice (some ⟨bm, om, none⟩) xnl xnc) := fun y => (QF.out _ (h3o.trans ((hS0 _).1 y.h))).c1
   have y1 : ∀ y : HeldW S0, y.w.cell? ⟨w.heap.size, 1, none⟩ = some (.slice (some ⟨bn, on, none⟩) xnl nc) := fun y => (PF.out _ (h1o.trans ((hS0 _).1 y.h))).c1
   have j2 : ∀ y : HeldW S0, y.w.cell? ⟨bn, on + n * 4 + 2, none⟩ = _ := fun y => ((h1o.trans ((hS0 _).1 y.h)).cellAt hbn _).trans k2
   have j3 : ∀ y : HeldW S0, y.w.cell? ⟨bn, on + n * 4 + 3, none⟩ = _ := fun y => ((h1o.trans ((hS0 _).1 y.h)).cellAt hbn _).trans k3
   have l2 : ∀ y : HeldW S0, y.w.cell? ⟨bm, om + n * 4 + 2, none⟩ = _ := fun y => ((h3o.trans ((hS0 _).1 y.h)).cellAt hbm _).trans i2
   have l3 : ∀ y : HeldW S0, y.w.cell? ⟨bm, om + n * 4 + 3, none⟩ = _ := fun y => ((h3o.trans ((hS0 _).1 y.h)).cellAt hbm _).trans i3
   obtain ⟨W0, hW0⟩ : ∃ y, wo.drew = y := ⟨_, rfl⟩
   have hs0 : Since wo W0 := by rw [← hW0]; exact Since.drew (Since.refl _)
   have hSi0 := (hS0 W0).2 hs0
   have hne : Nonempty (HeldW S0) := ⟨⟨_, hSi0⟩⟩
   have hneT := heldTrue w
   go_wp2_with fail
   refine beginM (fun w' => ∃ x : HeldW S0, w' = x.w) (by kernel_rfl) ?_
   rw [hW0]
   clear hW0
   refine actM 0 rfl (by kernel_rfl) ?_
   intro K hK
   go_simp
   refine (castBegun_any W0).mono ?_
   rintro e W2 ⟨rfl, hs2⟩
   have hs02 := hs0.trans hs2
   have hSi1 := (hS0 W2).2 hs02
   refine hK _ _ (fun _ _ => heldS_mk hSi1) ?_
   clear hK K
   refine tW 1 rfl ?_
   go_big_quiet_op
   refine tW 2 rfl ?_
   go_big_quiet_op
   refine tM 3 rfl (heldS_mk hSi1) ?_
   go_big_quiet_op
   refine tW 4 rfl ?_
   go_big_quiet_op
   refine tW 5 rfl ?_
   go_big_quiet_op
   refine tW 6 rfl ?_
   go_big_quiet_op
   refine tM 7 rfl (heldS_mk hSi1) ?_
   go_big_quiet_op
   refine tM 8 rfl (heldS_mk hSi1) ?_
   go_big_quiet_op
   refine tW 9 rfl ?_
   go_big_quiet_op
   refine tM 10 rfl (heldS_mk hSi1) ?_
   go_big_quiet_op
   refine tW 11 rfl ?_
   go_big_quiet_op
   refine tW 12 rfl ?_
   go_big_quiet_op
   refine tW 13 rfl ?_
   go_big_quiet_op
   refine tM 14 rfl (heldS_mk hSi1) ?_
   go_big_quiet_op
   refine tM 15 rfl (heldS_mk hSi1) ?_
   go_big_quiet_op
   refine tW 16 rfl ?_
   go_big_quiet_op
   refine tW 17 rfl ?_
   go_big_quiet_op
   refine tM 18 rfl (heldS_mk hSi1) ?_
   go_big_quiet_op
   refine tW 19 rfl ?_
   go_big_quiet_op
   refine tW 20 rfl ?_
   go_big_quiet_op
   refine tW 21 rfl ?_
   go_big_quiet_op
   refine tM 22 rfl (heldS_mk hSi1) ?_
   go_big_quiet_op
   refine tM 23 rfl (heldS_mk hSi1) ?_
   go_big_quiet_op
   refine tW 24 rfl ?_
   go_big_quiet_op
   refine tM 25 rfl (heldS_mk hSi1) ?_
   go_big_quiet_op
   refine tW 26 rfl ?_
   go_big_quiet_op
   refine tW 27 rfl ?_
   go_big_quiet_op
   refine tW 28 rfl ?_
   go_big_quiet_op
   refine tM 29 rfl (heldS_mk hSi1) ?_
   go_big_quiet_op
   refine tM 30 rfl (heldS_mk hSi1) ?_
   go_big_quiet_op
   refine tW 31 rfl ?_
   go_big_quiet_op
   refine tW 32 rfl ?_
   go_big_quiet_op
   refine tW 33 rfl ?_
   go_big_quiet_op
   refine tW 34 rfl ?_
   go_big_quiet_op
   refine tW 35 rfl ?_
   go_big_quiet_op
   refine doneM (by kernel_rfl) ?_
   clear x1 y1 j2 j3 l2 l3 hne hneT
   go_wp2_with fail
   go_ret
   exact ⟨by simp, hS1.trans (h1o.trans hs02)⟩
theorem lawCastTrue_any (x : WV) (d : Wd) (n g : Int) (body : ByteArray) (w : World) (hW : WAt w x d) :
  Calls Try.prog 9 #[.agg #[.slice x.ga x.gl x.gc, .slice x.na x.nl x.nc, .slice x.wa x.wl x.wc], .int .i64 n, .int .i64 g, .string body] w fun e w' => e = .returned (.bool true) ∧ Since w w' := by
 cases hr : checked d (castD d n g false body) with
 | error er =>
  refine lawCastTrue_err x d n g body er w hW hr ?_
  have : er ≠ 0 := by
   unfold checked at hr
   split at hr
   ·exact castD_nz hr
   ·rename_i hz; cases hr; exact hz
  simpa using this
 | ok d' =>
  obtain ⟨R, h⟩ := checked_ok hr
  obtain ⟨k, nd, nd', rfl, T⟩ := castTrueD R h
  exact lawCastTrue_ok x d d' k g body nd nd' w hW T hr
end Go.Proofs.Ytiiifecfdkjmbaa
