/- The law TellTrue answers true; conditions: the world reads as one. -/
import Derived.BigQuiet
import Derived.Deep.DeepCutAuto
import Derived.Test.YtiiifecfdkjmbaaLTell
import Derived.Test.YtiiifecfdkjmbaaLawTellTells
import Derived.Test.YtiiifecfdkjmbaaPureY
namespace Go.Proofs.Ytiiifecfdkjmbaa
set_option maxRecDepth 8000
open Go.RowKit Go.Shelf
open _root_.Go.Proofs.Ytiiifecfdkjmbaa.Pure
set_option linter.unusedVariables false
set_option linter.unusedSimpArgs false

structure TellTrueD (d d' d2 : Wd) (n : Nat) (x x' : Nd) (m far : Int) : Prop where
  hx : d.nodes[n]? = some x
  hx' : d'.nodes[n]? = some x'
  len : d'.nodes.length = d.nodes.length
  right : Right d'
  told : (x'.told.length : Int) = x.told.length + m
  all : x.told ++ x.held = x'.told ++ x'.held
  far_eq : boundZ d' (n : Int) = far
  err : nodeErr d' (n : Int) = 0
  held : ∀ y ∈ x'.held, far < y.st
  again : checked d' (tellOfD d' (n : Int)) = .ok (d2, 0)
  sm : x.told.length ≤ 40 ∧ x.held.length ≤ 40 ∧ x'.told.length ≤ 40 ∧ x'.held.length ≤ 40
theorem tellTrueD {d d' : Wd} {n m : Int} (R : Right d) (h : tellOfD d n = .ok (d', m)) : ∃ (k : Nat) (x x' : Nd) (d2 : Wd) (far : Int), n = (k : Int) ∧ TellTrueD d d' d2 k x x' m far := by
  unfold tellOfD at h
  cases hin : inB n 0 ((d.nodes.length : Int) - 1)
  · rw [hin] at h; simp at h
  rw [hin, if_pos rfl] at h
  have h0 : 0 ≤ n ∧ n ≤ (d.nodes.length : Int) - 1 := by simpa [inB] using hin
  obtain ⟨k, rfl⟩ : ∃ k : Nat, n = (k : Int) := ⟨n.toNat, by omega⟩
  rw [Int.toNat_natCast] at h
  obtain ⟨p, hp, hq⟩ := bind_ok h
  cases hq
  obtain ⟨hk, S, hm⟩ := tellD_ok (R.heldR k) hp
  obtain ⟨x, hx⟩ := node_at hk
  have R' := right_tell R S
  have hk' : k < p.1.nodes.length := by rw [S.alike.n]; exact hk
  obtain ⟨x', hx'⟩ := node_at hk'
  obtain ⟨a1, a2, a3, a4, a5⟩ := at_node hx
  obtain ⟨b1, b2, b3, b4, b5⟩ := at_node hx'
  obtain ⟨t1, t2, t3⟩ := tell_again hk S
  obtain ⟨f1, f2⟩ := filter_le (heldAt d k) (farAt d k) (R.heldR k)
  have st := S.told
  have sh := S.held
  rw [a3, b3] at st
  rw [b2] at sh
  have hsm := And.intro (R.toldN k) (And.intro (R.heldN k) (And.intro (R'.toldN k) (R'.heldN k)))
  rw [a3, a2, b3, b2] at hsm
  have hE' : nodeErr p.1 (k : Int) = 0 := by rw [nodeErr_right R']; rw [if_pos (by simp [inB]; omega)]
  have hrd : readyL p.1 k x' = [] := by unfold readyL; rw [b2, b4] at t1; exact t1
  refine ⟨k, x, x', setNode p.1 k { x' with held := x'.held.drop 0, told := x'.told ++ [] }, farZ p.1 k x', rfl, hx, hx', S.alike.n, R', ?_, ?_, boundZ_at hE' hx', hE', ?_, ?_, hsm⟩
  · rw [st, List.length_append, hm]; simp
  · rw [st, List.append_assoc, sh, ← f2, ← f1, List.length_take, Nat.min_eq_left (List.length_filter_le _ _), List.take_append_drop, a2]
  · intro y hy
    rw [b2] at t3; rw [b4] at t3
    exact t3 y hy
  · have e2 : tellD p.1 k = .ok (setNode p.1 k { x' with held := x'.held.drop 0, told := x'.told ++ [] }, 0) := by
      unfold tellD
      rw [hx']
      dsimp only
      rw [hrd, List.append_nil, if_neg (by have := S.len; rw [b3] at this; omega), if_neg (by have := S.rises; rw [b3] at this; rw [this]; simp)]
      simp
    unfold checked tellOfD
    rw [if_pos ((right_iff _).2 R'), if_pos (by simp [inB]; omega), Int.toNat_natCast, e2]
    rfl

set_option maxHeartbeats 1000000 in
theorem lawTellTrue_err (x : WV) (d : Wd) (n : Int) (er : Int) (w : World) (hW : WAt w x d) (hr : checked d (tellOfD d n) = .error er) (her : (er != 0) = true) :
    Calls Try.prog 8 #[.agg #[.slice x.ga x.gl x.gc, .slice x.na x.nl x.nc, .slice x.wa x.wl x.wc], .int .i64 n] w fun e w' => e = .returned (.bool true) ∧ Since w w' := by
  obtain ⟨ga, gl, gc, na, nl, nc, wa, wl, wc⟩ := x
  dsimp only
  obtain ⟨w1, hw1⟩ : ∃ wp, w.alloc (.cells #[.slice ga gl gc, .slice na nl nc, .slice wa wl wc] 26) = wp := ⟨_, rfl⟩
  have hP1 : ParBox w1 w.heap.size ⟨ga, gl, gc, na, nl, nc, wa, wl, wc⟩ := by rw [← hw1]; exact ParBox.new w ⟨ga, gl, gc, na, nl, nc, wa, wl, wc⟩ _
  have hS1 : Since w w1 := by rw [← hw1]; exact (Since.refl w).alloc _
  have hW1 := hW.since hS1
  have p0 := hP1.c0
  have p1 := hP1.c1
  have p2 := hP1.c2
  dsimp only at p0 p1 p2
  have hA := tellNode_any ⟨ga, gl, gc, na, nl, nc, wa, wl, wc⟩ d n w1 hW1
  rw [hr] at hA
  dsimp only at hA
  clear hr hW
  go_enter Try.func8, Try.ntmps8
  go_wp2_with fail
  refine hA.mono ?_
  rintro e w2 hR2
  obtain ⟨rfl, hF2⟩ := hR2.out.1 er rfl
  have hS2 := hF2.none
  obtain ⟨w3, hw3⟩ : ∃ y, w2.alloc (.cells #[.slice none 0 0, .slice none 0 0, .slice none 0 0] 26) = y := ⟨_, rfl⟩
  have hS3' : Since w2 w3 := by rw [← hw3]; exact (Since.refl w2).alloc _
  have hN3 : NilBox w3 w2.heap.size := by rw [← hw3]; exact NilBox.new w2 _
  obtain ⟨w4, hw4⟩ : ∃ y, ((w3.setCell ⟨w2.heap.size, 0, none⟩ (.slice none 0 0)).setCell ⟨w2.heap.size, 1, none⟩ (.slice none 0 0)).setCell ⟨w2.heap.size, 2, none⟩ (.slice none 0 0) = y := ⟨_, rfl⟩
  have hF4 : Fr (fun i => i = w2.heap.size) w3 w4 := by rw [← hw4]; exact put3_fr w3 w2.heap.size _ _ _
  have hS4 : Since w2 w4 := hF4.sinceBase hS3' (fun i hi e => by omega)
  obtain ⟨_, r0, r1, r2, r3, r4, r5⟩ := hN3
  go_wp2_with (go_at_call 28; refine (tellBegun_any w4).mono ?_; rintro e w8 ⟨rfl, hS8⟩)
  go_ret
  exact ⟨by simp, hS1.trans (hS2.trans (hS4.trans hS8))⟩

set_option maxHeartbeats 1000000 in
theorem lawTellTrue_ok (x : WV) (d d' d2 : Wd) (n : Nat) (nd nd' : Nd) (m far : Int) (w : World) (hW : WAt w x d) (T : TellTrueD d d' d2 n nd nd' m far) (hr : checked d (tellOfD d (n : Int)) = .ok (d', m)) :
    Calls Try.prog 8 #[.agg #[.slice x.ga x.gl x.gc, .slice x.na x.nl x.nc, .slice x.wa x.wl x.wc], .int .i64 n] w fun e w' => e = .returned (.bool true) ∧ Since w w' := by
  have hn := node_lt T.hx
  obtain ⟨ga, gl, gc, na, nl, nc, wa, wl, wk⟩ := x
  have hnl := hW.n.hlen
  dsimp only at hnl ⊢
  subst hnl
  obtain ⟨w1, hw1⟩ : ∃ wp, w.alloc (.cells #[.slice ga gl gc, .slice na d.nodes.length nc, .slice wa wl wk] 26) = wp := ⟨_, rfl⟩
  have hP1 : ParBox w1 w.heap.size ⟨ga, gl, gc, na, d.nodes.length, nc, wa, wl, wk⟩ := by rw [← hw1]; exact ParBox.new w ⟨ga, gl, gc, na, d.nodes.length, nc, wa, wl, wk⟩ _
  have hS1 : Since w w1 := by rw [← hw1]; exact (Since.refl w).alloc _
  have hW1 := hW.since hS1
  have p0 := hP1.c0
  have p1 := hP1.c1
  have p2 := hP1.c2
  dsimp only at p0 p1 p2
  have PF : Hid (∀ y, Since w1 y → ParBox y w.heap.size ⟨ga, gl, gc, na, d.nodes.length, nc, wa, wl, wk⟩) := fun y hy => hP1.since hy
  have hA := tellNode_any ⟨ga, gl, gc, na, d.nodes.length, nc, wa, wl, wk⟩ d n w1 hW1
  rw [hr] at hA
  dsimp only at hA
  obtain ⟨bn, on, rfl, hbn, hcn⟩ := hW1.n.cells (by dsimp only; omega)
  obtain ⟨k0, ⟨v1, k1, la, lc, rfl, hlc, hL⟩, ⟨v2, k2, ha, hc, rfl, hhc, hH⟩, ⟨v3, k3, ta, tc, rfl, htc, hT⟩⟩ := hcn n nd T.hx
  have n1 : (n : Int) < (d.nodes.length : Int) := by omega
  have u1 : decide (d.nodes.length ≤ n) = false := by simp; omega
  have u2 : decide ((n : Int) < 0) = false := by simp
  have u3 : decide ((d.nodes.length : Int) ≤ (n : Int)) = false := by simp; omega
  have hlen := T.len
  obtain ⟨sm1, sm2, sm3, sm4⟩ := T.sm
  have hnm := hW1.n.hmax
  dsimp only at hnm
  have HT : Hid (TellTrueD d d' d2 n nd nd' m far) := T
  clear hr hW hcn T
  go_enter Try.func8, Try.ntmps8
  go_wp2_with fail
  refine hA.mono ?_
  rintro e w2 hR2
  obtain ⟨L, rfl, hO2, hF2⟩ := hR2.out.2 d' m rfl
  have hS2 := hF2.none
  simp only [wval]
  rw [hlen]
  obtain ⟨w3, hw3⟩ : ∃ y, w2.alloc (.cells #[.slice (L (0, 0, 0)).a d'.groups.length (L (0, 0, 0)).cap, .slice (L (1, 0, 0)).a d.nodes.length (L (1, 0, 0)).cap, .slice (L (2, 0, 0)).a d'.wires.length (L (2, 0, 0)).cap] 26) = y := ⟨_, rfl⟩
  have hS3 : Since w2 w3 := by rw [← hw3]; exact (Since.refl w2).alloc _
  have hB3 : BoxW w3 w2.heap.size L d' := by rw [← hw3]; constructor <;> simp [go_sem, hlen]
  have h13 := hS2.trans hS3
  have hO3 := hO2.since hS3
  obtain ⟨_, f0, f1, f2⟩ := PF.out _ h13
  dsimp only at f0 f1 f2
  have XF : Hid (∀ y, Since w3 y → BoxW y w2.heap.size L d' ∧ OwnW w1.heap.size y d' L) := fun y hy => ⟨hB3.since hy, hO3.since hy⟩
  obtain ⟨_, b0, b1, b2, _, _, _⟩ := hB3
  have hWC : Hid (∀ y, Since w3 y → Calls Try.prog 17 #[.agg #[.slice (L (0, 0, 0)).a d'.groups.length (L (0, 0, 0)).cap, .slice (L (1, 0, 0)).a d.nodes.length (L (1, 0, 0)).cap, .slice (L (2, 0, 0)).a d'.wires.length (L (2, 0, 0)).cap]] y fun e w' => e = .returned (.int .i64 0) ∧ Since y w') := fun y hy => by
    have h := worldCheck_any (wvOf L d') d' y (XF.out y hy).2.wat
    rw [(right_iff d').2 HT.out.right] at h
    unfold wvOf at h
    rw [hlen] at h
    exact h
  have hTN : Hid (∀ y, Since w3 y → Calls Try.prog 26 #[.agg #[.slice (L (0, 0, 0)).a d'.groups.length (L (0, 0, 0)).cap, .slice (L (1, 0, 0)).a d.nodes.length (L (1, 0, 0)).cap, .slice (L (2, 0, 0)).a d'.wires.length (L (2, 0, 0)).cap], .int .i64 n] y fun e w' => Hid (Res3 y (.ok (d2, 0)) e w')) := fun y hy => by
    have h := tellNode_any (wvOf L d') d' n y (XF.out y hy).2.wat
    rw [HT.out.again] at h
    unfold wvOf at h
    rw [hlen] at h
    exact h
  have hBO : Hid (∀ y, Since w3 y → Calls Try.prog 19 #[.agg #[.slice (L (0, 0, 0)).a d'.groups.length (L (0, 0, 0)).cap, .slice (L (1, 0, 0)).a d.nodes.length (L (1, 0, 0)).cap, .slice (L (2, 0, 0)).a d'.wires.length (L (2, 0, 0)).cap], .int .i64 n] y fun e w' => e = .returned (.tuple #[.int .i64 far, .int .i64 0]) ∧ Since y w') := fun y hy => by
    have h := boundOf_any (wvOf L d') d' n y (XF.out y hy).2.wat
    rw [HT.out.far_eq, HT.out.err] at h
    unfold wvOf at h
    rw [hlen] at h
    exact h
  obtain ⟨bm, om, cm, hL1, _, hbm, _, _⟩ := hO3.lies (ix := (1, 0, 0)) ⟨rfl, rfl⟩ (by show 0 < d'.nodes.length; omega)
  obtain ⟨k0', k1', k2', k3', _⟩ := hO3.cells HT.out.hx' hL1
  have hRH : Row w3 w1.heap.size 5 (L (5, n, 0)) nd'.held.length (flat nd'.held) := by
    have h0 : Row w3 w1.heap.size 5 (L (5, n, 0)) (ndAt d' n).held.length (flat (ndAt d' n).held) := hO3.row (5, n, 0) ⟨by omega, rfl⟩
    rw [ndAt_of HT.out.hx'] at h0; exact h0
  have hRT : Row w3 w1.heap.size 5 (L (6, n, 0)) nd'.told.length (flat nd'.told) := by
    have h0 : Row w3 w1.heap.size 5 (L (6, n, 0)) (ndAt d' n).told.length (flat (ndAt d' n).told) := hO3.row (6, n, 0) ⟨by omega, rfl⟩
    rw [ndAt_of HT.out.hx'] at h0; exact h0
  obtain ⟨la', lc', hL3e⟩ : ∃ a c, L (3, n, 0) = ⟨a, c⟩ := ⟨_, _, rfl⟩
  obtain ⟨ha', hc', hL5e⟩ : ∃ a c, L (5, n, 0) = ⟨a, c⟩ := ⟨_, _, rfl⟩
  obtain ⟨ta', tc', hL6e⟩ : ∃ a c, L (6, n, 0) = ⟨a, c⟩ := ⟨_, _, rfl⟩
  rw [hL3e] at k1'
  rw [hL5e] at k2' hRH
  rw [hL6e] at k3' hRT
  dsimp only [Sl.v] at k1' k2' k3'
  have hMH' : Msgs w3 ha' nd'.held.length nd'.held := row_msgs hRH (by omega)
  have hMT' : Msgs w3 ta' nd'.told.length nd'.told := row_msgs hRT (by omega)
  have b1' := b1
  rw [hL1, hlen] at b1'
  dsimp only at b1'
  rw [hlen] at b1
  have YF : Hid (∀ y, Since w3 y → y.cell? ⟨w2.heap.size, 0, none⟩ = some (.slice (L (0, 0, 0)).a d'.groups.length (L (0, 0, 0)).cap) ∧ y.cell? ⟨w2.heap.size, 1, none⟩ = some (.slice (L (1, 0, 0)).a d.nodes.length (L (1, 0, 0)).cap) ∧ y.cell? ⟨w2.heap.size, 2, none⟩ = some (.slice (L (2, 0, 0)).a d'.wires.length (L (2, 0, 0)).cap)) := fun y hy => by
    have h := (XF.out y hy).1
    have h1 := h.c1
    rw [hlen] at h1
    exact ⟨h.c0, h1, h.c2⟩
  have Y1 : Hid (∀ y, Since w3 y → y.cell? ⟨w2.heap.size, 1, none⟩ = some (.slice (some ⟨bm, om, none⟩) d.nodes.length cm)) := fun y hy => by
    have h1 := (YF.out y hy).2.1
    rw [hL1] at h1
    exact h1
  have HLEN : Hid (d'.nodes.length = d.nodes.length) := hlen
  clear hL1 hL3e hL5e hL6e hlen b1'
  go_wp2_with (go_at_call 17; refine (hWC.out w3 (Since.refl _)).mono ?_; rintro e w6 ⟨rfl, hS6⟩)
  clear b0 b1 b2 f0 f1 f2 hw3
  obtain ⟨S0, hS0⟩ : ∃ S0 : World → Prop, ∀ w', S0 w' ↔ Since w6 w' := ⟨_, fun _ => Iff.rfl⟩
  have h16 := h13.trans hS6
  have x1 : ∀ y : HeldW S0, y.w.cell? ⟨w.heap.size, 1, none⟩ = some (.slice (some ⟨bn, on, none⟩) d.nodes.length nc) := fun y => (PF.out _ (h16.trans ((hS0 _).1 y.h))).c1
  have x2 : ∀ y : HeldW S0, y.w.cell? ⟨w2.heap.size, 1, none⟩ = some (.slice (some ⟨bm, om, none⟩) d.nodes.length cm) := fun y => Y1.out _ (hS6.trans ((hS0 _).1 y.h))
  have j0 : ∀ y : HeldW S0, y.w.cell? ⟨bn, on + n * 4, none⟩ = _ := fun y => ((h16.trans ((hS0 _).1 y.h)).cellAt hbn _).trans k0
  have j1 : ∀ y : HeldW S0, y.w.cell? ⟨bn, on + n * 4 + 1, none⟩ = _ := fun y => ((h16.trans ((hS0 _).1 y.h)).cellAt hbn _).trans k1
  have j2 : ∀ y : HeldW S0, y.w.cell? ⟨bn, on + n * 4 + 2, none⟩ = _ := fun y => ((h16.trans ((hS0 _).1 y.h)).cellAt hbn _).trans k2
  have j3 : ∀ y : HeldW S0, y.w.cell? ⟨bn, on + n * 4 + 3, none⟩ = _ := fun y => ((h16.trans ((hS0 _).1 y.h)).cellAt hbn _).trans k3
  have i0 : ∀ y : HeldW S0, y.w.cell? ⟨bm, om + n * 4, none⟩ = _ := fun y => ((hS6.trans ((hS0 _).1 y.h)).cellAt hbm _).trans k0'
  have i1 : ∀ y : HeldW S0, y.w.cell? ⟨bm, om + n * 4 + 1, none⟩ = _ := fun y => ((hS6.trans ((hS0 _).1 y.h)).cellAt hbm _).trans k1'
  have i2 : ∀ y : HeldW S0, y.w.cell? ⟨bm, om + n * 4 + 2, none⟩ = _ := fun y => ((hS6.trans ((hS0 _).1 y.h)).cellAt hbm _).trans k2'
  have i3 : ∀ y : HeldW S0, y.w.cell? ⟨bm, om + n * 4 + 3, none⟩ = _ := fun y => ((hS6.trans ((hS0 _).1 y.h)).cellAt hbm _).trans k3'
  clear k0 k1 k2 k3 k0' k1' k2' k3'
  go_upto_region 6 with fail
  go_cut [8, 9] (fun s8 s9 wx => ∃ p q, s8 = .pointer (some ⟨p, 0, none⟩) ∧ s9 = .pointer (some ⟨q, 0, none⟩) ∧ NdBox wx p (.int .i64 nd.clock) (.slice la nd.last.length lc) (.slice ha nd.held.length hc) (.slice ta nd.told.length tc) ∧ NdBox wx q (.int .i64 nd'.clock) (.slice la' nd'.last.length lc') (.slice ha' nd'.held.length hc') (.slice ta' nd'.told.length tc') ∧ Since w6 wx)
  case first =>
    obtain ⟨W0, hW0⟩ : ∃ y, w6.drew = y := ⟨_, rfl⟩
    have hs0 : Since w6 W0 := by rw [← hW0]; exact Since.drew (Since.refl _)
    have hSi0 := (hS0 W0).2 hs0
    have hne : Nonempty (HeldW S0) := ⟨⟨_, hSi0⟩⟩
    have hneT := heldTrue w
    refine beginM (fun w' => ∃ x : HeldW S0, w' = x.w) (by kernel_rfl) ?_
    rw [hW0]
    clear hW0
    refine takeW 0 rfl (by kernel_rfl) (fun _ _ _ _ h => h) (by rfl) rfl ?_
    go_big_quiet_op
    refine takeM 1 rfl (by kernel_rfl) (heldS_mk hSi0) (fun _ _ _ _ h => h) (by rfl) rfl ?_
    go_big_quiet_op
    refine takeW 2 rfl (by kernel_rfl) (fun _ _ _ _ h => h) (by rfl) rfl ?_
    go_big_quiet_op
    refine takeW 3 rfl (by kernel_rfl) (fun _ _ _ _ h => h) (by rfl) rfl ?_
    go_big_quiet_op
    refine takeM 4 rfl (by kernel_rfl) (heldS_mk hSi0) (fun _ _ _ _ h => h) (by rfl) rfl ?_
    go_big_quiet_op
    refine takeW 5 rfl (by kernel_rfl) (fun _ _ _ _ h => h) (by rfl) rfl ?_
    go_big_quiet_op
    refine takeM 6 rfl (by kernel_rfl) (heldS_mk hSi0) (fun _ _ _ _ h => h) (by rfl) rfl ?_
    go_big_quiet_op
    refine takeW 7 rfl (by kernel_rfl) (fun _ _ _ _ h => h) (by rfl) rfl ?_
    go_big_quiet_op
    refine takeW 8 rfl (by kernel_rfl) (fun _ _ _ _ h => h) (by rfl) rfl ?_
    go_big_quiet_op
    refine takeM 9 rfl (by kernel_rfl) (heldS_mk hSi0) (fun _ _ _ _ h => h) (by rfl) rfl ?_
    go_big_quiet_op
    obtain ⟨WA, hWA⟩ : ∃ y, W0.alloc (.cells #[.int .i64 0, .slice none 0 0, .slice none 0 0, .slice none 0 0] 45) = y := ⟨_, rfl⟩
    obtain ⟨WB, hWB⟩ : ∃ y, WA.alloc (.cells #[.int .i64 0, .slice none 0 0, .slice none 0 0, .slice none 0 0] 45) = y := ⟨_, rfl⟩
    have hSA : Since W0 WA := by rw [← hWA]; exact (Since.refl W0).alloc _
    have hSB : Since WA WB := by rw [← hWB]; exact (Since.refl WA).alloc _
    have hbA : NdBox WA W0.heap.size (.int .i64 0) (.slice none 0 0) (.slice none 0 0) (.slice none 0 0) := by rw [← hWA]; exact NdBox.new W0 _ _ _ _ _
    have hbB : NdBox WB WA.heap.size (.int .i64 0) (.slice none 0 0) (.slice none 0 0) (.slice none 0 0) := by rw [← hWB]; exact NdBox.new WA _ _ _ _ _
    have hsA := hs0.trans hSA
    have hsB := hsA.trans hSB
    have hPQ : ¬ W0.heap.size = WA.heap.size := by have := hbA.lt; omega
    have hQP : ¬ WA.heap.size = W0.heap.size := by have := hbA.lt; omega
    refine actM2 10 11 rfl rfl (by kernel_rfl) ?_ ?_
    · intro K hK
      go_simp
      refine hK _ _ (fun _ _ => heldS_mk ((hS0 _).2 hsA)) ?_
      clear hK K
      refine actM 11 rfl (by kernel_rfl) ?_
      intro K hK
      go_simp
      refine hK _ _ (fun _ _ => heldS_mk ((hS0 _).2 hsB)) ?_
      clear hK K
      obtain ⟨WC, hWC⟩ : ∃ y, (((WB.setCell ⟨W0.heap.size, 0, none⟩ (.int .i64 nd.clock)).setCell ⟨W0.heap.size, 1, none⟩ (.slice la nd.last.length lc)).setCell ⟨W0.heap.size, 2, none⟩ (.slice ha nd.held.length hc)).setCell ⟨W0.heap.size, 3, none⟩ (.slice ta nd.told.length tc) = y := ⟨_, rfl⟩
      obtain ⟨WD, hWD⟩ : ∃ y, (((WC.setCell ⟨WA.heap.size, 0, none⟩ (.int .i64 nd'.clock)).setCell ⟨WA.heap.size, 1, none⟩ (.slice la' nd'.last.length lc')).setCell ⟨WA.heap.size, 2, none⟩ (.slice ha' nd'.held.length hc')).setCell ⟨WA.heap.size, 3, none⟩ (.slice ta' nd'.told.length tc') = y := ⟨_, rfl⟩
      have hFC : Fr (fun i => i = W0.heap.size) WB WC := by rw [← hWC]; exact put4_fr WB W0.heap.size _ _ _ _
      have hFD : Fr (fun i => i = WA.heap.size) WC WD := by rw [← hWD]; exact put4_fr WC WA.heap.size _ _ _ _
      have hbP : NdBox WB W0.heap.size (.int .i64 0) (.slice none 0 0) (.slice none 0 0) (.slice none 0 0) := by first | exact hbB | exact hbA.since hSB
      have hbQ : NdBox WB WA.heap.size (.int .i64 0) (.slice none 0 0) (.slice none 0 0) (.slice none 0 0) := by first | exact hbB | exact hbA.since hSB
      have hbPC : NdBox WC W0.heap.size (.int .i64 nd.clock) (.slice la nd.last.length lc) (.slice ha nd.held.length hc) (.slice ta nd.told.length tc) := by rw [← hWC]; exact hbP.put _ _ _ _
      have hbQC := hbQ.fr hFC hQP
      have hbQD : NdBox WD WA.heap.size (.int .i64 nd'.clock) (.slice la' nd'.last.length lc') (.slice ha' nd'.held.length hc') (.slice ta' nd'.told.length tc') := by rw [← hWD]; exact hbQC.put _ _ _ _
      have hbPD := hbPC.fr hFD hPQ
      have hsC : Since w6 WC := hFC.sinceBase hsB (fun i hi e => by have := hs0.size; have := hsA.size; omega)
      have hsD : Since w6 WD := hFD.sinceBase hsC (fun i hi e => by have := hs0.size; have := hsA.size; omega)
      obtain ⟨_, c0, c1, c2, c3, z0, z1, z2, z3⟩ := hbP
      obtain ⟨_, q0, q1, q2, q3, y0, y1, y2, y3⟩ := hbQC
      refine actM 12 rfl (by kernel_rfl) ?_
      intro K hK
      go_simp
      refine hK _ _ (fun _ _ => heldS_mk ((hS0 _).2 hsC)) ?_
      clear hK K
      refine actM 13 rfl (by kernel_rfl) ?_
      intro K hK
      go_simp
      refine hK _ _ (fun h => absurd h (by decide +kernel)) ?_
      clear hK K
      refine doneM (by kernel_rfl) ?_
      clear x1 x2 j0 j1 j2 j3 i0 i1 i2 i3 hne hneT c0 c1 c2 c3 z0 z1 z2 z3 q0 q1 q2 q3 y0 y1 y2 y3 hWC hWD hWA hWB
      go_wp2_with fail
      go_meet
      case rel => exact ⟨W0.heap.size, WA.heap.size, rfl, rfl, hbPD, hbQD, hsD⟩
    · intro K hK
      go_simp
      refine hK _ _ (fun _ _ => heldS_mk ((hS0 _).2 hsA)) ?_
      clear hK K
      refine actM 10 rfl (by kernel_rfl) ?_
      intro K hK
      go_simp
      refine hK _ _ (fun _ _ => heldS_mk ((hS0 _).2 hsB)) ?_
      clear hK K
      obtain ⟨WC, hWC⟩ : ∃ y, (((WB.setCell ⟨WA.heap.size, 0, none⟩ (.int .i64 nd.clock)).setCell ⟨WA.heap.size, 1, none⟩ (.slice la nd.last.length lc)).setCell ⟨WA.heap.size, 2, none⟩ (.slice ha nd.held.length hc)).setCell ⟨WA.heap.size, 3, none⟩ (.slice ta nd.told.length tc) = y := ⟨_, rfl⟩
      obtain ⟨WD, hWD⟩ : ∃ y, (((WC.setCell ⟨W0.heap.size, 0, none⟩ (.int .i64 nd'.clock)).setCell ⟨W0.heap.size, 1, none⟩ (.slice la' nd'.last.length lc')).setCell ⟨W0.heap.size, 2, none⟩ (.slice ha' nd'.held.length hc')).setCell ⟨W0.heap.size, 3, none⟩ (.slice ta' nd'.told.length tc') = y := ⟨_, rfl⟩
      have hFC : Fr (fun i => i = WA.heap.size) WB WC := by rw [← hWC]; exact put4_fr WB WA.heap.size _ _ _ _
      have hFD : Fr (fun i => i = W0.heap.size) WC WD := by rw [← hWD]; exact put4_fr WC W0.heap.size _ _ _ _
      have hbP : NdBox WB WA.heap.size (.int .i64 0) (.slice none 0 0) (.slice none 0 0) (.slice none 0 0) := by first | exact hbB | exact hbA.since hSB
      have hbQ : NdBox WB W0.heap.size (.int .i64 0) (.slice none 0 0) (.slice none 0 0) (.slice none 0 0) := by first | exact hbB | exact hbA.since hSB
      have hbPC : NdBox WC WA.heap.size (.int .i64 nd.clock) (.slice la nd.last.length lc) (.slice ha nd.held.length hc) (.slice ta nd.told.length tc) := by rw [← hWC]; exact hbP.put _ _ _ _
      have hbQC := hbQ.fr hFC hPQ
      have hbQD : NdBox WD W0.heap.size (.int .i64 nd'.clock) (.slice la' nd'.last.length lc') (.slice ha' nd'.held.length hc') (.slice ta' nd'.told.length tc') := by rw [← hWD]; exact hbQC.put _ _ _ _
      have hbPD := hbPC.fr hFD hQP
      have hsC : Since w6 WC := hFC.sinceBase hsB (fun i hi e => by have := hs0.size; have := hsA.size; omega)
      have hsD : Since w6 WD := hFD.sinceBase hsC (fun i hi e => by have := hs0.size; have := hsA.size; omega)
      obtain ⟨_, c0, c1, c2, c3, z0, z1, z2, z3⟩ := hbP
      obtain ⟨_, q0, q1, q2, q3, y0, y1, y2, y3⟩ := hbQC
      refine actM 12 rfl (by kernel_rfl) ?_
      intro K hK
      go_simp
      refine hK _ _ (fun _ _ => heldS_mk ((hS0 _).2 hsC)) ?_
      clear hK K
      refine actM 13 rfl (by kernel_rfl) ?_
      intro K hK
      go_simp
      refine hK _ _ (fun h => absurd h (by decide +kernel)) ?_
      clear hK K
      refine doneM (by kernel_rfl) ?_
      clear x1 x2 j0 j1 j2 j3 i0 i1 i2 i3 hne hneT c0 c1 c2 c3 z0 z1 z2 z3 q0 q1 q2 q3 y0 y1 y2 y3 hWC hWD hWA hWB
      go_wp2_with fail
      go_meet
      case rel => exact ⟨WA.heap.size, W0.heap.size, rfl, rfl, hbPD, hbQD, hsD⟩
  obtain ⟨p, q, rfl, rfl, hbp, hbq, hSx⟩ := hcut
  clear j0 j1 j2 j3 i0 i1 i2 i3 x1 x2
  have h3c := hS6.trans hSx
  have h1c := h13.trans h3c
  have hwc' : Since w1 wc := h1c
  have NF : Hid (∀ z, Since wc z → NdBox z p (.int .i64 nd.clock) (.slice la nd.last.length lc) (.slice ha nd.held.length hc) (.slice ta nd.told.length tc) ∧ NdBox z q (.int .i64 nd'.clock) (.slice la' nd'.last.length lc') (.slice ha' nd'.held.length hc') (.slice ta' nd'.told.length tc')) := fun z hz => ⟨hbp.since hz, hbq.since hz⟩
  have hwc : Since wc wc := Since.refl wc
  have hMT1 := hMT'.since h3c
  have hMH1 := hMH'.since h3c
  go_wp2_with fail
  obtain ⟨S7, hSS7⟩ : ∃ S0 : World → Prop, ∀ w', S0 w' ↔ Since wc w' := ⟨_, fun _ => Iff.rfl⟩
  have hneT := heldTrue w
  have a2 : ∀ y : HeldW S7, y.w.cell? ⟨p, 2, none⟩ = some (.slice ha nd.held.length hc) := fun y => (NF.out _ (hwc.trans ((hSS7 _).1 y.h))).1.c2
  have a3 : ∀ y : HeldW S7, y.w.cell? ⟨p, 3, none⟩ = some (.slice ta nd.told.length tc) := fun y => (NF.out _ (hwc.trans ((hSS7 _).1 y.h))).1.c3
  obtain ⟨W0, hW0⟩ : ∃ y, wc.drew = y := ⟨_, rfl⟩
  have hs0 : Since wc W0 := by rw [← hW0]; exact Since.drew (Since.refl _)
  have hSi0 := (hSS7 W0).2 hs0
  have hne : Nonempty (HeldW S7) := ⟨⟨_, hSi0⟩⟩
  obtain ⟨WA, hWA⟩ : ∃ y, W0.alloc (.cells #[] 48) = y := ⟨_, rfl⟩
  have hSA : Since W0 WA := by rw [← hWA]; exact (Since.refl W0).alloc _
  have hsA := hs0.trans hSA
  have hRA : Row WA wc.heap.size 5 ⟨some ⟨W0.heap.size, 0, none⟩, 0⟩ 0 [] := by rw [← hWA]; exact Row.empty W0 _ 5 _
  refine beginM (fun w' => ∃ x : HeldW S7, w' = x.w) (by kernel_rfl) ?_
  rw [hW0]
  clear hW0
  refine takeW 1 rfl (by kernel_rfl) (fun _ _ _ _ h => h) (by rfl) rfl ?_
  go_big_quiet_op
  refine takeM 2 rfl (by kernel_rfl) (heldS_mk hSi0) (fun _ _ _ _ h => h) (by rfl) rfl ?_
  go_big_quiet_op
  refine takeW 4 rfl (by kernel_rfl) (fun _ _ _ _ h => h) (by rfl) rfl ?_
  go_big_quiet_op
  refine takeM 5 rfl (by kernel_rfl) (heldS_mk hSi0) (fun _ _ _ _ h => h) (by rfl) rfl ?_
  go_big_quiet_op
  refine actM 0 rfl (by kernel_rfl) ?_
  intro K hK
  go_simp
  have hsA' := (hSS7 _).2 hsA
  refine hK _ _ (fun _ _ => heldS_mk hsA') ?_
  clear hK K
  refine actM 3 rfl (by kernel_rfl) ?_
  intro K hK
  refine step_app etMsg (by rfl) _ _ 39 (by rfl) (by rfl) hRA (by rfl) (src_msgs (c := tc) (hT.since (hwc'.trans hsA))) (by omega) hsA.size ?_
  intro e1 e2 WB hRB hFB hBB
  simp only [Nat.zero_add, List.nil_append] at hRB
  have hSB : Since WA WB := hFB.since (fun i _ e => by unfold Sl.blk at e; simp at e)
  have hsB := hsA.trans hSB
  have hsB' := (hSS7 _).2 hsB
  simp only [Nat.zero_add]
  refine hK _ _ (fun _ _ => heldS_mk hsB') ?_
  clear hK K
  simp only [Act.put, List.setIfInBounds_toArray, List.set_cons_zero, List.set_cons_succ]
  refine actM 6 rfl (by kernel_rfl) ?_
  intro K hK
  refine step_app etMsg (by rfl) _ _ 39 (by rfl) (by rfl) hRB (by rfl) (src_msgs (c := hc) (hH.since (hwc'.trans hsB))) (by omega) hsB.size ?_
  intro aa ac aw ha hFC hBC
  have hsa : Since wc aw := hFC.sinceBase hsB (fun i hi e => by have := hRB.blk_ge i e; omega)
  refine hK _ _ (fun h => absurd h (by decide +kernel)) ?_
  clear hK K
  simp only [Act.put, List.setIfInBounds_toArray, List.set_cons_zero, List.set_cons_succ]
  refine takeW 7 rfl (by kernel_rfl) (fun _ _ _ _ h => h) (by rfl) rfl ?_
  go_big_quiet_op
  refine doneM (by kernel_rfl) ?_
  clear a2 a3 hne hneT hWA hRB hFB hBB hFC hBC hRA
  go_wp2_with fail
  have haw : Since wc aw := hsa
  have haw' : Since wc aw := hsa
  obtain ⟨S8, hSS8⟩ : ∃ S0 : World → Prop, ∀ w', S0 w' ↔ Since aw w' := ⟨_, fun _ => Iff.rfl⟩
  have hneT := heldTrue w
  have a2 : ∀ y : HeldW S8, y.w.cell? ⟨q, 2, none⟩ = some (.slice ha' nd'.held.length hc') := fun y => (NF.out _ (haw.trans ((hSS8 _).1 y.h))).2.c2
  have a3 : ∀ y : HeldW S8, y.w.cell? ⟨q, 3, none⟩ = some (.slice ta' nd'.told.length tc') := fun y => (NF.out _ (haw.trans ((hSS8 _).1 y.h))).2.c3
  obtain ⟨W0, hW0⟩ : ∃ y, aw.drew = y := ⟨_, rfl⟩
  have hs0 : Since aw W0 := by rw [← hW0]; exact Since.drew (Since.refl _)
  have hSi0 := (hSS8 W0).2 hs0
  have hne : Nonempty (HeldW S8) := ⟨⟨_, hSi0⟩⟩
  obtain ⟨WA, hWA⟩ : ∃ y, W0.alloc (.cells #[] 48) = y := ⟨_, rfl⟩
  have hSA : Since W0 WA := by rw [← hWA]; exact (Since.refl W0).alloc _
  have hsA := hs0.trans hSA
  have hRA : Row WA aw.heap.size 5 ⟨some ⟨W0.heap.size, 0, none⟩, 0⟩ 0 [] := by rw [← hWA]; exact Row.empty W0 _ 5 _
  refine beginM (fun w' => ∃ x : HeldW S8, w' = x.w) (by kernel_rfl) ?_
  rw [hW0]
  clear hW0
  refine takeW 1 rfl (by kernel_rfl) (fun _ _ _ _ h => h) (by rfl) rfl ?_
  go_big_quiet_op
  refine takeM 2 rfl (by kernel_rfl) (heldS_mk hSi0) (fun _ _ _ _ h => h) (by rfl) rfl ?_
  go_big_quiet_op
  refine takeW 4 rfl (by kernel_rfl) (fun _ _ _ _ h => h) (by rfl) rfl ?_
  go_big_quiet_op
  refine takeM 5 rfl (by kernel_rfl) (heldS_mk hSi0) (fun _ _ _ _ h => h) (by rfl) rfl ?_
  go_big_quiet_op
  refine actM 0 rfl (by kernel_rfl) ?_
  intro K hK
  go_simp
  have hsA' := (hSS8 _).2 hsA
  refine hK _ _ (fun _ _ => heldS_mk hsA') ?_
  clear hK K
  refine actM 3 rfl (by kernel_rfl) ?_
  intro K hK
  refine step_app etMsg (by rfl) _ _ 39 (by rfl) (by rfl) hRA (by rfl) (src_msgs (c := tc') (hMT1.since (haw'.trans hsA))) (by omega) hsA.size ?_
  intro e1 e2 WB hRB hFB hBB
  simp only [Nat.zero_add, List.nil_append] at hRB
  have hSB : Since WA WB := hFB.since (fun i _ e => by unfold Sl.blk at e; simp at e)
  have hsB := hsA.trans hSB
  have hsB' := (hSS8 _).2 hsB
  simp only [Nat.zero_add]
  refine hK _ _ (fun _ _ => heldS_mk hsB') ?_
  clear hK K
  simp only [Act.put, List.setIfInBounds_toArray, List.set_cons_zero, List.set_cons_succ]
  refine actM 6 rfl (by kernel_rfl) ?_
  intro K hK
  refine step_app etMsg (by rfl) _ _ 39 (by rfl) (by rfl) hRB (by rfl) (src_msgs (c := hc') (hMH1.since (haw'.trans hsB))) (by omega) hsB.size ?_
  intro ba bc bw hb hFC hBC
  have hsb : Since aw bw := hFC.sinceBase hsB (fun i hi e => by have := hRB.blk_ge i e; omega)
  refine hK _ _ (fun h => absurd h (by decide +kernel)) ?_
  clear hK K
  simp only [Act.put, List.setIfInBounds_toArray, List.set_cons_zero, List.set_cons_succ]
  refine takeW 7 rfl (by kernel_rfl) (fun _ _ _ _ h => h) (by rfl) rfl ?_
  go_big_quiet_op
  refine doneM (by kernel_rfl) ?_
  clear a2 a3 hne hneT hWA hRB hFB hBB hFC hBC hRA
  have h3b : Since w3 bw := (h3c.trans hsa).trans hsb
  have hcb : Since wc bw := hsa.trans hsb
  obtain ⟨g0, g1, g2⟩ := YF.out _ h3b
  go_wp2_with fail
  refine (hTN.out bw h3b).mono ?_
  rintro e w7 hR7
  obtain ⟨L2, rfl, hO7, hF7⟩ := hR7.out.2 d2 0 rfl
  have hS7 := hF7.none
  simp only [wval]
  clear g0 g1 g2 hR7
  obtain ⟨w8, hw8⟩ : ∃ y, w7.alloc (.cells #[.slice (L2 (0, 0, 0)).a d2.groups.length (L2 (0, 0, 0)).cap, .slice (L2 (1, 0, 0)).a d2.nodes.length (L2 (1, 0, 0)).cap, .slice (L2 (2, 0, 0)).a d2.wires.length (L2 (2, 0, 0)).cap] 26) = y := ⟨_, rfl⟩
  have hS8 : Since w7 w8 := by rw [← hw8]; exact (Since.refl w7).alloc _
  have hb8 := hS7.trans hS8
  obtain ⟨g0, g1, g2⟩ := YF.out _ (h3b.trans hb8)
  go_wp2_with fail
  refine (hBO.out w8 (h3b.trans hb8)).mono ?_
  rintro e w9 ⟨rfl, hS9⟩
  clear g0 g1 g2 hw8
  have hb9 := hb8.trans hS9
  have hc9 := hcb.trans hb9
  obtain ⟨⟨_, m0, m1, m2, m3, _, _, _, _⟩, ⟨_, q0, q1, q2, q3, _, _, _, _⟩⟩ := NF.out _ hc9
  have hM9 := hMH1.since hc9
  go_wp2_with fail
  go_loopw [17] (fun i wr => (∃ k : Nat, k ≤ nd'.held.length ∧ i = .int .i64 k) ∧ wr = w9) (fun i _ => nd'.held.length - (intOf i).toNat)
  case atStart => exact ⟨⟨0, Nat.zero_le _, rfl⟩, rfl⟩
  case round =>
    obtain ⟨⟨k, hk, rfl⟩, hwr⟩ := hrel
    obtain rfl := hwr
    by_cases hlt : k < nd'.held.length
    · obtain ⟨mg, hmg⟩ : ∃ m, nd'.held[k]? = some m := ⟨_, List.getElem?_eq_getElem hlt⟩
      obtain ⟨bh, oh, rfl, hbh, hch⟩ := hM9.cells (by omega)
      have hst := (msgAt_of hch k mg hmg).c2
      have hgt : decide (mg.st ≤ far) = false := by have := HT.out.held mg (List.mem_of_getElem? hmg); simp; omega
      have k1 : (k : Int) < (nd'.held.length : Int) := by omega
      clear hch hmg
      go_wp2_with fail
      go_roundw
      case rel => exact ⟨⟨k + 1, by omega, by go_num⟩, by first | rfl | trivial⟩
      case measure => simp [intOf]; omega
    · have hadd : IntKind.i64.wrap ((nd.told.length : Int) + m) = (nd'.told.length : Int) := by rw [← HT.out.told]; exact IntWalk.i64_in _ (by omega)
      have hrowa : Msgs aw aa (nd.told.length + nd.held.length) (nd.told ++ nd.held) := by
        have h0 : Row aw wc.heap.size 5 ⟨aa, ac⟩ (nd.told ++ nd.held).length (flat (nd.told ++ nd.held)) := by rw [List.length_append, flat_append]; exact ha
        have h1 := row_msgs h0 (by rw [List.length_append]; omega)
        rw [List.length_append] at h1; exact h1
      have hrowb : Msgs bw ba (nd'.told.length + nd'.held.length) (nd.told ++ nd.held) := by
        rw [HT.out.all]
        have h0 : Row bw aw.heap.size 5 ⟨ba, bc⟩ (nd'.told ++ nd'.held).length (flat (nd'.told ++ nd'.held)) := by rw [List.length_append, flat_append]; exact hb
        have h1 := row_msgs h0 (by rw [List.length_append]; omega)
        rw [List.length_append] at h1; exact h1
      go_wp2_with (first
        | (go_at_call 28; refine (tellBegun_any wr).mono ?_; rintro e w10 ⟨rfl, hS10⟩; have hb10 := hb9.trans hS10; obtain ⟨⟨_, r0, r1, r2, r3, _, _, _, _⟩, ⟨_, s0, s1, s2, s3, _, _, _, _⟩⟩ := NF.out _ (hc9.trans hS10))
        | (go_at_call 24; refine (sameMsgs_any aa _ ac _ ba _ bc _ w10 (hrowa.since (hsb.trans hb10)) (hrowb.since hb10)).mono ?_; rw [sameMs_refl]; rintro e w11 ⟨rfl, hS11⟩; obtain ⟨⟨_, t0, t1, t2, t3, _, _, _, _⟩, ⟨_, v0, v1, v2, v3, _, _, _, _⟩⟩ := NF.out _ (hc9.trans (hS10.trans hS11))))
      go_ret
      exact ⟨by simp, hS1.trans (hwc'.trans (hc9.trans (hS10.trans hS11)))⟩

theorem checked_err0 {d : Wd} {n er : Int} (h : checked d (tellOfD d n) = .error er) : (er != 0) = true := by
  unfold checked at h
  by_cases c : worldE d = 0
  · rw [if_pos c] at h
    unfold tellOfD at h
    cases hin : inB n 0 ((d.nodes.length : Int) - 1)
    · rw [hin] at h; simp at h; rw [← h]; rfl
    · rw [hin, if_pos rfl] at h
      have h0 : 0 ≤ n ∧ n ≤ (d.nodes.length : Int) - 1 := by simpa [inB] using hin
      rcases bind_err h with h | ⟨a, _, h⟩
      · rcases tellD_err (by omega) h with rfl | ⟨rfl, _⟩ <;> rfl
      · cases h
  · rw [if_neg c] at h; cases h; simpa using c
theorem lawTellTrue_any (x : WV) (d : Wd) (n : Int) (w : World) (hW : WAt w x d) :
    Calls Try.prog 8 #[.agg #[.slice x.ga x.gl x.gc, .slice x.na x.nl x.nc, .slice x.wa x.wl x.wc], .int .i64 n] w fun e w' => e = .returned (.bool true) ∧ Since w w' := by
  cases hr : checked d (tellOfD d n) with
  | error er => exact lawTellTrue_err x d n er w hW hr (checked_err0 hr)
  | ok dm =>
    obtain ⟨d', m⟩ := dm
    have hE : worldE d = 0 := by
      by_cases c : worldE d = 0
      · exact c
      · unfold checked at hr; rw [if_neg c] at hr; cases hr
    have hr' : tellOfD d n = .ok (d', m) := by unfold checked at hr; rw [if_pos hE] at hr; exact hr
    obtain ⟨k, nd, nd', d2, far, rfl, T⟩ := tellTrueD ((right_iff d).1 hE) hr'
    exact lawTellTrue_ok x d d' d2 k nd nd' m far w hW T hr
end Go.Proofs.Ytiiifecfdkjmbaa
