/- The law BoundGrows answers true; conditions: the groups read as ints, the acts as acts. -/
import Derived.Test.YtiiifecfdkjmbaaGreatLDone
import Derived.Test.YtiiifecfdkjmbaaGreatLChoose
import Derived.Test.YtiiifecfdkjmbaaGreatLBoundX
import Derived.Test.YtiiifecfdkjmbaaGreatPureY
namespace Go.Proofs.YtiiifecfdkjmbaaGreat
set_option maxRecDepth 8000
open Go.RowKit Go.Shelf
open _root_.Go.Proofs.YtiiifecfdkjmbaaGreat.Pure
set_option linter.unusedVariables false
set_option linter.unusedSimpArgs false
set_option maxHeartbeats 1000000 in
theorem boundGrows_no (nodes : Int) (a : Option Addr) (len cap : Nat) (l : List Int) (ac : Option Addr) (alen acap : Nat) (acts : List Ac) (x : Ac) (pa : Int) (w : World) (hI : Ints w a len l) (hA : Acts w ac alen acts) (hN : ¬ chkE nodes l = 0 ∨ 80 < alen) :
  Calls Tryz.prog 12 #[.int .i64 nodes, .slice a len cap, .slice ac alen acap, acV x, .int .i64 pa] w fun e w' => e = .returned (.bool true) ∧ Since w w' := by
 obtain ⟨wb, hwb⟩ : ∃ y, w.alloc (.cells #[.int .i64 x.kind, .int .i64 x.one, .int .i64 x.two, .string x.body] 58) = y := ⟨_, rfl⟩
 have hSb : Since w wb := by rw [← hwb]; exact (Since.refl w).alloc _
 unfold acV
 have hD := done_no nodes a len cap l ac alen acap acts wb (hI.since hSb) (hA.since hSb) hN
 clear hN
 go_enter Tryz.func12, Tryz.ntmps12
 go_wp2_with fail
 refine hD.mono ?_
 rintro e w2 ⟨rfl, hS2⟩
 obtain ⟨w3, hw3⟩ : ∃ y, w2.alloc (.cells #[.slice none 0 0, .slice none 0 0, .slice none 0 0] 26) = y := ⟨_, rfl⟩
 have hS3' : Since w2 w3 := by rw [← hw3]; exact (Since.refl w2).alloc _
 have hN3 : NilBox w3 w2.heap.size := by rw [← hw3]; exact NilBox.new w2 _
 obtain ⟨w4, hw4⟩ : ∃ y, ((w3.setCell ⟨w2.heap.size, 0, none⟩ (.slice none 0 0)).setCell ⟨w2.heap.size, 1, none⟩ (.slice none 0 0)).setCell ⟨w2.heap.size, 2, none⟩ (.slice none 0 0) = y := ⟨_, rfl⟩
 have hS4 : Since w2 w4 := by rw [← hw4]; exact (put3_fr w3 w2.heap.size _ _ _).sinceBase hS3' (fun i hi e => by omega)
 obtain ⟨_, r0, r1, r2, r3, r4, r5⟩ := hN3
 go_wp2_with (go_at_call 51; refine (boundBegun_any w4).mono ?_; rintro e w8 ⟨rfl, hS8⟩)
 go_ret
 exact ⟨by simp, hSb.trans (hS2.trans (hS4.trans hS8))⟩
set_option maxHeartbeats 2000000 in
theorem boundGrows_ok (nodes : Nat) (a : Option Addr) (cap : Nat) (l : List Int) (ac : Option Addr) (acap : Nat) (acts : List Ac) (x : Ac) (pa : Int) (w : World) (hI : Ints w a l.length l) (hA : Acts w ac acts.length acts) (hpa : I64 pa)
  (hn : nodes ≤ 4) (hl : l.length ≤ 3) (h1n : 0 < nodes) (hN : chkE (nodes : Int) l = 0) (hm : acts.length ≤ 80) :
  Calls Tryz.prog 12 #[.int .i64 nodes, .slice a l.length cap, .slice ac acts.length acap, acV x, .int .i64 pa] w fun e w' => e = .returned (.bool true) ∧ Since w w' := by
 obtain ⟨wb, hwb⟩ : ∃ y, w.alloc (.cells #[.int .i64 x.kind, .int .i64 x.one, .int .i64 x.two, .string x.body] 58) = y := ⟨_, rfl⟩
 have hSb : Since w wb := by rw [← hwb]; exact (Since.refl w).alloc _
 unfold acV
 have hlb : w.heap.size < wb.heap.size := by rw [← hwb]; simp
 have AF : Hid (∀ y, Since wb y → y.cell? ⟨w.heap.size, 0, none⟩ = some (.int .i64 x.kind) ∧ y.cell? ⟨w.heap.size, 1, none⟩ = some (.int .i64 x.one) ∧ y.cell? ⟨w.heap.size, 2, none⟩ = some (.int .i64 x.two) ∧ y.cell? ⟨w.heap.size, 3, none⟩ = some (.string x.body)) := fun y hy => by
  rw [hy.cellAt hlb, hy.cellAt hlb, hy.cellAt hlb, hy.cellAt hlb, ← hwb]; simp [go_sem]
 have hD := done_ok nodes a cap l ac acap acts wb (hI.since hSb) (hA.since hSb) hn hl hN hm
 have HI : Hid (Inv (doneD nodes l acts)) := (done_inv hN acts).1
 have HLN : Hid ((doneD nodes l acts).nodes.length = nodes) := (doneD_len hN acts).1
 obtain ⟨d, hd⟩ : ∃ d, doneD nodes l acts = d := ⟨_, rfl⟩
 rw [hd] at hD HI HLN
 obtain ⟨n, hnE⟩ : ∃ f, chooseN pa nodes = f := ⟨_, rfl⟩
 have hnl : n < nodes := by rw [← hnE]; exact chooseN_lt pa h1n
 have hc1 := fun y => choose_any pa nodes hpa h1n hn y
 rw [hnE] at hc1
 obtain ⟨nd, hnd⟩ : ∃ x, d.nodes[n]? = some x := node_of_lt (by rw [HLN.out]; exact hnl)
 have HND : Hid (d.nodes[n]? = some nd) := hnd
 have HLL : Hid (nd.last.length = d.groups.length) := HI.out.right.llen n nd hnd
 have HLR : Hid (∀ (g : Nat) (row : List Int), nd.last[g]? = some row → row.length = nodes) := fun g row h => by rw [HI.out.right.lrow n nd g row hnd h, HLN.out]
 have HHD : Hid (∀ (g : Nat) (row : List Int) (i : Nat) (v : Int) (y : Nd), nd.last[g]? = some row → row[i]? = some v → d.nodes[i]? = some y → v ≤ y.clock) := fun g row i v y h1 h2 h3 => by
  have := HI.out.heard n g i
  rw [lstAt_of hnd, clkAt_of h3, lastAt_some h1 h2] at this
  exact this
 have n1 : (n : Int) < (nodes : Int) := by omega
 clear hN hd hnE hnd
 go_enter Tryz.func12, Tryz.ntmps12
 go_wp2_with fail
 refine hD.mono ?_
 rintro e w1 ⟨⟨ga, gl, gc, na, nl, nc, wa, wl, wk⟩, rfl, hX1, hS1⟩
 dsimp only
 obtain ⟨w2, hw2⟩ : ∃ y, w1.alloc (.cells #[.slice ga gl gc, .slice na nl nc, .slice wa wl wk] 26) = y := ⟨_, rfl⟩
 have hS2 : Since w1 w2 := by rw [← hw2]; exact (Since.refl w1).alloc _
 have hP2 : ParBox w2 w1.heap.size ⟨ga, gl, gc, na, nl, nc, wa, wl, wk⟩ := by rw [← hw2]; exact ParBox.new w1 ⟨ga, gl, gc, na, nl, nc, wa, wl, wk⟩ _
 have hX2 := hX1.since hS2
 have hnlE := hX2.n.hlen
 dsimp only at hnlE
 have hnn : nl = nodes := by have := HLN.out; omega
 subst hnn
 obtain ⟨bn, on, hxe, hbn, hcn⟩ := hX2.n.cells (by dsimp only; omega)
 dsimp only at hxe
 subst hxe
 have HCN : Hid (∀ i x, d.nodes[i]? = some x → NodeAt w2 bn (on + i * 4) x) := hcn
 obtain ⟨k0, ⟨v1, k1, la, lc, rfl, hlc, hL⟩, _, _⟩ := hcn n nd HND.out
 have PF : Hid (∀ y, Since w2 y → ParBox y w1.heap.size ⟨ga, gl, gc, some ⟨bn, on, none⟩, nl, nc, wa, wl, wk⟩) := fun y hy => hP2.since hy
 have p0 := hP2.c0
 have p1 := hP2.c1
 have p2 := hP2.c2
 dsimp only at p0 p1 p2
 have hlm := hL.hmax
 clear hcn hnlE
 go_wp2_with (go_at_call_of 52 (Value.int IntKind.i64 pa); refine (hc1 _).mono ?_; rintro e w' ⟨rfl, hw'⟩; obtain rfl := hw'.symm)
 try rw [hw2]
 clear hw2 hc1
 go_loopw [14] (fun i wr => ∃ g : Nat, g ≤ nd.last.length ∧ i = .int .i64 g ∧ Since w2 wr) (fun i _ => nd.last.length - (intOf i).toNat)
 case atStart => exact ⟨0, Nat.zero_le _, rfl, Since.refl _⟩
 case round =>
  clear p0 p1 p2
  obtain ⟨wo, rfl⟩ : ∃ wo, wo = wr := ⟨_, rfl⟩
  obtain ⟨g, hg, rfl, hSo⟩ := hrel
  obtain ⟨_, p0, p1, p2⟩ := PF.out _ hSo
  dsimp only at p0 p1 p2
  have i1 := (hSo.cellAt hbn _).trans k1
  by_cases hlt : g < nd.last.length
  ·obtain ⟨row, hrow⟩ : ∃ r, nd.last[g]? = some r := ⟨_, List.getElem?_eq_getElem hlt⟩
   obtain ⟨bl, ol, rfl, hbl, hcl⟩ := hL.cells (by omega)
   obtain ⟨v5, k5, ra, rc, rfl, hrc, hRw⟩ := hcl g row hrow
   have g1 : (g : Int) < (nd.last.length : Int) := by omega
   have HRW : Hid (nd.last[g]? = some row) := hrow
   have HRN : Hid (row.length = nl) := HLR.out g row hrow
   have hrm := hRw.hmax
   have j5 := (hSo.cellAt hbl _).trans k5
   clear hrow hcl
   go_wp2_with fail
   go_loopw [15] (fun i wr => ∃ k : Nat, k ≤ row.length ∧ i = .int .i64 k ∧ Since w2 wr) (fun i _ => row.length - (intOf i).toNat)
   case atStart => exact ⟨0, Nat.zero_le _, rfl, hSo⟩
   case round =>
    clear p0 p1 p2 i1 j5
    obtain ⟨wi, rfl⟩ : ∃ wi, wi = wr := ⟨_, rfl⟩
    obtain ⟨k, hk, rfl, hSi⟩ := hrel
    obtain ⟨_, p0, p1, p2⟩ := PF.out _ hSi
    dsimp only at p0 p1 p2
    have i1 := (hSi.cellAt hbn _).trans k1
    have j5 := (hSi.cellAt hbl _).trans k5
    by_cases hkl : k < row.length
    ·obtain ⟨v, hv⟩ : ∃ v, row[k]? = some v := ⟨_, List.getElem?_eq_getElem hkl⟩
     obtain ⟨nk, hnk⟩ : ∃ x, d.nodes[k]? = some x := node_of_lt (by have := HRN.out; have := HLN.out; omega)
     obtain ⟨bR, oR, rfl, hbR, hcR⟩ := hRw.cells (by omega)
     have k6 : w2.cell? ⟨bR, oR + k, none⟩ = some (.int .i64 v) := by have := hcR k (by omega); rw [hv] at this; exact this
     have k7 := (HCN.out k nk hnk).clk
     have k1' : (k : Int) < (row.length : Int) := by omega
     have kn : (k : Int) < (nl : Int) := by have := HRN.out; omega
     have hle : decide (nk.clock < v) = false := by have := HHD.out g row k v nk HRW.out hv hnk; simp; omega
     clear hcR hv hnk
     obtain ⟨S0, hS0⟩ : ∃ S0 : World → Prop, ∀ w', S0 w' ↔ Since wi w' := ⟨_, fun _ => Iff.rfl⟩
     obtain ⟨W0, hW0⟩ : ∃ y, wi.drew = y := ⟨_, rfl⟩
     have hs0 : Since wi W0 := by rw [← hW0]; exact Since.drew (Since.refl _)
     have hSi0 := (hS0 W0).2 hs0
     have hne : Nonempty (HeldW S0) := ⟨⟨_, hSi0⟩⟩
     have hneT := heldTrue w
     have x1 : ∀ y : HeldW S0, y.w.cell? ⟨w1.heap.size, 1, none⟩ = some (.slice (some ⟨bn, on, none⟩) nl nc) := fun y => (PF.out _ (hSi.trans ((hS0 _).1 y.h))).c1
     have x2 : ∀ y : HeldW S0, y.w.cell? ⟨bn, on + n * 4 + 1, none⟩ = _ := fun y => ((hSi.trans ((hS0 _).1 y.h)).cellAt hbn _).trans k1
     have x3 : ∀ y : HeldW S0, y.w.cell? ⟨bl, ol + g, none⟩ = _ := fun y => ((hSi.trans ((hS0 _).1 y.h)).cellAt hbl _).trans k5
     have x4 : ∀ y : HeldW S0, y.w.cell? ⟨bR, oR + k, none⟩ = _ := fun y => ((hSi.trans ((hS0 _).1 y.h)).cellAt hbR _).trans k6
     have x5 : ∀ y : HeldW S0, y.w.cell? ⟨bn, on + k * 4, none⟩ = _ := fun y => ((hSi.trans ((hS0 _).1 y.h)).cellAt hbn _).trans k7
     go_wp2_with fail
     refine beginM (fun w' => ∃ x : HeldW S0, w' = x.w) (by kernel_rfl) ?_
     rw [hW0]
     clear hW0
     refine tW 0 rfl ?_
     go_big_quiet_op
     refine tM 1 rfl (heldS_mk hSi0) ?_
     go_big_quiet_op
     refine tW 2 rfl ?_
     go_big_quiet_op
     refine tW 3 rfl ?_
     go_big_quiet_op
     refine tW 4 rfl ?_
     go_big_quiet_op
     refine tM 5 rfl (heldS_mk hSi0) ?_
     go_big_quiet_op
     refine tW 6 rfl ?_
     go_big_quiet_op
     refine tW 7 rfl ?_
     go_big_quiet_op
     refine tM 8 rfl (heldS_mk hSi0) ?_
     go_big_quiet_op
     refine tW 9 rfl ?_
     go_big_quiet_op
     refine tW 10 rfl ?_
     go_big_quiet_op
     refine tM 11 rfl (heldS_mk hSi0) ?_
     go_big_quiet_op
     refine tW 12 rfl ?_
     go_big_quiet_op
     refine tM 13 rfl (heldS_mk hSi0) ?_
     go_big_quiet_op
     refine tW 14 rfl ?_
     go_big_quiet_op
     refine tW 15 rfl ?_
     go_big_quiet_op
     refine tW 16 rfl ?_
     go_big_quiet_op
     refine tM 17 rfl (heldS_mk hSi0) ?_
     go_big_quiet_op
     refine tW 18 rfl ?_
     go_big_quiet_op
     refine doneM (by kernel_rfl) ?_
     clear x1 x2 x3 x4 x5 hne hneT
     go_wp2_with fail
     go_roundw
     case rel => exact ⟨k + 1, by omega, by go_num, hSi.trans hs0⟩
     case measure => simp [intOf]; omega
    ·go_wp2_with fail
     go_roundw
     case rel => exact ⟨g + 1, by omega, by go_num, hSi⟩
     case measure => simp [intOf]; omega
  ·obtain ⟨z0, z1, z2, z3⟩ := AF.out _ (hS1.trans (hS2.trans hSo))
   have hDo := logDo_any ⟨ga, gl, gc, some ⟨bn, on, none⟩, nl, nc, wa, wl, wk⟩ d x wo (hX2.since hSo)
   unfold acV at hDo
   dsimp only at hDo
   obtain ⟨r, hr⟩ : ∃ r, doD d x = r := ⟨_, rfl⟩
   rw [hr] at hDo
   have hbo := hSb.trans (hS1.trans (hS2.trans hSo))
   go_wp2_with fail
   refine hDo.mono ?_
   rintro e w4 hR4
   clear p0 p1 p2 i1 z0 z1 z2 z3
   cases r with
   | error er =>
    have her : (er != 0) = true := by have := doD_nz4 hr; simpa using this
    obtain ⟨rfl, hS4⟩ := hR4.out.1 er rfl
    clear hR4 hDo hr
    obtain ⟨w5a, hw5a⟩ : ∃ y, w4.alloc (.cells #[.slice none 0 0, .slice none 0 0, .slice none 0 0] 26) = y := ⟨_, rfl⟩
    have hS5a : Since w4 w5a := by rw [← hw5a]; exact (Since.refl w4).alloc _
    have hN5a : NilBox w5a w4.heap.size := by rw [← hw5a]; exact NilBox.new w4 _
    obtain ⟨w5, hw5⟩ : ∃ y, ((w5a.setCell ⟨w4.heap.size, 0, none⟩ (.slice none 0 0)).setCell ⟨w4.heap.size, 1, none⟩ (.slice none 0 0)).setCell ⟨w4.heap.size, 2, none⟩ (.slice none 0 0) = y := ⟨_, rfl⟩
    have hS5 : Since w4 w5 := by rw [← hw5]; exact (put3_fr w5a w4.heap.size _ _ _).sinceBase hS5a (fun i hi e => by omega)
    obtain ⟨_, r0, r1, r2, r3, r4, r5⟩ := hN5a
    have h15 := hbo.trans (hS4.trans hS5)
    go_wp2_with (go_at_call 51; refine (boundBegun_any w5).mono ?_; rintro e w8 ⟨rfl, hS8⟩)
    go_ret
    exact ⟨by simp, h15.trans hS8⟩
   | ok d' =>
    have DD := do_ok hr
    have HG : Hid (Grow d d') := DD.grow
    have HR' : Hid (Right d') := DD.right
    obtain ⟨⟨xga, xgl, xgc, xna, xnl, xnc, xwa, xwl, xwc⟩, rfl, hX4, hS4⟩ := resW_wat hR4
    dsimp only
    clear hR4 hDo hr DD
    have HXN : Hid (d'.nodes.length = nl) := by unfold Hid; rw [HG.out.alike.n]; exact HLN.out
    have hxn := hX4.n.hlen
    dsimp only at hxn
    have hxl : xnl = nl := by have := HXN.out; omega
    subst hxl
    obtain ⟨w5, hw5⟩ : ∃ y, w4.alloc (.cells #[.slice xga xgl xgc, .slice xna xnl xnc, .slice xwa xwl xwc] 26) = y := ⟨_, rfl⟩
    have hS5 : Since w4 w5 := by rw [← hw5]; exact (Since.refl w4).alloc _
    have hX5 := hX4.since hS5
    obtain ⟨bm, om, hxe, hbm, hcm⟩ := hX5.n.cells (by dsimp only; omega)
    dsimp only at hxe
    subst hxe
    obtain ⟨nd', hnd'⟩ : ∃ x, d'.nodes[n]? = some x := node_of_lt (by rw [HXN.out]; exact hnl)
    have m0 := (hcm n nd' hnd').clk
    have hQ5 : ParBox w5 w4.heap.size ⟨xga, xgl, xgc, some ⟨bm, om, none⟩, xnl, xnc, xwa, xwl, xwc⟩ := by rw [← hw5]; exact ParBox.new w4 ⟨xga, xgl, xgc, some ⟨bm, om, none⟩, xnl, xnc, xwa, xwl, xwc⟩ _
    have QF : Hid (∀ y, Since w5 y → ParBox y w4.heap.size ⟨xga, xgl, xgc, some ⟨bm, om, none⟩, xnl, xnc, xwa, xwl, xwc⟩) := fun y hy => hQ5.since hy
    have h25 := hSo.trans (hS4.trans hS5)
    have HF1 : Hid (nodeErr d (n : Int) = 0 ∧ boundZ d (n : Int) = farAt d n) := by
     have h0 : nodeErr d (n : Int) = 0 := by rw [nodeErr_right HI.out.right, if_pos (by simp [inB]; have := HLN.out; omega)]
     refine ⟨h0, ?_⟩
     rw [boundZ_at h0 HND.out]; unfold farAt; rw [HND.out]
    have HF2 : Hid (nodeErr d' (n : Int) = 0 ∧ boundZ d' (n : Int) = farAt d' n) := by
     have h0 : nodeErr d' (n : Int) = 0 := by rw [nodeErr_right HR'.out, if_pos (by simp [inB]; have := HXN.out; omega)]
     refine ⟨h0, ?_⟩
     rw [boundZ_at h0 hnd']; unfold farAt; rw [hnd']
    obtain ⟨fa, hfa⟩ : ∃ z, farAt d n = z := ⟨_, rfl⟩
    obtain ⟨fb, hfb⟩ : ∃ z, farAt d' n = z := ⟨_, rfl⟩
    have hle1 : decide (fa ≤ fb) = true := by have := far_grows HG.out (k := n) (by rw [HLN.out]; exact hnl); rw [hfa, hfb] at this; simpa using this
    have hle2 : decide (nd.clock ≤ nd'.clock) = true := by have := HG.out.clk n; rw [clkAt_of HND.out, clkAt_of hnd'] at this; simpa using this
    rw [hfa] at HF1
    rw [hfb] at HF2
    have hB1 := boundOf_any ⟨ga, gl, gc, some ⟨bn, on, none⟩, xnl, nc, wa, wl, wk⟩ d n w5 (hX2.since h25)
    rw [HF1.out.1, HF1.out.2] at hB1
    dsimp only at hB1
    have hB2 := fun (y : World) (hy : Since w5 y) => boundOf_any ⟨xga, xgl, xgc, some ⟨bm, om, none⟩, xnl, xnc, xwa, xwl, xwc⟩ d' n y (hX5.since hy)
    rw [HF2.out.1, HF2.out.2] at hB2
    dsimp only at hB2
    obtain ⟨_, p0, p1, p2⟩ := PF.out _ h25
    dsimp only at p0 p1 p2
    clear hcm hxn hfa hfb hnd'
    go_wp2_with fail
    try rw [hw5]
    refine hB1.mono ?_
    rintro e w6 ⟨rfl, hS6⟩
    obtain ⟨_, q0, q1, q2⟩ := QF.out _ hS6
    dsimp only at q0 q1 q2
    go_wp2_with fail
    refine (hB2 w6 hS6).mono ?_
    rintro e w7 ⟨rfl, hS7⟩
    go_wp2_with fail
    clear p0 p1 p2 q0 q1 q2 hw5 hB1 hB2
    have h57 := hS6.trans hS7
    have h27 := h25.trans h57
    obtain ⟨S0, hS0⟩ : ∃ S0 : World → Prop, ∀ w', S0 w' ↔ Since w7 w' := ⟨_, fun _ => Iff.rfl⟩
    obtain ⟨W0, hW0⟩ : ∃ y, w7.drew = y := ⟨_, rfl⟩
    have hs0 : Since w7 W0 := by rw [← hW0]; exact Since.drew (Since.refl _)
    have hSi0 := (hS0 W0).2 hs0
    have hne : Nonempty (HeldW S0) := ⟨⟨_, hSi0⟩⟩
    have hneT := heldTrue w
    have x1 : ∀ y : HeldW S0, y.w.cell? ⟨w1.heap.size, 1, none⟩ = some (.slice (some ⟨bn, on, none⟩) xnl nc) := fun y => (PF.out _ (h27.trans ((hS0 _).1 y.h))).c1
    have x2 : ∀ y : HeldW S0, y.w.cell? ⟨w4.heap.size, 1, none⟩ = some (.slice (some ⟨bm, om, none⟩) xnl xnc) := fun y => (QF.out _ (h57.trans ((hS0 _).1 y.h))).c1
    have x3 : ∀ y : HeldW S0, y.w.cell? ⟨bn, on + n * 4, none⟩ = _ := fun y => ((h27.trans ((hS0 _).1 y.h)).cellAt hbn _).trans k0
    have x4 : ∀ y : HeldW S0, y.w.cell? ⟨bm, om + n * 4, none⟩ = _ := fun y => ((h57.trans ((hS0 _).1 y.h)).cellAt hbm _).trans m0
    refine beginM (fun w' => ∃ x : HeldW S0, w' = x.w) (by kernel_rfl) ?_
    rw [hW0]
    clear hW0
    refine actM 0 rfl (by kernel_rfl) ?_
    intro K hK
    go_simp
    refine (boundBegun_any W0).mono ?_
    rintro e W2 ⟨rfl, hs2⟩
    have hs02 := hs0.trans hs2
    have hSi1 := (hS0 W2).2 hs02
    refine hK _ _ (fun _ _ => heldS_mk hSi1) ?_
    clear hK K
    refine tW 1 rfl ?_
    go_big_quiet_op
    refine tW 2 rfl ?_
    go_big_quiet_op
    refine tW 3 rfl ?_
    go_big_quiet_op
    refine tW 4 rfl ?_
    go_big_quiet_op
    refine tW 5 rfl ?_
    go_big_quiet_op
    refine tW 6 rfl ?_
    go_big_quiet_op
    refine tW 7 rfl ?_
    go_big_quiet_op
    refine tW 8 rfl ?_
    go_big_quiet_op
    refine tW 9 rfl ?_
    go_big_quiet_op
    refine tW 10 rfl ?_
    go_big_quiet_op
    refine tW 11 rfl ?_
    go_big_quiet_op
    refine tW 12 rfl ?_
    go_big_quiet_op
    refine tW 13 rfl ?_
    go_big_quiet_op
    refine tW 14 rfl ?_
    go_big_quiet_op
    refine tW 15 rfl ?_
    go_big_quiet_op
    refine tM 16 rfl (heldS_mk hSi1) ?_
    go_big_quiet_op
    refine tM 17 rfl (heldS_mk hSi1) ?_
    go_big_quiet_op
    refine tW 18 rfl ?_
    go_big_quiet_op
    refine tW 19 rfl ?_
    go_big_quiet_op
    refine tW 20 rfl ?_
    go_big_quiet_op
    refine tW 21 rfl ?_
    go_big_quiet_op
    refine tW 22 rfl ?_
    go_big_quiet_op
    refine tM 23 rfl (heldS_mk hSi1) ?_
    go_big_quiet_op
    refine tW 24 rfl ?_
    go_big_quiet_op
    refine tW 25 rfl ?_
    go_big_quiet_op
    refine tW 26 rfl ?_
    go_big_quiet_op
    refine tM 27 rfl (heldS_mk hSi1) ?_
    go_big_quiet_op
    refine tW 28 rfl ?_
    go_big_quiet_op
    refine tM 29 rfl (heldS_mk hSi1) ?_
    go_big_quiet_op
    refine tW 30 rfl ?_
    go_big_quiet_op
    refine tW 31 rfl ?_
    go_big_quiet_op
    refine tW 32 rfl ?_
    go_big_quiet_op
    refine tM 33 rfl (heldS_mk hSi1) ?_
    go_big_quiet_op
    refine tW 34 rfl ?_
    go_big_quiet_op
    refine tW 35 rfl ?_
    go_big_quiet_op
    refine tW 36 rfl ?_
    go_big_quiet_op
    refine doneM (by kernel_rfl) ?_
    clear x1 x2 x3 x4 hne hneT
    go_wp2_with fail
    go_ret
    exact ⟨by simp, hbo.trans (hS4.trans (hS5.trans (h57.trans hs02)))⟩
theorem lawBoundGrows_any (nodes : Int) (a : Option Addr) (len cap : Nat) (l : List Int) (ac : Option Addr) (alen acap : Nat) (acts : List Ac) (x : Ac) (pa : Int) (w : World) (hI : Ints w a len l) (hA : Acts w ac alen acts) (hpa : I64 pa) :
  Calls Tryz.prog 12 #[.int .i64 nodes, .slice a len cap, .slice ac alen acap, acV x, .int .i64 pa] w fun e w' => e = .returned (.bool true) ∧ Since w w' := by
 have hl := hI.hlen
 have ha := hA.hlen
 by_cases hE : chkE nodes l = 0
 ·by_cases hm : 80 < alen
  ·exact boundGrows_no nodes a len cap l ac alen acap acts x pa w hI hA (.inr hm)
  ·obtain ⟨h1, h2, h3, h4⟩ := chkE_zero hE
   obtain ⟨k, rfl⟩ : ∃ k : Nat, nodes = (k : Int) := ⟨nodes.toNat, by omega⟩
   subst hl ha
   exact boundGrows_ok k a cap l ac acap acts x pa w hI hA hpa (by omega) h4 (by omega) hE (by omega)
 ·exact boundGrows_no nodes a len cap l ac alen acap acts x pa w hI hA (.inl hE)
end Go.Proofs.YtiiifecfdkjmbaaGreat
