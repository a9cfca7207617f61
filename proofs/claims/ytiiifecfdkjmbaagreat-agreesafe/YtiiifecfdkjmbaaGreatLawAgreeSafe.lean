/- The law AgreeSafe answers true; conditions: the groups read as ints, the acts as acts. -/
import Derived.Test.YtiiifecfdkjmbaaGreatLDone
import Derived.Test.YtiiifecfdkjmbaaGreatLChoose
import Derived.Test.YtiiifecfdkjmbaaGreatLBoundX
import Derived.Test.YtiiifecfdkjmbaaGreatPureY
namespace Go.Proofs.YtiiifecfdkjmbaaGreat
set_option maxRecDepth 8000
open Go.RowKit Go.Shelf
open _root_.Go.Proofs.YtiiifecfdkjmbaaGreat.Pure
set_option linter.unusedVariables false
set_option linter.unusedSimpArgs false
set_option maxHeartbeats 1000000 in
theorem agreeSafe_no (nodes : Int) (a : Option Addr) (len cap : Nat) (l : List Int) (ac : Option Addr) (alen acap : Nat) (acts : List Ac) (pa pb : Int) (w : World) (hI : Ints w a len l) (hA : Acts w ac alen acts) (hN : ¬ chkE nodes l = 0 ∨ 80 < alen) :
  Calls Tryz.prog 17 #[.int .i64 nodes, .slice a len cap, .slice ac alen acap, .int .i64 pa, .int .i64 pb] w fun e w' => e = .returned (.bool true) ∧ Since w w' := by
 obtain ⟨wb, hwb⟩ : ∃ y, y = w := ⟨_, rfl⟩
 have hSb : Since w wb := by rw [hwb]; exact Since.refl _
 subst hwb
 have hD := done_no nodes a len cap l ac alen acap acts wb (hI.since hSb) (hA.since hSb) hN
 clear hN
 go_enter Tryz.func17, Tryz.ntmps17
 go_wp2_with fail
 refine hD.mono ?_
 rintro e w2 ⟨rfl, hS2⟩
 obtain ⟨w3, hw3⟩ : ∃ y, w2.alloc (.cells #[.slice none 0 0, .slice none 0 0, .slice none 0 0] 26) = y := ⟨_, rfl⟩
 have hS3' : Since w2 w3 := by rw [← hw3]; exact (Since.refl w2).alloc _
 have hN3 : NilBox w3 w2.heap.size := by rw [← hw3]; exact NilBox.new w2 _
 obtain ⟨w4, hw4⟩ : ∃ y, ((w3.setCell ⟨w2.heap.size, 0, none⟩ (.slice none 0 0)).setCell ⟨w2.heap.size, 1, none⟩ (.slice none 0 0)).setCell ⟨w2.heap.size, 2, none⟩ (.slice none 0 0) = y := ⟨_, rfl⟩
 have hS4 : Since w2 w4 := by rw [← hw4]; exact (put3_fr w3 w2.heap.size _ _ _).sinceBase hS3' (fun i hi e => by omega)
 obtain ⟨_, r0, r1, r2, r3, r4, r5⟩ := hN3
 go_wp2_with (go_at_call 51; refine (boundBegun_any w4).mono ?_; rintro e w8 ⟨rfl, hS8⟩)
 go_ret
 exact ⟨by simp, hSb.trans (hS2.trans (hS4.trans hS8))⟩
set_option maxHeartbeats 2000000 in
theorem agreeSafe_ok (nodes : Nat) (a : Option Addr) (cap : Nat) (l : List Int) (ac : Option Addr) (acap : Nat) (acts : List Ac) (pa pb : Int) (w : World) (hI : Ints w a l.length l) (hA : Acts w ac acts.length acts) (hpa : I64 pa) (hpb : I64 pb)
  (hn : nodes ≤ 4) (hl : l.length ≤ 3) (h1n : 0 < nodes) (hN : chkE (nodes : Int) l = 0) (hm : acts.length ≤ 80) :
  Calls Tryz.prog 17 #[.int .i64 nodes, .slice a l.length cap, .slice ac acts.length acap, .int .i64 pa, .int .i64 pb] w fun e w' => e = .returned (.bool true) ∧ Since w w' := by
 have hD := done_ok nodes a cap l ac acap acts w hI hA hn hl hN hm
 have HI : Hid (Inv (doneD nodes l acts)) := (done_inv hN acts).1
 have HLN : Hid ((doneD nodes l acts).nodes.length = nodes) := (doneD_len hN acts).1
 obtain ⟨d, hd⟩ : ∃ d, doneD nodes l acts = d := ⟨_, rfl⟩
 rw [hd] at hD HI HLN
 obtain ⟨f, hf⟩ : ∃ f, chooseN pa nodes = f := ⟨_, rfl⟩
 obtain ⟨t, ht⟩ : ∃ t, chooseN pb nodes = t := ⟨_, rfl⟩
 have hfl : f < nodes := by rw [← hf]; exact chooseN_lt pa h1n
 have htl : t < nodes := by rw [← ht]; exact chooseN_lt pb h1n
 have hc1 := fun y => choose_any pa nodes hpa h1n hn y
 have hc2 := fun y => choose_any pb nodes hpb h1n hn y
 rw [hf] at hc1
 rw [ht] at hc2
 obtain ⟨x, hx⟩ : ∃ x, d.nodes[t]? = some x := node_of_lt (by rw [HLN.out]; exact htl)
 have HNE : Hid (nodeErr d (t : Int) = 0) := by unfold Hid; rw [nodeErr_right HI.out.right, if_pos (by simp [inB]; have := HLN.out; omega)]
 have HBZ : Hid (boundZ d (t : Int) = farAt d t) := by unfold Hid; rw [boundZ_at HNE.out hx]; unfold farAt; rw [hx]
 obtain ⟨far, hfar⟩ : ∃ z, farAt d t = z := ⟨_, rfl⟩
 obtain ⟨row, hrow⟩ : ∃ r, d.wires[f]? = some r := ⟨_, List.getElem?_eq_getElem (by rw [HI.out.right.wlen, HLN.out]; exact hfl)⟩
 have HRN : Hid (row.length = nodes) := by have := HI.out.right.rlen f row hrow; rw [HLN.out] at this; exact this
 obtain ⟨ms, hms⟩ : ∃ m, row[t]? = some m := ⟨_, List.getElem?_eq_getElem (by rw [HRN.out]; exact htl)⟩
 have HMS : Hid (∀ m ∈ ms, far < m.st) := fun m hm => by
  have := wire_far HI.out (f := f) (t := t) (m := m) (by rw [wireAt_some hrow hms]; exact hm)
  rw [hfar] at this; exact this
 have hm40 : ms.length ≤ 40 := by have := HI.out.right.wireN f t; rw [wireAt_some hrow hms] at this; exact this
 rw [hfar] at HBZ
 have HR : Hid (d.wires[f]? = some row) := hrow
 have HM : Hid (row[t]? = some ms) := hms
 have f1 : (f : Int) < (row.length : Int) := by have := HRN.out; omega
 have t1 : (t : Int) < (row.length : Int) := by have := HRN.out; omega
 clear hN hd hf ht hx hrow hms hfar
 go_enter Tryz.func17, Tryz.ntmps17
 go_wp2_with fail
 refine hD.mono ?_
 rintro e w1 ⟨⟨ga, gl, gc, na, nl, nc, wa, wl, wk⟩, rfl, hX1, hS1⟩
 dsimp only
 obtain ⟨w2, hw2⟩ : ∃ y, w1.alloc (.cells #[.slice ga gl gc, .slice na nl nc, .slice wa wl wk] 26) = y := ⟨_, rfl⟩
 have hS2 : Since w1 w2 := by rw [← hw2]; exact (Since.refl w1).alloc _
 have hP2 : ParBox w2 w1.heap.size ⟨ga, gl, gc, na, nl, nc, wa, wl, wk⟩ := by rw [← hw2]; exact ParBox.new w1 ⟨ga, gl, gc, na, nl, nc, wa, wl, wk⟩ _
 have hX2 := hX1.since hS2
 have hwl := hX2.r.hlen
 dsimp only at hwl
 have f2 : (f : Int) < (wl : Int) := by have := HI.out.right.wlen; have := HLN.out; omega
 obtain ⟨bw, ow, hwe, hbw, hcw⟩ := hX2.r.cells (by dsimp only; omega)
 dsimp only at hwe
 subst hwe
 obtain ⟨v, c1, ra, rc, rfl, hrc, hRow⟩ := hcw f row HR.out
 obtain ⟨bR, oR, rfl, hbR, hcR⟩ := hRow.cells (by omega)
 obtain ⟨v5, c2, ma, mc, rfl, hmc, hMs⟩ := hcR t ms HM.out
 have PF : Hid (∀ y, Since w2 y → ParBox y w1.heap.size ⟨ga, gl, gc, na, nl, nc, some ⟨bw, ow, none⟩, wl, wk⟩) := fun y hy => hP2.since hy
 have hBO := boundOf_any ⟨ga, gl, gc, na, nl, nc, some ⟨bw, ow, none⟩, wl, wk⟩ d t w2 hX2
 rw [HNE.out, HBZ.out] at hBO
 dsimp only at hBO
 have p0 := hP2.c0
 have p1 := hP2.c1
 have p2 := hP2.c2
 dsimp only at p0 p1 p2
 clear hwl hcw hcR
 go_wp2_with (first
  | (go_at_call_of 52 (Value.int IntKind.i64 pa); refine (hc1 _).mono ?_; rintro e w' ⟨rfl, hw'⟩; obtain rfl := hw'.symm)
  | (go_at_call_of 52 (Value.int IntKind.i64 pb); refine (hc2 _).mono ?_; rintro e w' ⟨rfl, hw'⟩; obtain rfl := hw'.symm)
  | (go_at_call 54; refine hBO.mono ?_; rintro e w3 ⟨rfl, hS3⟩; obtain ⟨lt3, q0, q1, q2⟩ := PF.out _ hS3; dsimp only at q0 q1 q2))
 clear p0 p1 p2 hBO hc1 hc2 hw2
 have hMO := moveOne_any ⟨ga, gl, gc, na, nl, nc, some ⟨bw, ow, none⟩, wl, wk⟩ d f t w3 (hX2.since hS3)
 dsimp only at hMO
 have h13 := hS1.trans (hS2.trans hS3)
 obtain ⟨r, hr⟩ : ∃ r, moveOfD d f t = r := ⟨_, rfl⟩
 rw [hr] at hMO
 refine hMO.mono ?_
 rintro e w4 hR4
 cases r with
 | error er =>
  have her := moveOf_err HI.out (by rw [HLN.out]; exact hfl) (by rw [HLN.out]; exact htl) hr
  obtain ⟨rfl, hS4⟩ := hR4.out.1 er rfl
  clear hR4 hMO hr q0 q1 q2
  obtain ⟨w5a, hw5a⟩ : ∃ y, w4.alloc (.cells #[.slice none 0 0, .slice none 0 0, .slice none 0 0] 26) = y := ⟨_, rfl⟩
  have hS5a : Since w4 w5a := by rw [← hw5a]; exact (Since.refl w4).alloc _
  have hN5a : NilBox w5a w4.heap.size := by rw [← hw5a]; exact NilBox.new w4 _
  obtain ⟨w5, hw5⟩ : ∃ y, ((w5a.setCell ⟨w4.heap.size, 0, none⟩ (.slice none 0 0)).setCell ⟨w4.heap.size, 1, none⟩ (.slice none 0 0)).setCell ⟨w4.heap.size, 2, none⟩ (.slice none 0 0) = y := ⟨_, rfl⟩
  have hS5 : Since w4 w5 := by rw [← hw5]; exact (put3_fr w5a w4.heap.size _ _ _).sinceBase hS5a (fun i hi e => by omega)
  obtain ⟨_, r0, r1, r2, r3, r4, r5⟩ := hN5a
  have h15 := h13.trans (hS4.trans hS5)
  rcases her with rfl | rfl
  ·go_wp2_with (go_at_call 51; refine (boundBegun_any w5).mono ?_; rintro e w8 ⟨rfl, hS8⟩)
   go_ret
   exact ⟨by simp, h15.trans hS8⟩
  ·go_wp2_with (go_at_call 51; refine (boundBegun_any w5).mono ?_; rintro e w8 ⟨rfl, hS8⟩)
   go_ret
   exact ⟨by simp, h15.trans hS8⟩
 | ok d' =>
  obtain ⟨⟨xga, xgl, xgc, xna, xnl, xnc, xwa, xwl, xwc⟩, rfl, hX4, hS4⟩ := resW_wat hR4
  dsimp only
  clear hR4 hMO hr q0 q1 q2
  obtain ⟨w5, hw5⟩ : ∃ y, w4.alloc (.cells #[.slice xga xgl xgc, .slice xna xnl xnc, .slice xwa xwl xwc] 26) = y := ⟨_, rfl⟩
  have hS5 : Since w4 w5 := by rw [← hw5]; exact (Since.refl w4).alloc _
  have h25 := hS3.trans (hS4.trans hS5)
  go_wp2_with fail
  try rw [hw5]
  clear hw5
  go_loopw [19] (fun i wr => (∃ k : Nat, k ≤ ms.length ∧ i = .int .i64 k) ∧ wr = w5) (fun i _ => ms.length - (intOf i).toNat)
  case atStart => exact ⟨⟨0, Nat.zero_le _, rfl⟩, rfl⟩
  case round =>
   obtain ⟨⟨k, hk, rfl⟩, hwr⟩ := hrel
   obtain rfl := hwr
   obtain ⟨lt3, q0, q1, q2⟩ := PF.out _ h25
   dsimp only at q0 q1 q2
   have j1 := (h25.cellAt hbw _).trans c1
   have j2 := (h25.cellAt hbR _).trans c2
   by_cases hlt : k < ms.length
   ·obtain ⟨mg, hmg⟩ : ∃ m, ms[k]? = some m := ⟨_, List.getElem?_eq_getElem hlt⟩
    obtain ⟨bh, oh, rfl, hbh, hch⟩ := hMs.cells (by omega)
    have hst := (h25.cellAt hbh _).trans (msgAt_of hch k mg hmg).c2
    have hgt : decide (mg.st ≤ far) = false := by have := HMS.out mg (List.mem_of_getElem? hmg); simp; omega
    have k1 : (k : Int) < (ms.length : Int) := by omega
    clear hch hmg
    go_wp2_with fail
    go_roundw
    case rel => exact ⟨⟨k + 1, by omega, by go_num⟩, by first | rfl | trivial⟩
    case measure => simp [intOf]; omega
   ·go_wp2_with (go_at_call 51; refine (boundBegun_any wr).mono ?_; rintro e w8 ⟨rfl, hS8⟩)
    go_ret
    exact ⟨by simp, hS1.trans (hS2.trans (h25.trans hS8))⟩
theorem lawAgreeSafe_any (nodes : Int) (a : Option Addr) (len cap : Nat) (l : List Int) (ac : Option Addr) (alen acap : Nat) (acts : List Ac) (pa pb : Int) (w : World) (hI : Ints w a len l) (hA : Acts w ac alen acts) (hpa : I64 pa) (hpb : I64 pb) :
  Calls Tryz.prog 17 #[.int .i64 nodes, .slice a len cap, .slice ac alen acap, .int .i64 pa, .int .i64 pb] w fun e w' => e = .returned (.bool true) ∧ Since w w' := by
 have hl := hI.hlen
 have ha := hA.hlen
 by_cases hE : chkE nodes l = 0
 ·by_cases hm : 80 < alen
  ·exact agreeSafe_no nodes a len cap l ac alen acap acts pa pb w hI hA (.inr hm)
  ·obtain ⟨h1, h2, h3, h4⟩ := chkE_zero hE
   obtain ⟨k, rfl⟩ : ∃ k : Nat, nodes = (k : Int) := ⟨nodes.toNat, by omega⟩
   subst hl ha
   exact agreeSafe_ok k a cap l ac acap acts pa pb w hI hA hpa hpb (by omega) h4 (by omega) hE (by omega)
 ·exact agreeSafe_no nodes a len cap l ac alen acap acts pa pb w hI hA (.inl hE)
end Go.Proofs.YtiiifecfdkjmbaaGreat
