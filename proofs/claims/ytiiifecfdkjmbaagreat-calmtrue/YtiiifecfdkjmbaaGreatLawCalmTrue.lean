/- The law CalmTrue answers true; conditions: the groups read as ints, the acts as acts. -/
import Derived.Test.YtiiifecfdkjmbaaGreatLDone
import Derived.Test.YtiiifecfdkjmbaaGreatLCalm
namespace Go.Proofs.YtiiifecfdkjmbaaGreat
set_option maxRecDepth 8000
open Go.RowKit Go.Shelf
open _root_.Go.Proofs.YtiiifecfdkjmbaaGreat.Pure
set_option linter.unusedVariables false
set_option linter.unusedSimpArgs false
set_option maxHeartbeats 1000000 in
theorem calmTrue_no (nodes : Int) (a : Option Addr) (len cap : Nat) (l : List Int) (ac : Option Addr) (alen acap : Nat) (acts : List Ac)  (w : World) (hI : Ints w a len l) (hA : Acts w ac alen acts) (hN : ¬ chkE nodes l = 0 ∨ 80 < alen) :
  Calls Tryz.prog 10 #[.int .i64 nodes, .slice a len cap, .slice ac alen acap] w fun e w' => e = .returned (.bool true) ∧ Since w w' := by
 obtain ⟨wb, hwb⟩ : ∃ y, y = w := ⟨_, rfl⟩
 have hSb : Since w wb := by rw [hwb]; exact Since.refl _
 subst hwb
 have hD := done_no nodes a len cap l ac alen acap acts wb (hI.since hSb) (hA.since hSb) hN
 clear hN
 go_enter Tryz.func10, Tryz.ntmps10
 go_wp2_with fail
 refine hD.mono ?_
 rintro e w2 ⟨rfl, hS2⟩
 obtain ⟨w3, hw3⟩ : ∃ y, w2.alloc (.cells #[.slice none 0 0, .slice none 0 0, .slice none 0 0] 26) = y := ⟨_, rfl⟩
 have hS3' : Since w2 w3 := by rw [← hw3]; exact (Since.refl w2).alloc _
 have hN3 : NilBox w3 w2.heap.size := by rw [← hw3]; exact NilBox.new w2 _
 obtain ⟨w4, hw4⟩ : ∃ y, ((w3.setCell ⟨w2.heap.size, 0, none⟩ (.slice none 0 0)).setCell ⟨w2.heap.size, 1, none⟩ (.slice none 0 0)).setCell ⟨w2.heap.size, 2, none⟩ (.slice none 0 0) = y := ⟨_, rfl⟩
 have hS4 : Since w2 w4 := by rw [← hw4]; exact (put3_fr w3 w2.heap.size _ _ _).sinceBase hS3' (fun i hi e => by omega)
 obtain ⟨_, r0, r1, r2, r3, r4, r5⟩ := hN3
 go_wp2_with (go_at_call 45; refine (calmBegun_any w4).mono ?_; rintro e w8 ⟨rfl, hS8⟩)
 go_ret
 exact ⟨by simp, hSb.trans (hS2.trans (hS4.trans hS8))⟩
set_option maxHeartbeats 2000000 in
theorem calmTrue_ok (nodes : Nat) (a : Option Addr) (cap : Nat) (l : List Int) (ac : Option Addr) (acap : Nat) (acts : List Ac) (w : World) (hI : Ints w a l.length l) (hA : Acts w ac acts.length acts)
  (hn : nodes ≤ 4) (hl : l.length ≤ 3) (h1n : 0 < nodes) (hN : chkE (nodes : Int) l = 0) (hm : acts.length ≤ 80) :
  Calls Tryz.prog 10 #[.int .i64 nodes, .slice a l.length cap, .slice ac acts.length acap] w fun e w' => e = .returned (.bool true) ∧ Since w w' := by
 have hD := done_ok nodes a cap l ac acap acts w hI hA hn hl hN hm
 have HI : Hid (Inv (doneD nodes l acts)) := (done_inv hN acts).1
 have HLN : Hid ((doneD nodes l acts).nodes.length = nodes) := (doneD_len hN acts).1
 have HCE : Hid (∀ e, calmD (doneD nodes l acts) = .error e → e = 2) := fun e he => done_calm hN acts hm he
 obtain ⟨d, hd⟩ : ∃ d, doneD nodes l acts = d := ⟨_, rfl⟩
 rw [hd] at hD HI HLN HCE
 clear hN hd
 go_enter Tryz.func10, Tryz.ntmps10
 go_wp2_with fail
 refine hD.mono ?_
 rintro e w1 ⟨⟨ga, gl, gc, na, nl, nc, wa, wl, wk⟩, rfl, hX1, hS1⟩
 dsimp only
 obtain ⟨w2, hw2⟩ : ∃ y, w1.alloc (.cells #[.slice ga gl gc, .slice na nl nc, .slice wa wl wk] 26) = y := ⟨_, rfl⟩
 have hS2 : Since w1 w2 := by rw [← hw2]; exact (Since.refl w1).alloc _
 have hP2 : ParBox w2 w1.heap.size ⟨ga, gl, gc, na, nl, nc, wa, wl, wk⟩ := by rw [← hw2]; exact ParBox.new w1 ⟨ga, gl, gc, na, nl, nc, wa, wl, wk⟩ _
 have hX2 := hX1.since hS2
 have p0 := hP2.c0
 have p1 := hP2.c1
 have p2 := hP2.c2
 dsimp only at p0 p1 p2
 have hCC := calmCalm_any ⟨ga, gl, gc, na, nl, nc, wa, wl, wk⟩ d w2 hX2
 dsimp only at hCC
 have hck : checked d (calmD d) = calmD d := by unfold checked; rw [if_pos ((right_iff d).2 HI.out.right)]
 rw [hck] at hCC
 clear hck
 obtain ⟨r, hr⟩ : ∃ r, calmD d = r := ⟨_, rfl⟩
 rw [hr] at hCC
 have h12 := hS1.trans hS2
 go_wp2_with fail
 refine hCC.mono ?_
 rintro e w4 hR4
 clear p0 p1 p2 hw2
 cases r with
 | error er =>
  obtain rfl := HCE.out er hr
  obtain ⟨rfl, hS4⟩ := hR4.out.1 2 rfl
  clear hR4 hCC hr
  obtain ⟨w5a, hw5a⟩ : ∃ y, w4.alloc (.cells #[.slice none 0 0, .slice none 0 0, .slice none 0 0] 26) = y := ⟨_, rfl⟩
  have hS5a : Since w4 w5a := by rw [← hw5a]; exact (Since.refl w4).alloc _
  have hN5a : NilBox w5a w4.heap.size := by rw [← hw5a]; exact NilBox.new w4 _
  obtain ⟨w5, hw5⟩ : ∃ y, ((w5a.setCell ⟨w4.heap.size, 0, none⟩ (.slice none 0 0)).setCell ⟨w4.heap.size, 1, none⟩ (.slice none 0 0)).setCell ⟨w4.heap.size, 2, none⟩ (.slice none 0 0) = y := ⟨_, rfl⟩
  have hS5 : Since w4 w5 := by rw [← hw5]; exact (put3_fr w5a w4.heap.size _ _ _).sinceBase hS5a (fun i hi e => by omega)
  obtain ⟨_, r0, r1, r2, r3, r4, r5⟩ := hN5a
  have h15 := h12.trans (hS4.trans hS5)
  go_wp2_with (go_at_call 45; refine (calmBegun_any w5).mono ?_; rintro e w8 ⟨rfl, hS8⟩)
  go_ret
  exact ⟨by simp, h15.trans hS8⟩
 | ok d' =>
  have HC : Hid (Calmed d d') := calm_ok HI.out.right hr
  obtain ⟨⟨xga, xgl, xgc, xna, xnl, xnc, xwa, xwl, xwc⟩, rfl, hX4, hS4⟩ := resW_wat hR4
  dsimp only
  clear hR4 hCC hr
  have HXN : Hid (d'.nodes.length = nodes) := by unfold Hid; rw [HC.out.grow.alike.n]; exact HLN.out
  have hxn := hX4.n.hlen
  dsimp only at hxn
  have hxl : xnl = nodes := by have := HXN.out; omega
  subst hxl
  have hxw := hX4.r.hlen
  dsimp only at hxw
  have hxl : xwl = xnl := by have := HC.out.right.wlen; have := HXN.out; omega
  subst hxl
  obtain ⟨w5, hw5⟩ : ∃ y, w4.alloc (.cells #[.slice xga xgl xgc, .slice xna xwl xnc, .slice xwa xwl xwc] 26) = y := ⟨_, rfl⟩
  have hS5 : Since w4 w5 := by rw [← hw5]; exact (Since.refl w4).alloc _
  have hX5 := hX4.since hS5
  obtain ⟨bm, om, hxe, hbm, hcm⟩ := hX5.n.cells (by dsimp only; omega)
  dsimp only at hxe
  subst hxe
  obtain ⟨bv, ov, hxe, hbv, hcv⟩ := hX5.r.cells (by dsimp only; omega)
  dsimp only at hxe
  subst hxe
  have hQ5 : ParBox w5 w4.heap.size ⟨xga, xgl, xgc, some ⟨bm, om, none⟩, xwl, xnc, some ⟨bv, ov, none⟩, xwl, xwc⟩ := by rw [← hw5]; exact ParBox.new w4 ⟨xga, xgl, xgc, some ⟨bm, om, none⟩, xwl, xnc, some ⟨bv, ov, none⟩, xwl, xwc⟩ _
  have q0 := hQ5.c0
  have q1 := hQ5.c1
  have q2 := hQ5.c2
  dsimp only at q0 q1 q2
  have HCM : Hid (∀ i x, d'.nodes[i]? = some x → NodeAt w5 bm (om + i * 4) x) := hcm
  have HCV : Hid (∀ i x, d'.wires[i]? = some x → ∃ v, w5.cell? ⟨bv, ov + i, none⟩ = some v ∧ VSlices VMsgs w5 v x) := hcv
  have h15 := h12.trans (hS4.trans hS5)
  have HXW : Hid (d'.wires.length = xwl) := hxw
  clear hcm hcv hxn hxw
  go_wp2_with fail
  try rw [hw5]
  clear hw5
  go_loopw [11] (fun i wr => (∃ k : Nat, k ≤ xwl ∧ i = .int .i64 k) ∧ wr = w5) (fun i _ => xwl - (intOf i).toNat)
  case atStart => exact ⟨⟨0, Nat.zero_le _, rfl⟩, rfl⟩
  case round =>
   obtain ⟨⟨k, hk, rfl⟩, hwr⟩ := hrel
   obtain rfl := hwr
   by_cases hlt : k < xwl
   ·obtain ⟨x, hx⟩ := node_of_lt (d := d') (k := k) (by rw [HXN.out]; exact hlt)
    obtain ⟨_, _, ⟨v2, k2, ha, hc, rfl, hhc, hH⟩, _⟩ := HCM.out k x hx
    have hh : x.held = [] := by have := HC.out.held HI.out k; rw [heldAt_of hx] at this; exact this
    rw [hh] at k2
    simp only [List.length_nil] at k2
    have k1 : (k : Int) < (xwl : Int) := by omega
    clear hx hH hhc hh
    go_wp2_with fail
    go_roundw
    case rel => exact ⟨⟨k + 1, by omega, by go_num⟩, by first | rfl | trivial⟩
    case measure => simp [intOf]; omega
   ·go_wp2_with fail
    go_loopw [12] (fun i wq => (∃ k : Nat, k ≤ xwl ∧ i = .int .i64 k) ∧ wq = wr) (fun i _ => xwl - (intOf i).toNat)
    case atStart => exact ⟨⟨0, Nat.zero_le _, rfl⟩, rfl⟩
    case round =>
     clear hlt hk
     obtain ⟨⟨p, hp, rfl⟩, hwr⟩ := hrel
     obtain rfl := hwr
     by_cases hlt : p < xwl
     ·obtain ⟨row, hrow⟩ : ∃ r, d'.wires[p]? = some r := ⟨_, List.getElem?_eq_getElem (by rw [HXW.out]; exact hlt)⟩
      obtain ⟨v, c1, ra, rc, rfl, hrc, hRow⟩ := HCV.out p row hrow
      have p1 : (p : Int) < (xwl : Int) := by omega
      have hrm := hRow.hmax
      have HR : Hid (d'.wires[p]? = some row) := hrow
      clear hrow
      go_wp2_with fail
      go_loopw [13] (fun i wq => (∃ k : Nat, k ≤ row.length ∧ i = .int .i64 k) ∧ wq = wr) (fun i _ => row.length - (intOf i).toNat)
      case atStart => exact ⟨⟨0, Nat.zero_le _, rfl⟩, rfl⟩
      case round =>
       obtain ⟨⟨q, hq, rfl⟩, hwr⟩ := hrel
       obtain rfl := hwr
       by_cases hlq : q < row.length
       ·obtain ⟨m, hmq⟩ : ∃ m, row[q]? = some m := ⟨_, List.getElem?_eq_getElem hlq⟩
        obtain ⟨bR, oR, rfl, hbR, hcR⟩ := hRow.cells (by omega)
        obtain ⟨v5, c2, ma, mc, rfl, hmc, hMs⟩ := hcR q m hmq
        have hh : m = [] := by have := HC.out.none p q; rw [wireAt_some HR.out hmq] at this; exact this
        rw [hh] at c2
        simp only [List.length_nil] at c2
        have q1' : (q : Int) < (row.length : Int) := by omega
        clear hcR hmq hMs hmc hh
        go_wp2_with fail
        go_roundw
        case rel => exact ⟨⟨q + 1, by omega, by go_num⟩, by first | rfl | trivial⟩
        case measure => simp [intOf]; omega
       ·go_wp2_with fail
        go_roundw
        case rel => exact ⟨⟨p + 1, by omega, by go_num⟩, by first | rfl | trivial⟩
        case measure => simp [intOf]; omega
     ·have hWC := fun (y : World) (hy : Since wr y) => worldCheck_any ⟨xga, xgl, xgc, some ⟨bm, om, none⟩, xwl, xnc, some ⟨bv, ov, none⟩, xwl, xwc⟩ d' y (hX5.since hy)
      rw [(right_iff d').2 HC.out.right] at hWC
      dsimp only at hWC
      have QF : Hid (∀ y, Since wr y → ParBox y w4.heap.size ⟨xga, xgl, xgc, some ⟨bm, om, none⟩, xwl, xnc, some ⟨bv, ov, none⟩, xwl, xwc⟩) := fun y hy => hQ5.since hy
      go_wp2_with (first
       | (go_at_call 45; refine (calmBegun_any wr).mono ?_; rintro e w8 ⟨rfl, hS8⟩; obtain ⟨_, u0, u1, u2⟩ := QF.out _ hS8; dsimp only at u0 u1 u2)
       | (go_at_call 39; refine (hWC w8 hS8).mono ?_; rintro e w9 ⟨rfl, hS9⟩))
      go_ret
      exact ⟨by simp, h15.trans (hS8.trans hS9)⟩
theorem lawCalmTrue_any (nodes : Int) (a : Option Addr) (len cap : Nat) (l : List Int) (ac : Option Addr) (alen acap : Nat) (acts : List Ac) (w : World) (hI : Ints w a len l) (hA : Acts w ac alen acts) :
  Calls Tryz.prog 10 #[.int .i64 nodes, .slice a len cap, .slice ac alen acap] w fun e w' => e = .returned (.bool true) ∧ Since w w' := by
 have hl := hI.hlen
 have ha := hA.hlen
 by_cases hE : chkE nodes l = 0
 ·by_cases hm : 80 < alen
  ·exact calmTrue_no nodes a len cap l ac alen acap acts w hI hA (.inr hm)
  ·obtain ⟨h1, h2, h3, h4⟩ := chkE_zero hE
   obtain ⟨k, rfl⟩ : ∃ k : Nat, nodes = (k : Int) := ⟨nodes.toNat, by omega⟩
   subst hl ha
   exact calmTrue_ok k a cap l ac acap acts w hI hA (by omega) h4 (by omega) hE (by omega)
 ·exact calmTrue_no nodes a len cap l ac alen acap acts w hI hA (.inl hE)
end Go.Proofs.YtiiifecfdkjmbaaGreat
