/- Contract of furlongref.wire; conditions: the world reads as one, is right, the nodes are there. -/
import Derived.BigQuiet
import Derived.Test.YtiiifecfdkjmbaaGreatRMoveX
import Derived.Test.YtiiifecfdkjmbaaGreatSMoveX
namespace Go.Proofs.YtiiifecfdkjmbaaGreat
set_option maxRecDepth 8000
open Go.RowKit Go.Shelf
open _root_.Go.Proofs.YtiiifecfdkjmbaaGreat.Pure
set_option linter.unusedVariables false
set_option linter.unusedSimpArgs false

theorem par_box {w : World} {p : Nat} {d : Wd} {L : Lay} {a b c : Value} (lt : p < w.heap.size) (c0 : w.cell? ⟨p, 0, none⟩ = some a) (c1 : w.cell? ⟨p, 1, none⟩ = some b) (c2 : w.cell? ⟨p, 2, none⟩ = some c) (z0 : w.frozen? ⟨p, 0, none⟩ = false) (z1 : w.frozen? ⟨p, 1, none⟩ = false) (z2 : w.frozen? ⟨p, 2, none⟩ = false) :
    BoxW (((w.setCell ⟨p, 0, none⟩ (.slice (L (0, 0, 0)).a d.groups.length (L (0, 0, 0)).cap)).setCell ⟨p, 1, none⟩ (.slice (L (1, 0, 0)).a d.nodes.length (L (1, 0, 0)).cap)).setCell ⟨p, 2, none⟩ (.slice (L (2, 0, 0)).a d.wires.length (L (2, 0, 0)).cap)) p L d :=
  ⟨Nat.lt_of_lt_of_le lt (put3_fr w p _ _ _).size, put3_0 c0, put3_1 c1, put3_2 c2, (put3_z _ _ _ _ _ _).trans z0, (put3_z _ _ _ _ _ _).trans z1, (put3_z _ _ _ _ _ _).trans z2⟩
theorem NilBox.fr {B : Nat → Prop} {w w' : World} {p : Nat} (h : NilBox w p) (k : Fr B w w') (hp : ¬ B p) : NilBox w' p :=
  ⟨Nat.lt_of_lt_of_le h.lt k.size, (k.cell (p := ⟨p, 0, none⟩) h.lt hp).trans h.c0, (k.cell (p := ⟨p, 1, none⟩) h.lt hp).trans h.c1, (k.cell (p := ⟨p, 2, none⟩) h.lt hp).trans h.c2, (k.frozen (p := ⟨p, 0, none⟩) h.lt hp).trans h.z0, (k.frozen (p := ⟨p, 1, none⟩) h.lt hp).trans h.z1, (k.frozen (p := ⟨p, 2, none⟩) h.lt hp).trans h.z2⟩

set_option maxHeartbeats 2000000 in
theorem refWire_key (x : WV) (d : Wd) (f t : Nat) (hf : f < d.nodes.length) (ht : t < d.nodes.length) (w : World) (hW : WAt w x d) (R : Right d) (N : Nat) (hN : (wireAt d f t).length = N) (Post : Ending → World → Prop)
    (hErr : ∀ er, movesD f t N d = .error er → ∀ w', Since w w' → Post (.returned (.tuple #[.agg #[.slice none 0 0, .slice none 0 0, .slice none 0 0], .int .i64 0, .int .i64 er])) w')
    (hOk : ∀ d' L' w', movesD f t N d = .ok d' → OwnW w.heap.size w' d' L' → Since w w' → Post (.returned (.tuple #[wval L' d', .int .i64 N, .int .i64 0])) w') :
    Calls Tryz.prog 97 #[.agg #[.slice x.ga x.gl x.gc, .slice x.na x.nl x.nc, .slice x.wa x.wl x.wc], .int .i64 f, .int .i64 t] w fun e w' => Hid (Post e w') := by
  obtain ⟨ga, gl, gc, na, nl, nc, wa, wl, wc⟩ := x
  dsimp only
  have HERR := (show Hid _ from hErr)
  have HOK := (show Hid _ from hOk)
  have HN : Hid ((wireAt d f t).length = N) := hN
  have HN40 : Hid (N ≤ 40) := by unfold Hid; rw [← hN]; exact R.wireN f t
  have HR : Hid (Right d) := R
  have hsm := smallW_right R
  clear hErr hOk hN R
  obtain ⟨wp, hwp⟩ : ∃ wp, w.alloc (.cells #[.slice ga gl gc, .slice na nl nc, .slice wa wl wc] 26) = wp := ⟨_, rfl⟩
  have hPp : ParBox wp w.heap.size ⟨ga, gl, gc, na, nl, nc, wa, wl, wc⟩ := by rw [← hwp]; exact ParBox.new w ⟨ga, gl, gc, na, nl, nc, wa, wl, wc⟩ _
  have hPz : wp.frozen? ⟨w.heap.size, 0, none⟩ = false ∧ wp.frozen? ⟨w.heap.size, 1, none⟩ = false ∧ wp.frozen? ⟨w.heap.size, 2, none⟩ = false := by rw [← hwp]; simp [go_sem]
  have hSp : Since w wp := by rw [← hwp]; exact (Since.refl w).alloc _
  obtain ⟨w1, hw1⟩ : ∃ w1, wp.alloc (.cells #[.slice none 0 0, .slice none 0 0, .slice none 0 0] 26) = w1 := ⟨_, rfl⟩
  have hNB : NilBox w1 wp.heap.size := by rw [← hw1]; exact NilBox.new wp _
  have hSp1 : Since wp w1 := by rw [← hw1]; exact (Since.refl wp).alloc _
  have hP1 := hPp.since hSp1
  have hS1 := hSp.trans hSp1
  have hW1 := hW.since hS1
  have hlt : w.heap.size < wp.heap.size := hPp.lt
  have p0 := hP1.c0
  have p1 := hP1.c1
  have p2 := hP1.c2
  dsimp only at p0 p1 p2
  have PF : Hid (∀ y, Since w1 y → ParBox y w.heap.size ⟨ga, gl, gc, na, nl, nc, wa, wl, wc⟩ ∧ y.frozen? ⟨w.heap.size, 0, none⟩ = false ∧ y.frozen? ⟨w.heap.size, 1, none⟩ = false ∧ y.frozen? ⟨w.heap.size, 2, none⟩ = false) := fun y hy =>
    ⟨hP1.since hy, ((hSp1.trans hy).below.frozen (p := ⟨w.heap.size, 0, none⟩) hPp.lt).trans hPz.1, ((hSp1.trans hy).below.frozen (p := ⟨w.heap.size, 1, none⟩) hPp.lt).trans hPz.2.1, ((hSp1.trans hy).below.frozen (p := ⟨w.heap.size, 2, none⟩) hPp.lt).trans hPz.2.2⟩
  go_enter Tryz.func97, Tryz.ntmps97
  go_wp2_with fail
  refine (ownWorld_any ⟨ga, gl, gc, na, nl, nc, wa, wl, wc⟩ d w1 hW1 hsm).mono ?_
  rintro e w2 ⟨L, rfl, hO2, hS12⟩
  simp only [wval]
  obtain ⟨hP2, y0, y1, y2⟩ := PF.out _ hS12
  obtain ⟨lt2, f0, f1, f2⟩ := hP2
  dsimp only at f0 f1 f2
  obtain ⟨w3, hw3⟩ : ∃ y, ((w2.setCell ⟨w.heap.size, 0, none⟩ (.slice (L (0, 0, 0)).a d.groups.length (L (0, 0, 0)).cap)).setCell ⟨w.heap.size, 1, none⟩ (.slice (L (1, 0, 0)).a d.nodes.length (L (1, 0, 0)).cap)).setCell ⟨w.heap.size, 2, none⟩ (.slice (L (2, 0, 0)).a d.wires.length (L (2, 0, 0)).cap) = y := ⟨_, rfl⟩
  have hB3 : BoxW w3 w.heap.size L d := by rw [← hw3]; exact par_box lt2 f0 f1 f2 y0 y1 y2
  have hF3 : Fr (fun i => i = w.heap.size) w2 w3 := by rw [← hw3]; exact put3_fr w2 w.heap.size _ _ _
  have hlt1 : wp.heap.size < w1.heap.size := hNB.lt
  have hM3 : MadeW w1.heap.size w3 w.heap.size d L := ⟨hO2.fr hF3 (fun b hb e => by have := (hO2.blk hb).1; have e : b = w.heap.size := e; omega), hB3, fun hb => by have := (hO2.blk hb).1; omega⟩
  have hU3 : Fr (Up w1.heap.size fun i => i = w.heap.size) w1 w3 := (hS12.up _ _).upTrans (hF3.mono (fun i _ e => .inr e))
  clear hw1 hwp hO2 hB3 hF3 p0 p1 p2
  go_wp2_with fail
  clear hw3 f0 f1 f2 y0 y1 y2
  go_loopw [9] (fun i wr => ∃ (k : Nat) (dk : Wd) (Lk : Lay), k ≤ N ∧ i = .int .i64 k ∧ movesD f t k d = .ok dk ∧ MadeW w1.heap.size wr w.heap.size dk Lk ∧ Fr (Up w1.heap.size fun i => i = w.heap.size) w1 wr) (fun i _ => N - (intOf i).toNat)
  case atStart => exact ⟨0, d, L, Nat.zero_le _, rfl, rfl, hM3, hU3⟩
  case round =>
    clear hM3 hU3
    obtain ⟨wo, rfl⟩ : ∃ wo, wo = wr := ⟨_, rfl⟩
    obtain ⟨k, dk, Lk, hk, rfl, hmv, hM, hUp⟩ := hrel
    have HMV : Hid (movesD f t k d = .ok dk) := hmv
    have hms := moves_ok k d dk HR.out hf ht (by rw [HN.out]; exact hk) hmv
    have HRK : Hid (Right dk ∧ dk.nodes.length = d.nodes.length) := ⟨hms.right, hms.grow.alike.n⟩
    obtain ⟨nn, hnn⟩ : ∃ nn, (wireAt dk f t).length = nn := ⟨_, rfl⟩
    have HNK : Hid (nn = N - k) := by unfold Hid; rw [← hnn, hms.here, List.length_drop, HN.out]
    have hfk : f < dk.nodes.length := by rw [HRK.out.2]; exact hf
    have htk : t < dk.nodes.length := by rw [HRK.out.2]; exact ht
    have hwn : (f : Int) < (dk.wires.length : Int) := by have := HRK.out.1.wlen; omega
    have htn : (t : Int) < (dk.nodes.length : Int) := by omega
    obtain ⟨bw2, ow2, cw2, br2, oR2, cr2, hH⟩ := hM.headOf HRK.out.1.rows hfk htk
    obtain ⟨la, lcc, hL8⟩ : ∃ la lcc, Lk (8, f, t) = ⟨la, lcc⟩ := ⟨_, _, rfl⟩
    have s4 := hH.cell
    rw [hL8, hnn] at s4
    dsimp only [Sl.v] at s4
    have s2 := hH.top
    have s3 := hH.row
    have hL2 : Lk (2, 0, 0) = ⟨some ⟨bw2, ow2, none⟩, cw2⟩ := by
      have e2 := Option.some.inj (hM.box.c2.symm.trans hH.top)
      generalize Lk (2, 0, 0) = s at e2 ⊢
      obtain ⟨sa, sc⟩ := s
      simp at e2
      simp [e2]
    have HL2 := (show Hid _ from hL2)
    have HK : Hid (k ≤ N) := hk
    have hSo : Since w wo := hUp.sinceBase hS1 (fun i hi h => by rcases h with h | h; have := hS1.size; omega; omega)
    have hNo : NilBox wo wp.heap.size := hNB.fr hUp (by rintro (h | h); exact h hlt1; omega)
    clear hmv hms hnn hL8 hk hL2
    by_cases hl : k < N
    · have hp : (0 : Int) < (nn : Int) := by have := HNK.out; omega
      have HLT : Hid (k < N) := hl
      have b0 := hM.box.c0
      have b1 := hM.box.c1
      have hMv := refMove_any (wvOf Lk dk) dk f t hfk htk wo hM.own.wat HRK.out.1
      unfold wvOf at hMv
      dsimp only at hMv
      rw [HL2.out] at hMv
      dsimp only at hMv
      have HM1 : Hid (movesD f t (k + 1) d = moveD dk f t) := by unfold Hid; rw [moves_succ, HMV.out]; rfl
      obtain ⟨r, hr⟩ : ∃ r, moveD dk f t = r := ⟨_, rfl⟩
      rw [hr] at hMv
      have HRR : Hid (movesD f t (k + 1) d = r) := by unfold Hid; rw [HM1.out, hr]
      have HNZ : Hid (∀ e, r = .error e → (e != 0) = true) := fun e h => by rw [h] at hr; have := moveD_nz hr; simpa using this
      clear hr hl
      cases r with
      | error er =>
        have her := HNZ.out er rfl
        go_wp2_with fail
        refine hMv.mono ?_
        rintro e w4 ⟨hR4, _⟩
        obtain ⟨rfl, hS4⟩ := hR4 er rfl
        clear s2 s3 s4 b0 b1 hMv hR4
        obtain ⟨w5, hw5⟩ : ∃ y, w4.alloc (.cells #[.slice none 0 0, .slice none 0 0, .slice none 0 0] 26) = y := ⟨_, rfl⟩
        have hS5' : Since w4 w5 := by rw [← hw5]; exact (Since.refl w4).alloc _
        have hN5 : NilBox w5 w4.heap.size := by rw [← hw5]; exact NilBox.new w4 _
        obtain ⟨w6, hw6⟩ : ∃ y, ((w5.setCell ⟨w4.heap.size, 0, none⟩ (.slice none 0 0)).setCell ⟨w4.heap.size, 1, none⟩ (.slice none 0 0)).setCell ⟨w4.heap.size, 2, none⟩ (.slice none 0 0) = y := ⟨_, rfl⟩
        have hS5 : Since w4 w6 := by rw [← hw6]; exact (put3_fr w5 w4.heap.size _ _ _).sinceBase hS5' (fun i hi e => by omega)
        obtain ⟨_, z0, z1, z2, z3, z4, z5⟩ := hN5
        obtain ⟨_, r0, r1, r2, r3, r4, r5⟩ := hNo.since (hS4.trans hS5)
        go_wp2_with fail
        refine bodyPost_ret (v := .tuple #[.agg #[.slice none 0 0, .slice none 0 0, .slice none 0 0], .int .i64 0, .int .i64 er]) ?_ rfl (HERR.out er (by have := moves_fail HRR.out (N - (k + 1)); rwa [show k + 1 + (N - (k + 1)) = N from by have := HLT.out; omega] at this) _ (nil_since hSp.size (hSo.trans (hS4.trans hS5))))
        simp [results, Tryz.results97, go_sem, r0, r1, r2]
      | ok d2 =>
        go_wp2_with fail
        refine hMv.mono ?_
        rintro e w4 ⟨_, hR4⟩
        obtain ⟨L4, rfl, hO4, hS4⟩ := hR4 d2 rfl
        simp only [wval]
        clear s2 s3 s4 b0 b1 hMv hR4
        obtain ⟨w5, hw5⟩ : ∃ y, w4.alloc (.cells #[.slice (L4 (0, 0, 0)).a d2.groups.length (L4 (0, 0, 0)).cap, .slice (L4 (1, 0, 0)).a d2.nodes.length (L4 (1, 0, 0)).cap, .slice (L4 (2, 0, 0)).a d2.wires.length (L4 (2, 0, 0)).cap] 26) = y := ⟨_, rfl⟩
        have hS5 : Since w4 w5 := by rw [← hw5]; exact (Since.refl w4).alloc _
        have hB5 : BoxW w5 w4.heap.size L4 d2 := by rw [← hw5]; constructor <;> simp [go_sem]
        have hMo := hM.since (hS4.trans hS5)
        obtain ⟨w6, hw6⟩ : ∃ y, ((w5.setCell ⟨w.heap.size, 0, none⟩ (.slice (L4 (0, 0, 0)).a d2.groups.length (L4 (0, 0, 0)).cap)).setCell ⟨w.heap.size, 1, none⟩ (.slice (L4 (1, 0, 0)).a d2.nodes.length (L4 (1, 0, 0)).cap)).setCell ⟨w.heap.size, 2, none⟩ (.slice (L4 (2, 0, 0)).a d2.wires.length (L4 (2, 0, 0)).cap) = y := ⟨_, rfl⟩
        have hlo1 : w1.heap.size ≤ wo.heap.size := hUp.size
        have hM6 := rebox (lo := w1.heap.size) (hO4.since hS5) hMo.box hlo1 (by omega)
        rw [hw6] at hM6
        have hU6 : Fr (Up w1.heap.size fun i => i = w.heap.size) w1 w6 := by rw [← hw6]; exact hUp.upTrans (((hS4.trans hS5).up _ _).upTrans ((put3_fr w5 w.heap.size _ _ _).mono (fun i _ e => .inr e)))
        obtain ⟨_, x0, x1, x2, x3, x4, x5⟩ := hMo.box
        rw [HL2.out] at x2
        dsimp only at x2
        obtain ⟨_, v0, v1, v2, _, _, _⟩ := hB5
        have hk1 : IntKind.i64.wrap ((k : Int) + 1) = (k : Int) + 1 := IntWalk.i64_in _ (by have := HLT.out; have := HN40.out; omega)
        go_wp2
        go_roundw
        case rel => exact ⟨k + 1, d2, L4, HLT.out, by go_num, HRR.out, hM6, hU6⟩
        case measure => have := HLT.out; simp [intOf]; omega
    · have HE : Hid (N = k) := by unfold Hid; have := HK.out; omega
      have hp : ¬ (0 : Int) < (nn : Int) := by have := HNK.out; omega
      have b0 := hM.box.c0
      have b1 := hM.box.c1
      obtain ⟨_, r0, r1, r2, r3, r4, r5⟩ := hNo
      obtain ⟨hO9, hSf⟩ := hM.own.result (w0 := w) (p := wp.heap.size) hlt1 hSp.size hSo hS1.size
      rw [HL2.out] at hO9 hSf
      dsimp only at hO9 hSf
      clear hl
      go_wp2_with fail
      refine bodyPost_ret (v := .tuple #[wval Lk dk, .int .i64 k, .int .i64 0]) ?_ rfl (by have h := HOK.out dk Lk _ (by rw [HE.out]; exact HMV.out) hO9 hSf; rwa [HE.out] at h)
      simp [results, Tryz.results97, go_sem, r0, r1, r2, wval, HL2.out]
theorem refWire_any (x : WV) (d : Wd) (f t : Nat) (hf : f < d.nodes.length) (ht : t < d.nodes.length) (w : World) (hW : WAt w x d) (R : Right d) :
    Calls Tryz.prog 97 #[.agg #[.slice x.ga x.gl x.gc, .slice x.na x.nl x.nc, .slice x.wa x.wl x.wc], .int .i64 f, .int .i64 t] w fun e w' => Hid (Res3 w ((wireD d f t).bind fun r => .ok (r.1, (r.2 : Int))) e w') := by
  have e : ((wireD d f t).bind fun r => .ok (r.1, (r.2 : Int)) : Except Int (Wd × Int)) = (movesD f t (wireAt d f t).length d).bind fun d' => .ok (d', ((wireAt d f t).length : Int)) := by
    show ((movesD f t (wireAt d f t).length d).bind _).bind _ = _
    cases movesD f t (wireAt d f t).length d <;> rfl
  rw [e]
  exact refWire_key x d f t hf ht w hW R _ rfl (fun e w' => Res3 w ((movesD f t (wireAt d f t).length d).bind fun d' => .ok (d', ((wireAt d f t).length : Int))) e w')
    (fun er h w' hS => by rw [h]; exact res3_err hS) (fun d' L' w' h hO hS => by rw [h]; exact res3_ok hO hS)
end Go.Proofs.YtiiifecfdkjmbaaGreat
