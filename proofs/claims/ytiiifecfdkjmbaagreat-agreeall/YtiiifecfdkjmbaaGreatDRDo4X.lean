/- Contract of furlongref.CalmOf; conditions: the world reads as one. Contract of furlongref.DoOf; conditions: the world reads as one. Contract of furlongref.DoneOf; conditions: few nodes and groups; the acts read as a list. -/
import Derived.Test.YtiiifecfdkjmbaaGreatDRCalmX
import Derived.Test.YtiiifecfdkjmbaaGreatDLDoX
namespace Go.Proofs.YtiiifecfdkjmbaaGreat
set_option maxRecDepth 8000
open Go.RowKit Go.Shelf
open _root_.Go.Proofs.YtiiifecfdkjmbaaGreat.Pure
set_option linter.unusedVariables false
set_option linter.unusedSimpArgs false
set_option maxHeartbeats 2000000 in
theorem refCalmOf_key (x : WV) (d : Wd) (w : World) (hW : WAt w x d) (T : Except Int Wd) (hT : checked d (calmD d) = T) (Post : Ending → World → Prop)
  (hErr : ∀ er, T = .error er → ∀ w', Since w w' → Post (.returned (.tuple #[.agg #[.slice none 0 0, .slice none 0 0, .slice none 0 0], .int .i64 er])) w')
  (hOk : ∀ d' L' w', T = .ok d' → OwnW w.heap.size w' d' L' → Since w w' → Post (.returned (.tuple #[wval L' d', .int .i64 0])) w') :
  Calls Tryz.prog 47 #[.agg #[.slice x.ga x.gl x.gc, .slice x.na x.nl x.nc, .slice x.wa x.wl x.wc]] w fun e w' => Hid (Post e w') := by
 obtain ⟨ga, gl, gc, na, nl, nc, wa, wl, wc⟩ := x
 dsimp only
 have HERR := (show Hid _ from hErr)
 have HOK := (show Hid _ from hOk)
 have HT : Hid (T = checked d ((drainD d).bind fun r => roundsD 4 r.1)) := hT.symm
 clear hErr hOk hT
 obtain ⟨wp, hwp⟩ : ∃ wp, w.alloc (.cells #[.slice ga gl gc, .slice na nl nc, .slice wa wl wc] 26) = wp := ⟨_, rfl⟩
 have hPp : ParBox wp w.heap.size ⟨ga, gl, gc, na, nl, nc, wa, wl, wc⟩ := by rw [← hwp]; exact ParBox.new w ⟨ga, gl, gc, na, nl, nc, wa, wl, wc⟩ _
 have hSp := sinceA hwp
 obtain ⟨w1, hw1⟩ : ∃ w1, wp.alloc (.cells #[.slice none 0 0, .slice none 0 0, .slice none 0 0] 26) = w1 := ⟨_, rfl⟩
 have hNB : NilBox w1 wp.heap.size := by rw [← hw1]; exact NilBox.new wp _
 have hSp1 := sinceA hw1
 have hP1 := hPp.since hSp1
 have hS1 := hSp.trans hSp1
 have hW1 := hW.since hS1
 have hlt1 := hNB.lt
 have p0 := hP1.c0
 have p1 := hP1.c1
 have p2 := hP1.c2
 dsimp only at p0 p1 p2
 have hDr := refDrainOf_any ⟨ga, gl, gc, na, nl, nc, wa, wl, wc⟩ d w1 hW1
 dsimp only at hDr
 obtain ⟨r, hr⟩ : ∃ r, checked d (drainSD d) = r := ⟨_, rfl⟩
 rw [hr] at hDr
 have HTE : Hid (∀ er, r = .error er → T = .error er ∧ (er == 0) = false) := fun er h => by
  rw [h] at hr
  rw [HT.out]
  unfold checked drainSD at *
  by_cases hz : worldE d = 0
  ·rw [if_pos hz] at hr ⊢
   cases hd : drainD d with
   | error e => rw [hd] at hr; cases hr; exact ⟨rfl, by have := drainD_nz hd; simpa using this⟩
   | ok s => rw [hd] at hr; cases hr
  ·rw [if_neg hz] at hr ⊢
   cases hr
   exact ⟨rfl, by simpa using hz⟩
 have HTK : Hid (∀ d' m, r = .ok (d', m) → T = roundsD 4 d' ∧ Right d') := fun d' m h => by
  rw [h] at hr
  rw [HT.out]
  obtain ⟨R, h2⟩ := checked_ok hr
  unfold drainSD at h2
  obtain ⟨s, h3, h4⟩ := bind_ok h2
  cases h4
  unfold checked
  rw [if_pos ((right_iff d).2 R), h3]
  exact ⟨rfl, (drain_small R (m := s.2) h3).1⟩
 clear hr
 cases r with
 | error er =>
  obtain ⟨hTe, her⟩ := HTE.out er rfl
  have HTe : Hid (T = .error er) := hTe
  have her' : (er != 0) = true := by simp [bne, her]
  clear hTe
  go_enter Tryz.func47, Tryz.ntmps47
  go_wp2_with fail
  refine hDr.mono ?_
  rintro e w2 hR2
  obtain ⟨rfl, hF2⟩ := hR2.out.1 er rfl
  have hS2 := hF2.none
  clear hR2 hDr p0 p1 p2 hw1 hwp
  obtain ⟨w3, hw3⟩ : ∃ y, w2.alloc (.cells #[.slice none 0 0, .slice none 0 0, .slice none 0 0] 26) = y := ⟨_, rfl⟩
  have hS3' := sinceA hw3
  have hN3 : NilBox w3 w2.heap.size := by rw [← hw3]; exact NilBox.new w2 _
  obtain ⟨w4, hw4⟩ : ∃ y, ((w3.setCell ⟨w2.heap.size, 0, none⟩ (.slice none 0 0)).setCell ⟨w2.heap.size, 1, none⟩ (.slice none 0 0)).setCell ⟨w2.heap.size, 2, none⟩ (.slice none 0 0) = y := ⟨_, rfl⟩
  have hS4 : Since w2 w4 := by rw [← hw4]; exact (put3_fr w3 w2.heap.size _ _ _).sinceBase hS3' (fun i hi e => by omega)
  obtain ⟨_, z0, z1, z2, z3, z4, z5⟩ := hN3
  have h14 := hS2.trans hS4
  have hN4 := hNB.since h14
  go_wp2_with fail
  clear hw3 hw4 z0 z1 z2 z3 z4 z5
  go_loopw [6, 7] (fun e i wr => e = .int .i64 er ∧ i = .int .i64 0 ∧ wr = w4) (fun _ _ _ => 0)
  case atStart => exact ⟨rfl, rfl, rfl⟩
  case round =>
   obtain ⟨rfl, rfl, hwr⟩ := hrel
   obtain rfl := hwr.symm
   obtain ⟨_, r0, r1, r2, r3, r4, r5⟩ := hN4
   go_wp2_with fail
   refine bodyPost_ret (v := .tuple #[.agg #[.slice none 0 0, .slice none 0 0, .slice none 0 0], .int .i64 er]) ?_ rfl (HERR.out er HTe.out _ (nil_since hSp.size (hS1.trans h14)))
   simp [results, Tryz.results47, go_sem, r0, r1, r2]
 | ok dm =>
  obtain ⟨d0, m0⟩ := dm
  obtain ⟨hTk, hR0⟩ := HTK.out d0 m0 rfl
  have HT0 : Hid (T = roundsD 4 d0) := hTk
  have HR0 : Hid (Right d0) := hR0
  clear hTk hR0
  go_enter Tryz.func47, Tryz.ntmps47
  go_wp2_with fail
  refine hDr.mono ?_
  rintro e w2 hR2
  obtain ⟨L, rfl, hO2, hF2⟩ := hR2.out.2 d0 m0 rfl
  have hS2 := hF2.none
  simp only [wval]
  clear hR2 hDr p0 p1 p2 hw1 hwp
  obtain ⟨w3, hw3⟩ : ∃ y, w2.alloc (.cells #[.slice (L (0, 0, 0)).a d0.groups.length (L (0, 0, 0)).cap, .slice (L (1, 0, 0)).a d0.nodes.length (L (1, 0, 0)).cap, .slice (L (2, 0, 0)).a d0.wires.length (L (2, 0, 0)).cap] 26) = y := ⟨_, rfl⟩
  have hS3 := sinceA hw3
  have hB3 : BoxW w3 w2.heap.size L d0 := by rw [← hw3]; constructor <;> simp [go_sem]
  have hM3 : MadeW w1.heap.size w3 w2.heap.size d0 L := ⟨hO2.since hS3, hB3, fun hb => by have := (hO2.blk hb).2; omega⟩
  have h13 := hS2.trans hS3
  have hq : w1.heap.size ≤ w2.heap.size := hS2.size
  clear hB3 hO2
  go_wp2_with fail
  clear hw3
  go_loopw [6, 7] (fun e i wr => ∃ (k : Nat), k ≤ 4 ∧ i = .int .i64 k ∧ Since w1 wr ∧ ((e = .int .i64 0 ∧ ∃ (dk : Wd) (Lk : Lay), Hid (T = roundsD (4 - k) dk) ∧ Hid (Right dk) ∧ MadeW w1.heap.size wr w2.heap.size dk Lk) ∨ (∃ er, e = .int .i64 er ∧ (er == 0) = false ∧ Hid (T = .error er)))) (fun _ i _ => 4 - (intOf i).toNat)
  case atStart => exact ⟨0, by omega, rfl, h13, .inl ⟨rfl, d0, L, HT0, HR0, hM3⟩⟩
  case round =>
   clear hM3 h13 HT0 HR0
   obtain ⟨wo, rfl⟩ : ∃ wo, wo = wr := ⟨_, rfl⟩
   obtain ⟨k, hk, rfl, hSo, hcase⟩ := hrel
   have HK : Hid (k ≤ 4) := hk
   have hNo := hNB.since hSo
   rcases hcase with ⟨rfl, dk, Lk, HTk, HRk, hM⟩ | ⟨er, rfl, her, HTe⟩
   ·by_cases hlt : k < 4
    ·have h1 : (k : Int) < 4 := by omega
     have c0 := hM.box.c0
     have c1 := hM.box.c1
     have c2 := hM.box.c2
     have hRd := refRound_any (wvOf Lk dk) dk wo hM.own.wat HRk.out
     unfold wvOf roundSD at hRd
     dsimp only at hRd
     obtain ⟨r, hr⟩ : ∃ r, roundD dk = r := ⟨_, rfl⟩
     have HNZ : Hid (∀ e, r = .error e → (e == 0) = false) := fun e h => by rw [h] at hr; have := roundD_nz hr; simpa using this
     have HSM : Hid (∀ d' m, r = .ok (d', m) → Right d') := fun d' m h => by rw [h] at hr; exact (round_small HRk.out hr).1
     have HRR : Hid (T = r.bind fun r => roundsD (4 - (k + 1)) r.1) := by
      unfold Hid
      rw [HTk.out, show 4 - k = (4 - (k + 1)) + 1 from by omega]
      show (roundD dk).bind _ = _
      rw [hr]
     rw [hr] at hRd
     clear hr
     cases r with
     | error er =>
      have her := HNZ.out er rfl
      go_wp2_with fail
      refine hRd.mono ?_
      rintro e w4 hR4
      obtain ⟨rfl, hF4⟩ := hR4.out.1 er rfl
      have hS4 := hF4.none
      clear hR4 hRd c0 c1 c2
      obtain ⟨_, x0, x1, x2, x3, x4, x5⟩ := (hM.since hS4).box
      obtain ⟨w6, hw6⟩ : ∃ y, ((w4.setCell ⟨w2.heap.size, 0, none⟩ (.slice none 0 0)).setCell ⟨w2.heap.size, 1, none⟩ (.slice none 0 0)).setCell ⟨w2.heap.size, 2, none⟩ (.slice none 0 0) = y := ⟨_, rfl⟩
      have hS6 : Since w1 w6 := by rw [← hw6]; exact (put3_fr w4 w2.heap.size _ _ _).sinceBase (hSo.trans hS4) (fun i hi e => by omega)
      go_wp2
      go_roundw
      case rel => exact ⟨k + 1, by omega, by go_num, hS6, .inr ⟨er, rfl, her, HRR.out⟩⟩
      case measure => simp [intOf]; omega
     | ok dm =>
      obtain ⟨d2, m⟩ := dm
      have HR2 : Hid (Right d2) := HSM.out d2 m rfl
      go_wp2_with fail
      refine hRd.mono ?_
      rintro e w4 hR4
      obtain ⟨L4, rfl, hO4, hF4⟩ := hR4.out.2 d2 m rfl
      have hS4 := hF4.none
      simp only [wval]
      clear hR4 hRd c0 c1 c2
      have hMo := hM.since hS4
      have hMb := hM.box.lt
      obtain ⟨w6, hw6⟩ : ∃ y, ((w4.setCell ⟨w2.heap.size, 0, none⟩ (.slice (L4 (0, 0, 0)).a d2.groups.length (L4 (0, 0, 0)).cap)).setCell ⟨w2.heap.size, 1, none⟩ (.slice (L4 (1, 0, 0)).a d2.nodes.length (L4 (1, 0, 0)).cap)).setCell ⟨w2.heap.size, 2, none⟩ (.slice (L4 (2, 0, 0)).a d2.wires.length (L4 (2, 0, 0)).cap) = y := ⟨_, rfl⟩
      have hM6 := rebox (lo := w1.heap.size) hO4 hMo.box hSo.size hMb
      rw [hw6] at hM6
      have hS6 : Since w1 w6 := by rw [← hw6]; exact (put3_fr w4 w2.heap.size _ _ _).sinceBase (hSo.trans hS4) (fun i hi e => by omega)
      obtain ⟨_, x0, x1, x2, x3, x4, x5⟩ := hMo.box
      go_wp2
      go_roundw
      case rel => exact ⟨k + 1, by omega, by go_num, hS6, .inl ⟨rfl, d2, L4, HRR.out, HR2, hM6⟩⟩
      case measure => simp [intOf]; omega
    ·have HE : Hid (k = 4) := by unfold Hid; have := HK.out; omega
     have h1 : ¬ (k : Int) < 4 := by omega
     have c0 := hM.box.c0
     have c1 := hM.box.c1
     have c2 := hM.box.c2
     obtain ⟨_, r0, r1, r2, r3, r4, r5⟩ := hNo
     obtain ⟨hO9, hSf⟩ := hM.own.result (w0 := w) (p := wp.heap.size) hlt1 hSp.size (hS1.trans hSo) hS1.size
     clear hlt
     go_wp2_with fail
     refine bodyPost_ret (v := .tuple #[wval Lk dk, .int .i64 0]) ?_ rfl (HOK.out dk Lk _ (by have h := HTk.out; rw [HE.out] at h; exact h) hO9 hSf)
     simp [results, Tryz.results47, go_sem, r0, r1, r2, wval]
   ·obtain ⟨_, r0, r1, r2, r3, r4, r5⟩ := hNo
    have her' : (er != 0) = true := by simp [bne, her]
    by_cases hlt : k < 4
    ·have h1 : (k : Int) < 4 := by omega
     go_wp2_with fail
     refine bodyPost_ret (v := .tuple #[.agg #[.slice none 0 0, .slice none 0 0, .slice none 0 0], .int .i64 er]) ?_ rfl (HERR.out er HTe.out _ (nil_since hSp.size (hS1.trans hSo)))
     simp [results, Tryz.results47, go_sem, r0, r1, r2]
    ·have h1 : ¬ (k : Int) < 4 := by omega
     go_wp2_with fail
     refine bodyPost_ret (v := .tuple #[.agg #[.slice none 0 0, .slice none 0 0, .slice none 0 0], .int .i64 er]) ?_ rfl (HERR.out er HTe.out _ (nil_since hSp.size (hS1.trans hSo)))
     simp [results, Tryz.results47, go_sem, r0, r1, r2]
theorem refCalmOf_any (x : WV) (d : Wd) (w : World) (hW : WAt w x d) :
  Calls Tryz.prog 47 #[.agg #[.slice x.ga x.gl x.gc, .slice x.na x.nl x.nc, .slice x.wa x.wl x.wc]] w fun e w' => Hid (ResW w (checked d (calmD d)) e w') :=
 refCalmOf_key x d w hW _ rfl (fun e w' => ResW w (checked d (calmD d)) e w') (fun er h w' hS => by rw [h]; exact resW_err hS) (fun d' L' w' h hO hS => by rw [h]; exact resW_ok hO hS)
end Go.Proofs.YtiiifecfdkjmbaaGreat
namespace Go.Proofs.YtiiifecfdkjmbaaGreat
set_option maxRecDepth 8000
open Go.RowKit Go.Shelf
open _root_.Go.Proofs.YtiiifecfdkjmbaaGreat.Pure
set_option linter.unusedVariables false
set_option linter.unusedSimpArgs false
set_option maxHeartbeats 2000000 in
theorem refDo_any (x : WV) (d : Wd) (a : Ac) (w : World) (hW : WAt w x d) :
  Calls Tryz.prog 61 #[.agg #[.slice x.ga x.gl x.gc, .slice x.na x.nl x.nc, .slice x.wa x.wl x.wc], acV a] w fun e w' => Hid (ResW w (doD d a) e w') := by
 obtain ⟨ga, gl, gc, na, nl, nc, wa, wl, wc⟩ := x
 obtain ⟨kind, one, two, body⟩ := a
 unfold acV
 dsimp only
 obtain ⟨wq, hwq⟩ : ∃ wp, w.alloc (.cells #[.slice ga gl gc, .slice na nl nc, .slice wa wl wc] 26) = wp := ⟨_, rfl⟩
 have hPq : ParBox wq w.heap.size ⟨ga, gl, gc, na, nl, nc, wa, wl, wc⟩ := by rw [← hwq]; exact ParBox.new w ⟨ga, gl, gc, na, nl, nc, wa, wl, wc⟩ _
 have hSq := sinceA hwq
 obtain ⟨wp, hwp⟩ : ∃ wp, wq.alloc (.cells #[.int .i64 kind, .int .i64 one, .int .i64 two, .string body] 58) = wp := ⟨_, rfl⟩
 have hSqp := sinceA hwp
 have hlq : wq.heap.size < wp.heap.size := by rw [← hwp]; simp
 have a0 : wp.cell? ⟨wq.heap.size, 0, none⟩ = some (.int .i64 kind) := by rw [← hwp]; simp [go_sem]
 have a1 : wp.cell? ⟨wq.heap.size, 1, none⟩ = some (.int .i64 one) := by rw [← hwp]; simp [go_sem]
 have a2 : wp.cell? ⟨wq.heap.size, 2, none⟩ = some (.int .i64 two) := by rw [← hwp]; simp [go_sem]
 have a3 : wp.cell? ⟨wq.heap.size, 3, none⟩ = some (.string body) := by rw [← hwp]; simp [go_sem]
 have hSp := hSq.trans hSqp
 obtain ⟨w1, hw1⟩ : ∃ w1, wp.alloc (.cells #[.slice none 0 0, .slice none 0 0, .slice none 0 0] 26) = w1 := ⟨_, rfl⟩
 have hNB : NilBox w1 wp.heap.size := by rw [← hw1]; exact NilBox.new wp _
 have hSp1 := sinceA hw1
 have hP1 := hPq.since (hSqp.trans hSp1)
 have hS1 := hSp.trans hSp1
 have hW1 := hW.since hS1
 have p0 := hP1.c0
 have p1 := hP1.c1
 have p2 := hP1.c2
 dsimp only at p0 p1 p2
 have d0 := (hSp1.cellAt hlq _).trans a0
 have d1 := (hSp1.cellAt hlq _).trans a1
 have d2 := (hSp1.cellAt hlq _).trans a2
 have d3 := (hSp1.cellAt hlq _).trans a3
 clear a0 a1 a2 a3
 by_cases h1 : kind = 1
 ·subst h1
  obtain ⟨r, hr⟩ : ∃ r, doD d ⟨1, one, two, body⟩ = r := ⟨_, rfl⟩
  rw [hr]
  have HRR := (show Hid _ from hr)
  clear hr
  cases r with
  | error er =>
   go_enter Tryz.func61, Tryz.ntmps61
   go_wp2_with (go_at_call 29; refine (refCastOf_any ⟨ga, gl, gc, na, nl, nc, wa, wl, wc⟩ d one two false body w1 hW1).mono ?_; rintro e w3 hR3; obtain ⟨rfl, hS3⟩ := hR3.out.1 er HRR.out; obtain ⟨lt, r0, r1, r2, r3, r4, r5⟩ := hNB.since hS3)
   refine bodyPost_ret (v := .tuple #[.agg #[.slice none 0 0, .slice none 0 0, .slice none 0 0], .int .i64 er]) ?_ rfl (resW_err (nil_since hSp.size (hS1.trans hS3)))
   simp [results, Tryz.results61, go_sem, r0, r1, r2]
  | ok d' =>
   go_enter Tryz.func61, Tryz.ntmps61
   go_wp2_with (go_at_call 29; refine (refCastOf_any ⟨ga, gl, gc, na, nl, nc, wa, wl, wc⟩ d one two false body w1 hW1).mono ?_; rintro e w3 hR3; obtain ⟨L, rfl, hO, hS3⟩ := hR3.out.2 d' HRR.out; simp only [wval]; obtain ⟨lt, r0, r1, r2, r3, r4, r5⟩ := hNB.since hS3)
   obtain ⟨hO2, hSf⟩ := hO.result (w0 := w) (p := wp.heap.size) hNB.lt hSp.size (hS1.trans hS3) hS1.size
   refine bodyPost_ret (v := .tuple #[wval L d', .int .i64 0]) ?_ rfl (resW_ok hO2 hSf)
   simp [results, Tryz.results61, go_sem, r0, r1, r2, wval]
 by_cases h2 : kind = 2
 ·subst h2
  obtain ⟨r, hr⟩ : ∃ r, doD d ⟨2, one, two, body⟩ = r := ⟨_, rfl⟩
  rw [hr]
  have HRR := (show Hid _ from hr)
  clear hr
  cases r with
  | error er =>
   go_enter Tryz.func61, Tryz.ntmps61
   go_wp2_with (go_at_call 29; refine (refCastOf_any ⟨ga, gl, gc, na, nl, nc, wa, wl, wc⟩ d one two true ByteArray.empty w1 hW1).mono ?_; rintro e w3 hR3; obtain ⟨rfl, hS3⟩ := hR3.out.1 er HRR.out; obtain ⟨lt, r0, r1, r2, r3, r4, r5⟩ := hNB.since hS3)
   refine bodyPost_ret (v := .tuple #[.agg #[.slice none 0 0, .slice none 0 0, .slice none 0 0], .int .i64 er]) ?_ rfl (resW_err (nil_since hSp.size (hS1.trans hS3)))
   simp [results, Tryz.results61, go_sem, r0, r1, r2]
  | ok d' =>
   go_enter Tryz.func61, Tryz.ntmps61
   go_wp2_with (go_at_call 29; refine (refCastOf_any ⟨ga, gl, gc, na, nl, nc, wa, wl, wc⟩ d one two true ByteArray.empty w1 hW1).mono ?_; rintro e w3 hR3; obtain ⟨L, rfl, hO, hS3⟩ := hR3.out.2 d' HRR.out; simp only [wval]; obtain ⟨lt, r0, r1, r2, r3, r4, r5⟩ := hNB.since hS3)
   obtain ⟨hO2, hSf⟩ := hO.result (w0 := w) (p := wp.heap.size) hNB.lt hSp.size (hS1.trans hS3) hS1.size
   refine bodyPost_ret (v := .tuple #[wval L d', .int .i64 0]) ?_ rfl (resW_ok hO2 hSf)
   simp [results, Tryz.results61, go_sem, r0, r1, r2, wval]
 by_cases h3 : kind = 3
 ·subst h3
  obtain ⟨r, hr⟩ : ∃ r, doD d ⟨3, one, two, body⟩ = r := ⟨_, rfl⟩
  rw [hr]
  have HRR := (show Hid _ from hr)
  clear hr
  cases r with
  | error er =>
   go_enter Tryz.func61, Tryz.ntmps61
   go_wp2_with (go_at_call 34; refine (refMoveOf_any ⟨ga, gl, gc, na, nl, nc, wa, wl, wc⟩ d one two w1 hW1).mono ?_; rintro e w3 hR3; obtain ⟨rfl, hS3⟩ := hR3.out.1 er HRR.out; obtain ⟨lt, r0, r1, r2, r3, r4, r5⟩ := hNB.since hS3)
   refine bodyPost_ret (v := .tuple #[.agg #[.slice none 0 0, .slice none 0 0, .slice none 0 0], .int .i64 er]) ?_ rfl (resW_err (nil_since hSp.size (hS1.trans hS3)))
   simp [results, Tryz.results61, go_sem, r0, r1, r2]
  | ok d' =>
   go_enter Tryz.func61, Tryz.ntmps61
   go_wp2_with (go_at_call 34; refine (refMoveOf_any ⟨ga, gl, gc, na, nl, nc, wa, wl, wc⟩ d one two w1 hW1).mono ?_; rintro e w3 hR3; obtain ⟨L, rfl, hO, hS3⟩ := hR3.out.2 d' HRR.out; simp only [wval]; obtain ⟨lt, r0, r1, r2, r3, r4, r5⟩ := hNB.since hS3)
   obtain ⟨hO2, hSf⟩ := hO.result (w0 := w) (p := wp.heap.size) hNB.lt hSp.size (hS1.trans hS3) hS1.size
   refine bodyPost_ret (v := .tuple #[wval L d', .int .i64 0]) ?_ rfl (resW_ok hO2 hSf)
   simp [results, Tryz.results61, go_sem, r0, r1, r2, wval]
 by_cases h4 : kind = 4
 ·subst h4
  obtain ⟨r, hr⟩ : ∃ r, doD d ⟨4, one, two, body⟩ = r := ⟨_, rfl⟩
  rw [hr]
  have HRR := (show Hid _ from hr)
  clear hr
  cases r with
  | error er =>
   go_enter Tryz.func61, Tryz.ntmps61
   go_wp2_with (go_at_call 47; refine (refCalmOf_any ⟨ga, gl, gc, na, nl, nc, wa, wl, wc⟩ d w1 hW1).mono ?_; rintro e w3 hR3; obtain ⟨rfl, hS3⟩ := hR3.out.1 er HRR.out; obtain ⟨lt, r0, r1, r2, r3, r4, r5⟩ := hNB.since hS3)
   refine bodyPost_ret (v := .tuple #[.agg #[.slice none 0 0, .slice none 0 0, .slice none 0 0], .int .i64 er]) ?_ rfl (resW_err (nil_since hSp.size (hS1.trans hS3)))
   simp [results, Tryz.results61, go_sem, r0, r1, r2]
  | ok d' =>
   go_enter Tryz.func61, Tryz.ntmps61
   go_wp2_with (go_at_call 47; refine (refCalmOf_any ⟨ga, gl, gc, na, nl, nc, wa, wl, wc⟩ d w1 hW1).mono ?_; rintro e w3 hR3; obtain ⟨L, rfl, hO, hS3⟩ := hR3.out.2 d' HRR.out; simp only [wval]; obtain ⟨lt, r0, r1, r2, r3, r4, r5⟩ := hNB.since hS3)
   obtain ⟨hO2, hSf⟩ := hO.result (w0 := w) (p := wp.heap.size) hNB.lt hSp.size (hS1.trans hS3) hS1.size
   refine bodyPost_ret (v := .tuple #[wval L d', .int .i64 0]) ?_ rfl (resW_ok hO2 hSf)
   simp [results, Tryz.results61, go_sem, r0, r1, r2, wval]
 have b1 : (kind == 1) = false := by simpa using h1
 have b2 : (kind == 2) = false := by simpa using h2
 have b3 : (kind == 3) = false := by simpa using h3
 have b4 : (kind == 4) = false := by simpa using h4
 have HF : Hid (doD d ⟨kind, one, two, body⟩ = .error 6) := by unfold Hid doD; dsimp only; rw [if_neg h1, if_neg h2, if_neg h3, if_neg h4]
 clear h1 h2 h3 h4
 obtain ⟨lt, r0, r1, r2, r3, r4, r5⟩ := hNB
 go_enter Tryz.func61, Tryz.ntmps61
 go_wp2
 refine bodyPost_ret (v := .tuple #[.agg #[.slice none 0 0, .slice none 0 0, .slice none 0 0], .int .i64 6]) ?_ rfl (by unfold Hid; rw [HF.out]; exact resW_err (nil_since hSp.size hS1))
 simp [results, Tryz.results61, go_sem, r0, r1, r2]
end Go.Proofs.YtiiifecfdkjmbaaGreat
namespace Go.Proofs.YtiiifecfdkjmbaaGreat
set_option maxRecDepth 8000
open Go.RowKit Go.Shelf
open _root_.Go.Proofs.YtiiifecfdkjmbaaGreat.Pure
set_option linter.unusedVariables false
set_option linter.unusedSimpArgs false
set_option maxHeartbeats 2000000 in
theorem refDone_any (nodes : Nat) (hn : nodes ≤ 4) (l : List Int) (hl : l.length ≤ 3) (a : Option Addr) (cap : Nat) (ac : Option Addr) (acap : Nat) (acts : List Ac) (w : World) (hI : Ints w a l.length l) (hA : Acts w ac acts.length acts) :
  Calls Tryz.prog 70 #[.int .i64 nodes, .slice a l.length cap, .slice ac acts.length acap] w fun e w' => ∃ L, e = .returned (wval L (doneD nodes l acts)) ∧ OwnW w.heap.size w' (doneD nodes l acts) L ∧ Since w w' := by
 have hmax := hA.hmax
 obtain ⟨w1, hw1⟩ : ∃ w1, w.alloc (.cells #[.slice none 0 0, .slice none 0 0, .slice none 0 0] 26) = w1 := ⟨_, rfl⟩
 have hNB : NilBox w1 w.heap.size := by rw [← hw1]; exact NilBox.new w _
 have hS1 := sinceA hw1
 have hI1 := hI.since hS1
 have hA1 := hA.since hS1
 go_enter Tryz.func70, Tryz.ntmps70
 go_wp2_with (go_at_call 129; refine (beginOf_any nodes hn l hl a cap w1 hI1).mono ?_; rintro e w2 ⟨L, rfl, hO2, hS12⟩; simp only [wval]; obtain ⟨w3, hw3⟩ : ∃ y, w2.alloc (.cells #[.slice (L (0, 0, 0)).a (beginD nodes l).groups.length (L (0, 0, 0)).cap, .slice (L (1, 0, 0)).a (beginD nodes l).nodes.length (L (1, 0, 0)).cap, .slice (L (2, 0, 0)).a (beginD nodes l).wires.length (L (2, 0, 0)).cap] 26) = y := ⟨_, rfl⟩)
 have hS23 := sinceA hw3
 have hM3 : MadeW w1.heap.size w3 w2.heap.size (beginD nodes l) L := by
  refine ⟨hO2.since hS23, ?_, fun hb => ?_⟩
  ·rw [← hw3]; constructor <;> simp [go_sem]
  ·have := (hO2.blk hb).2; omega
 have hS13 := hS12.trans hS23
 have hge : w1.heap.size ≤ w2.heap.size := hS12.size
 clear hw1 hw3 hO2
 go_loopw [8] (fun i wr => ∃ (k : Nat) (Lk : Lay), k ≤ acts.length ∧ i = .int .i64 k ∧ MadeW w1.heap.size wr w2.heap.size (doneD nodes l (acts.take k)) Lk ∧ Since w1 wr) (fun i _ => acts.length - (intOf i).toNat)
 case atStart => exact ⟨0, L, Nat.zero_le _, rfl, by simpa [doneD] using hM3, hS13⟩
 case round =>
  obtain ⟨wo, rfl⟩ : ∃ wo, wo = wr := ⟨_, rfl⟩
  obtain ⟨k, Lk, hk, rfl, hM, hSr⟩ := hrel
  by_cases hlt : k < acts.length
  ·obtain ⟨x, hx⟩ : ∃ x, acts[k]? = some x := ⟨_, List.getElem?_eq_getElem hlt⟩
   obtain ⟨dk, hdk⟩ : ∃ y, doneD nodes l (acts.take k) = y := ⟨_, rfl⟩
   have hnext : doneD nodes l (acts.take (k + 1)) = doneOne dk x := by
    rw [← hdk, List.take_add_one, hx]; unfold doneD; rw [List.foldl_append]; rfl
   rw [hdk] at hM
   have HNX := (show Hid _ from hnext)
   obtain ⟨bA, oA, rfl, hbA, hcA⟩ := hA1.cells (by omega)
   obtain ⟨e0, e1, e2, e3⟩ := hcA k x hx
   have hWk := hM.own.wat
   have n1 : (k : Int) < (acts.length : Int) := by omega
   obtain ⟨W0, hW0⟩ : ∃ y, wo.drew = y := ⟨_, rfl⟩
   have hs0 := sinceD hW0
   obtain ⟨S0, hS0⟩ : ∃ S0 : World → Prop, ∀ w', S0 w' ↔ Since wo w' := ⟨_, fun _ => Iff.rfl⟩
   have c0 : ∀ y : HeldW S0, y.w.cell? ⟨w2.heap.size, 0, none⟩ = some (.slice (Lk (0, 0, 0)).a dk.groups.length (Lk (0, 0, 0)).cap) := fun y => (hM.since ((hS0 _).1 y.h)).box.c0
   have c1 : ∀ y : HeldW S0, y.w.cell? ⟨w2.heap.size, 1, none⟩ = some (.slice (Lk (1, 0, 0)).a dk.nodes.length (Lk (1, 0, 0)).cap) := fun y => (hM.since ((hS0 _).1 y.h)).box.c1
   have c2 : ∀ y : HeldW S0, y.w.cell? ⟨w2.heap.size, 2, none⟩ = some (.slice (Lk (2, 0, 0)).a dk.wires.length (Lk (2, 0, 0)).cap) := fun y => (hM.since ((hS0 _).1 y.h)).box.c2
   have c3 : ∀ y : HeldW S0, y.w.cell? ⟨bA, oA + k * 4, none⟩ = some (.int .i64 x.kind) := fun y => ((hSr.trans ((hS0 _).1 y.h)).cellAt hbA _).trans e0
   have c4 : ∀ y : HeldW S0, y.w.cell? ⟨bA, oA + k * 4 + 1, none⟩ = some (.int .i64 x.one) := fun y => ((hSr.trans ((hS0 _).1 y.h)).cellAt hbA _).trans e1
   have c5 : ∀ y : HeldW S0, y.w.cell? ⟨bA, oA + k * 4 + 2, none⟩ = some (.int .i64 x.two) := fun y => ((hSr.trans ((hS0 _).1 y.h)).cellAt hbA _).trans e2
   have c6 : ∀ y : HeldW S0, y.w.cell? ⟨bA, oA + k * 4 + 3, none⟩ = some (.string x.body) := fun y => ((hSr.trans ((hS0 _).1 y.h)).cellAt hbA _).trans e3
   have hSi0 := (hS0 W0).2 hs0
   have hne : Nonempty (HeldW S0) := ⟨⟨_, hSi0⟩⟩
   obtain ⟨WA, hWA⟩ : ∃ y, W0.alloc (.cells #[.slice none 0 0, .slice none 0 0, .slice none 0 0] 26) = y := ⟨_, rfl⟩
   have hsA := sinceA hWA
   have hNA : NilBox WA W0.heap.size := by rw [← hWA]; exact NilBox.new W0 _
   have hSiA := (hS0 WA).2 (hs0.trans hsA)
   have hDo0 := refDo_any (wvOf Lk dk) dk x W0 (hWk.since hs0)
   have hDoA := refDo_any (wvOf Lk dk) dk x WA (hWk.since (hs0.trans hsA))
   unfold wvOf acV at hDo0 hDoA
   dsimp only at hDo0 hDoA
   obtain ⟨r, hr⟩ : ∃ r, doD dk x = r := ⟨_, rfl⟩
   rw [hr] at hDo0 hDoA
   clear hnext hdk hcA e0 e1 e2 e3 hx
   go_wp2_with fail
   refine beginL (fun w' => ∃ x : HeldW S0, w' = x.w) (by kernel_rfl) ?_
   rw [hW0]
   clear hW0
   refine tL 0 rfl (heldS_mk hSi0) ?_
   go_big_quiet_op
   refine tL 1 rfl (heldS_mk hSi0) ?_
   go_big_quiet_op
   refine tL 2 rfl (heldS_mk hSi0) ?_
   go_big_quiet_op
   refine tL 3 rfl (heldS_mk hSi0) ?_
   go_big_quiet_op
   refine tL 4 rfl (heldS_mk hSi0) ?_
   go_big_quiet_op
   cases r with
   | error er =>
    have her : (er == 0) = false := by simpa using doD_nz4 hr
    have HN : Hid (doneD nodes l (acts.take (k + 1)) = dk) := by unfold Hid; rw [HNX.out]; unfold doneOne; rw [hr]
    clear hr
    refine actL2 5 9 rfl rfl (by kernel_rfl) ?_ ?_
    ·intro K hK
     go_simp
     refine hDo0.mono ?_
     rintro e wC hR3
     obtain ⟨rfl, hS3⟩ := hR3.out.1 er rfl
     dsimp only
     have hsC := hs0.trans hS3
     have hSiC := (hS0 wC).2 hsC
     refine hK _ _ (fun _ _ => heldS_mk hSiC) ?_
     clear hK K
     refine tL 6 rfl (heldS_mk hSiC) ?_
     go_big_quiet_op
     refine tL 7 rfl (heldS_mk hSiC) ?_
     go_big_quiet_op
     refine tL 8 rfl (heldS_mk hSiC) ?_
     go_big_quiet_op
     refine actL 9 rfl (by kernel_rfl) ?_
     intro K hK
     go_simp
     refine hK _ _ (fun _ _ => heldS_mk ((hS0 _).2 (hsC.alloc _))) ?_
     clear hK K
     refine actL 10 rfl (by kernel_rfl) ?_
     intro K hK
     go_simp
     have hsF : Since wo (wC.alloc (.cells #[.slice none 0 0, .slice none 0 0, .slice none 0 0] 26)) := hsC.alloc _
     refine hK _ _ (fun _ _ => heldS_mk ((hS0 _).2 hsF)) ?_
     clear hK K
     refine tL 11 rfl (heldS_mk ((hS0 _).2 hsF)) ?_
     go_big_quiet_op
     refine doneK (by kernel_rfl) ?_
     clear c0 c1 c2 c3 c4 c5 c6 hne
     go_wp2
     exact ⟨⟨k + 1, Lk, by omega, by go_num, by rw [HN.out]; exact hM.since hsF, hSr.trans hsF⟩, by simp [intOf]; omega⟩
    ·intro K hK
     go_simp
     refine hK _ _ (fun _ _ => heldS_mk hSiA) ?_
     clear hK K
     refine actL 5 rfl (by kernel_rfl) ?_
     intro K hK
     go_simp
     refine hDoA.mono ?_
     rintro e wC hR3
     obtain ⟨rfl, hS3⟩ := hR3.out.1 er rfl
     dsimp only
     have hsC := (hs0.trans hsA).trans hS3
     have hSiC := (hS0 wC).2 hsC
     refine hK _ _ (fun _ _ => heldS_mk hSiC) ?_
     clear hK K
     refine tL 6 rfl (heldS_mk hSiC) ?_
     go_big_quiet_op
     refine tL 7 rfl (heldS_mk hSiC) ?_
     go_big_quiet_op
     refine tL 8 rfl (heldS_mk hSiC) ?_
     go_big_quiet_op
     obtain ⟨lt, r0, r1, r2, r3, r4, r5⟩ := hNA.since hS3
     refine actL 10 rfl (by kernel_rfl) ?_
     intro K hK
     go_simp
     have hsF := nil_since (w := wo) (p := W0.heap.size) hs0.size hsC
     refine hK _ _ (fun _ _ => heldS_mk ((hS0 _).2 hsF)) ?_
     clear hK K
     refine tL 11 rfl (heldS_mk ((hS0 _).2 hsF)) ?_
     go_big_quiet_op
     refine doneK (by kernel_rfl) ?_
     clear c0 c1 c2 c3 c4 c5 c6 hne
     go_wp2
     exact ⟨⟨k + 1, Lk, by omega, by go_num, by rw [HN.out]; exact hM.since hsF, hSr.trans hsF⟩, by simp [intOf]; omega⟩
   | ok d' =>
    have HN : Hid (doneD nodes l (acts.take (k + 1)) = d') := by unfold Hid; rw [HNX.out]; unfold doneOne; rw [hr]
    clear hr
    have hpw : w2.heap.size < W0.heap.size := Nat.lt_of_lt_of_le hM.box.lt hs0.size
    have hlo : w1.heap.size ≤ W0.heap.size := Nat.le_trans hSr.size hs0.size
    refine actL2 5 9 rfl rfl (by kernel_rfl) ?_ ?_
    ·intro K hK
     go_simp
     refine hDo0.mono ?_
     rintro e wC hR3
     obtain ⟨L', rfl, hO, hS3⟩ := hR3.out.2 d' rfl
     simp only [wval]
     have hsC := hs0.trans hS3
     have hSiC := (hS0 wC).2 hsC
     refine hK _ _ (fun _ _ => heldS_mk hSiC) ?_
     clear hK K
     refine tL 6 rfl (heldS_mk hSiC) ?_
     go_big_quiet_op
     refine tL 7 rfl (heldS_mk hSiC) ?_
     go_big_quiet_op
     refine tL 8 rfl (heldS_mk hSiC) ?_
     go_big_quiet_op
     refine actL 9 rfl (by kernel_rfl) ?_
     intro K hK
     go_simp
     refine hK _ _ (fun _ _ => heldS_mk ((hS0 _).2 (hsC.alloc _))) ?_
     clear hK K
     obtain ⟨WF, hWF⟩ : ∃ y, wC.alloc (.cells #[.slice (L' (0, 0, 0)).a d'.groups.length (L' (0, 0, 0)).cap, .slice (L' (1, 0, 0)).a d'.nodes.length (L' (1, 0, 0)).cap, .slice (L' (2, 0, 0)).a d'.wires.length (L' (2, 0, 0)).cap] 26) = y := ⟨_, rfl⟩
     have hsCF := sinceA hWF
     have q0 : WF.cell? ⟨wC.heap.size, 0, none⟩ = some (.slice (L' (0, 0, 0)).a d'.groups.length (L' (0, 0, 0)).cap) := by rw [← hWF]; simp [go_sem]
     have q1 : WF.cell? ⟨wC.heap.size, 1, none⟩ = some (.slice (L' (1, 0, 0)).a d'.nodes.length (L' (1, 0, 0)).cap) := by rw [← hWF]; simp [go_sem]
     have q2 : WF.cell? ⟨wC.heap.size, 2, none⟩ = some (.slice (L' (2, 0, 0)).a d'.wires.length (L' (2, 0, 0)).cap) := by rw [← hWF]; simp [go_sem]
     have hsF := hsC.trans hsCF
     refine actL 10 rfl (by kernel_rfl) ?_
     intro K hK
     go_simp
     refine hK _ _ (fun _ _ => heldS_mk ((hS0 _).2 hsF)) ?_
     clear hK K
     refine tL 11 rfl (heldS_mk ((hS0 _).2 hsF)) ?_
     go_big_quiet_op
     refine doneK (by kernel_rfl) ?_
     have hMF := hM.since hsF
     obtain ⟨bl, b0, b1, b2, z0, z1, z2⟩ := hMF.box
     have hreb := rebox (lo := w1.heap.size) (hO.since hsCF) hMF.box hlo hpw
     have hSg : Since w1 (((WF.setCell ⟨w2.heap.size, 0, none⟩ (.slice (L' (0, 0, 0)).a d'.groups.length (L' (0, 0, 0)).cap)).setCell ⟨w2.heap.size, 1, none⟩ (.slice (L' (1, 0, 0)).a d'.nodes.length (L' (1, 0, 0)).cap)).setCell ⟨w2.heap.size, 2, none⟩ (.slice (L' (2, 0, 0)).a d'.wires.length (L' (2, 0, 0)).cap)) := by
      have hF : Fr (fun i => i = w2.heap.size) WF WF := Fr.refl _ _
      exact (((hF.setCell ⟨w2.heap.size, 0, none⟩ _ (fun _ => rfl)).setCell ⟨w2.heap.size, 1, none⟩ _ (fun _ => rfl)).setCell ⟨w2.heap.size, 2, none⟩ _ (fun _ => rfl)).sinceBase (hSr.trans hsF) (fun i hi e => by omega)
     clear c0 c1 c2 c3 c4 c5 c6 hne hWF
     go_wp2
     exact ⟨⟨k + 1, L', by omega, by go_num, by rw [HN.out]; exact hreb, hSg⟩, by simp [intOf]; omega⟩
    ·intro K hK
     go_simp
     refine hK _ _ (fun _ _ => heldS_mk hSiA) ?_
     clear hK K
     refine actL 5 rfl (by kernel_rfl) ?_
     intro K hK
     go_simp
     refine hDoA.mono ?_
     rintro e wC hR3
     obtain ⟨L', rfl, hO, hS3⟩ := hR3.out.2 d' rfl
     simp only [wval]
     have hsC := (hs0.trans hsA).trans hS3
     have hSiC := (hS0 wC).2 hsC
     refine hK _ _ (fun _ _ => heldS_mk hSiC) ?_
     clear hK K
     refine tL 6 rfl (heldS_mk hSiC) ?_
     go_big_quiet_op
     refine tL 7 rfl (heldS_mk hSiC) ?_
     go_big_quiet_op
     refine tL 8 rfl (heldS_mk hSiC) ?_
     go_big_quiet_op
     have hNC := hNA.since hS3
     obtain ⟨hOF, hsWF⟩ := hO.result (w0 := W0) (p := W0.heap.size) hNA.lt (Nat.le_refl _) (hsA.trans hS3) hsA.size
     have hbx := nil_box (d := d') (L := L') hNC
     obtain ⟨lt, r0, r1, r2, r3, r4, r5⟩ := hNC
     obtain ⟨WF, hWF⟩ : ∃ y, ((wC.setCell ⟨W0.heap.size, 0, none⟩ (.slice (L' (0, 0, 0)).a d'.groups.length (L' (0, 0, 0)).cap)).setCell ⟨W0.heap.size, 1, none⟩ (.slice (L' (1, 0, 0)).a d'.nodes.length (L' (1, 0, 0)).cap)).setCell ⟨W0.heap.size, 2, none⟩ (.slice (L' (2, 0, 0)).a d'.wires.length (L' (2, 0, 0)).cap) = y := ⟨_, rfl⟩
     rw [hWF] at hOF hsWF hbx
     obtain ⟨_, q0, q1, q2, _, _, _⟩ := hbx
     have hsF := hs0.trans hsWF
     refine actL 10 rfl (by kernel_rfl) ?_
     intro K hK
     go_simp
     refine hK _ _ (fun _ _ => heldS_mk ((hS0 _).2 hsF)) ?_
     clear hK K
     refine tL 11 rfl (heldS_mk ((hS0 _).2 hsF)) ?_
     go_big_quiet_op
     refine doneK (by kernel_rfl) ?_
     have hMF := hM.since hsF
     obtain ⟨bl, b0, b1, b2, z0, z1, z2⟩ := hMF.box
     have hreb := rebox (lo := w1.heap.size) hOF hMF.box hlo hpw
     have hSg : Since w1 (((WF.setCell ⟨w2.heap.size, 0, none⟩ (.slice (L' (0, 0, 0)).a d'.groups.length (L' (0, 0, 0)).cap)).setCell ⟨w2.heap.size, 1, none⟩ (.slice (L' (1, 0, 0)).a d'.nodes.length (L' (1, 0, 0)).cap)).setCell ⟨w2.heap.size, 2, none⟩ (.slice (L' (2, 0, 0)).a d'.wires.length (L' (2, 0, 0)).cap)) := by
      have hF : Fr (fun i => i = w2.heap.size) WF WF := Fr.refl _ _
      exact (((hF.setCell ⟨w2.heap.size, 0, none⟩ _ (fun _ => rfl)).setCell ⟨w2.heap.size, 1, none⟩ _ (fun _ => rfl)).setCell ⟨w2.heap.size, 2, none⟩ _ (fun _ => rfl)).sinceBase (hSr.trans hsF) (fun i hi e => by omega)
     clear c0 c1 c2 c3 c4 c5 c6 hne hWF
     go_wp2
     exact ⟨⟨k + 1, L', by omega, by go_num, by rw [HN.out]; exact hreb, hSg⟩, by simp [intOf]; omega⟩
  ·obtain rfl : k = acts.length := by omega
   rw [List.take_length] at hM
   obtain ⟨lt, r0, r1, r2, r3, r4, r5⟩ := hNB.since hSr
   have b0 := hM.box.c0
   have b1 := hM.box.c1
   have b2 := hM.box.c2
   obtain ⟨hO, hSf⟩ := hM.own.result (w0 := w) (p := w.heap.size) hNB.lt (Nat.le_refl _) (hS1.trans hSr) hS1.size
   go_wp2
   refine bodyPost_ret (v := wval Lk (doneD nodes l acts)) ?_ rfl ⟨Lk, rfl, hO, hSf⟩
   simp [results, Tryz.results70, go_sem, r0, r1, r2, wval]
end Go.Proofs.YtiiifecfdkjmbaaGreat
