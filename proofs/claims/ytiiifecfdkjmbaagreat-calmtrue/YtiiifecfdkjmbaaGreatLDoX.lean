/- An act that was not done has an error that is not 0; conditions: none. Contract of log.Do; conditions: the world reads as one. Contracts of world.silence and world.Begin; conditions: the groups read as a list of ints. -/
import Derived.Test.YtiiifecfdkjmbaaGreatSCalmX
namespace Go.Proofs.YtiiifecfdkjmbaaGreat
set_option maxRecDepth 8000
open Go.RowKit Go.Shelf
open _root_.Go.Proofs.YtiiifecfdkjmbaaGreat.Pure
theorem rounds_nz {e : Int} : ∀ (k : Nat) (d : Wd), roundsD k d = .error e → e ≠ 0
 | 0, d, h => by cases h
 | k + 1, d, h => by
  unfold roundsD at h
  rcases bind_err h with h | ⟨r, _, h⟩
  ·exact roundD_nz h
  ·exact rounds_nz k r.1 h
theorem calmD_nz {d : Wd} {e : Int} (h : calmD d = .error e) : e ≠ 0 := by
 unfold calmD at h
 rcases bind_err h with h | ⟨r, _, h⟩
 ·exact drainD_nz h
 ·exact rounds_nz 4 r.1 h
theorem checked_nz {α : Type} {d : Wd} {r : Except Int α} {e : Int} (hr : ∀ e, r = .error e → e ≠ 0) (h : checked d r = .error e) : e ≠ 0 := by
 unfold checked at h
 split at h
 ·exact hr e h
 ·rename_i hz; cases h; exact hz
theorem doD_nz4 {d : Wd} {a : Ac} {e : Int} (h : doD d a = .error e) : e ≠ 0 := by
 by_cases h4 : a.kind = 4
 ·obtain ⟨k, o, t, b⟩ := a
  dsimp only at h4
  subst h4
  exact checked_nz (fun _ h => calmD_nz h) (show checked d (calmD d) = .error e from h)
 ·exact doD_nz h4 h
end Go.Proofs.YtiiifecfdkjmbaaGreat
namespace Go.Proofs.YtiiifecfdkjmbaaGreat
set_option maxRecDepth 8000
open Go.RowKit Go.Shelf
open _root_.Go.Proofs.YtiiifecfdkjmbaaGreat.Pure
set_option linter.unusedVariables false
set_option linter.unusedSimpArgs false
set_option maxHeartbeats 2000000 in
theorem logDo_any (x : WV) (d : Wd) (a : Ac) (w : World) (hW : WAt w x d) :
  Calls Tryz.prog 53 #[.agg #[.slice x.ga x.gl x.gc, .slice x.na x.nl x.nc, .slice x.wa x.wl x.wc], acV a] w fun e w' => Hid (ResW w (doD d a) e w') := by
 obtain ⟨ga, gl, gc, na, nl, nc, wa, wl, wc⟩ := x
 obtain ⟨kind, one, two, body⟩ := a
 unfold acV
 dsimp only
 obtain ⟨wq, hwq⟩ : ∃ wp, w.alloc (.cells #[.slice ga gl gc, .slice na nl nc, .slice wa wl wc] 26) = wp := ⟨_, rfl⟩
 have hPq : ParBox wq w.heap.size ⟨ga, gl, gc, na, nl, nc, wa, wl, wc⟩ := by rw [← hwq]; exact ParBox.new w ⟨ga, gl, gc, na, nl, nc, wa, wl, wc⟩ _
 have hSq : Since w wq := by rw [← hwq]; exact (Since.refl w).alloc _
 obtain ⟨wp, hwp⟩ : ∃ wp, wq.alloc (.cells #[.int .i64 kind, .int .i64 one, .int .i64 two, .string body] 58) = wp := ⟨_, rfl⟩
 have hSqp : Since wq wp := by rw [← hwp]; exact (Since.refl wq).alloc _
 have hlq : wq.heap.size < wp.heap.size := by rw [← hwp]; simp
 have a0 : wp.cell? ⟨wq.heap.size, 0, none⟩ = some (.int .i64 kind) := by rw [← hwp]; simp [go_sem]
 have a1 : wp.cell? ⟨wq.heap.size, 1, none⟩ = some (.int .i64 one) := by rw [← hwp]; simp [go_sem]
 have a2 : wp.cell? ⟨wq.heap.size, 2, none⟩ = some (.int .i64 two) := by rw [← hwp]; simp [go_sem]
 have a3 : wp.cell? ⟨wq.heap.size, 3, none⟩ = some (.string body) := by rw [← hwp]; simp [go_sem]
 have hSp := hSq.trans hSqp
 obtain ⟨w1, hw1⟩ : ∃ w1, wp.alloc (.cells #[.slice none 0 0, .slice none 0 0, .slice none 0 0] 26) = w1 := ⟨_, rfl⟩
 have hNB : NilBox w1 wp.heap.size := by rw [← hw1]; exact NilBox.new wp _
 have hSp1 : Since wp w1 := by rw [← hw1]; exact (Since.refl wp).alloc _
 have hP1 := hPq.since (hSqp.trans hSp1)
 have hS1 := hSp.trans hSp1
 have hW1 := hW.since hS1
 have p0 := hP1.c0
 have p1 := hP1.c1
 have p2 := hP1.c2
 dsimp only at p0 p1 p2
 have d0 := (hSp1.cellAt hlq _).trans a0
 have d1 := (hSp1.cellAt hlq _).trans a1
 have d2 := (hSp1.cellAt hlq _).trans a2
 have d3 := (hSp1.cellAt hlq _).trans a3
 clear a0 a1 a2 a3
 by_cases h1 : kind = 1
 ·subst h1
  obtain ⟨r, hr⟩ : ∃ r, doD d ⟨1, one, two, body⟩ = r := ⟨_, rfl⟩
  rw [hr]
  have HRR := (show Hid _ from hr)
  clear hr
  cases r with
  | error er =>
   go_enter Tryz.func53, Tryz.ntmps53
   go_wp2_with (go_at_call 28; refine (castSend_any ⟨ga, gl, gc, na, nl, nc, wa, wl, wc⟩ d one two body w1 hW1).mono ?_; rintro e w3 hR3; obtain ⟨rfl, hS3⟩ := hR3.out.1 er HRR.out; obtain ⟨lt, r0, r1, r2, r3, r4, r5⟩ := hNB.since hS3)
   refine bodyPost_ret (v := .tuple #[.agg #[.slice none 0 0, .slice none 0 0, .slice none 0 0], .int .i64 er]) ?_ rfl (resW_err (nil_since hSp.size (hS1.trans hS3)))
   simp [results, Tryz.results53, go_sem, r0, r1, r2]
  | ok d' =>
   go_enter Tryz.func53, Tryz.ntmps53
   go_wp2_with (go_at_call 28; refine (castSend_any ⟨ga, gl, gc, na, nl, nc, wa, wl, wc⟩ d one two body w1 hW1).mono ?_; rintro e w3 hR3; obtain ⟨L, rfl, hO, hS3⟩ := hR3.out.2 d' HRR.out; simp only [wval]; obtain ⟨lt, r0, r1, r2, r3, r4, r5⟩ := hNB.since hS3)
   obtain ⟨hO2, hSf⟩ := hO.result (w0 := w) (p := wp.heap.size) hNB.lt hSp.size (hS1.trans hS3) hS1.size
   refine bodyPost_ret (v := .tuple #[wval L d', .int .i64 0]) ?_ rfl (resW_ok hO2 hSf)
   simp [results, Tryz.results53, go_sem, r0, r1, r2, wval]
 by_cases h2 : kind = 2
 ·subst h2
  obtain ⟨r, hr⟩ : ∃ r, doD d ⟨2, one, two, body⟩ = r := ⟨_, rfl⟩
  rw [hr]
  have HRR := (show Hid _ from hr)
  clear hr
  cases r with
  | error er =>
   go_enter Tryz.func53, Tryz.ntmps53
   go_wp2_with (go_at_call 32; refine (castNull_any ⟨ga, gl, gc, na, nl, nc, wa, wl, wc⟩ d one two w1 hW1).mono ?_; rintro e w3 hR3; obtain ⟨rfl, hS3⟩ := hR3.out.1 er HRR.out; obtain ⟨lt, r0, r1, r2, r3, r4, r5⟩ := hNB.since hS3)
   refine bodyPost_ret (v := .tuple #[.agg #[.slice none 0 0, .slice none 0 0, .slice none 0 0], .int .i64 er]) ?_ rfl (resW_err (nil_since hSp.size (hS1.trans hS3)))
   simp [results, Tryz.results53, go_sem, r0, r1, r2]
  | ok d' =>
   go_enter Tryz.func53, Tryz.ntmps53
   go_wp2_with (go_at_call 32; refine (castNull_any ⟨ga, gl, gc, na, nl, nc, wa, wl, wc⟩ d one two w1 hW1).mono ?_; rintro e w3 hR3; obtain ⟨L, rfl, hO, hS3⟩ := hR3.out.2 d' HRR.out; simp only [wval]; obtain ⟨lt, r0, r1, r2, r3, r4, r5⟩ := hNB.since hS3)
   obtain ⟨hO2, hSf⟩ := hO.result (w0 := w) (p := wp.heap.size) hNB.lt hSp.size (hS1.trans hS3) hS1.size
   refine bodyPost_ret (v := .tuple #[wval L d', .int .i64 0]) ?_ rfl (resW_ok hO2 hSf)
   simp [results, Tryz.results53, go_sem, r0, r1, r2, wval]
 by_cases h3 : kind = 3
 ·subst h3
  obtain ⟨r, hr⟩ : ∃ r, doD d ⟨3, one, two, body⟩ = r := ⟨_, rfl⟩
  rw [hr]
  have HRR := (show Hid _ from hr)
  clear hr
  cases r with
  | error er =>
   go_enter Tryz.func53, Tryz.ntmps53
   go_wp2_with (go_at_call 33; refine (moveOne_any ⟨ga, gl, gc, na, nl, nc, wa, wl, wc⟩ d one two w1 hW1).mono ?_; rintro e w3 hR3; obtain ⟨rfl, hS3⟩ := hR3.out.1 er HRR.out; obtain ⟨lt, r0, r1, r2, r3, r4, r5⟩ := hNB.since hS3)
   refine bodyPost_ret (v := .tuple #[.agg #[.slice none 0 0, .slice none 0 0, .slice none 0 0], .int .i64 er]) ?_ rfl (resW_err (nil_since hSp.size (hS1.trans hS3)))
   simp [results, Tryz.results53, go_sem, r0, r1, r2]
  | ok d' =>
   go_enter Tryz.func53, Tryz.ntmps53
   go_wp2_with (go_at_call 33; refine (moveOne_any ⟨ga, gl, gc, na, nl, nc, wa, wl, wc⟩ d one two w1 hW1).mono ?_; rintro e w3 hR3; obtain ⟨L, rfl, hO, hS3⟩ := hR3.out.2 d' HRR.out; simp only [wval]; obtain ⟨lt, r0, r1, r2, r3, r4, r5⟩ := hNB.since hS3)
   obtain ⟨hO2, hSf⟩ := hO.result (w0 := w) (p := wp.heap.size) hNB.lt hSp.size (hS1.trans hS3) hS1.size
   refine bodyPost_ret (v := .tuple #[wval L d', .int .i64 0]) ?_ rfl (resW_ok hO2 hSf)
   simp [results, Tryz.results53, go_sem, r0, r1, r2, wval]
 by_cases h4 : kind = 4
 ·subst h4
  obtain ⟨r, hr⟩ : ∃ r, doD d ⟨4, one, two, body⟩ = r := ⟨_, rfl⟩
  rw [hr]
  have HRR := (show Hid _ from hr)
  clear hr
  cases r with
  | error er =>
   go_enter Tryz.func53, Tryz.ntmps53
   go_wp2_with (go_at_call 46; refine (calmCalm_any ⟨ga, gl, gc, na, nl, nc, wa, wl, wc⟩ d w1 hW1).mono ?_; rintro e w3 hR3; obtain ⟨rfl, hS3⟩ := hR3.out.1 er HRR.out; obtain ⟨lt, r0, r1, r2, r3, r4, r5⟩ := hNB.since hS3)
   refine bodyPost_ret (v := .tuple #[.agg #[.slice none 0 0, .slice none 0 0, .slice none 0 0], .int .i64 er]) ?_ rfl (resW_err (nil_since hSp.size (hS1.trans hS3)))
   simp [results, Tryz.results53, go_sem, r0, r1, r2]
  | ok d' =>
   go_enter Tryz.func53, Tryz.ntmps53
   go_wp2_with (go_at_call 46; refine (calmCalm_any ⟨ga, gl, gc, na, nl, nc, wa, wl, wc⟩ d w1 hW1).mono ?_; rintro e w3 hR3; obtain ⟨L, rfl, hO, hS3⟩ := hR3.out.2 d' HRR.out; simp only [wval]; obtain ⟨lt, r0, r1, r2, r3, r4, r5⟩ := hNB.since hS3)
   obtain ⟨hO2, hSf⟩ := hO.result (w0 := w) (p := wp.heap.size) hNB.lt hSp.size (hS1.trans hS3) hS1.size
   refine bodyPost_ret (v := .tuple #[wval L d', .int .i64 0]) ?_ rfl (resW_ok hO2 hSf)
   simp [results, Tryz.results53, go_sem, r0, r1, r2, wval]
 have b1 : (kind == 1) = false := by simpa using h1
 have b2 : (kind == 2) = false := by simpa using h2
 have b3 : (kind == 3) = false := by simpa using h3
 have b4 : (kind == 4) = false := by simpa using h4
 have HF : Hid (doD d ⟨kind, one, two, body⟩ = .error 6) := by unfold Hid doD; dsimp only; rw [if_neg h1, if_neg h2, if_neg h3, if_neg h4]
 clear h1 h2 h3 h4
 obtain ⟨lt, r0, r1, r2, r3, r4, r5⟩ := hNB
 go_enter Tryz.func53, Tryz.ntmps53
 go_wp2
 refine bodyPost_ret (v := .tuple #[.agg #[.slice none 0 0, .slice none 0 0, .slice none 0 0], .int .i64 6]) ?_ rfl (by unfold Hid; rw [HF.out]; exact resW_err (nil_since hSp.size hS1))
 simp [results, Tryz.results53, go_sem, r0, r1, r2]
end Go.Proofs.YtiiifecfdkjmbaaGreat
namespace Go.Proofs.YtiiifecfdkjmbaaGreat
set_option maxRecDepth 8000
open Go.RowKit Go.Shelf
open _root_.Go.Proofs.YtiiifecfdkjmbaaGreat.Pure
set_option linter.unusedVariables false
set_option linter.unusedSimpArgs false
set_option maxHeartbeats 1000000 in
theorem silence_any (cnt nodes : Nat) (hc : cnt ≤ 1000) (hn : nodes ≤ 1000) (w : World) :
  Calls Tryz.prog 165 #[.int .i64 cnt, .int .i64 nodes] w fun e w' => ∃ (s : Sl) (rs : Nat → Sl), e = .returned (s.v cnt) ∧ OwnLL 1 intsV w.heap.size w' s rs (List.replicate cnt (List.replicate nodes (0 : Int))) ∧ Since w w' := by
 obtain ⟨xss, hxs⟩ : ∃ xss : List (List Int), List.replicate cnt (List.replicate nodes (0 : Int)) = xss := ⟨_, rfl⟩
 have hlen : xss.length = cnt := by rw [← hxs]; simp
 have HAT : Hid (∀ j, j < cnt → xss[j]? = some (List.replicate nodes (0 : Int))) := fun j hj => by rw [← hxs, List.getElem?_replicate, if_pos hj]
 rw [hxs]
 clear hxs
 subst hlen
 have hmk1 := fun y => run_make_row' (P := Tryz.prog) 43 22 (.slice none 0 0) 24 (by kernel_rfl) (by kernel_rfl) rfl .i64 .i64 xss.length (by omega) (by omega) y
 have hmk2 := fun y => run_make_row' (P := Tryz.prog) 22 3 (.int .i64 0) 8 (by kernel_rfl) (by kernel_rfl) rfl .i64 .i64 nodes (by omega) (by omega) y
 obtain ⟨w1, hw1⟩ : ∃ w1, w.alloc (.cells (madeCells #[.slice none 0 0] xss.length) 22) = w1 := ⟨_, rfl⟩
 have hS1 : Since w w1 := by rw [← hw1]; exact (Since.refl w).alloc _
 have hLL0 : OwnLL 1 intsV w.heap.size w1 ⟨some ⟨w.heap.size, 0, none⟩, xss.length⟩ (fun _ => ⟨none, 0⟩) (List.replicate xss.length ([] : List Int)) := by
  rw [← hw1]; exact OwnLL.made rfl w.heap.size w xss.length _ (Nat.le_refl _) (by unfold maxLen; omega)
 go_enter Tryz.func165, Tryz.ntmps165
 go_wp2
 go_loopw [11] (fun i wr => ∃ (j : Nat) (rs : Nat → Sl), j ≤ xss.length ∧ i = .int .i64 j ∧ OwnLL 1 intsV w.heap.size wr ⟨some ⟨w.heap.size, 0, none⟩, xss.length⟩ rs (xss.take j ++ List.replicate (xss.length - j) []) ∧ Since w wr) (fun i _ => xss.length - (intOf i).toNat)
 case atStart => exact ⟨0, _, Nat.zero_le _, rfl, by simpa using hLL0, hS1⟩
 case round =>
  clear hLL0 hw1 hS1 hmk1
  obtain ⟨wo, rfl⟩ : ∃ wo, wo = wr := ⟨_, rfl⟩
  obtain ⟨j, rs, hj, rfl, hLL, hS⟩ := hrel
  by_cases hlt : j < xss.length
  ·have n1 : (j : Int) < (xss.length : Int) := by omega
   have hlen : (xss.take j ++ List.replicate (xss.length - j) ([] : List Int)).length = xss.length := by simp; omega
   obtain ⟨w2, hw2⟩ : ∃ y, wo.alloc (.cells (madeCells #[.int .i64 0] nodes) 3) = y := ⟨_, rfl⟩
   have hS2 : Since wo w2 := by rw [← hw2]; exact (Since.refl wo).alloc _
   have hRow : Row w2 wo.heap.size 1 ⟨some ⟨wo.heap.size, 0, none⟩, nodes⟩ (List.replicate nodes (0 : Int)).length (intsV (List.replicate nodes 0)) := by
    have := Row.new wo wo.heap.size 1 (madeCells #[.int .i64 0] nodes) 3 nodes (Nat.le_refl _) (by rw [size_madeCells]; omega) (by unfold maxLen; omega)
    rw [made_list, hw2] at this
    unfold intsV; rw [List.map_replicate, List.length_replicate]; exact this
   have hLL2 := hLL.since hS2
   obtain ⟨b', o', e', _, hblt, hall, _⟩ := hLL2.top.body (by show 0 < xss.length; omega)
   dsimp only at e'
   cases e'
   obtain ⟨q1, q2⟩ := hall j (by show j < xss.length * 1; omega)
   rw [Nat.zero_add] at q1 q2
   obtain ⟨u, hu⟩ := Option.isSome_iff_exists.1 q1
   have HL : Hid ((xss.take j ++ List.replicate (xss.length - j) ([] : List Int)).length = xss.length) := hlen
   clear hall q1 hlen
   go_wp2
   go_roundw
   case rel =>
    have hput := hLL2.put (k := j) (by rw [HL.out]; exact hlt) rfl (hRow.mono hS.size) (fun c hc => by
     have hge := hRow.blk_ge c hc
     refine ⟨fun e => ?_, fun i _ hi e => ?_⟩
     ·have := (hLL.blk (.inl e)).2; omega
     ·have := (hLL.blk (.inr ⟨i, hi, e⟩)).2; omega)
    rw [take_set xss j _ (HAT.out j hlt), Nat.zero_add, List.length_replicate] at hput
    exact ⟨j + 1, _, by omega, by go_num, hput, ⟨(hS.trans hS2).below.setCell (p := ⟨w.heap.size, j, none⟩) (Nat.le_refl _) _⟩⟩
   case measure => simp [intOf]; omega
  ·obtain rfl : j = xss.length := by omega
   rw [Nat.sub_self, List.replicate_zero, List.append_nil, List.take_of_length_le (Nat.le_refl _)] at hLL
   go_wp2
   go_ret
   exact ⟨⟨some ⟨w.heap.size, 0, none⟩, xss.length⟩, rs, rfl, hLL, hS⟩
set_option maxHeartbeats 1000000 in
theorem worldBegin_err (nodes : Int) (a : Option Addr) (len cap : Nat) (l : List Int) (w : World) (hI : Ints w a len l) (hE : ¬ chkE nodes l = 0) :
  Calls Tryz.prog 108 #[.int .i64 nodes, .slice a len cap] w fun e w' => Hid (ResW w (.error (chkE nodes l)) e w') := by
 obtain ⟨w1, hw1⟩ : ∃ w1, w.alloc (.cells #[.slice none 0 0, .slice none 0 0, .slice none 0 0] 26) = w1 := ⟨_, rfl⟩
 have hNB : NilBox w1 w.heap.size := by rw [← hw1]; exact NilBox.new w _
 have hS1 : Since w w1 := by rw [← hw1]; exact (Since.refl w).alloc _
 have hI1 := hI.since hS1
 obtain ⟨er, her⟩ : ∃ er, chkE nodes l = er := ⟨_, rfl⟩
 have hC := check_any nodes a len cap l w1 hI1
 rw [her] at hC hE ⊢
 have hE' : (er != 0) = true := by simpa using hE
 obtain ⟨w2, hw2⟩ : ∃ y, w1.alloc (.cells #[.int .i64 nodes] 3) = y := ⟨_, rfl⟩
 have hS2 : Since w1 w2 := by rw [← hw2]; exact (Since.refl w1).alloc _
 rw [hw2] at hC
 obtain ⟨lt, r0, r1, r2, r3, r4, r5⟩ := hNB.since hS2
 clear hE her
 go_enter Tryz.func108, Tryz.ntmps108
 go_wp2_with (go_at_call 158; refine hC.mono ?_; rintro e w3 ⟨rfl, hw3⟩; obtain rfl := hw3.symm)
 refine bodyPost_ret (v := .tuple #[.agg #[.slice none 0 0, .slice none 0 0, .slice none 0 0], .int .i64 er]) ?_ rfl (resW_err (nil_since (Nat.le_refl _) (hS1.trans hS2)))
 simp [results, Tryz.results108, go_sem, r0, r1, r2]
set_option maxHeartbeats 2000000 in
theorem worldBegin_ok (nodes : Nat) (hn : nodes ≤ 4) (l : List Int) (hl : l.length ≤ 3) (a : Option Addr) (cap : Nat) (w : World) (hI : Ints w a l.length l) (hE : chkE (nodes : Int) l = 0) :
  Calls Tryz.prog 108 #[.int .i64 nodes, .slice a l.length cap] w fun e w' => Hid (ResW w (.ok (beginD nodes l)) e w') := by
 obtain ⟨w1, hw1⟩ : ∃ w1, w.alloc (.cells #[.slice none 0 0, .slice none 0 0, .slice none 0 0] 26) = w1 := ⟨_, rfl⟩
 have hNB : NilBox w1 w.heap.size := by rw [← hw1]; exact NilBox.new w _
 have hS1 : Since w w1 := by rw [← hw1]; exact (Since.refl w).alloc _
 have hI1 := hI.since hS1
 have hC := check_any nodes a l.length cap l w1 hI1
 rw [hE] at hC
 obtain ⟨w2, hw2⟩ : ∃ y, w1.alloc (.cells #[.int .i64 nodes] 3) = y := ⟨_, rfl⟩
 have hS12 : Since w1 w2 := by rw [← hw2]; exact (Since.refl w1).alloc _
 rw [hw2] at hC
 have hS2 := hS1.trans hS12
 have hCl := cloneInts_any a l.length cap l w2 (hI1.since hS12) (by omega)
 clear hE hw2
 go_enter Tryz.func108, Tryz.ntmps108
 go_wp2_with (first
  | (go_at_call 158; refine hC.mono ?_; rintro e w3 ⟨rfl, hw3⟩; obtain rfl := hw3.symm)
  | (go_at_call 164; refine hCl.mono ?_; rintro e w3 ⟨⟨ga, gc⟩, rfl, hR3, hS23⟩; unfold Sl.v; dsimp only))
 obtain ⟨w4, hw4⟩ : ∃ w4, w3.alloc (.cells #[.slice ga l.length gc, .slice none 0 0, .slice none 0 0] 26) = w4 := ⟨_, rfl⟩
 rw [hw4]
 have hS34 : Since w3 w4 := by rw [← hw4]; exact (Since.refl w3).alloc _
 have hM0 : MadeW w2.heap.size w4 w3.heap.size (partD nodes l 0) (fun ix => if ix = (0, 0, 0) then ⟨ga, gc⟩ else ⟨none, 0⟩) := by
  have hO := OwnW.start (gs := l) hR3 (by omega)
  refine ⟨hO.since hS34, ?_, fun hb => ?_⟩
  ·rw [← hw4]; constructor <;> simp [go_sem, partD]
  ·have := (hO.blk hb).2; omega
 have hS24 := hS23.trans hS34
 have hp3 : w2.heap.size ≤ w3.heap.size := hS23.size
 have hNB2 := hNB.since hS12
 have hmk2 := fun y => run_make_row' (P := Tryz.prog) 40 39 (.slice none 0 0) 24 (by kernel_rfl) (by kernel_rfl) rfl .i64 .i64 nodes (by omega) (by omega) y
 clear hw4 hR3 hS34 hC hCl hw1
 go_loopw [19] (fun i wr => ∃ k : Nat, k ≤ nodes ∧ i = .int .i64 k ∧ (∃ L, MadeW w2.heap.size wr w3.heap.size (partD nodes l k) L) ∧ Since w2 wr) (fun i _ => nodes - (intOf i).toNat)
 case atStart => exact ⟨0, Nat.zero_le _, rfl, ⟨_, hM0⟩, hS24⟩
 case round =>
  obtain ⟨wo, rfl⟩ : ∃ wo, wo = wr := ⟨_, rfl⟩
  obtain ⟨k, hk, rfl, ⟨L, hM⟩, hSr⟩ := hrel
  clear hM0
  by_cases hlt : k < nodes
  ·obtain ⟨x, hx⟩ : ∃ x : Nd, x = ⟨0, List.replicate l.length (List.replicate nodes 0), [], []⟩ := ⟨_, rfl⟩
   obtain ⟨na, nc, hL1⟩ : ∃ na nc, L (1, 0, 0) = ⟨na, nc⟩ := ⟨_, _, rfl⟩
   have n1 : (k : Int) < (nodes : Int) := by omega
   have b1 : wo.cell? ⟨w3.heap.size, 1, none⟩ = some (.slice na k nc) := by have := hM.box.c1; rw [hL1] at this; simpa [partD] using this
   have hpl : w3.heap.size < wo.heap.size := hM.box.lt
   have hRn : Row wo w2.heap.size 4 ⟨na, nc⟩ k (cellsI (partD nodes l k) L (1, 0, 0)) := by
    have : Row wo w2.heap.size 4 (L (1, 0, 0)) (partD nodes l k).nodes.length (cellsI (partD nodes l k) L (1, 0, 0)) := hM.own.row (1, 0, 0) ⟨rfl, rfl⟩
    rw [hL1] at this; simpa [partD] using this
   obtain ⟨S0, hS0⟩ : ∃ S0 : World → Prop, ∀ w', S0 w' ↔ Since wo w' := ⟨_, fun _ => Iff.rfl⟩
   have c1 : ∀ y : HeldW S0, y.w.cell? ⟨w3.heap.size, 1, none⟩ = some (.slice na k nc) := fun y => (((hS0 _).1 y.h).cellAt hpl _).trans b1
   obtain ⟨W0, hW0⟩ : ∃ y, wo.drew = y := ⟨_, rfl⟩
   have hs0 : Since wo W0 := by rw [← hW0]; exact Since.drew (Since.refl _)
   have hSi0 := (hS0 W0).2 hs0
   have hne : Nonempty (HeldW S0) := ⟨⟨_, hSi0⟩⟩
   have hneT := heldTrue w
   go_wp2_with fail
   refine beginM (fun w' => ∃ x : HeldW S0, w' = x.w) (by kernel_rfl) ?_
   rw [hW0]
   clear hW0
   refine tW 0 rfl ?_
   go_big_quiet_op
   refine tM 1 rfl (heldS_mk hSi0) ?_
   go_big_quiet_op
   refine tW 2 rfl ?_
   go_big_quiet_op
   refine tM 3 rfl (heldS_mk hSi0) ?_
   go_big_quiet_op
   refine tW 4 rfl ?_
   go_big_quiet_op
   refine actM 5 rfl (by kernel_rfl) ?_
   intro K hK
   go_simp
   refine (silence_any l.length nodes (by omega) (by omega) W0).mono ?_
   rintro e W1 ⟨⟨sa, sc⟩, rs, rfl, hLL, hs1⟩
   unfold Sl.v
   dsimp only
   have hs01 := hs0.trans hs1
   have hSi1 := (hS0 W1).2 hs01
   refine hK _ _ (fun _ _ => heldS_mk hSi1) ?_
   clear hK K
   refine tW 6 rfl ?_
   go_big_quiet_op
   refine actM 7 rfl (by kernel_rfl) ?_
   intro K hK
   go_simp
   have hs2 : Since W1 (W1.alloc (.cells #[.int .i64 0, .slice sa l.length sc, .slice none 0 0, .slice none 0 0] 45)) := (Since.refl W1).alloc _
   have hsrc := src_new (size := 4) (T := 45) (w := W1) etNode.und [.int .i64 0, .slice sa l.length sc, .slice none 0 0, .slice none 0 0] rfl (fun u hu => by simp at hu; rcases hu with rfl | rfl | rfl <;> rfl) 1
   have hs02 := hs01.trans hs2
   have hSi2 := (hS0 _).2 hs02
   refine hK _ _ (fun _ _ => heldS_mk hSi2) ?_
   clear hK K
   refine actM 8 rfl (by kernel_rfl) ?_
   intro K hK
   refine step_app etNode (by rfl) _ _ 23 (by rfl) (by rfl) (hRn.since hs02) (by rfl) hsrc (by omega) (Nat.le_trans hSr.size hs02.size) ?_
   intro na' nc' w10 hR10 hF10 hB10
   have hb10 := (hM.box.since hs02).fr hF10 (fun e => hM.off ⟨(1, 0, 0), ⟨rfl, rfl⟩, by rw [hL1]; exact e⟩)
   have q1 := hb10.c1
   have q2 := hb10.z1
   refine hK _ _ (fun h => absurd h (by decide +kernel)) ?_
   clear hK K
   simp only [Act.put, List.setIfInBounds_toArray, List.set_cons_zero, List.set_cons_succ]
   refine tW 9 rfl ?_
   go_big_quiet_op
   refine actM 10 rfl (by kernel_rfl) ?_
   intro K hK
   go_simp
   refine hK _ _ (fun h => absurd h (by decide +kernel)) ?_
   clear hK K
   refine doneM (by kernel_rfl) ?_
   have hNd : OwnNd wo.heap.size (W1.alloc (.cells #[.int .i64 0, .slice sa l.length sc, .slice none 0 0, .slice none 0 0] 45)) x ⟨sa, sc⟩ rs ⟨none, 0⟩ ⟨none, 0⟩ := by
    rw [hx]
    exact ⟨(hLL.since hs2).mono hs0.size, Row.nil _ _ _, Row.nil _ _ _, fun b e => (by cases e), fun b e => (by cases e)⟩
   have hM11 := hM.addNode (a' := na') (c' := nc') (w' := w10) hs02 hNd hSr.size (by rw [hx]; refine ⟨by simp; omega, fun i r hr => ?_, by simp, by simp⟩; (have := List.getElem?_eq_some_iff.1 hr; obtain ⟨h1, h2⟩ := this; simp at h2; rw [← h2]; simp; omega)) (by simp [partD]; omega)
    (by rw [hx]; simpa [partD, Sl.v] using hR10) (by rw [hL1]; exact hF10) (by rw [hL1]; exact hB10)
   obtain ⟨w11, hw11⟩ : ∃ w11, w10.setCell ⟨w3.heap.size, 1, none⟩ (.slice na' (k + 1) nc') = w11 := ⟨_, rfl⟩
   have hl11 : (partD nodes l k).nodes.length = k := by simp [partD]
   rw [hl11, hw11] at hM11
   have hS11 : Since w2 w11 := by
    rw [← hw11]
    refine Fr.sinceBase (B := fun i => ¬ i < w2.heap.size) ((hF10.mono (fun i _ e => ?_)).setCell _ _ ?_) (hSr.trans hs02) (fun i hi h => h hi)
    ·have := (hM.own.blk ⟨(1, 0, 0), ⟨rfl, rfl⟩, by rw [hL1]; exact e⟩).1; omega
    ·intro _; show ¬ w3.heap.size < _; omega
   obtain ⟨d11, hd11⟩ : ∃ d : Wd, { (partD nodes l k) with nodes := (partD nodes l k).nodes ++ [x] } = d := ⟨_, rfl⟩
   rw [hd11] at hM11
   obtain ⟨L11, hL11⟩ : ∃ L' : Lay, layNode L k ⟨na', nc'⟩ ⟨sa, sc⟩ rs ⟨none, 0⟩ ⟨none, 0⟩ = L' := ⟨_, rfl⟩
   rw [hL11] at hM11
   obtain ⟨ra, rc, hL2⟩ : ∃ ra rc, L11 (2, 0, 0) = ⟨ra, rc⟩ := ⟨_, _, rfl⟩
   have hwl : d11.wires.length = k := by rw [← hd11]; simp [partD]
   have b2 : w11.cell? ⟨w3.heap.size, 2, none⟩ = some (.slice ra k rc) := by have := hM11.box.c2; rw [hL2, hwl] at this; exact this
   have hRw : Row w11 w2.heap.size 1 ⟨ra, rc⟩ k (cellsI d11 L11 (2, 0, 0)) := by
    have : Row w11 w2.heap.size 1 (L11 (2, 0, 0)) d11.wires.length (cellsI d11 L11 (2, 0, 0)) := hM11.own.row (2, 0, 0) ⟨rfl, rfl⟩
    rw [hL2, hwl] at this; exact this
   have hp11 : w3.heap.size < w11.heap.size := hM11.box.lt
   clear hL1 b1 hRn hsrc hR10 hF10 hB10 hb10 q1 q2 hNd hLL hM hL11 hne hneT c1 hS0 S0 hSi0 hSi1 hSi2
   obtain ⟨S0, hS0⟩ : ∃ S0 : World → Prop, ∀ w', S0 w' ↔ Since w11 w' := ⟨_, fun _ => Iff.rfl⟩
   have c2 : ∀ y : HeldW S0, y.w.cell? ⟨w3.heap.size, 2, none⟩ = some (.slice ra k rc) := fun y => (((hS0 _).1 y.h).cellAt hp11 _).trans b2
   obtain ⟨V0, hV0⟩ : ∃ y, w11.drew = y := ⟨_, rfl⟩
   have ht0 : Since w11 V0 := by rw [← hV0]; exact Since.drew (Since.refl _)
   have hSi0 := (hS0 V0).2 ht0
   have hne : Nonempty (HeldW S0) := ⟨⟨_, hSi0⟩⟩
   have hneT := heldTrue w
   go_wp2_with fail
   refine beginM (fun w' => ∃ x : HeldW S0, w' = x.w) (by kernel_rfl) ?_
   rw [hV0]
   clear hV0 hw11
   refine tW 0 rfl ?_
   go_big_quiet_op
   refine tM 1 rfl (heldS_mk hSi0) ?_
   go_big_quiet_op
   refine tW 2 rfl ?_
   go_big_quiet_op
   refine actM 3 rfl (by kernel_rfl) ?_
   intro K hK
   go_simp
   have ht1 : Since V0 (V0.alloc (.cells (madeCells #[.slice none 0 0] nodes) 39)) := (Since.refl V0).alloc _
   have hSi1 := (hS0 _).2 (ht0.trans ht1)
   refine hK _ _ (fun _ _ => heldS_mk hSi1) ?_
   clear hK K
   refine actM 4 rfl (by kernel_rfl) ?_
   intro K hK
   go_simp
   have ht2 : Since w11 ((V0.alloc (.cells (madeCells #[.slice none 0 0] nodes) 39)).alloc (.cells #[.slice (some ⟨V0.heap.size, 0, none⟩) nodes nodes] 40)) := (ht0.trans ht1).alloc _
   have hsrcW := src_new (size := 1) (T := 40) (w := V0.alloc (.cells (madeCells #[.slice none 0 0] nodes) 39)) etWires.und [.slice (some ⟨V0.heap.size, 0, none⟩) nodes nodes] rfl (fun u hu => by simp at hu; subst hu; rfl) 1
   simp only [World.size_alloc] at hsrcW
   have hSi2 := (hS0 _).2 ht2
   refine hK _ _ (fun _ _ => heldS_mk hSi2) ?_
   clear hK K
   refine actM 5 rfl (by kernel_rfl) ?_
   intro K hK
   refine step_app etWires (by rfl) _ _ 24 (by rfl) (by rfl) (hRw.since ht2) (by rfl) hsrcW (by omega) (Nat.le_trans hS11.size ht2.size) ?_
   intro ra' rc' w12 hR12 hF12 hB12
   have hb12 := (hM11.box.since ht2).fr hF12 (fun e => hM11.off ⟨(2, 0, 0), ⟨rfl, rfl⟩, by rw [hL2]; exact e⟩)
   have q1 := hb12.c2
   have q2 := hb12.z2
   refine hK _ _ (fun h => absurd h (by decide +kernel)) ?_
   clear hK K
   simp only [Act.put, List.setIfInBounds_toArray, List.set_cons_zero, List.set_cons_succ]
   refine tW 6 rfl ?_
   go_big_quiet_op
   refine actM 7 rfl (by kernel_rfl) ?_
   intro K hK
   go_simp
   refine hK _ _ (fun h => absurd h (by decide +kernel)) ?_
   clear hK K
   refine doneM (by kernel_rfl) ?_
   have hM12 := hM11.addRow (a' := ra') (c' := rc') (w' := w12) (x := List.replicate nodes []) ht2 (((OwnLL.made (α := Mg) (sz := 5) (enc := flat) rfl V0.heap.size V0 nodes 39 (Nat.le_refl _) (by unfold maxLen; omega)).since ((Since.refl _).alloc _)).mono ht0.size) hS11.size
    ⟨by simp; omega, fun i r hr => by have := List.getElem?_eq_some_iff.1 hr; obtain ⟨h1, h2⟩ := this; simp at h2; first | (rw [h2]; simp) | (rw [← h2]; simp)⟩ (by omega) (by rw [hwl, List.length_replicate]; exact hR12) (by rw [hL2]; exact hF12) (by rw [hL2]; exact hB12)
   rw [hwl] at hM12
   have hdE : ({ d11 with wires := d11.wires ++ [List.replicate nodes []] } : Wd) = partD nodes l (k + 1) := by
    rw [← hd11, hx]; simp [partD, List.replicate_succ']
   rw [hdE] at hM12
   have hS13 : Since w2 (w12.setCell ⟨w3.heap.size, 2, none⟩ (.slice ra' (k + 1) rc')) := by
    refine Fr.sinceBase (B := fun i => ¬ i < w2.heap.size) ((hF12.mono (fun i _ e => ?_)).setCell _ _ ?_) (hS11.trans ht2) (fun i hi h => h hi)
    ·have := (hM11.own.blk ⟨(2, 0, 0), ⟨rfl, rfl⟩, by rw [hL2]; exact e⟩).1; omega
    ·intro _; show ¬ w3.heap.size < _; omega
   clear c2 hne hneT
   go_wp2
   exact ⟨⟨k + 1, by omega, by go_num, ⟨_, hM12⟩, hS13⟩, by simp [intOf]; omega⟩
  ·obtain rfl : k = nodes := by omega
   obtain ⟨lt, r0, r1, r2, r3, r4, r5⟩ := hNB2.since hSr
   have b0 := hM.box.c0
   have b1 := hM.box.c1
   have b2 := hM.box.c2
   go_wp2
   obtain ⟨hO, hSf⟩ := hM.own.result (w0 := w) (p := w.heap.size) hNB2.lt (Nat.le_refl _) (hS2.trans hSr) hS2.size
   refine bodyPost_ret (v := .tuple #[wval L (beginD k l), .int .i64 0]) ?_ rfl (resW_ok hO hSf)
   simp [results, Tryz.results108, go_sem, r0, r1, r2, wval, partD, beginD]
end Go.Proofs.YtiiifecfdkjmbaaGreat
