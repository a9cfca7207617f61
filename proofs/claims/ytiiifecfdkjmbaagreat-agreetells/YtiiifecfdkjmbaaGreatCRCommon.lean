/- Contract of the document's CommonOf; conditions: the world reads as one. -/
import Derived.Test.YtiiifecfdkjmbaaGreatCRAhead
namespace Go.Proofs.YtiiifecfdkjmbaaGreat
set_option maxRecDepth 8000
open Go.RowKit Go.Shelf
open _root_.Go.Proofs.YtiiifecfdkjmbaaGreat.Pure
set_option linter.unusedVariables false
set_option linter.unusedSimpArgs false
theorem ahead_any (m : Mg) (l : List Mg) : (aheadL m l).isSome = l.any (sameM m) := by
 unfold aheadL
 induction l with
 | nil => rfl
 | cons y l ih =>
  rw [List.findIdx?_cons, List.any_cons, ← ih, sameM_comm y m]
  cases h : sameM m y
  ·simp
  ·simp
theorem moveErr_ask (d : Wd) (a b : Int) : moveErr d a b = askE d [a, b] := by
 unfold moveErr
 rw [nodeErr_ask, nodeErr_ask]
 unfold askE
 by_cases h : worldE d = 0
 ·rw [if_pos h, if_pos h, if_pos h]
  simp only [List.any_cons, List.any_nil, Bool.or_false]
  cases outB d a <;> cases outB d b <;> rfl
 ·rw [if_neg h, if_neg h, if_neg h, if_pos h]
set_option maxHeartbeats 2000000 in
theorem refCommon_err (x : WV) (d : Wd) (a b : Int) (w : World) (hW : WAt w x d) (h0 : ¬ askE d [a, b] = 0) :
  Calls Tryz.prog 57 #[.agg #[.slice x.ga x.gl x.gc, .slice x.na x.nl x.nc, .slice x.wa x.wl x.wc], .int .i64 a, .int .i64 b] w fun e w' => e = .returned (.tuple #[.slice none 0 0, .int .i64 (askE d [a, b])]) ∧ Since w w' := by
 obtain ⟨ga, gl, gc, na, nl, nc, wa, wl, wc⟩ := x
 dsimp only
 obtain ⟨w1, hw1⟩ : ∃ wp, w.alloc (.cells #[.slice ga gl gc, .slice na nl nc, .slice wa wl wc] 26) = wp := ⟨_, rfl⟩
 have hP1 : ParBox w1 w.heap.size ⟨ga, gl, gc, na, nl, nc, wa, wl, wc⟩ := by rw [← hw1]; exact ParBox.new w ⟨ga, gl, gc, na, nl, nc, wa, wl, wc⟩ _
 have hS1 := sinceA hw1
 obtain ⟨_, p0, p1, p2⟩ := hP1
 dsimp only at p0 p1 p2
 have hC := moveError_any ⟨ga, gl, gc, na, nl, nc, wa, wl, wc⟩ d a b w1 (hW.since hS1)
 rw [moveErr_ask] at hC
 dsimp only at hC
 obtain ⟨er, her⟩ : ∃ y, askE d [a, b] = y := ⟨_, rfl⟩
 rw [her] at hC h0 ⊢
 have hb : (er != 0) = true := by simpa using h0
 clear h0 her hW
 go_enter Tryz.func57, Tryz.ntmps57
 go_wp2_with fail
 refine hC.mono ?_
 rintro e w3 ⟨rfl, hS3⟩
 go_wp2_with fail
 refine bodyPost_ret (v := .tuple #[.slice none 0 0, .int .i64 er]) ?_ rfl ⟨rfl, hS1.trans hS3⟩
 simp [results, Tryz.results57, go_sem]
set_option maxHeartbeats 4000000 in
theorem refCommon_ok (x : WV) (d : Wd) (k l : Nat) (nk nb : Nd) (w : World) (hW : WAt w x d) (h0 : askE d [(k : Int), (l : Int)] = 0) (hk : d.nodes[k]? = some nk) (hl : d.nodes[l]? = some nb) (hn : nk.told.length ≤ 40) :
  Calls Tryz.prog 57 #[.agg #[.slice x.ga x.gl x.gc, .slice x.na x.nl x.nc, .slice x.wa x.wl x.wc], .int .i64 k, .int .i64 l] w fun e w' => ∃ (sa : Option Addr) (sc : Nat), e = .returned (.tuple #[.slice sa (bothL nk.told nb.told).length sc, .int .i64 0]) ∧ Msgs w' sa (bothL nk.told nb.told).length (bothL nk.told nb.told) ∧ Since w w' := by
 obtain ⟨ga, gl, gc, na, nl, nc, wa, wl, wc⟩ := x
 have hnl := hW.n.hlen
 dsimp only at hnl ⊢
 subst hnl
 obtain ⟨w1, hw1⟩ : ∃ wp, w.alloc (.cells #[.slice ga gl gc, .slice na d.nodes.length nc, .slice wa wl wc] 26) = wp := ⟨_, rfl⟩
 have hP1 : ParBox w1 w.heap.size ⟨ga, gl, gc, na, d.nodes.length, nc, wa, wl, wc⟩ := by rw [← hw1]; exact ParBox.new w ⟨ga, gl, gc, na, d.nodes.length, nc, wa, wl, wc⟩ _
 have hS1 := sinceA hw1
 have PF : Hid (∀ y, Since w1 y → ParBox y w.heap.size ⟨ga, gl, gc, na, d.nodes.length, nc, wa, wl, wc⟩) := fun y hy => hP1.since hy
 have hlp := hP1.lt
 obtain ⟨_, p0, p1, p2⟩ := hP1
 dsimp only at p0 p1 p2
 have hC := moveError_any ⟨ga, gl, gc, na, d.nodes.length, nc, wa, wl, wc⟩ d k l w1 (hW.since hS1)
 rw [moveErr_ask] at hC
 dsimp only at hC
 rw [h0] at hC
 have hkl := (List.getElem?_eq_some_iff.1 hk).1
 have hll := (List.getElem?_eq_some_iff.1 hl).1
 obtain ⟨bn, on, e, hbn, hcn⟩ := hW.n.cells (by dsimp only; omega)
 dsimp only at e
 subst e
 obtain ⟨_, _, _, ⟨v3, k3, ta, tc, rfl, htc, hT⟩⟩ := hcn k nk hk
 obtain ⟨_, _, _, ⟨v3', l3, ub, uc, rfl, huc, hU⟩⟩ := hcn l nb hl
 have i1 : (k : Int) < (d.nodes.length : Int) := by omega
 have i2 : (l : Int) < (d.nodes.length : Int) := by omega
 have hTm := hT.hmax
 obtain ⟨BB, hBB⟩ : ∃ y, bothL nk.told nb.told = y := ⟨_, rfl⟩
 have HB0 : Hid (BB = nk.told.filter fun m => nb.told.any (sameM m)) := by unfold Hid; rw [← hBB]; rfl
 rw [hBB]
 have hbn1 : bn < w1.heap.size := Nat.lt_of_lt_of_le hbn hS1.size
 have k3' := (hS1.cellAt hbn _).trans k3
 have l3' := (hS1.cellAt hbn _).trans l3
 have hT1 := hT.since hS1
 have hU1 := hU.since hS1
 clear hcn hW h0 hBB k3 l3 hT hU
 go_enter Tryz.func57, Tryz.ntmps57
 go_wp2_with fail
 refine hC.mono ?_
 rintro e w3 ⟨rfl, hS3⟩
 clear hw1 p0 p1 p2 hC
 go_wp2_with fail
 go_loopw [9, 10] (fun v i wr => ∃ (j : Nat) (sa : Option Addr) (sc : Nat), j ≤ nk.told.length ∧ i = .int .i64 j ∧ v = .slice sa ((nk.told.take j).filter fun m => nb.told.any (sameM m)).length sc ∧ Row wr w1.heap.size 5 ⟨sa, sc⟩ ((nk.told.take j).filter fun m => nb.told.any (sameM m)).length (flat ((nk.told.take j).filter fun m => nb.told.any (sameM m))) ∧ Since w1 wr) (fun _ i _ => nk.told.length - (intOf i).toNat)
 case atStart => exact ⟨0, none, 0, Nat.zero_le _, rfl, rfl, Row.nil _ _ _, hS3⟩
 case round =>
  obtain ⟨wo, rfl⟩ : ∃ wo, wo = wr := ⟨_, rfl⟩
  obtain ⟨j, sa, sc, hj, rfl, rfl, hR, hSr⟩ := hrel
  have hfl : ((nk.told.take j).filter fun m => nb.told.any (sameM m)).length ≤ 40 := by
   have h1 := List.length_filter_le (fun m => nb.told.any (sameM m)) (nk.told.take j)
   rw [List.length_take] at h1; omega
  obtain ⟨fl, hflE⟩ : ∃ y, (nk.told.take j).filter (fun m => nb.told.any (sameM m)) = y := ⟨_, rfl⟩
  rw [hflE] at hR hfl ⊢
  have HFL : Hid ((nk.told.take j).filter (fun m => nb.told.any (sameM m)) = fl) := hflE
  clear hflE
  obtain ⟨_, r0, r1, r2⟩ := PF.out _ hSr
  dsimp only at r0 r1 r2
  have kr := (hSr.cellAt hbn1 _).trans k3'
  by_cases hlt : j < nk.told.length
  ·obtain ⟨m, hm⟩ : ∃ m, nk.told[j]? = some m := ⟨_, List.getElem?_eq_getElem hlt⟩
   obtain ⟨bb, off, rfl, hbb, hcell⟩ := hT1.cells (by omega)
   obtain ⟨e0, e1, e2, e3, e4⟩ := msgAt_of hcell j m hm
   have n1 : (j : Int) < (nk.told.length : Int) := by omega
   have HTK : Hid ((nk.told.take (j + 1)).filter (fun m => nb.told.any (sameM m)) = fl ++ (if nb.told.any (sameM m) then [m] else [])) := by
    unfold Hid; rw [List.take_add_one, hm, List.filter_append, HFL.out]
    congr 1
    cases h : nb.told.any (sameM m) <;> simp [h]
   have hTo := fun (y : World) (hy : Since wo y) => refTold_any ub nb.told.length uc nb.told m y (hU1.since (hSr.trans hy))
   rw [ahead_any] at hTo
   obtain ⟨kk, hkk⟩ : ∃ y, (aheadL m nb.told).getD 0 = y := ⟨_, rfl⟩
   rw [hkk] at hTo
   have hnE : Nonempty (Later wo) := ⟨⟨wo, Since.refl wo⟩⟩
   have hg1 : ∀ z : Later wo, z.w.cell? ⟨w.heap.size, 1, none⟩ = some (.slice (some ⟨bn, on, none⟩) d.nodes.length nc) := fun z => (PF.out _ (hSr.trans z.h)).c1
   have hg2 : ∀ z : Later wo, z.w.cell? ⟨bn, on + k * 4 + 3, none⟩ = some (.slice (some ⟨bb, off, none⟩) nk.told.length tc) := fun z => ((hSr.trans z.h).cellAt hbn1 _).trans k3'
   have hg3 : ∀ z : Later wo, z.w.cell? ⟨bn, on + l * 4 + 3, none⟩ = some (.slice ub nb.told.length uc) := fun z => ((hSr.trans z.h).cellAt hbn1 _).trans l3'
   have hg4 : ∀ (z : Later wo) (o : Nat), z.w.cell? ⟨bb, o, none⟩ = w1.cell? ⟨bb, o, none⟩ := fun z o => (hSr.trans z.h).cellAt hbb _
   clear hcell hm hkk
   cases hin : nb.told.any (sameM m)
   ·rw [hin] at hTo
    have HT2 := HTK.out
    rw [hin] at HT2
    simp only [Bool.false_eq_true, if_false, List.append_nil] at HT2
    have HTF : Hid ((nk.told.take (j + 1)).filter (fun m => nb.told.any (sameM m)) = fl) := HT2
    clear HT2 hin HTK
    go_wp2_with fail
    refine wp_region_since (by kernel_rfl) (by kernel_rfl) (Since.refl wo) ?_
    repeat (go_big_quiet_step ((go_at_call 122; exact Later.call (fun y hy => (hTo y hy).mono fun e w' ⟨he, hs⟩ => ⟨he, hy.trans hs⟩))))
    refine wpQuiet_nil ?_
    intro w9 hS9
    have HREL : Hid (Row w9 w1.heap.size 5 ⟨sa, sc⟩ fl.length (flat fl) ∧ Since w1 w9) := ⟨hR.since hS9, hSr.trans hS9⟩
    clear hg1 hg2 hg3 hg4 hnE hTo hR
    go_wp2_with fail
    go_roundw
    case rel => exact ⟨j + 1, sa, sc, by omega, by go_num, by rw [HTF.out], by rw [HTF.out]; exact HREL.out.1, HREL.out.2⟩
    case measure => simp [intOf]; omega
   ·rw [hin] at hTo
    have HT2 := HTK.out
    rw [hin] at HT2
    simp only [if_true] at HT2
    have HTF : Hid ((nk.told.take (j + 1)).filter (fun m => nb.told.any (sameM m)) = fl ++ [m]) := HT2
    clear HT2 hin HTK
    go_wp2_with fail
    refine wp_region_since (by kernel_rfl) (by kernel_rfl) (Since.refl wo) ?_
    repeat (go_big_quiet_step ((go_at_call 122; exact Later.call (fun y hy => (hTo y hy).mono fun e w' ⟨he, hs⟩ => ⟨he, hy.trans hs⟩))))
    refine wpQuiet_nil ?_
    intro w9 hS9
    have f1 := hg1 ⟨w9, hS9⟩
    have f2 := hg2 ⟨w9, hS9⟩
    have y0 := (hg4 ⟨w9, hS9⟩ _).trans e0
    have y1 := (hg4 ⟨w9, hS9⟩ _).trans e1
    have y2 := (hg4 ⟨w9, hS9⟩ _).trans e2
    have y3 := (hg4 ⟨w9, hS9⟩ _).trans e3
    have y4 := (hg4 ⟨w9, hS9⟩ _).trans e4
    dsimp only at f1 f2 y0 y1 y2 y3 y4
    have hsrc := src_new (size := 5) (T := 42) (w := w9) etMsg.und [.int .i64 m.fr, .int .i64 m.gr, .int .i64 m.st, .bool m.nul, .string m.body] rfl (fun u hu => by simp at hu; rcases hu with rfl | rfl | rfl | rfl | rfl <;> rfl) 1
    have hRa := (hR.since hS9).since ((Since.refl w9).alloc (.cells #[.int .i64 m.fr, .int .i64 m.gr, .int .i64 m.st, .bool m.nul, .string m.body] 42))
    have hSa : Since w1 (w9.alloc (.cells #[.int .i64 m.fr, .int .i64 m.gr, .int .i64 m.st, .bool m.nul, .string m.body] 42)) := (hSr.trans hS9).alloc _
    clear hg1 hg2 hg3 hg4 hnE hTo hR e0 e1 e2 e3 e4
    go_wp2_with (at_builtin; refine wp_app etMsg rfl _ _ 39 rfl rfl hRa rfl hsrc (by omega) hSa.size ?_; intro sa' sc' W3 hR4 hF4 hB4)
    have hSf : Since w1 W3 := hF4.sinceBase hSa (fun i hi hc => by have := (hRa.blk_of hc).2.1; omega)
    have HLN : Hid ((fl ++ [m]).length = fl.length + 1) := by unfold Hid; simp
    refine ⟨⟨j + 1, sa', sc', by omega, by go_num, by rw [HTF.out, HLN.out], ?_, hSf⟩, by simp [intOf]; omega⟩
    rw [HTF.out, HLN.out, flat_add]; exact hR4
  ·obtain rfl : j = nk.told.length := by omega
   have HBF : Hid (BB = fl) := by unfold Hid; rw [HB0.out, ← HFL.out, List.take_length]
   have hMf := row_msgs hR (by omega)
   dsimp only at hMf
   have HMF : Hid (Msgs wo sa fl.length fl) := hMf
   clear hR hMf
   go_wp2_with fail
   rw [HBF.out]
   refine bodyPost_ret (v := .tuple #[.slice sa fl.length sc, .int .i64 0]) ?_ rfl ?_
   ·simp [results, Tryz.results57, go_sem]
   ·first
     | exact ⟨sa, ⟨sc, rfl⟩, HMF.out, hS1.trans hSr⟩
     | exact ⟨sa, sc, rfl, HMF.out, hS1.trans hSr⟩
theorem refCommon_any (x : WV) (d : Wd) (a b : Int) (w : World) (hW : WAt w x d) :
  Calls Tryz.prog 57 #[.agg #[.slice x.ga x.gl x.gc, .slice x.na x.nl x.nc, .slice x.wa x.wl x.wc], .int .i64 a, .int .i64 b] w fun e w' => ∃ (sa : Option Addr) (sc : Nat), e = .returned (.tuple #[.slice sa (comL d a b).length sc, .int .i64 (askE d [a, b])]) ∧ Msgs w' sa (comL d a b).length (comL d a b) ∧ Since w w' := by
 unfold comL
 by_cases h0 : askE d [a, b] = 0
 ·rw [if_pos h0, h0]
  obtain ⟨hw, hns⟩ := ask_zero h0
  obtain ⟨k, nk, rfl, hk⟩ := hns a (by simp)
  obtain ⟨l, nb, rfl, hl⟩ := hns b (by simp)
  have hr := (right_iff d).1 hw
  have hn := hr.toldN k
  rw [toldAt_eq hk] at hn
  have := refCommon_ok x d k l nk nb w hW h0 hk hl hn
  rw [Int.toNat_natCast, Int.toNat_natCast, toldAt_eq hk, toldAt_eq hl]
  exact this
 ·rw [if_neg h0]
  exact (refCommon_err x d a b w hW h0).mono fun e w' ⟨he, hS⟩ => ⟨none, 0, he, agMsgs_none w', hS⟩
end Go.Proofs.YtiiifecfdkjmbaaGreat
