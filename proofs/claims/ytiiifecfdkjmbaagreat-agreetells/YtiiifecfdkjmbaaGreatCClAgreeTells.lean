/- The law AgreeTells answers true; conditions: the world reads as one. For every argument furlonglaw.AgreeTells returns true, and what it was handed reads as before: agree.Common and agree.Ahead answer what the document says, errors too. No condition. -/
import Derived.Test.YtiiifecfdkjmbaaGreatCRCommon
import Derived.Test.YtiiifecfdkjmbaaGreatCLAgree
import Derived.Test.YtiiifecfdkjmbaaGreatCOpenX
namespace Go.Proofs.YtiiifecfdkjmbaaGreat
set_option maxRecDepth 8000
open Go.RowKit Go.Shelf
open _root_.Go.Proofs.YtiiifecfdkjmbaaGreat.Pure
set_option linter.unusedVariables false
set_option linter.unusedSimpArgs false
set_option maxHeartbeats 4000000 in
theorem lawAgreeTells_any (x : WV) (d : Wd) (a b : Int) (m : Mg) (w : World) (hW : WAt w x d) :
  Calls Tryz.prog 13 #[.agg #[.slice x.ga x.gl x.gc, .slice x.na x.nl x.nc, .slice x.wa x.wl x.wc], .int .i64 a, .int .i64 b, .agg #[.int .i64 m.fr, .int .i64 m.gr, .int .i64 m.st, .bool m.nul, .string m.body]] w fun e w' => e = .returned (.bool true) ∧ Since w w' := by
 obtain ⟨ga, gl, gc, na, nl, nc, wa, wl, wc⟩ := x
 dsimp only
 obtain ⟨w1, hw1⟩ : ∃ wp, w.alloc (.cells #[.slice ga gl gc, .slice na nl nc, .slice wa wl wc] 26) = wp := ⟨_, rfl⟩
 have hP1 : ParBox w1 w.heap.size ⟨ga, gl, gc, na, nl, nc, wa, wl, wc⟩ := by rw [← hw1]; exact ParBox.new w ⟨ga, gl, gc, na, nl, nc, wa, wl, wc⟩ _
 have hS1 := sinceA hw1
 obtain ⟨w2, hw2⟩ : ∃ y, w1.alloc (.cells #[.int .i64 m.fr, .int .i64 m.gr, .int .i64 m.st, .bool m.nul, .string m.body] 42) = y := ⟨_, rfl⟩
 have hS2 := sinceA hw2
 have z0 : w2.cell? ⟨w1.heap.size, 0, none⟩ = some (.int .i64 m.fr) := by rw [← hw2]; simp [go_sem]
 have z1 : w2.cell? ⟨w1.heap.size, 1, none⟩ = some (.int .i64 m.gr) := by rw [← hw2]; simp [go_sem]
 have z2 : w2.cell? ⟨w1.heap.size, 2, none⟩ = some (.int .i64 m.st) := by rw [← hw2]; simp [go_sem]
 have z3 : w2.cell? ⟨w1.heap.size, 3, none⟩ = some (.bool m.nul) := by rw [← hw2]; simp [go_sem]
 have z4 : w2.cell? ⟨w1.heap.size, 4, none⟩ = some (.string m.body) := by rw [← hw2]; simp [go_sem]
 have hlw : w1.heap.size < w2.heap.size := by rw [← hw2]; simp
 have PF : Hid (∀ y, Since w2 y → ParBox y w.heap.size ⟨ga, gl, gc, na, nl, nc, wa, wl, wc⟩) := fun y hy => (hP1.since hS2).since hy
 have ZF : Hid (∀ y, Since w2 y → y.cell? ⟨w1.heap.size, 0, none⟩ = some (.int .i64 m.fr) ∧ y.cell? ⟨w1.heap.size, 1, none⟩ = some (.int .i64 m.gr) ∧ y.cell? ⟨w1.heap.size, 2, none⟩ = some (.int .i64 m.st) ∧ y.cell? ⟨w1.heap.size, 3, none⟩ = some (.bool m.nul) ∧ y.cell? ⟨w1.heap.size, 4, none⟩ = some (.string m.body)) := fun y hy => ⟨(hy.cellAt hlw _).trans z0, (hy.cellAt hlw _).trans z1, (hy.cellAt hlw _).trans z2, (hy.cellAt hlw _).trans z3, (hy.cellAt hlw _).trans z4⟩
 have hW2 := hW.since (hS1.trans hS2)
 have hA := fun (y : World) (hy : Since w2 y) => common_any ⟨ga, gl, gc, na, nl, nc, wa, wl, wc⟩ d a b y (hW2.since hy)
 have hB := fun (y : World) (hy : Since w2 y) => agAhead_any ⟨ga, gl, gc, na, nl, nc, wa, wl, wc⟩ d a m y (hW2.since hy)
 have hC := fun (y : World) (hy : Since w2 y) => refCommon_any ⟨ga, gl, gc, na, nl, nc, wa, wl, wc⟩ d a b y (hW2.since hy)
 have hD := fun (y : World) (hy : Since w2 y) => refAhead_any ⟨ga, gl, gc, na, nl, nc, wa, wl, wc⟩ d a m y (hW2.since hy)
 dsimp only at hA hB hC hD
 obtain ⟨e1, he1⟩ : ∃ y, askE d [a, b] = y := ⟨_, rfl⟩
 obtain ⟨e2, he2⟩ : ∃ y, askE d [a] = y := ⟨_, rfl⟩
 obtain ⟨cl, hcl⟩ : ∃ y, comL d a b = y := ⟨_, rfl⟩
 obtain ⟨ak, hak⟩ : ∃ y, (((ahdO d a m).getD 0 : Nat) : Int) = y := ⟨_, rfl⟩
 obtain ⟨ab, hab⟩ : ∃ y, (ahdO d a m).isSome = y := ⟨_, rfl⟩
 rw [he1, hcl] at hA hC
 rw [he2, hak, hab] at hB hD
 have h02 := hS1.trans hS2
 clear he1 he2 hcl hak hab hW hW2 z0 z1 z2 z3 z4 hP1 hS1 hS2
 obtain ⟨_, p0, p1, p2⟩ := PF.out _ (Since.refl w2)
 dsimp only at p0 p1 p2
 go_enter Tryz.func13, Tryz.ntmps13
 go_wp2_with fail
 refine (hA w2 (Since.refl w2)).mono ?_
 rintro e w3 ⟨sa, sc, rfl, hM3, hS3⟩
 clear p0 p1 p2 hw1 hw2 hA
 obtain ⟨_, p0, p1, p2⟩ := PF.out _ hS3
 dsimp only at p0 p1 p2
 obtain ⟨z0, z1, z2, z3, z4⟩ := ZF.out _ hS3
 go_wp2_with fail
 refine (hB w3 hS3).mono ?_
 rintro e w4 ⟨rfl, hS4⟩
 clear p0 p1 p2 hB z0 z1 z2 z3 z4
 have h24 := hS3.trans hS4
 obtain ⟨_, p0, p1, p2⟩ := PF.out _ h24
 dsimp only at p0 p1 p2
 go_wp2_with fail
 refine (hC w4 h24).mono ?_
 rintro e w5 ⟨ra, rc, rfl, hM5, hS5⟩
 clear p0 p1 p2 hC
 have h25 := h24.trans hS5
 obtain ⟨_, p0, p1, p2⟩ := PF.out _ h25
 dsimp only at p0 p1 p2
 obtain ⟨z0, z1, z2, z3, z4⟩ := ZF.out _ h25
 go_wp2_with fail
 refine (hD w5 h25).mono ?_
 rintro e w6 ⟨rfl, hS6⟩
 clear p0 p1 p2 hD z0 z1 z2 z3 z4
 go_wp2_with fail
 refine (agreeBegun_any w6).mono ?_
 rintro e w7 ⟨rfl, hS7⟩
 have h57 := hS6.trans hS7
 have hSM := sameMsgs_any sa cl.length sc cl ra cl.length rc cl w7 (hM3.since (hS4.trans (hS5.trans h57))) (hM5.since h57)
 rw [sameMs_refl] at hSM
 go_wp2_with fail
 refine hSM.mono ?_
 rintro e w8 ⟨rfl, hS8⟩
 have h08 := h02.trans (h25.trans (h57.trans hS8))
 have g1 : (e1 == e1) = true := by simp
 have g2 : (e2 == e2) = true := by simp
 have g3 : (ak == ak) = true := by simp
 have g4 : (ab == ab) = true := by simp
 clear hSM
 go_wp2_with fail
 go_ret
 exact ⟨by simp, h08⟩
end Go.Proofs.YtiiifecfdkjmbaaGreat
namespace Go.Proofs.YtiiifecfdkjmbaaGreat.agreeTells
set_option maxRecDepth 8000
open Go.ChangeShapes Go.WideShapes Go.ChangeAt Go.RowKit
set_option linter.unusedVariables false
set_option maxRecDepth 100000 in
theorem lifted (os : Os) (started : os.Started) (H : Type) (enc : TypeId × Value → H) :
  ReturnsInHanded {} Tryz.checked os 13 .any (Rows.agreeTellsSpec.pre6 enc Tryz.prog Tryz.f13 Rows.agreeTellsRow.domain false) (Rows.agreeTellsSpec.post enc Tryz.prog Tryz.f13 false true false false) := by
 refine returnsInHanded_of_change_sized (C := Tryz.checked) own started (by kernel_rfl) Tryz.func13
  (ChangeSpec.witness6 (enc := enc) (C := Tryz.checked) false ⟨#[], #[.agg #[.slice none 0 0, .slice none 0 0, .slice none 0 0], .int .i64 0, .int .i64 0, .agg #[.int .i64 0, .int .i64 0, .int .i64 0, .bool false, .string ByteArray.empty]], []⟩ 8 (by kernel_rfl) (by kernel_rfl) (by kernel_rfl) (by kernel_rfl)) ?_
 intro W base args ds gs before hval0 hW hcnd hsz0 _
 have hval : ∀ (j : Nat) t v, Tryz.f13.params[j]? = some t → args[j]? = some v → Value.okWide Tryz.prog W .any base t v := hval0
 have hsz : (DataW.weightsEach Tryz.prog (Tryz.f13.params.toList ++ Rows.agreeTellsSpec.plain.varTypes Tryz.prog) (ds ++ gs)).all (· ≤ reachBytes) = true := hsz0
 have hW' := hW
 obtain ⟨p, q, hA0, hV, rfl, hfz, hnd⟩ := hW
 have hA : DataW.TrodAll enc Tryz.prog W 0 (fun _ => true) true Tryz.f13.params.toList args.toList ds p := hA0
 rw [Tryz.params13] at hA hval hsz
 obtain ⟨v0, vs0, d0, ds0, p0, q0, hargs, rfl, rfl, h0, r0⟩ := trodAll_cons hA
 obtain ⟨v1, vs1, d1, ds1, p1, q1, rfl, rfl, rfl, h1, r1⟩ := trodAll_cons r0
 obtain ⟨v2, vs2, d2, ds2, p2, q2, rfl, rfl, rfl, h2, r2⟩ := trodAll_cons r1
 obtain ⟨v3, vs3, d3, ds3, p3, q3, rfl, rfl, rfl, h3, r3⟩ := trodAll_cons r2
 obtain ⟨rfl, rfl, rfl⟩ := trodAll_nil r3
 obtain rfl : args = #[v0, v1, v2, v3] := by cases args; simp_all
 obtain ⟨rfl, rfl⟩ := trodVars_none hV
 obtain ⟨x0, dd0, rfl, wt0⟩ := wat_of_trod (hval 0 26 v0 rfl rfl) h0 (fun n hn => by simpa using List.all_eq_true.1 hsz n (szd_each (j := 0) (t := 26) (d := d0) rfl rfl n hn))
 have lt0 : ∀ x ∈ p0, x.block < W.heap.size := by obtain ⟨m, hm⟩ := h0; exact DataW.trod_lt m _ _ _ hm
 obtain ⟨a1, rfl, rfl, rfl, w1⟩ := open_int Tryz.underlying3 (hval 1 3 v1 rfl rfl) h1
 obtain ⟨a2, rfl, rfl, rfl, w2⟩ := open_int Tryz.underlying3 (hval 2 3 v2 rfl rfl) h2
 obtain ⟨m3, rfl⟩ := msg_of_trod (hval 3 42 v3 rfl rfl) h3
 have lt3 : ∀ x ∈ p3, x.block < W.heap.size := by obtain ⟨m, hm⟩ := h3; exact DataW.trod_lt m _ _ _ hm
 clear hA0 hval0
 refine (lawAgreeTells_any x0 dd0 a1 a2 m3 W wt0).mono fun e W' ⟨he, bel0⟩ => ?_
 have bel := bel0.below
 subst he
 exact ⟨_, rfl, _, _, _, [], _, [], hW', trodAll_mk1 (shut_bool Tryz.underlying4 _), (trodAll_cons_mk (Below.trod laidOut (by kernel_rfl) (of_decide_eq_true (by kernel_rfl)) h0 bel lt0) (trodAll_cons_mk (shut_int Tryz.underlying3 w1) (trodAll_cons_mk (shut_int Tryz.underlying3 w2) (trodAll_cons_mk (Below.trod laidOut (by kernel_rfl) (of_decide_eq_true (by kernel_rfl)) h3 bel lt3) trodAll_mk0)))), rfl, bel.frame _, fun h => by cases h⟩
theorem facts : joinedFacts Tryz.prog 13 Tryz.f13 Rows.agreeTellsSpec Rows.agreeTellsRow = true := by
 delta joinedFacts
 rw [may_t, lifts_f, make_c]
 kernel_rfl
theorem over : Rows.agreeTellsRow.holds Tryz.pinned (OpenSpec.ofChange Rows.agreeTellsSpec) :=
 OpenClaim.holds_of_wide 13 Tryz.f13 rfl rfl rfl rfl rfl rfl rfl ⟨rfl, rfl, rfl, rfl, rfl⟩ rfl rfl rfl rfl rfl (by kernel_rfl) Tryz.func13 facts
  (of_decide_eq_true (by kernel_rfl)) (by unfold Func.isWrapper; first | (rw [if_pos (by decide +kernel)]; kernel_rfl) | (rw [if_neg (by decide +kernel)]; exact ⟨rfl, rfl⟩))
  (fun os started H enc _ => lifted os started H enc)
end Go.Proofs.YtiiifecfdkjmbaaGreat.agreeTells
namespace Go.Proofs.YtiiifecfdkjmbaaGreat
set_option maxRecDepth 8000
theorem agreeTells_holds : Rows.AgreeTellsSaid := agreeTells.over
#print axioms agreeTells_holds
end Go.Proofs.YtiiifecfdkjmbaaGreat
