/- The law AgreeAll answers true; conditions: the world reads as one. For every argument furlonglaw.AgreeAll returns true, and what it was handed reads as before: agree.All answers what the document says, errors too. No condition. -/
import Derived.Test.YtiiifecfdkjmbaaGreatDRAll
import Derived.Test.YtiiifecfdkjmbaaGreatDLAgree
import Derived.Test.YtiiifecfdkjmbaaGreatDOpenX
namespace Go.Proofs.YtiiifecfdkjmbaaGreat
set_option maxRecDepth 8000
open Go.RowKit Go.Shelf
open _root_.Go.Proofs.YtiiifecfdkjmbaaGreat.Pure
set_option linter.unusedVariables false
set_option linter.unusedSimpArgs false
set_option maxHeartbeats 4000000 in
theorem lawAgreeAll_any (x : WV) (d : Wd) (w : World) (hW : WAt w x d) :
  Calls Tryz.prog 14 #[.agg #[.slice x.ga x.gl x.gc, .slice x.na x.nl x.nc, .slice x.wa x.wl x.wc]] w fun e w' => e = .returned (.bool true) ∧ Since w w' := by
 obtain ⟨ga, gl, gc, na, nl, nc, wa, wl, wc⟩ := x
 dsimp only
 obtain ⟨w1, hw1⟩ : ∃ wp, w.alloc (.cells #[.slice ga gl gc, .slice na nl nc, .slice wa wl wc] 26) = wp := ⟨_, rfl⟩
 have hP1 : ParBox w1 w.heap.size ⟨ga, gl, gc, na, nl, nc, wa, wl, wc⟩ := by rw [← hw1]; exact ParBox.new w ⟨ga, gl, gc, na, nl, nc, wa, wl, wc⟩ _
 have hS1 := sinceA hw1
 have PF : Hid (∀ y, Since w1 y → ParBox y w.heap.size ⟨ga, gl, gc, na, nl, nc, wa, wl, wc⟩) := fun y hy => hP1.since hy
 have hW2 := hW.since hS1
 have hA := fun (y : World) (hy : Since w1 y) => agAll_any ⟨ga, gl, gc, na, nl, nc, wa, wl, wc⟩ d y (hW2.since hy)
 have hC := fun (y : World) (hy : Since w1 y) => refAll_any ⟨ga, gl, gc, na, nl, nc, wa, wl, wc⟩ d y (hW2.since hy)
 dsimp only at hA hC
 obtain ⟨e1, he1⟩ : ∃ y, allE d = y := ⟨_, rfl⟩
 obtain ⟨cl, hcl⟩ : ∃ y, allL d = y := ⟨_, rfl⟩
 rw [he1, hcl] at hA hC
 clear he1 hcl hW hW2 hP1
 obtain ⟨_, p0, p1, p2⟩ := PF.out _ (Since.refl w1)
 dsimp only at p0 p1 p2
 go_enter Tryz.func14, Tryz.ntmps14
 go_wp2_with fail
 refine (hA w1 (Since.refl w1)).mono ?_
 rintro e w3 ⟨sa, sc, rfl, hM3, hS3⟩
 clear p0 p1 p2 hw1 hA
 obtain ⟨_, p0, p1, p2⟩ := PF.out _ hS3
 dsimp only at p0 p1 p2
 go_wp2_with fail
 refine (hC w3 hS3).mono ?_
 rintro e w5 ⟨ra, rc, rfl, hM5, hS5⟩
 clear p0 p1 p2 hC
 go_wp2_with fail
 refine (agreeBegun_any w5).mono ?_
 rintro e w7 ⟨rfl, hS7⟩
 have hSM := sameMsgs_any sa cl.length sc cl ra cl.length rc cl w7 (hM3.since (hS5.trans hS7)) (hM5.since hS7)
 rw [sameMs_refl] at hSM
 go_wp2_with fail
 refine hSM.mono ?_
 rintro e w8 ⟨rfl, hS8⟩
 have h08 := hS1.trans (hS3.trans (hS5.trans (hS7.trans hS8)))
 have g1 : (e1 == e1) = true := by simp
 clear hSM
 go_wp2_with fail
 go_ret
 exact ⟨by simp, h08⟩
end Go.Proofs.YtiiifecfdkjmbaaGreat
namespace Go.Proofs.YtiiifecfdkjmbaaGreat.agreeAll
set_option maxRecDepth 8000
open Go.ChangeShapes Go.WideShapes Go.ChangeAt Go.RowKit
set_option linter.unusedVariables false
set_option maxRecDepth 100000 in
theorem lifted (os : Os) (started : os.Started) (H : Type) (enc : TypeId × Value → H) :
  ReturnsInHanded {} Tryz.checked os 14 .any (Rows.agreeAllSpec.pre6 enc Tryz.prog Tryz.f14 Rows.agreeAllRow.domain false) (Rows.agreeAllSpec.post enc Tryz.prog Tryz.f14 false true false false) := by
 refine returnsInHanded_of_change_sized (C := Tryz.checked) own started (by kernel_rfl) Tryz.func14
  (ChangeSpec.witness6 (enc := enc) (C := Tryz.checked) false ⟨#[], #[.agg #[.slice none 0 0, .slice none 0 0, .slice none 0 0]], []⟩ 8 (by kernel_rfl) (by kernel_rfl) (by kernel_rfl) (by kernel_rfl)) ?_
 intro W base args ds gs before hval0 hW hcnd hsz0 _
 have hval : ∀ (j : Nat) t v, Tryz.f14.params[j]? = some t → args[j]? = some v → Value.okWide Tryz.prog W .any base t v := hval0
 have hsz : (DataW.weightsEach Tryz.prog (Tryz.f14.params.toList ++ Rows.agreeAllSpec.plain.varTypes Tryz.prog) (ds ++ gs)).all (· ≤ reachBytes) = true := hsz0
 have hW' := hW
 obtain ⟨p, q, hA0, hV, rfl, hfz, hnd⟩ := hW
 have hA : DataW.TrodAll enc Tryz.prog W 0 (fun _ => true) true Tryz.f14.params.toList args.toList ds p := hA0
 rw [Tryz.params14] at hA hval hsz
 obtain ⟨v0, vs0, d0, ds0, p0, q0, hargs, rfl, rfl, h0, r0⟩ := trodAll_cons hA
 obtain ⟨rfl, rfl, rfl⟩ := trodAll_nil r0
 obtain rfl : args = #[v0] := by cases args; simp_all
 obtain ⟨rfl, rfl⟩ := trodVars_none hV
 obtain ⟨x0, dd0, rfl, wt0⟩ := wat_of_trod (hval 0 26 v0 rfl rfl) h0 (fun n hn => by simpa using List.all_eq_true.1 hsz n (szd_each (j := 0) (t := 26) (d := d0) rfl rfl n hn))
 have lt0 : ∀ x ∈ p0, x.block < W.heap.size := by obtain ⟨m, hm⟩ := h0; exact DataW.trod_lt m _ _ _ hm
 clear hA0 hval0
 refine (lawAgreeAll_any x0 dd0 W wt0).mono fun e W' ⟨he, bel0⟩ => ?_
 have bel := bel0.below
 subst he
 exact ⟨_, rfl, _, _, _, [], _, [], hW', trodAll_mk1 (shut_bool Tryz.underlying4 _), (trodAll_cons_mk (Below.trod laidOut (by kernel_rfl) (of_decide_eq_true (by kernel_rfl)) h0 bel lt0) trodAll_mk0), rfl, bel.frame _, fun h => by cases h⟩
theorem facts : joinedFacts Tryz.prog 14 Tryz.f14 Rows.agreeAllSpec Rows.agreeAllRow = true := by
 delta joinedFacts
 rw [may_t, lifts_f, make_c]
 kernel_rfl
theorem over : Rows.agreeAllRow.holds Tryz.pinned (OpenSpec.ofChange Rows.agreeAllSpec) :=
 OpenClaim.holds_of_wide 14 Tryz.f14 rfl rfl rfl rfl rfl rfl rfl ⟨rfl, rfl, rfl, rfl, rfl⟩ rfl rfl rfl rfl rfl (by kernel_rfl) Tryz.func14 facts
  (of_decide_eq_true (by kernel_rfl)) (by unfold Func.isWrapper; first | (rw [if_pos (by decide +kernel)]; kernel_rfl) | (rw [if_neg (by decide +kernel)]; exact ⟨rfl, rfl⟩))
  (fun os started H enc _ => lifted os started H enc)
end Go.Proofs.YtiiifecfdkjmbaaGreat.agreeAll
namespace Go.Proofs.YtiiifecfdkjmbaaGreat
set_option maxRecDepth 8000
theorem agreeAll_holds : Rows.AgreeAllSaid := agreeAll.over
#print axioms agreeAll_holds
end Go.Proofs.YtiiifecfdkjmbaaGreat
