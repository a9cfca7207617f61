/- Contracts of agree.Ahead and of the document's AheadOf; conditions: the world reads as one. -/
import Derived.Test.YtiiifecfdkjmbaaGreatCAgX
namespace Go.Proofs.YtiiifecfdkjmbaaGreat
set_option maxRecDepth 8000
open Go.RowKit Go.Shelf
open _root_.Go.Proofs.YtiiifecfdkjmbaaGreat.Pure
set_option linter.unusedVariables false
set_option linter.unusedSimpArgs false
set_option maxHeartbeats 2000000 in
theorem refAhead_any (x : WV) (d : Wd) (n : Int) (m : Mg) (w : World) (hW : WAt w x d) :
  Calls Tryz.prog 58 #[.agg #[.slice x.ga x.gl x.gc, .slice x.na x.nl x.nc, .slice x.wa x.wl x.wc], .int .i64 n, .agg #[.int .i64 m.fr, .int .i64 m.gr, .int .i64 m.st, .bool m.nul, .string m.body]] w fun e w' => e = .returned (.tuple #[.int .i64 (((ahdO d n m).getD 0 : Nat) : Int), .bool (ahdO d n m).isSome, .int .i64 (askE d [n])]) ∧ Since w w' := by
 obtain ⟨ga, gl, gc, na, nl, nc, wa, wl, wc⟩ := x
 have hnl := hW.n.hlen
 dsimp only at hnl ⊢
 subst hnl
 obtain ⟨wz, hwz⟩ : ∃ wp, w.alloc (.cells #[.slice ga gl gc, .slice na d.nodes.length nc, .slice wa wl wc] 26) = wp := ⟨_, rfl⟩
 obtain ⟨w1, hw1⟩ : ∃ wp, wz.alloc (.cells #[.int .i64 m.fr, .int .i64 m.gr, .int .i64 m.st, .bool m.nul, .string m.body] 42) = wp := ⟨_, rfl⟩
 have hSz := sinceA hwz
 have hSz1 := sinceA hw1
 have hP1 : ParBox w1 w.heap.size ⟨ga, gl, gc, na, d.nodes.length, nc, wa, wl, wc⟩ := ParBox.since (by rw [← hwz]; exact ParBox.new w ⟨ga, gl, gc, na, d.nodes.length, nc, wa, wl, wc⟩ _) hSz1
 have hS1 : Since w w1 := hSz.trans hSz1
 have hlm : wz.heap.size < w1.heap.size := by rw [← hw1]; simp
 have z0 : w1.cell? ⟨wz.heap.size, 0, none⟩ = some (.int .i64 m.fr) := by rw [← hw1]; simp [go_sem]
 have z1 : w1.cell? ⟨wz.heap.size, 1, none⟩ = some (.int .i64 m.gr) := by rw [← hw1]; simp [go_sem]
 have z2 : w1.cell? ⟨wz.heap.size, 2, none⟩ = some (.int .i64 m.st) := by rw [← hw1]; simp [go_sem]
 have z3 : w1.cell? ⟨wz.heap.size, 3, none⟩ = some (.bool m.nul) := by rw [← hw1]; simp [go_sem]
 have z4 : w1.cell? ⟨wz.heap.size, 4, none⟩ = some (.string m.body) := by rw [← hw1]; simp [go_sem]
 have hlp := hP1.lt
 have p0 := hP1.c0
 have p1 := hP1.c1
 have p2 := hP1.c2
 dsimp only at p0 p1 p2
 obtain ⟨er, her⟩ : ∃ y, askE d [n] = y := ⟨_, rfl⟩
 have hC := nodeError_any ⟨ga, gl, gc, na, d.nodes.length, nc, wa, wl, wc⟩ d n w1 (hW.since hS1)
 dsimp only at hC
 rw [nodeErr_ask, her] at hC
 by_cases h0 : er = 0
 ·subst h0
  obtain ⟨hw0, hns⟩ := ask_zero her
  obtain ⟨k, nk, rfl, hk⟩ := hns n (by simp)
  have hO : ahdO d k m = aheadL m nk.told := by unfold ahdO; rw [if_pos her, Int.toNat_natCast, toldAt_eq hk]
  rw [her, hO]
  have hkl := (List.getElem?_eq_some_iff.1 hk).1
  obtain ⟨bn, on, e, hbn, hcn⟩ := hW.n.cells (by dsimp only; omega)
  dsimp only at e
  subst e
  obtain ⟨_, _, _, ⟨v3, k3, ta, tc, rfl, htc, hT⟩⟩ := hcn k nk hk
  have i1 : (k : Int) < (d.nodes.length : Int) := by omega
  have hIdx := fun (y : World) (hy : Since w1 y) => refTold_any ta nk.told.length tc nk.told m y (hT.since (hS1.trans hy))
  obtain ⟨A, hA⟩ : ∃ y, aheadL m nk.told = y := ⟨_, rfl⟩
  rw [hA] at hIdx ⊢
  clear hcn hW her hw0 hns hk hO hA hT
  go_enter Tryz.func58, Tryz.ntmps58
  go_wp2_with fail
  refine hC.mono ?_
  rintro e w3 ⟨rfl, hS3⟩
  go_wp2_with fail
  have k3' := (hS1.cellAt hbn _).trans k3
  have hbn1 : bn < w1.heap.size := Nat.lt_of_lt_of_le hbn hS1.size
  have hnE : Nonempty (Later w1) := ⟨⟨w1, Since.refl w1⟩⟩
  have hg : ∀ (x : Later w1) (o : Nat), x.w.cell? ⟨w.heap.size, o, none⟩ = w1.cell? ⟨w.heap.size, o, none⟩ := fun x o => x.cell hlp
  have hg' : ∀ (x : Later w1) (o : Nat), x.w.cell? ⟨wz.heap.size, o, none⟩ = w1.cell? ⟨wz.heap.size, o, none⟩ := fun x o => x.cell hlm
  have hg'' : ∀ (x : Later w1) (o : Nat), x.w.cell? ⟨bn, o, none⟩ = w1.cell? ⟨bn, o, none⟩ := fun x o => x.cell hbn1
  clear hw1
  refine wp_region_since (by kernel_rfl) (by kernel_rfl) hS3 ?_
  repeat (go_big_quiet_step ((go_at_call 122; exact Later.call (fun y hy => (hIdx y hy).mono fun e w' ⟨he, hs⟩ => ⟨he, hy.trans hs⟩))))
  refine wpQuiet_nil ?_
  intro w9 hS9
  go_wp2_with fail
  refine bodyPost_ret (v := .tuple #[.int .i64 ((A.getD 0 : Nat) : Int), .bool A.isSome, .int .i64 0]) ?_ rfl ⟨rfl, hS1.trans hS9⟩
  simp [results, Tryz.results58, go_sem]
 ·have hb : (er != 0) = true := by simpa using h0
  have hO : ahdO d n m = none := by unfold ahdO; rw [her, if_neg h0]
  rw [her, hO]
  clear h0 her hO hW
  go_enter Tryz.func58, Tryz.ntmps58
  go_wp2_with fail
  refine hC.mono ?_
  rintro e w3 ⟨rfl, hS3⟩
  go_wp2_with fail
  refine bodyPost_ret (v := .tuple #[.int .i64 0, .bool false, .int .i64 er]) ?_ rfl ⟨rfl, hS1.trans hS3⟩
  simp [results, Tryz.results58, go_sem]
end Go.Proofs.YtiiifecfdkjmbaaGreat
