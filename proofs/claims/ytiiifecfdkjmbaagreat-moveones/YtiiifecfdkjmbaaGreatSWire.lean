/- Contracts of what move.Wire does in a sea, and of move.Wire; conditions: the world reads as one. -/
import Derived.BigQuiet
import Derived.Test.YtiiifecfdkjmbaaGreatSWire1
namespace Go.Proofs.YtiiifecfdkjmbaaGreat
set_option maxRecDepth 8000
open Go.RowKit Go.Shelf
open _root_.Go.Proofs.YtiiifecfdkjmbaaGreat.Pure
set_option linter.unusedVariables false
set_option linter.unusedSimpArgs false

theorem wireWhat_any (lo p qf qt : Nat) (f t : Int) (d : Wd) (L : Lay) (w : World) (hB : SeaB lo w p d L 0) (R : Right d) (hqf : qf < lo) (hqt : qt < lo) (hcf : w.cell? ⟨qf, 0, none⟩ = some (.int .i64 f)) (hct : w.cell? ⟨qt, 0, none⟩ = some (.int .i64 t)) (hlo : lo ≤ w.heap.size) :
    Calls Tryz.prog 95 #[.pointer (some ⟨p, 0, none⟩), .pointer (some ⟨qf, 0, none⟩), .pointer (some ⟨qt, 0, none⟩)] w fun e w' => Hid (SeaR lo (fun _ => False) p w (wireSD d f t) e w') := by
  cases hi : (inB f 0 ((d.nodes.length : Int) - 1) && inB t 0 ((d.nodes.length : Int) - 1)) with
  | false =>
    have e : wireSD d f t = .error 4 := by unfold wireSD; rw [hi]; rfl
    rw [e]
    rw [inB_dec, inB_dec] at hi
    exact (wireW_no lo p qf qt f t d L w hB hcf hct hi).mono fun _ _ ⟨he, hF⟩ => by rw [he]; exact seaR_err hF
  | true =>
    have hi' := hi
    simp only [Bool.and_eq_true] at hi'
    obtain ⟨i1, i2⟩ := hi'
    have f0 : 0 ≤ f ∧ f ≤ (d.nodes.length : Int) - 1 := by simpa [inB] using i1
    have t0 : 0 ≤ t ∧ t ≤ (d.nodes.length : Int) - 1 := by simpa [inB] using i2
    obtain ⟨a, rfl⟩ : ∃ k : Nat, f = (k : Int) := ⟨f.toNat, by omega⟩
    obtain ⟨b, rfl⟩ : ∃ k : Nat, t = (k : Int) := ⟨t.toNat, by omega⟩
    have ha : a < d.nodes.length := by omega
    have hb : b < d.nodes.length := by omega
    have e : wireSD d a b = (movesD a b (wireAt d a b).length d).bind fun d' => .ok (d', ((wireAt d a b).length : Int)) := by
      unfold wireSD; rw [hi]
      show ((movesD a b (wireAt d a b).length d).bind _).bind _ = _
      cases movesD a b (wireAt d a b).length d <;> rfl
    rw [e]
    exact wireW_key lo p qf qt a b d L w hB R hqf hqt hcf hct hlo ha hb _ rfl (fun e w' => SeaR lo (fun _ => False) p w ((movesD a b (wireAt d a b).length d).bind fun d' => .ok (d', ((wireAt d a b).length : Int))) e w')
      (fun er h w' hF => by rw [h]; exact seaR_err hF) (fun d' L' w' h hB' hF => by rw [h]; exact seaR_ok hF hB')

set_option maxHeartbeats 1000000 in
theorem moveWire_any (x : WV) (d : Wd) (f t : Int) (w : World) (hW : WAt w x d) :
    Calls Tryz.prog 36 #[.agg #[.slice x.ga x.gl x.gc, .slice x.na x.nl x.nc, .slice x.wa x.wl x.wc], .int .i64 f, .int .i64 t] w fun e w' => Hid (Res3 w (checked d (wireSD d f t)) e w') := by
  obtain ⟨ga, gl, gc, na, nl, nc, wa, wl, wc⟩ := x
  dsimp only
  obtain ⟨wp, hwp⟩ : ∃ wp, w.alloc (.cells #[.slice ga gl gc, .slice na nl nc, .slice wa wl wc] 26) = wp := ⟨_, rfl⟩
  have hPp : ParBox wp w.heap.size ⟨ga, gl, gc, na, nl, nc, wa, wl, wc⟩ := by rw [← hwp]; exact ParBox.new w ⟨ga, gl, gc, na, nl, nc, wa, wl, wc⟩ _
  have hSp : Since w wp := by rw [← hwp]; exact (Since.refl w).alloc _
  obtain ⟨wf, hwf⟩ : ∃ w1, wp.alloc (.cells #[.int .i64 f] 3) = w1 := ⟨_, rfl⟩
  have hSpf : Since wp wf := by rw [← hwf]; exact (Since.refl wp).alloc _
  have hfl : wp.heap.size < wf.heap.size := by rw [← hwf]; simp
  have hfc : wf.cell? ⟨wp.heap.size, 0, none⟩ = some (.int .i64 f) := by rw [← hwf]; simp [go_sem]
  obtain ⟨wq, hwq⟩ : ∃ w1, wf.alloc (.cells #[.int .i64 t] 3) = w1 := ⟨_, rfl⟩
  have hSfq : Since wf wq := by rw [← hwq]; exact (Since.refl wf).alloc _
  have hSpq := hSpf.trans hSfq
  have hql : wf.heap.size < wq.heap.size := by rw [← hwq]; simp
  have hqc : wq.cell? ⟨wf.heap.size, 0, none⟩ = some (.int .i64 t) := by rw [← hwq]; simp [go_sem]
  obtain ⟨w1, hw1⟩ : ∃ w1, wq.alloc (.cells #[.slice none 0 0, .slice none 0 0, .slice none 0 0] 26) = w1 := ⟨_, rfl⟩
  have hNB : NilBox w1 wq.heap.size := by rw [← hw1]; exact NilBox.new wq _
  have hSq1 : Since wq w1 := by rw [← hw1]; exact (Since.refl wq).alloc _
  have hSp1 := hSpq.trans hSq1
  have hP1 := hPp.since hSp1
  have hS1 := hSp.trans hSp1
  have hW1 := hW.since hS1
  have p0 := hP1.c0
  have p1 := hP1.c1
  have p2 := hP1.c2
  dsimp only at p0 p1 p2
  have hmf : ∀ (fn : Fn) (first cap : Array Value) (w : World), (Instr.makeFunc fn first cap).run Tryz.prog w = .ok (.func fn first cap) w := fun _ _ _ _ => rfl
  have hDo := seaDo_any ⟨ga, gl, gc, na, nl, nc, wa, wl, wc⟩ d 95 #[.pointer (some ⟨wp.heap.size, 0, none⟩), .pointer (some ⟨wf.heap.size, 0, none⟩)] (fun _ => False) w1 hW1 (fun _ h => h.elim) (wireSD d f t) (enters_of Tryz.func95 (by kernel_rfl) rfl)
    (fun hE lo p L y hlo hy hB => wireWhat_any lo p wp.heap.size wf.heap.size f t d L y hB ((right_iff d).1 hE) (by have := hSq1.size; omega) (by have := hSq1.size; omega) ((((hSfq.trans hSq1).trans hy).cellAt hfl _).trans hfc) (((hSq1.trans hy).cellAt hql _).trans hqc) (by have := hB.made.box.lt; have := hB.lop; omega))
  dsimp only at hDo
  obtain ⟨r, hr⟩ : ∃ r, checked d (wireSD d f t) = r := ⟨_, rfl⟩
  rw [hr] at hDo ⊢
  clear hr hW
  have hle := Nat.le_trans hSp.size hSpq.size
  cases r with
  | error er =>
    go_enter Tryz.func36, Tryz.ntmps36
    go_wp2_with (go_at_call 85; refine hDo.mono ?_; rintro e w2 hR; obtain ⟨rfl, hF2⟩ := hR.out.1 er rfl; have hS2 := hF2.none; obtain ⟨lt, r0, r1, r2, r3, r4, r5⟩ := hNB.since hS2)
    refine bodyPost_ret (v := .tuple #[.agg #[.slice none 0 0, .slice none 0 0, .slice none 0 0], .int .i64 0, .int .i64 er]) ?_ rfl (show Hid _ from res3_err (nil_since hle (hS1.trans hS2)))
    simp [results, Tryz.results36, go_sem, r0, r1, r2]
  | ok dm =>
    obtain ⟨d', m⟩ := dm
    go_enter Tryz.func36, Tryz.ntmps36
    go_wp2_with (go_at_call 85; refine hDo.mono ?_; rintro e w2 hR; obtain ⟨L, rfl, hO, hF2⟩ := hR.out.2 d' m rfl; have hS2 := hF2.none; simp only [wval]; obtain ⟨lt, r0, r1, r2, r3, r4, r5⟩ := hNB.since hS2)
    obtain ⟨hO2, hSf⟩ := hO.result (w0 := w) (p := wq.heap.size) hNB.lt hle (hS1.trans hS2) hS1.size
    refine bodyPost_ret (v := .tuple #[wval L d', .int .i64 m, .int .i64 0]) ?_ rfl (show Hid _ from res3_ok hO2 hSf)
    simp [results, Tryz.results36, go_sem, r0, r1, r2, wval]
end Go.Proofs.YtiiifecfdkjmbaaGreat
