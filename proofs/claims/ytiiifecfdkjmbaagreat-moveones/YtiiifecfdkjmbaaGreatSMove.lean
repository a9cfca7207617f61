/- Contracts of what move.One does in a sea, and of move.One; conditions: the world reads as one. -/
import Derived.BigQuiet
import Derived.Test.YtiiifecfdkjmbaaGreatSMove2
import Derived.Test.YtiiifecfdkjmbaaGreatPureX
namespace Go.Proofs.YtiiifecfdkjmbaaGreat
set_option maxRecDepth 8000
open Go.RowKit Go.Shelf
open _root_.Go.Proofs.YtiiifecfdkjmbaaGreat.Pure
set_option linter.unusedVariables false
set_option linter.unusedSimpArgs false

/-- A move, and how many were told by it. -/
def moveSD (d : Wd) (f t : Int) : Except Int (Wd × Int) :=
  if inB f 0 ((d.nodes.length : Int) - 1) && inB t 0 ((d.nodes.length : Int) - 1) then (preMoveD d f.toNat t.toNat).bind fun d3 => (tellD d3 t.toNat).bind fun p => .ok (p.1, (p.2 : Int)) else .error 4
theorem moveOfD_fst (d : Wd) (f t : Int) : moveOfD d f t = checked d ((moveSD d f t).bind fun p => .ok p.1) := by
  unfold moveOfD checked moveSD
  split
  · split
    · rw [moveD_eq]
      cases preMoveD d f.toNat t.toNat with
      | error e => rfl
      | ok d3 => show (tellD d3 t.toNat).bind _ = ((tellD d3 t.toNat).bind _).bind _; cases tellD d3 t.toNat <;> rfl
    · rfl
  · rfl
theorem inB_dec (n : Int) (k : Nat) : inB n 0 ((k : Int) - 1) = (decide (0 ≤ n) && decide (n < (k : Int))) := by
  unfold inB
  have : (n ≤ (k : Int) - 1) = (n < (k : Int)) := propext ⟨fun h => by omega, fun h => by omega⟩
  simp [this, Bool.decide_and]

theorem oneWhat_any (lo p qf qt : Nat) (f t : Int) (d : Wd) (L : Lay) (w : World) (hB : SeaB lo w p d L 0) (R : Right d) (hqf : qf < lo) (hqt : qt < lo) (hcf : w.cell? ⟨qf, 0, none⟩ = some (.int .i64 f)) (hct : w.cell? ⟨qt, 0, none⟩ = some (.int .i64 t)) (hlo : lo ≤ w.heap.size) :
    Calls Tryz.prog 86 #[.pointer (some ⟨p, 0, none⟩), .pointer (some ⟨qf, 0, none⟩), .pointer (some ⟨qt, 0, none⟩)] w fun e w' => Hid (SeaR lo (fun _ => False) p w (moveSD d f t) e w') := by
  cases hi : (inB f 0 ((d.nodes.length : Int) - 1) && inB t 0 ((d.nodes.length : Int) - 1)) with
  | false =>
    have e : moveSD d f t = .error 4 := by unfold moveSD; rw [hi]; rfl
    rw [e]
    rw [inB_dec, inB_dec] at hi
    exact (oneW_no lo p qf qt f t d L w hB hcf hct hi).mono fun _ _ ⟨he, hF⟩ => by rw [he]; exact seaR_err hF
  | true =>
    have hi' := hi
    simp only [Bool.and_eq_true] at hi'
    obtain ⟨i1, i2⟩ := hi'
    have f0 : 0 ≤ f ∧ f ≤ (d.nodes.length : Int) - 1 := by simpa [inB] using i1
    have t0 : 0 ≤ t ∧ t ≤ (d.nodes.length : Int) - 1 := by simpa [inB] using i2
    obtain ⟨a, rfl⟩ : ∃ k : Nat, f = (k : Int) := ⟨f.toNat, by omega⟩
    obtain ⟨b, rfl⟩ : ∃ k : Nat, t = (k : Int) := ⟨t.toNat, by omega⟩
    have ha : a < d.nodes.length := by omega
    have hb : b < d.nodes.length := by omega
    have e : moveSD d a b = (preMoveD d a b).bind fun d3 => (tellD d3 b).bind fun p => .ok (p.1, (p.2 : Int)) := by unfold moveSD; rw [hi]; rfl
    rw [e]
    cases hE : wireAt d a b with
    | nil =>
      have e1 : preMoveD d a b = .error 7 := by unfold preMoveD; rw [hE]
      rw [e1]
      exact (oneW_empty lo p qf qt a b d L w hB R hqf hqt hcf hct hlo ha hb hE).mono fun _ _ ⟨he, hF⟩ => by rw [he]; exact seaR_err hF
    | cons M rest =>
      cases hP : preMoveD d a b with
      | error er => exact (oneW_come lo p qf qt a b d L w hB R hqf hqt hcf hct hlo ha hb M rest hE er hP).mono fun _ _ ⟨he, hF⟩ => by rw [he]; exact seaR_err hF
      | ok d3 =>
        obtain ⟨m, S⟩ := preMove_ok R ha hb hP
        have R3 := right_preMove R S
        have hb3 : b < d3.nodes.length := by rw [S.alike.n]; exact hb
        have hTC := tellOf_checked R3 hb3
        show Calls _ _ _ _ fun e w' => Hid (SeaR lo (fun _ => False) p w ((tellD d3 b).bind fun p => .ok (p.1, (p.2 : Int))) e w')
        cases hT : tellD d3 b with
        | error er =>
          rw [hT] at hTC
          have her : (er == 0) = false := by rcases tellD_err hb3 hT with rfl | ⟨rfl, _⟩ <;> rfl
          exact (oneW_terr lo p qf qt a b d L w hB R hqf hqt hcf hct hlo ha hb M rest hE d3 hP er her hTC).mono fun _ _ ⟨he, hF⟩ => by rw [he]; exact seaR_err hF
        | ok pp =>
          obtain ⟨d4, mm⟩ := pp
          rw [hT] at hTC
          exact (oneW_tok lo p qf qt a b d L w hB R hqf hqt hcf hct hlo ha hb M rest hE d3 hP d4 mm (tell_small R3 hT) hTC).mono fun _ _ ⟨he, L', hB', hF⟩ => by rw [he]; exact seaR_ok hF hB'

set_option maxHeartbeats 1000000 in
theorem moveOne_any (x : WV) (d : Wd) (f t : Int) (w : World) (hW : WAt w x d) :
    Calls Tryz.prog 33 #[.agg #[.slice x.ga x.gl x.gc, .slice x.na x.nl x.nc, .slice x.wa x.wl x.wc], .int .i64 f, .int .i64 t] w fun e w' => Hid (ResW w (moveOfD d f t) e w') := by
  obtain ⟨ga, gl, gc, na, nl, nc, wa, wl, wc⟩ := x
  dsimp only
  obtain ⟨wp, hwp⟩ : ∃ wp, w.alloc (.cells #[.slice ga gl gc, .slice na nl nc, .slice wa wl wc] 26) = wp := ⟨_, rfl⟩
  have hPp : ParBox wp w.heap.size ⟨ga, gl, gc, na, nl, nc, wa, wl, wc⟩ := by rw [← hwp]; exact ParBox.new w ⟨ga, gl, gc, na, nl, nc, wa, wl, wc⟩ _
  have hSp : Since w wp := by rw [← hwp]; exact (Since.refl w).alloc _
  obtain ⟨wf, hwf⟩ : ∃ w1, wp.alloc (.cells #[.int .i64 f] 3) = w1 := ⟨_, rfl⟩
  have hSpf : Since wp wf := by rw [← hwf]; exact (Since.refl wp).alloc _
  have hfl : wp.heap.size < wf.heap.size := by rw [← hwf]; simp
  have hfc : wf.cell? ⟨wp.heap.size, 0, none⟩ = some (.int .i64 f) := by rw [← hwf]; simp [go_sem]
  obtain ⟨wq, hwq⟩ : ∃ w1, wf.alloc (.cells #[.int .i64 t] 3) = w1 := ⟨_, rfl⟩
  have hSfq : Since wf wq := by rw [← hwq]; exact (Since.refl wf).alloc _
  have hSpq := hSpf.trans hSfq
  have hql : wf.heap.size < wq.heap.size := by rw [← hwq]; simp
  have hqc : wq.cell? ⟨wf.heap.size, 0, none⟩ = some (.int .i64 t) := by rw [← hwq]; simp [go_sem]
  obtain ⟨w1, hw1⟩ : ∃ w1, wq.alloc (.cells #[.slice none 0 0, .slice none 0 0, .slice none 0 0] 26) = w1 := ⟨_, rfl⟩
  have hNB : NilBox w1 wq.heap.size := by rw [← hw1]; exact NilBox.new wq _
  have hSq1 : Since wq w1 := by rw [← hw1]; exact (Since.refl wq).alloc _
  have hSp1 := hSpq.trans hSq1
  have hP1 := hPp.since hSp1
  have hS1 := hSp.trans hSp1
  have hW1 := hW.since hS1
  have p0 := hP1.c0
  have p1 := hP1.c1
  have p2 := hP1.c2
  dsimp only at p0 p1 p2
  have hmf : ∀ (fn : Fn) (first cap : Array Value) (w : World), (Instr.makeFunc fn first cap).run Tryz.prog w = .ok (.func fn first cap) w := fun _ _ _ _ => rfl
  have hDo := seaDo_any ⟨ga, gl, gc, na, nl, nc, wa, wl, wc⟩ d 86 #[.pointer (some ⟨wp.heap.size, 0, none⟩), .pointer (some ⟨wf.heap.size, 0, none⟩)] (fun _ => False) w1 hW1 (fun _ h => h.elim) (moveSD d f t) (enters_of Tryz.func86 (by kernel_rfl) rfl)
    (fun hE lo p L y hlo hy hB => oneWhat_any lo p wp.heap.size wf.heap.size f t d L y hB ((right_iff d).1 hE) (by have := hSq1.size; omega) (by have := hSq1.size; omega) ((((hSfq.trans hSq1).trans hy).cellAt hfl _).trans hfc) (((hSq1.trans hy).cellAt hql _).trans hqc) (by have := hB.made.box.lt; have := hB.lop; omega))
  dsimp only at hDo
  rw [moveOfD_fst, checked_bind]
  obtain ⟨r, hr⟩ : ∃ r, checked d (moveSD d f t) = r := ⟨_, rfl⟩
  rw [hr] at hDo ⊢
  clear hr hW
  have hle := Nat.le_trans hSp.size hSpq.size
  have hwx : Hid (∀ y, Fr (fun _ => False) w1 y → Since w y ∧ NilBox y wq.heap.size) := fun y hy => ⟨hS1.trans hy.none, hNB.since hy.none⟩
  cases r with
  | error er =>
    go_enter Tryz.func33, Tryz.ntmps33
    go_wp2_with fail
    refine hDo.mono ?_
    rintro e w2 hR
    obtain ⟨rfl, hF2⟩ := hR.out.1 er rfl
    obtain ⟨hS2, hN2⟩ := hwx.out _ hF2
    clear hR hw1 hwp hwq hwf
    obtain ⟨w3, hw3⟩ : ∃ y, w2.alloc (.cells #[.slice none 0 0, .slice none 0 0, .slice none 0 0] 26) = y := ⟨_, rfl⟩
    have hS3' : Since w2 w3 := by rw [← hw3]; exact (Since.refl w2).alloc _
    have hN3 : NilBox w3 w2.heap.size := by rw [← hw3]; exact NilBox.new w2 _
    obtain ⟨w4, hw4⟩ : ∃ y, ((w3.setCell ⟨w2.heap.size, 0, none⟩ (.slice none 0 0)).setCell ⟨w2.heap.size, 1, none⟩ (.slice none 0 0)).setCell ⟨w2.heap.size, 2, none⟩ (.slice none 0 0) = y := ⟨_, rfl⟩
    have hF4 : Fr (fun i => i = w2.heap.size) w3 w4 := by rw [← hw4]; exact put3_fr w3 w2.heap.size _ _ _
    have hS4 : Since w2 w4 := hF4.sinceBase hS3' (fun i hi e => by omega)
    have hN4 : NilBox w4 w2.heap.size := by
      rw [← hw4]
      exact ⟨Nat.lt_of_lt_of_le hN3.lt (put3_fr w3 w2.heap.size _ _ _).size, put3_0 hN3.c0, put3_1 hN3.c1, put3_2 hN3.c2, (put3_z _ _ _ _ _ _).trans hN3.z0, (put3_z _ _ _ _ _ _).trans hN3.z1, (put3_z _ _ _ _ _ _).trans hN3.z2⟩
    obtain ⟨_, a0, a1, a2, a3, a4, a5⟩ := hN3
    obtain ⟨_, c0, c1, c2, _, _, _⟩ := hN4
    obtain ⟨_, r0, r1, r2, r3, r4, r5⟩ := hN2.since hS4
    go_wp2_with fail
    refine bodyPost_ret (v := .tuple #[.agg #[.slice none 0 0, .slice none 0 0, .slice none 0 0], .int .i64 er]) ?_ rfl (show Hid _ from resW_err (nil_since hle (hS2.trans hS4)))
    simp [results, Tryz.results33, go_sem, r0, r1, r2]
  | ok dm =>
    obtain ⟨d', m⟩ := dm
    go_enter Tryz.func33, Tryz.ntmps33
    go_wp2_with fail
    refine hDo.mono ?_
    rintro e w2 hR
    obtain ⟨L, rfl, hO, hF2⟩ := hR.out.2 d' m rfl
    obtain ⟨hS2, hN2⟩ := hwx.out _ hF2
    clear hR hw1 hwp hwq hwf
    simp only [wval]
    obtain ⟨w3, hw3⟩ : ∃ y, w2.alloc (.cells #[.slice (L (0, 0, 0)).a d'.groups.length (L (0, 0, 0)).cap, .slice (L (1, 0, 0)).a d'.nodes.length (L (1, 0, 0)).cap, .slice (L (2, 0, 0)).a d'.wires.length (L (2, 0, 0)).cap] 26) = y := ⟨_, rfl⟩
    have hS3 : Since w2 w3 := by rw [← hw3]; exact (Since.refl w2).alloc _
    have hB3 : BoxW w3 w2.heap.size L d' := by rw [← hw3]; constructor <;> simp [go_sem]
    obtain ⟨_, b0, b1, b2, _, _, _⟩ := hB3
    obtain ⟨_, r0, r1, r2, r3, r4, r5⟩ := hN2.since hS3
    obtain ⟨hO2, hSf⟩ := (hO.since hS3).result (w0 := w) (p := wq.heap.size) hNB.lt hle (hS2.trans hS3) hS1.size
    go_wp2_with fail
    refine bodyPost_ret (v := .tuple #[wval L d', .int .i64 0]) ?_ rfl (show Hid _ from resW_ok hO2 hSf)
    simp [results, Tryz.results33, go_sem, r0, r1, r2, wval]

end Go.Proofs.YtiiifecfdkjmbaaGreat
