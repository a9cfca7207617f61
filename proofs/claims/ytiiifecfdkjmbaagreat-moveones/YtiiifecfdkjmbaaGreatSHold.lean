/- Contract of (*Sea).Hold; conditions: the world lies in a sea, the node is there. -/
import Derived.BigQuiet
import Derived.Test.YtiiifecfdkjmbaaGreatSTellX
namespace Go.Proofs.YtiiifecfdkjmbaaGreat
set_option maxRecDepth 8000
open Go.RowKit Go.Shelf
open _root_.Go.Proofs.YtiiifecfdkjmbaaGreat.Pure
set_option linter.unusedVariables false
set_option linter.unusedSimpArgs false

theorem seaHold_null (lo p n : Nat) (m : Mg) (d : Wd) (L : Lay) (w : World) (x : Nd) (c : Int) (hB : SeaB lo w p d L c) (hx : d.nodes[n]? = some x) (hnul : m.nul = true) :
    Calls Tryz.prog 144 #[.pointer (some ⟨p, 0, none⟩), .int .i64 n, .agg #[.int .i64 m.fr, .int .i64 m.gr, .int .i64 m.st, .bool m.nul, .string m.body]] w fun e w' => e = .returned (.tuple #[]) ∧ Since w w' := by
  have hn := node_lt hx
  have hpl := hB.made.box.lt
  obtain ⟨w1, hw1⟩ : ∃ y, w.alloc (.cells #[.int .i64 m.fr, .int .i64 m.gr, .int .i64 m.st, .bool m.nul, .string m.body] 42) = y := ⟨_, rfl⟩
  have hS1 : Since w w1 := by rw [← hw1]; exact (Since.refl w).alloc _
  have hMb : MsgAt w1 w.heap.size 0 m := by rw [← hw1]; constructor <;> simp [go_sem]
  have hl1 : w.heap.size < w1.heap.size := by rw [← hw1]; simp
  have m3 : w1.cell? ⟨w.heap.size, 3, none⟩ = some (.bool true) := by rw [← hnul]; exact hMb.c3
  have HNUL : Hid (m.nul = true) := hnul
  clear hnul hMb
  go_enter Tryz.func144, Tryz.ntmps144
  go_wp2
  refine bodyPost_ret (results_none rfl _ _ _) rfl ?_
  exact ⟨rfl, hS1⟩

set_option maxHeartbeats 1000000 in
theorem seaHold_put (lo p n : Nat) (m : Mg) (d : Wd) (L : Lay) (w : World) (x : Nd) (c : Int) (hB : SeaB lo w p d L c) (hx : d.nodes[n]? = some x) (hnul : m.nul = false) (hlo : lo ≤ w.heap.size) (pe : Int) (pl : List Mg) (hpe : putE m x.held = pe) (hpl' : putL m x.held = pl) (Post : Ending → World → Prop)
    (hErr : pe ≠ 0 → ∀ w', Since w w' → Post (.panicked (pan pe)) w')
    (hOk : pe = 0 → ∀ w' L', SeaB lo w' p (setNode d n { x with held := pl }) L' c → Fr (Up lo fun _ => False) w w' → Post (.returned (.tuple #[])) w') :
    Calls Tryz.prog 144 #[.pointer (some ⟨p, 0, none⟩), .int .i64 n, .agg #[.int .i64 m.fr, .int .i64 m.gr, .int .i64 m.st, .bool m.nul, .string m.body]] w fun e w' => Hid (Post e w') := by
  have HERR := (show Hid _ from hErr)
  have HOK := (show Hid _ from hOk)
  have HPE : Hid (putE m x.held = pe) := hpe
  have HPL : Hid (putL m x.held = pl) := hpl'
  clear hErr hOk
  have hn := node_lt hx
  have hpl := hB.made.box.lt
  obtain ⟨w1, hw1⟩ : ∃ y, w.alloc (.cells #[.int .i64 m.fr, .int .i64 m.gr, .int .i64 m.st, .bool m.nul, .string m.body] 42) = y := ⟨_, rfl⟩
  have hS1 : Since w w1 := by rw [← hw1]; exact (Since.refl w).alloc _
  have hMb : MsgAt w1 w.heap.size 0 m := by rw [← hw1]; constructor <;> simp [go_sem]
  have hl1 : w.heap.size < w1.heap.size := by rw [← hw1]; simp
  obtain ⟨bn, on, cn, hL1, _, hbn, hbk, hcn⟩ := hB.made.own.lies (ix := (1, 0, 0)) ⟨rfl, rfl⟩ (by show 0 < d.nodes.length; omega)
  obtain ⟨k0, k1, k2, k3, kz⟩ := hB.made.own.cells hx hL1
  obtain ⟨ha, hc, e1, hcap, hH⟩ := hB.made.own.vheld hx
  obtain ⟨sh, _⟩ := hB.made.own.smallOf hx
  rw [e1] at k2
  have b1 := hB.made.box.c1
  rw [hL1] at b1
  dsimp only at b1
  have HL1 : Hid (L (1, 0, 0) = ⟨some ⟨bn, on, none⟩, cn⟩) := hL1
  have hput := fun (y : World) (hy : Since w y) => put_anyO ha x.held.length hc x.held m y (hH.since hy) hcap
  rw [hpe, hpl'] at hput
  have m3 : w1.cell? ⟨w.heap.size, 3, none⟩ = some (.bool false) := by rw [← hnul]; exact hMb.c3
  obtain ⟨S0, hS0⟩ : ∃ S0 : World → Prop, ∀ w', S0 w' ↔ Since w1 w' := ⟨_, fun _ => Iff.rfl⟩
  have hneT := heldTrue w
  have c1 : ∀ y : HeldW S0, y.w.cell? ⟨p, 1, none⟩ = some (.slice (some ⟨bn, on, none⟩) d.nodes.length cn) := fun y => (((hS1.trans ((hS0 _).1 y.h)).cellAt hpl _)).trans b1
  have c2 : ∀ y : HeldW S0, y.w.cell? ⟨bn, on + n * 4 + 2, none⟩ = some (.slice ha x.held.length hc) := fun y => ((hS1.trans ((hS0 _).1 y.h)).cellAt hbn _).trans k2
  have m0 : ∀ y : HeldW S0, y.w.cell? ⟨w.heap.size, 0, none⟩ = some (.int .i64 m.fr) := fun y => (((hS0 _).1 y.h).cellAt hl1 _).trans hMb.c0
  have m1 : ∀ y : HeldW S0, y.w.cell? ⟨w.heap.size, 1, none⟩ = some (.int .i64 m.gr) := fun y => (((hS0 _).1 y.h).cellAt hl1 _).trans hMb.c1
  have m2 : ∀ y : HeldW S0, y.w.cell? ⟨w.heap.size, 2, none⟩ = some (.int .i64 m.st) := fun y => (((hS0 _).1 y.h).cellAt hl1 _).trans hMb.c2
  have m3' : ∀ y : HeldW S0, y.w.cell? ⟨w.heap.size, 3, none⟩ = some (.bool m.nul) := fun y => (((hS0 _).1 y.h).cellAt hl1 _).trans hMb.c3
  have m4 : ∀ y : HeldW S0, y.w.cell? ⟨w.heap.size, 4, none⟩ = some (.string m.body) := fun y => (((hS0 _).1 y.h).cellAt hl1 _).trans hMb.c4
  have n1 : (n : Int) < (d.nodes.length : Int) := by omega
  clear hL1 e1 hpe hpl' hnul hMb
  go_enter Tryz.func144, Tryz.ntmps144
  go_wp2_with fail
  obtain ⟨W0, hW0⟩ : ∃ y, w1.drew = y := ⟨_, rfl⟩
  have hs0 : Since w1 W0 := by rw [← hW0]; exact Since.drew (Since.refl _)
  have hSi0 := (hS0 W0).2 hs0
  have hne : Nonempty (HeldW S0) := ⟨⟨_, hSi0⟩⟩
  refine beginM (fun w' => ∃ x : HeldW S0, w' = x.w) (by kernel_rfl) ?_
  rw [hW0]
  clear hW0
  refine takeW 0 rfl (by kernel_rfl) (fun _ _ _ _ h => h) (by rfl) rfl ?_
  go_big_quiet_op
  refine takeW 1 rfl (by kernel_rfl) (fun _ _ _ _ h => h) (by rfl) rfl ?_
  go_big_quiet_op
  refine takeW 2 rfl (by kernel_rfl) (fun _ _ _ _ h => h) (by rfl) rfl ?_
  go_big_quiet_op
  refine takeW 3 rfl (by kernel_rfl) (fun _ _ _ _ h => h) (by rfl) rfl ?_
  go_big_quiet_op
  refine takeM 4 rfl (by kernel_rfl) (heldS_mk hSi0) (fun _ _ _ _ h => h) (by rfl) rfl ?_
  go_big_quiet_op
  refine takeW 5 rfl (by kernel_rfl) (fun _ _ _ _ h => h) (by rfl) rfl ?_
  go_big_quiet_op
  refine takeW 6 rfl (by kernel_rfl) (fun _ _ _ _ h => h) (by rfl) rfl ?_
  go_big_quiet_op
  refine takeW 7 rfl (by kernel_rfl) (fun _ _ _ _ h => h) (by rfl) rfl ?_
  go_big_quiet_op
  refine takeM 8 rfl (by kernel_rfl) (heldS_mk hSi0) (fun _ _ _ _ h => h) (by rfl) rfl ?_
  go_big_quiet_op
  refine takeM 9 rfl (by kernel_rfl) (heldS_mk hSi0) (fun _ _ _ _ h => h) (by rfl) rfl ?_
  go_big_quiet_op
  refine actM 10 rfl (by kernel_rfl) ?_
  intro K hK
  go_simp
  refine (hput W0 (hS1.trans hs0)).mono ?_
  rintro e w2 ⟨a', len', cap', rfl, hMs, hOwn, hS2⟩
  dsimp only
  have hs2 := hs0.trans hS2
  refine hK _ _ (fun h => absurd h (by decide +kernel)) ?_
  clear hK K
  refine takeW 11 rfl (by kernel_rfl) (fun _ _ _ _ h => h) (by rfl) rfl ?_
  go_big_quiet_op
  refine takeW 12 rfl (by kernel_rfl) (fun _ _ _ _ h => h) (by rfl) rfl ?_
  go_big_quiet_op
  refine takeW 13 rfl (by kernel_rfl) (fun _ _ _ _ h => h) (by rfl) rfl ?_
  go_big_quiet_op
  refine takeW 14 rfl (by kernel_rfl) (fun _ _ _ _ h => h) (by rfl) rfl ?_
  go_big_quiet_op
  refine takeW 15 rfl (by kernel_rfl) (fun _ _ _ _ h => h) (by rfl) rfl ?_
  go_big_quiet_op
  refine doneM (by kernel_rfl) ?_
  have hSw2 := hS1.trans hs2
  have d1 := (hSw2.cellAt hpl _).trans b1
  have d2 := (hSw2.cellAt hbn _).trans k2
  have d3 := (hSw2.below.frozen (p := ⟨bn, on + n * 4 + 2, none⟩) hbn).trans (kz 2 (by omega))
  clear c1 c2 m0 m1 m2 m3' m4 hne hneT m3
  cases hE : (pe == 0)
  · have HE : Hid (pe ≠ 0) := by unfold Hid; simpa using hE
    go_wp2_with (go_at_call 149; refine (seaPass_f pe hE _).mono ?_; rintro e w' ⟨rfl, hw'⟩; obtain rfl := hw'.symm)
    exact ⟨rfl, HERR.out HE.out _ hSw2⟩
  · have hpe0 : pe = 0 := by simpa using hE
    subst hpe0
    have hlen : len' = pl.length := hMs.hlen.symm
    have hRow0 := row_of_put hOwn (by rw [HPL.out]; exact hlen)
    rw [HPL.out] at hRow0
    have hge : ∀ b, Sl.blk ⟨a', cap'⟩ = some b → w.heap.size ≤ b := fun b e => Nat.le_trans (hS1.trans hs0).size (hRow0.blk_ge b e)
    have sp : pl.length ≤ 1000 := by
      have h0 := HPE.out
      have h1 := putL_len m x.held h0
      rw [HPL.out] at h1
      have : ¬ 40 ≤ x.held.length := fun h => by unfold putE at h0; split at h0 <;> simp_all
      omega
    have hO2 := hB.made.own.since hSw2
    have hput2 := hO2.putHeld hx HL1.out (hRow0.mono (Nat.le_trans hlo (hS1.trans hs0).size)) sp (hB.made.own.fresh hge (5, n, 0))
    have hst := stepW_upd (d' := setNode d n { x with held := pl }) (L := L) hSw2 (okI_setNode hx rfl) (5, n, 0) ⟨a', cap'⟩ (fun b e => .inr (hge b e)) (off := on + n * 4 + 2) (Sl.v ⟨a', cap'⟩ pl.length) (d := d) ⟨(1, 0, 0), ⟨rfl, rfl⟩, hbk⟩
    have hMm := hB.made.step hput2 hst rfl rfl rfl rfl (by simp [setNode]) rfl
    have hSBf := hB.step hMm hst
    have hUf := hst.up hB.made.own (fun _ => False)
    unfold Sl.v at hSBf hUf
    dsimp only at hSBf hUf
    clear hput2 hst hMm
    go_wp2_with (go_at_call 149; refine (seaPass_t _).mono ?_; rintro e w' ⟨rfl, hw'⟩; obtain rfl := hw'.symm)
    go_end0
    exact HOK.out (by first | rfl | trivial) _ _ hSBf hUf
end Go.Proofs.YtiiifecfdkjmbaaGreat
