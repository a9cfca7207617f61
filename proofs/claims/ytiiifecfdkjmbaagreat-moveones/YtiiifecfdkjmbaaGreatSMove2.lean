/- What move.One does in a sea, way by way, and move.One; conditions: the world reads as one. -/
import Derived.BigQuiet
import Derived.Test.YtiiifecfdkjmbaaGreatSMove1
import Derived.Test.YtiiifecfdkjmbaaGreatSCast
namespace Go.Proofs.YtiiifecfdkjmbaaGreat
set_option maxRecDepth 8000
open Go.RowKit Go.Shelf
open _root_.Go.Proofs.YtiiifecfdkjmbaaGreat.Pure
set_option linter.unusedVariables false
set_option linter.unusedSimpArgs false

theorem both_t (p : Nat) (f t : Int) (a : Option Addr) (n c : Nat) (w : World) (hc : w.cell? ⟨p, 1, none⟩ = some (.slice a n c)) (hf : f < (n : Int)) (ht : t < (n : Int)) (hf0 : 0 ≤ f := by omega) (ht0 : 0 ≤ t := by omega) :
    Calls Tryz.prog 87 #[.pointer (some ⟨p, 0, none⟩), .int .i64 f, .int .i64 t] w fun e w' => e = .returned (.tuple #[]) ∧ w' = w := by
  have h1 := isNode_any p f a n c w hc
  have h2 := isNode_any p t a n c w hc
  rw [decide_eq_true hf0, decide_eq_true hf] at h1
  rw [decide_eq_true ht0, decide_eq_true ht] at h2
  go_enter Tryz.func87, Tryz.ntmps87
  go_wp2_with fail
  refine h1.mono ?_
  rintro e w' ⟨rfl, hw'⟩
  obtain rfl := hw'.symm
  go_wp2_with fail
  refine h2.mono ?_
  rintro e w' ⟨rfl, hw'⟩
  obtain rfl := hw'.symm
  go_wp2_with fail
  refine (seaMust_t 4 _).mono ?_
  rintro e w' ⟨rfl, hw'⟩
  obtain rfl := hw'.symm
  go_wp2
  go_end0
  exact ⟨rfl, rfl⟩
theorem both_f (p : Nat) (f t : Int) (a : Option Addr) (n c : Nat) (w : World) (hc : w.cell? ⟨p, 1, none⟩ = some (.slice a n c)) (hn : ((decide (0 ≤ f) && decide (f < (n : Int))) && (decide (0 ≤ t) && decide (t < (n : Int)))) = false) :
    Calls Tryz.prog 87 #[.pointer (some ⟨p, 0, none⟩), .int .i64 f, .int .i64 t] w fun e w' => e = .panicked (pan 4) ∧ w' = w := by
  have h1 := isNode_any p f a n c w hc
  have h2 := isNode_any p t a n c w hc
  cases hA : (decide (0 ≤ f) && decide (f < (n : Int))) with
  | false =>
    rw [hA] at h1
    clear hA hn h2
    go_enter Tryz.func87, Tryz.ntmps87
    go_wp2_with fail
    refine h1.mono ?_
    rintro e w' ⟨rfl, hw'⟩
    obtain rfl := hw'.symm
    go_wp2_with fail
    refine (seaMust_f 4 _).mono ?_
    rintro e w' ⟨rfl, hw'⟩
    obtain rfl := hw'.symm
    exact ⟨rfl, rfl, rfl⟩
  | true =>
    rw [hA] at h1 hn
    rw [Bool.true_and] at hn
    rw [hn] at h2
    clear hA hn
    go_enter Tryz.func87, Tryz.ntmps87
    go_wp2_with fail
    refine h1.mono ?_
    rintro e w' ⟨rfl, hw'⟩
    obtain rfl := hw'.symm
    go_wp2_with fail
    refine h2.mono ?_
    rintro e w' ⟨rfl, hw'⟩
    obtain rfl := hw'.symm
    go_wp2_with fail
    refine (seaMust_f 4 _).mono ?_
    rintro e w' ⟨rfl, hw'⟩
    obtain rfl := hw'.symm
    exact ⟨rfl, rfl, rfl⟩

theorem oneW_no (lo p qf qt : Nat) (f t : Int) (d : Wd) (L : Lay) (w : World) (hB : SeaB lo w p d L 0) (hcf : w.cell? ⟨qf, 0, none⟩ = some (.int .i64 f)) (hct : w.cell? ⟨qt, 0, none⟩ = some (.int .i64 t)) (hn : ((decide (0 ≤ f) && decide (f < (d.nodes.length : Int))) && (decide (0 ≤ t) && decide (t < (d.nodes.length : Int)))) = false) :
    Calls Tryz.prog 86 #[.pointer (some ⟨p, 0, none⟩), .pointer (some ⟨qf, 0, none⟩), .pointer (some ⟨qt, 0, none⟩)] w fun e w' => e = .panicked (pan 4) ∧ Fr (Up lo fun _ => False) w w' := by
  have b1 := hB.made.box.c1
  have hb := both_f p f t _ _ _ w b1 hn
  clear hn
  go_enter Tryz.func86, Tryz.ntmps86
  go_wp2_with (go_at_call 87; refine hb.mono ?_; rintro e w' ⟨rfl, hw'⟩; obtain rfl := hw'.symm)
  exact ⟨rfl, rfl, Fr.refl _ _⟩

set_option maxHeartbeats 1000000 in
theorem oneW_empty (lo p qf qt f t : Nat) (d : Wd) (L : Lay) (w : World) (hB : SeaB lo w p d L 0) (R : Right d) (hqf : qf < lo) (hqt : qt < lo) (hcf : w.cell? ⟨qf, 0, none⟩ = some (.int .i64 f)) (hct : w.cell? ⟨qt, 0, none⟩ = some (.int .i64 t)) (hlo : lo ≤ w.heap.size) (hf : f < d.nodes.length) (ht : t < d.nodes.length) (hE : wireAt d f t = []) :
    Calls Tryz.prog 86 #[.pointer (some ⟨p, 0, none⟩), .pointer (some ⟨qf, 0, none⟩), .pointer (some ⟨qt, 0, none⟩)] w fun e w' => e = .panicked (pan 7) ∧ Fr (Up lo fun _ => False) w w' := by
  have hpl := hB.made.box.lt
  have hlop := hB.lop
  have hqfw : qf < w.heap.size := by omega
  have hqtw : qt < w.heap.size := by omega
  have hwn : (f : Int) < (d.wires.length : Int) := by have := R.wlen; omega
  have htn : (t : Int) < (d.nodes.length : Int) := by omega
  have hfn : (f : Int) < (d.nodes.length : Int) := by omega
  obtain ⟨bw2, ow2, cw2, br2, oR2, cr2, hH⟩ := hB.made.headOf R.rows hf ht
  obtain ⟨la, lcc, hL8⟩ : ∃ la lcc, L (8, f, t) = ⟨la, lcc⟩ := ⟨_, _, rfl⟩
  have b1 := hB.made.box.c1
  have HE := (show Hid _ from hE)
  rw [hE] at hH
  go_enter Tryz.func86, Tryz.ntmps86
  go_wp2_with (go_at_call 87; refine (both_t p f t _ _ _ w b1 hfn htn).mono ?_; rintro e w' ⟨rfl, hw'⟩; obtain rfl := hw'.symm)
  obtain ⟨W0, hW0⟩ : ∃ y, w.drew = y := ⟨_, rfl⟩
  have hs0 : Since w W0 := by rw [← hW0]; exact Since.drew (Since.refl _)
  obtain ⟨S0, hS0⟩ : ∃ S0 : World → Prop, ∀ w', S0 w' ↔ Since w w' := ⟨_, fun _ => Iff.rfl⟩
  have c1 : ∀ y : HeldW S0, y.w.cell? ⟨p, 2, none⟩ = some (.slice (some ⟨bw2, ow2, none⟩) d.wires.length cw2) := fun y => (hH.since ((hS0 _).1 y.h)).top
  have c2 : ∀ y : HeldW S0, y.w.cell? ⟨bw2, ow2 + f, none⟩ = some (.slice (some ⟨br2, oR2, none⟩) d.nodes.length cr2) := fun y => (hH.since ((hS0 _).1 y.h)).row
  have c3 : ∀ y : HeldW S0, y.w.cell? ⟨br2, oR2 + t, none⟩ = some (.slice la 0 lcc) := fun y => by have := (hH.since ((hS0 _).1 y.h)).cell; rw [hL8] at this; exact this
  have c4 : ∀ y : HeldW S0, y.w.cell? ⟨qf, 0, none⟩ = some (.int .i64 f) := fun y => (((hS0 _).1 y.h).cellAt hqfw _).trans hcf
  have c5 : ∀ y : HeldW S0, y.w.cell? ⟨qt, 0, none⟩ = some (.int .i64 t) := fun y => (((hS0 _).1 y.h).cellAt hqtw _).trans hct
  have hSi0 := (hS0 W0).2 hs0
  have hne : Nonempty (HeldW S0) := ⟨⟨_, hSi0⟩⟩
  have hneT := heldTrue w
  clear hL8 hE b1
  refine beginM (fun w' => ∃ x : HeldW S0, w' = x.w) (by kernel_rfl) ?_
  rw [hW0]
  clear hW0
  refine takeW 0 rfl (by kernel_rfl) (fun _ _ _ _ h => h) (by rfl) rfl ?_
  go_big_quiet_op
  refine takeW 1 rfl (by kernel_rfl) (fun _ _ _ _ h => h) (by rfl) rfl ?_
  go_big_quiet_op
  refine takeW 2 rfl (by kernel_rfl) (fun _ _ _ _ h => h) (by rfl) rfl ?_
  go_big_quiet_op
  refine takeW 3 rfl (by kernel_rfl) (fun _ _ _ _ h => h) (by rfl) rfl ?_
  go_big_quiet_op
  refine takeM 4 rfl (by kernel_rfl) (heldS_mk hSi0) (fun _ _ _ _ h => h) (by rfl) rfl ?_
  go_big_quiet_op
  refine takeM 5 rfl (by kernel_rfl) (heldS_mk hSi0) (fun _ _ _ _ h => h) (by rfl) rfl ?_
  go_big_quiet_op
  refine takeW 6 rfl (by kernel_rfl) (fun _ _ _ _ h => h) (by rfl) rfl ?_
  go_big_quiet_op
  refine takeM 7 rfl (by kernel_rfl) (heldS_mk hSi0) (fun _ _ _ _ h => h) (by rfl) rfl ?_
  go_big_quiet_op
  refine takeM 8 rfl (by kernel_rfl) (heldS_mk hSi0) (fun _ _ _ _ h => h) (by rfl) rfl ?_
  go_big_quiet_op
  refine takeW 9 rfl (by kernel_rfl) (fun _ _ _ _ h => h) (by rfl) rfl ?_
  go_big_quiet_op
  refine takeM 10 rfl (by kernel_rfl) (heldS_mk hSi0) (fun _ _ _ _ h => h) (by rfl) rfl ?_
  go_big_quiet_op
  refine takeM 11 rfl (by kernel_rfl) (heldS_mk hSi0) (fun _ _ _ _ h => h) (by rfl) rfl ?_
  go_big_quiet_op
  refine takeW 12 rfl (by kernel_rfl) (fun _ _ _ _ h => h) (by rfl) rfl ?_
  go_big_quiet_op
  refine actM 13 rfl (by kernel_rfl) ?_
  intro K hK
  go_simp
  refine (seaMust_f 7 _).mono ?_
  rintro e w' ⟨rfl, hw'⟩
  obtain rfl := hw'.symm
  dsimp only
  exact ⟨rfl, rfl, hs0.up lo _⟩

set_option maxHeartbeats 1000000 in
theorem oneW_come (lo p qf qt f t : Nat) (d : Wd) (L : Lay) (w : World) (hB : SeaB lo w p d L 0) (R : Right d) (hqf : qf < lo) (hqt : qt < lo) (hcf : w.cell? ⟨qf, 0, none⟩ = some (.int .i64 f)) (hct : w.cell? ⟨qt, 0, none⟩ = some (.int .i64 t)) (hlo : lo ≤ w.heap.size) (hf : f < d.nodes.length) (ht : t < d.nodes.length) (M : Mg) (rest : List Mg) (hE : wireAt d f t = M :: rest) (er : Int) (HPM : Hid (preMoveD d f t = .error er)) :
    Calls Tryz.prog 86 #[.pointer (some ⟨p, 0, none⟩), .pointer (some ⟨qf, 0, none⟩), .pointer (some ⟨qt, 0, none⟩)] w fun e w' => e = .panicked (pan er) ∧ Fr (Up lo fun _ => False) w w' := by
  have hpl := hB.made.box.lt
  have hlop := hB.lop
  have hqfw : qf < w.heap.size := by omega
  have hqtw : qt < w.heap.size := by omega
  have hwn : (f : Int) < (d.wires.length : Int) := by have := R.wlen; omega
  have htn : (t : Int) < (d.nodes.length : Int) := by omega
  have hfn : (f : Int) < (d.nodes.length : Int) := by omega
  obtain ⟨bw2, ow2, cw2, br2, oR2, cr2, hH⟩ := hB.made.headOf R.rows hf ht
  obtain ⟨la, lcc, hL8⟩ : ∃ la lcc, L (8, f, t) = ⟨la, lcc⟩ := ⟨_, _, rfl⟩
  have b1 := hB.made.box.c1
  have HE := (show Hid _ from hE)
  rw [hE] at hH
  go_enter Tryz.func86, Tryz.ntmps86
  go_wp2_with (go_at_call 87; refine (both_t p f t _ _ _ w b1 hfn htn).mono ?_; rintro e w' ⟨rfl, hw'⟩; obtain rfl := hw'.symm)
  obtain ⟨W0, hW0⟩ : ∃ y, w.drew = y := ⟨_, rfl⟩
  have hs0 : Since w W0 := by rw [← hW0]; exact Since.drew (Since.refl _)
  obtain ⟨S0, hS0⟩ : ∃ S0 : World → Prop, ∀ w', S0 w' ↔ Since w w' := ⟨_, fun _ => Iff.rfl⟩
  have c1 : ∀ y : HeldW S0, y.w.cell? ⟨p, 2, none⟩ = some (.slice (some ⟨bw2, ow2, none⟩) d.wires.length cw2) := fun y => (hH.since ((hS0 _).1 y.h)).top
  have c2 : ∀ y : HeldW S0, y.w.cell? ⟨bw2, ow2 + f, none⟩ = some (.slice (some ⟨br2, oR2, none⟩) d.nodes.length cr2) := fun y => (hH.since ((hS0 _).1 y.h)).row
  have c3 : ∀ y : HeldW S0, y.w.cell? ⟨br2, oR2 + t, none⟩ = some (.slice la (rest.length + 1) lcc) := fun y => by have := (hH.since ((hS0 _).1 y.h)).cell; rw [hL8] at this; exact this
  have c4 : ∀ y : HeldW S0, y.w.cell? ⟨qf, 0, none⟩ = some (.int .i64 f) := fun y => (((hS0 _).1 y.h).cellAt hqfw _).trans hcf
  have c5 : ∀ y : HeldW S0, y.w.cell? ⟨qt, 0, none⟩ = some (.int .i64 t) := fun y => (((hS0 _).1 y.h).cellAt hqtw _).trans hct
  have hSi0 := (hS0 W0).2 hs0
  have hne : Nonempty (HeldW S0) := ⟨⟨_, hSi0⟩⟩
  have hneT := heldTrue w
  clear hL8 hE b1
  refine beginM (fun w' => ∃ x : HeldW S0, w' = x.w) (by kernel_rfl) ?_
  rw [hW0]
  clear hW0
  refine takeW 0 rfl (by kernel_rfl) (fun _ _ _ _ h => h) (by rfl) rfl ?_
  go_big_quiet_op
  refine takeW 1 rfl (by kernel_rfl) (fun _ _ _ _ h => h) (by rfl) rfl ?_
  go_big_quiet_op
  refine takeW 2 rfl (by kernel_rfl) (fun _ _ _ _ h => h) (by rfl) rfl ?_
  go_big_quiet_op
  refine takeW 3 rfl (by kernel_rfl) (fun _ _ _ _ h => h) (by rfl) rfl ?_
  go_big_quiet_op
  refine takeM 4 rfl (by kernel_rfl) (heldS_mk hSi0) (fun _ _ _ _ h => h) (by rfl) rfl ?_
  go_big_quiet_op
  refine takeM 5 rfl (by kernel_rfl) (heldS_mk hSi0) (fun _ _ _ _ h => h) (by rfl) rfl ?_
  go_big_quiet_op
  refine takeW 6 rfl (by kernel_rfl) (fun _ _ _ _ h => h) (by rfl) rfl ?_
  go_big_quiet_op
  refine takeM 7 rfl (by kernel_rfl) (heldS_mk hSi0) (fun _ _ _ _ h => h) (by rfl) rfl ?_
  go_big_quiet_op
  refine takeM 8 rfl (by kernel_rfl) (heldS_mk hSi0) (fun _ _ _ _ h => h) (by rfl) rfl ?_
  go_big_quiet_op
  refine takeW 9 rfl (by kernel_rfl) (fun _ _ _ _ h => h) (by rfl) rfl ?_
  go_big_quiet_op
  refine takeM 10 rfl (by kernel_rfl) (heldS_mk hSi0) (fun _ _ _ _ h => h) (by rfl) rfl ?_
  go_big_quiet_op
  refine takeM 11 rfl (by kernel_rfl) (heldS_mk hSi0) (fun _ _ _ _ h => h) (by rfl) rfl ?_
  go_big_quiet_op
  refine takeW 12 rfl (by kernel_rfl) (fun _ _ _ _ h => h) (by rfl) rfl ?_
  go_big_quiet_op
  refine actM 13 rfl (by kernel_rfl) ?_
  intro K hK
  go_simp
  refine (seaMust_t 7 _).mono ?_
  rintro e w' ⟨rfl, hw'⟩
  obtain rfl := hw'.symm
  dsimp only
  refine hK _ _ (fun h => absurd h (by decide +kernel)) ?_
  clear hK K
  refine doneM (by kernel_rfl) ?_
  clear c1 c2 c3 c4 c5 hne hneT
  have hcf0 := (hs0.cellAt hqfw _).trans hcf
  have hct0 := (hs0.cellAt hqtw _).trans hct
  have hlo0 : lo ≤ W0.heap.size := Nat.le_trans hlo hs0.size
  have hB0 := hB.since hs0
  clear hcf hct
  have hCo := come_any lo p f t d L W0 0 hB0 R hf ht M rest HE.out hlo0 (fun e w' => e = .panicked (pan er) ∧ Fr (Up lo fun _ => False) W0 w') (fun er' h w' hF => by rw [HPM.out] at h; cases h; exact ⟨rfl, hF⟩) (fun d' L' w' h => by rw [HPM.out] at h; cases h)
  go_wp2_with (go_at_call 89; refine hCo.mono ?_; rintro e w2 hR; obtain ⟨rfl, hF2⟩ := hR.out)
  exact ⟨rfl, rfl, (hs0.up lo _).upTrans hF2⟩

set_option maxHeartbeats 1000000 in
theorem oneW_terr (lo p qf qt f t : Nat) (d : Wd) (L : Lay) (w : World) (hB : SeaB lo w p d L 0) (R : Right d) (hqf : qf < lo) (hqt : qt < lo) (hcf : w.cell? ⟨qf, 0, none⟩ = some (.int .i64 f)) (hct : w.cell? ⟨qt, 0, none⟩ = some (.int .i64 t)) (hlo : lo ≤ w.heap.size) (hf : f < d.nodes.length) (ht : t < d.nodes.length) (M : Mg) (rest : List Mg) (hE : wireAt d f t = M :: rest) (d3 : Wd) (HPM : Hid (preMoveD d f t = .ok d3)) (er : Int) (her : (er == 0) = false) (HTL : Hid (checked d3 (tellOfD d3 (t : Int)) = .error er)) :
    Calls Tryz.prog 86 #[.pointer (some ⟨p, 0, none⟩), .pointer (some ⟨qf, 0, none⟩), .pointer (some ⟨qt, 0, none⟩)] w fun e w' => e = .panicked (pan er) ∧ Fr (Up lo fun _ => False) w w' := by
  have hpl := hB.made.box.lt
  have hlop := hB.lop
  have hqfw : qf < w.heap.size := by omega
  have hqtw : qt < w.heap.size := by omega
  have hwn : (f : Int) < (d.wires.length : Int) := by have := R.wlen; omega
  have htn : (t : Int) < (d.nodes.length : Int) := by omega
  have hfn : (f : Int) < (d.nodes.length : Int) := by omega
  obtain ⟨bw2, ow2, cw2, br2, oR2, cr2, hH⟩ := hB.made.headOf R.rows hf ht
  obtain ⟨la, lcc, hL8⟩ : ∃ la lcc, L (8, f, t) = ⟨la, lcc⟩ := ⟨_, _, rfl⟩
  have b1 := hB.made.box.c1
  have HE := (show Hid _ from hE)
  rw [hE] at hH
  go_enter Tryz.func86, Tryz.ntmps86
  go_wp2_with (go_at_call 87; refine (both_t p f t _ _ _ w b1 hfn htn).mono ?_; rintro e w' ⟨rfl, hw'⟩; obtain rfl := hw'.symm)
  obtain ⟨W0, hW0⟩ : ∃ y, w.drew = y := ⟨_, rfl⟩
  have hs0 : Since w W0 := by rw [← hW0]; exact Since.drew (Since.refl _)
  obtain ⟨S0, hS0⟩ : ∃ S0 : World → Prop, ∀ w', S0 w' ↔ Since w w' := ⟨_, fun _ => Iff.rfl⟩
  have c1 : ∀ y : HeldW S0, y.w.cell? ⟨p, 2, none⟩ = some (.slice (some ⟨bw2, ow2, none⟩) d.wires.length cw2) := fun y => (hH.since ((hS0 _).1 y.h)).top
  have c2 : ∀ y : HeldW S0, y.w.cell? ⟨bw2, ow2 + f, none⟩ = some (.slice (some ⟨br2, oR2, none⟩) d.nodes.length cr2) := fun y => (hH.since ((hS0 _).1 y.h)).row
  have c3 : ∀ y : HeldW S0, y.w.cell? ⟨br2, oR2 + t, none⟩ = some (.slice la (rest.length + 1) lcc) := fun y => by have := (hH.since ((hS0 _).1 y.h)).cell; rw [hL8] at this; exact this
  have c4 : ∀ y : HeldW S0, y.w.cell? ⟨qf, 0, none⟩ = some (.int .i64 f) := fun y => (((hS0 _).1 y.h).cellAt hqfw _).trans hcf
  have c5 : ∀ y : HeldW S0, y.w.cell? ⟨qt, 0, none⟩ = some (.int .i64 t) := fun y => (((hS0 _).1 y.h).cellAt hqtw _).trans hct
  have hSi0 := (hS0 W0).2 hs0
  have hne : Nonempty (HeldW S0) := ⟨⟨_, hSi0⟩⟩
  have hneT := heldTrue w
  clear hL8 hE b1
  refine beginM (fun w' => ∃ x : HeldW S0, w' = x.w) (by kernel_rfl) ?_
  rw [hW0]
  clear hW0
  refine takeW 0 rfl (by kernel_rfl) (fun _ _ _ _ h => h) (by rfl) rfl ?_
  go_big_quiet_op
  refine takeW 1 rfl (by kernel_rfl) (fun _ _ _ _ h => h) (by rfl) rfl ?_
  go_big_quiet_op
  refine takeW 2 rfl (by kernel_rfl) (fun _ _ _ _ h => h) (by rfl) rfl ?_
  go_big_quiet_op
  refine takeW 3 rfl (by kernel_rfl) (fun _ _ _ _ h => h) (by rfl) rfl ?_
  go_big_quiet_op
  refine takeM 4 rfl (by kernel_rfl) (heldS_mk hSi0) (fun _ _ _ _ h => h) (by rfl) rfl ?_
  go_big_quiet_op
  refine takeM 5 rfl (by kernel_rfl) (heldS_mk hSi0) (fun _ _ _ _ h => h) (by rfl) rfl ?_
  go_big_quiet_op
  refine takeW 6 rfl (by kernel_rfl) (fun _ _ _ _ h => h) (by rfl) rfl ?_
  go_big_quiet_op
  refine takeM 7 rfl (by kernel_rfl) (heldS_mk hSi0) (fun _ _ _ _ h => h) (by rfl) rfl ?_
  go_big_quiet_op
  refine takeM 8 rfl (by kernel_rfl) (heldS_mk hSi0) (fun _ _ _ _ h => h) (by rfl) rfl ?_
  go_big_quiet_op
  refine takeW 9 rfl (by kernel_rfl) (fun _ _ _ _ h => h) (by rfl) rfl ?_
  go_big_quiet_op
  refine takeM 10 rfl (by kernel_rfl) (heldS_mk hSi0) (fun _ _ _ _ h => h) (by rfl) rfl ?_
  go_big_quiet_op
  refine takeM 11 rfl (by kernel_rfl) (heldS_mk hSi0) (fun _ _ _ _ h => h) (by rfl) rfl ?_
  go_big_quiet_op
  refine takeW 12 rfl (by kernel_rfl) (fun _ _ _ _ h => h) (by rfl) rfl ?_
  go_big_quiet_op
  refine actM 13 rfl (by kernel_rfl) ?_
  intro K hK
  go_simp
  refine (seaMust_t 7 _).mono ?_
  rintro e w' ⟨rfl, hw'⟩
  obtain rfl := hw'.symm
  dsimp only
  refine hK _ _ (fun h => absurd h (by decide +kernel)) ?_
  clear hK K
  refine doneM (by kernel_rfl) ?_
  clear c1 c2 c3 c4 c5 hne hneT
  have hcf0 := (hs0.cellAt hqfw _).trans hcf
  have hct0 := (hs0.cellAt hqtw _).trans hct
  have hlo0 : lo ≤ W0.heap.size := Nat.le_trans hlo hs0.size
  have hB0 := hB.since hs0
  clear hcf hct
  have hCo := come_any lo p f t d L W0 0 hB0 R hf ht M rest HE.out hlo0 (fun e w' => e = .returned (.tuple #[]) ∧ ∃ L', SeaB lo w' p d3 L' 0 ∧ Fr (Up lo fun _ => False) W0 w') (fun er' h w' hF => by rw [HPM.out] at h; cases h) (fun d' L' w' h hB' hF => by rw [HPM.out] at h; cases h; exact ⟨rfl, L', hB', hF⟩)
  go_wp2_with (go_at_call 89; refine hCo.mono ?_; rintro e w5 hR; obtain ⟨rfl, L5, hB5, hF05⟩ := hR.out)
  have hF5 := (hs0.up lo (fun _ => False)).upTrans hF05
  have hct5 := (hF05.cell (p := ⟨qt, 0, none⟩) (Nat.lt_of_lt_of_le hqtw hs0.size) (by rintro (h | h); exact h hqt; exact h)).trans hct0
  have hqt5 : qt < w5.heap.size := Nat.lt_of_lt_of_le hqtw hF5.size
  clear hR hCo hcf0 hct0
  have hpl5 := hB5.made.box.lt
  have b0 := hB5.made.box.c0
  have b1 := hB5.made.box.c1
  have b2 := hB5.made.box.c2
  obtain ⟨U0, hW0⟩ : ∃ y, w5.drew = y := ⟨_, rfl⟩
  have hs5 : Since w5 U0 := by rw [← hW0]; exact Since.drew (Since.refl _)
  obtain ⟨S5, hS5⟩ : ∃ S0 : World → Prop, ∀ w', S0 w' ↔ Since w5 w' := ⟨_, fun _ => Iff.rfl⟩
  have x0 : ∀ y : HeldW S5, y.w.cell? ⟨p, 0, none⟩ = some (.slice (L5 (0, 0, 0)).a d3.groups.length (L5 (0, 0, 0)).cap) := fun y => (((hS5 _).1 y.h).cellAt hpl5 _).trans b0
  have x1 : ∀ y : HeldW S5, y.w.cell? ⟨p, 1, none⟩ = some (.slice (L5 (1, 0, 0)).a d3.nodes.length (L5 (1, 0, 0)).cap) := fun y => (((hS5 _).1 y.h).cellAt hpl5 _).trans b1
  have x2 : ∀ y : HeldW S5, y.w.cell? ⟨p, 2, none⟩ = some (.slice (L5 (2, 0, 0)).a d3.wires.length (L5 (2, 0, 0)).cap) := fun y => (((hS5 _).1 y.h).cellAt hpl5 _).trans b2
  have x3 : ∀ y : HeldW S5, y.w.cell? ⟨qt, 0, none⟩ = some (.int .i64 t) := fun y => (((hS5 _).1 y.h).cellAt hqt5 _).trans hct5
  have hSi5 := (hS5 U0).2 hs5
  have hne : Nonempty (HeldW S5) := ⟨⟨_, hSi5⟩⟩
  have hneT := heldTrue w
  have hTN := tellNode_any (wvOf L5 d3) d3 t U0 (hB5.made.own.since hs5).wat
  unfold wvOf at hTN
  rw [HTL.out] at hTN
  dsimp only at hTN
  refine beginM (fun w' => ∃ x : HeldW S5, w' = x.w) (by kernel_rfl) ?_
  rw [hW0]
  clear hW0
  refine takeW 0 rfl (by kernel_rfl) (fun _ _ _ _ h => h) (by rfl) rfl ?_
  go_big_quiet_op
  refine takeW 1 rfl (by kernel_rfl) (fun _ _ _ _ h => h) (by rfl) rfl ?_
  go_big_quiet_op
  refine takeW 2 rfl (by kernel_rfl) (fun _ _ _ _ h => h) (by rfl) rfl ?_
  go_big_quiet_op
  refine takeW 3 rfl (by kernel_rfl) (fun _ _ _ _ h => h) (by rfl) rfl ?_
  go_big_quiet_op
  refine takeM 4 rfl (by kernel_rfl) (heldS_mk hSi5) (fun _ _ _ _ h => h) (by rfl) rfl ?_
  go_big_quiet_op
  refine takeM 5 rfl (by kernel_rfl) (heldS_mk hSi5) (fun _ _ _ _ h => h) (by rfl) rfl ?_
  go_big_quiet_op
  refine actM 6 rfl (by kernel_rfl) ?_
  intro K hK
  go_simp
  refine hTN.mono ?_
  rintro e wT hR
  obtain ⟨rfl, hFT⟩ := hR.out.1 er rfl
  have hST := hFT.none
  dsimp only
  refine hK _ _ (fun h => absurd h (by decide +kernel)) ?_
  clear hK K
  refine takeW 7 rfl (by kernel_rfl) (fun _ _ _ _ h => h) (by rfl) rfl ?_
  go_big_quiet_op
  refine takeW 8 rfl (by kernel_rfl) (fun _ _ _ _ h => h) (by rfl) rfl ?_
  go_big_quiet_op
  refine takeW 9 rfl (by kernel_rfl) (fun _ _ _ _ h => h) (by rfl) rfl ?_
  go_big_quiet_op
  refine actM 10 rfl (by kernel_rfl) ?_
  intro K hK
  go_simp
  refine (count_err p ⟨none, 0, 0, none, 0, 0, none, 0, 0⟩ 0 er her wT).mono ?_
  rintro e w' ⟨rfl, hS9⟩
  dsimp only
  exact ⟨rfl, rfl, hF5.upTrans (((hs5.trans hST).trans hS9).up _ _)⟩

set_option maxHeartbeats 1000000 in
theorem oneW_tok (lo p qf qt f t : Nat) (d : Wd) (L : Lay) (w : World) (hB : SeaB lo w p d L 0) (R : Right d) (hqf : qf < lo) (hqt : qt < lo) (hcf : w.cell? ⟨qf, 0, none⟩ = some (.int .i64 f)) (hct : w.cell? ⟨qt, 0, none⟩ = some (.int .i64 t)) (hlo : lo ≤ w.heap.size) (hf : f < d.nodes.length) (ht : t < d.nodes.length) (M : Mg) (rest : List Mg) (hE : wireAt d f t = M :: rest) (d3 : Wd) (HPM : Hid (preMoveD d f t = .ok d3)) (d4 : Wd) (mm : Int) (hmm : 0 ≤ mm ∧ mm ≤ 100000) (HTL : Hid (checked d3 (tellOfD d3 (t : Int)) = .ok (d4, mm))) :
    Calls Tryz.prog 86 #[.pointer (some ⟨p, 0, none⟩), .pointer (some ⟨qf, 0, none⟩), .pointer (some ⟨qt, 0, none⟩)] w fun e w' => e = .returned (.tuple #[]) ∧ ∃ L', SeaB lo w' p d4 L' mm ∧ Fr (Up lo fun _ => False) w w' := by
  have hpl := hB.made.box.lt
  have hlop := hB.lop
  have hqfw : qf < w.heap.size := by omega
  have hqtw : qt < w.heap.size := by omega
  have hwn : (f : Int) < (d.wires.length : Int) := by have := R.wlen; omega
  have htn : (t : Int) < (d.nodes.length : Int) := by omega
  have hfn : (f : Int) < (d.nodes.length : Int) := by omega
  obtain ⟨bw2, ow2, cw2, br2, oR2, cr2, hH⟩ := hB.made.headOf R.rows hf ht
  obtain ⟨la, lcc, hL8⟩ : ∃ la lcc, L (8, f, t) = ⟨la, lcc⟩ := ⟨_, _, rfl⟩
  have b1 := hB.made.box.c1
  have HE := (show Hid _ from hE)
  rw [hE] at hH
  go_enter Tryz.func86, Tryz.ntmps86
  go_wp2_with (go_at_call 87; refine (both_t p f t _ _ _ w b1 hfn htn).mono ?_; rintro e w' ⟨rfl, hw'⟩; obtain rfl := hw'.symm)
  obtain ⟨W0, hW0⟩ : ∃ y, w.drew = y := ⟨_, rfl⟩
  have hs0 : Since w W0 := by rw [← hW0]; exact Since.drew (Since.refl _)
  obtain ⟨S0, hS0⟩ : ∃ S0 : World → Prop, ∀ w', S0 w' ↔ Since w w' := ⟨_, fun _ => Iff.rfl⟩
  have c1 : ∀ y : HeldW S0, y.w.cell? ⟨p, 2, none⟩ = some (.slice (some ⟨bw2, ow2, none⟩) d.wires.length cw2) := fun y => (hH.since ((hS0 _).1 y.h)).top
  have c2 : ∀ y : HeldW S0, y.w.cell? ⟨bw2, ow2 + f, none⟩ = some (.slice (some ⟨br2, oR2, none⟩) d.nodes.length cr2) := fun y => (hH.since ((hS0 _).1 y.h)).row
  have c3 : ∀ y : HeldW S0, y.w.cell? ⟨br2, oR2 + t, none⟩ = some (.slice la (rest.length + 1) lcc) := fun y => by have := (hH.since ((hS0 _).1 y.h)).cell; rw [hL8] at this; exact this
  have c4 : ∀ y : HeldW S0, y.w.cell? ⟨qf, 0, none⟩ = some (.int .i64 f) := fun y => (((hS0 _).1 y.h).cellAt hqfw _).trans hcf
  have c5 : ∀ y : HeldW S0, y.w.cell? ⟨qt, 0, none⟩ = some (.int .i64 t) := fun y => (((hS0 _).1 y.h).cellAt hqtw _).trans hct
  have hSi0 := (hS0 W0).2 hs0
  have hne : Nonempty (HeldW S0) := ⟨⟨_, hSi0⟩⟩
  have hneT := heldTrue w
  clear hL8 hE b1
  refine beginM (fun w' => ∃ x : HeldW S0, w' = x.w) (by kernel_rfl) ?_
  rw [hW0]
  clear hW0
  refine takeW 0 rfl (by kernel_rfl) (fun _ _ _ _ h => h) (by rfl) rfl ?_
  go_big_quiet_op
  refine takeW 1 rfl (by kernel_rfl) (fun _ _ _ _ h => h) (by rfl) rfl ?_
  go_big_quiet_op
  refine takeW 2 rfl (by kernel_rfl) (fun _ _ _ _ h => h) (by rfl) rfl ?_
  go_big_quiet_op
  refine takeW 3 rfl (by kernel_rfl) (fun _ _ _ _ h => h) (by rfl) rfl ?_
  go_big_quiet_op
  refine takeM 4 rfl (by kernel_rfl) (heldS_mk hSi0) (fun _ _ _ _ h => h) (by rfl) rfl ?_
  go_big_quiet_op
  refine takeM 5 rfl (by kernel_rfl) (heldS_mk hSi0) (fun _ _ _ _ h => h) (by rfl) rfl ?_
  go_big_quiet_op
  refine takeW 6 rfl (by kernel_rfl) (fun _ _ _ _ h => h) (by rfl) rfl ?_
  go_big_quiet_op
  refine takeM 7 rfl (by kernel_rfl) (heldS_mk hSi0) (fun _ _ _ _ h => h) (by rfl) rfl ?_
  go_big_quiet_op
  refine takeM 8 rfl (by kernel_rfl) (heldS_mk hSi0) (fun _ _ _ _ h => h) (by rfl) rfl ?_
  go_big_quiet_op
  refine takeW 9 rfl (by kernel_rfl) (fun _ _ _ _ h => h) (by rfl) rfl ?_
  go_big_quiet_op
  refine takeM 10 rfl (by kernel_rfl) (heldS_mk hSi0) (fun _ _ _ _ h => h) (by rfl) rfl ?_
  go_big_quiet_op
  refine takeM 11 rfl (by kernel_rfl) (heldS_mk hSi0) (fun _ _ _ _ h => h) (by rfl) rfl ?_
  go_big_quiet_op
  refine takeW 12 rfl (by kernel_rfl) (fun _ _ _ _ h => h) (by rfl) rfl ?_
  go_big_quiet_op
  refine actM 13 rfl (by kernel_rfl) ?_
  intro K hK
  go_simp
  refine (seaMust_t 7 _).mono ?_
  rintro e w' ⟨rfl, hw'⟩
  obtain rfl := hw'.symm
  dsimp only
  refine hK _ _ (fun h => absurd h (by decide +kernel)) ?_
  clear hK K
  refine doneM (by kernel_rfl) ?_
  clear c1 c2 c3 c4 c5 hne hneT
  have hcf0 := (hs0.cellAt hqfw _).trans hcf
  have hct0 := (hs0.cellAt hqtw _).trans hct
  have hlo0 : lo ≤ W0.heap.size := Nat.le_trans hlo hs0.size
  have hB0 := hB.since hs0
  clear hcf hct
  have hCo := come_any lo p f t d L W0 0 hB0 R hf ht M rest HE.out hlo0 (fun e w' => e = .returned (.tuple #[]) ∧ ∃ L', SeaB lo w' p d3 L' 0 ∧ Fr (Up lo fun _ => False) W0 w') (fun er' h w' hF => by rw [HPM.out] at h; cases h) (fun d' L' w' h hB' hF => by rw [HPM.out] at h; cases h; exact ⟨rfl, L', hB', hF⟩)
  go_wp2_with (go_at_call 89; refine hCo.mono ?_; rintro e w5 hR; obtain ⟨rfl, L5, hB5, hF05⟩ := hR.out)
  have hF5 := (hs0.up lo (fun _ => False)).upTrans hF05
  have hct5 := (hF05.cell (p := ⟨qt, 0, none⟩) (Nat.lt_of_lt_of_le hqtw hs0.size) (by rintro (h | h); exact h hqt; exact h)).trans hct0
  have hqt5 : qt < w5.heap.size := Nat.lt_of_lt_of_le hqtw hF5.size
  clear hR hCo hcf0 hct0
  have hpl5 := hB5.made.box.lt
  have b0 := hB5.made.box.c0
  have b1 := hB5.made.box.c1
  have b2 := hB5.made.box.c2
  obtain ⟨U0, hW0⟩ : ∃ y, w5.drew = y := ⟨_, rfl⟩
  have hs5 : Since w5 U0 := by rw [← hW0]; exact Since.drew (Since.refl _)
  obtain ⟨S5, hS5⟩ : ∃ S0 : World → Prop, ∀ w', S0 w' ↔ Since w5 w' := ⟨_, fun _ => Iff.rfl⟩
  have x0 : ∀ y : HeldW S5, y.w.cell? ⟨p, 0, none⟩ = some (.slice (L5 (0, 0, 0)).a d3.groups.length (L5 (0, 0, 0)).cap) := fun y => (((hS5 _).1 y.h).cellAt hpl5 _).trans b0
  have x1 : ∀ y : HeldW S5, y.w.cell? ⟨p, 1, none⟩ = some (.slice (L5 (1, 0, 0)).a d3.nodes.length (L5 (1, 0, 0)).cap) := fun y => (((hS5 _).1 y.h).cellAt hpl5 _).trans b1
  have x2 : ∀ y : HeldW S5, y.w.cell? ⟨p, 2, none⟩ = some (.slice (L5 (2, 0, 0)).a d3.wires.length (L5 (2, 0, 0)).cap) := fun y => (((hS5 _).1 y.h).cellAt hpl5 _).trans b2
  have x3 : ∀ y : HeldW S5, y.w.cell? ⟨qt, 0, none⟩ = some (.int .i64 t) := fun y => (((hS5 _).1 y.h).cellAt hqt5 _).trans hct5
  have hSi5 := (hS5 U0).2 hs5
  have hne : Nonempty (HeldW S5) := ⟨⟨_, hSi5⟩⟩
  have hneT := heldTrue w
  have hTN := tellNode_any (wvOf L5 d3) d3 t U0 (hB5.made.own.since hs5).wat
  unfold wvOf at hTN
  rw [HTL.out] at hTN
  dsimp only at hTN
  refine beginM (fun w' => ∃ x : HeldW S5, w' = x.w) (by kernel_rfl) ?_
  rw [hW0]
  clear hW0
  refine takeW 0 rfl (by kernel_rfl) (fun _ _ _ _ h => h) (by rfl) rfl ?_
  go_big_quiet_op
  refine takeW 1 rfl (by kernel_rfl) (fun _ _ _ _ h => h) (by rfl) rfl ?_
  go_big_quiet_op
  refine takeW 2 rfl (by kernel_rfl) (fun _ _ _ _ h => h) (by rfl) rfl ?_
  go_big_quiet_op
  refine takeW 3 rfl (by kernel_rfl) (fun _ _ _ _ h => h) (by rfl) rfl ?_
  go_big_quiet_op
  refine takeM 4 rfl (by kernel_rfl) (heldS_mk hSi5) (fun _ _ _ _ h => h) (by rfl) rfl ?_
  go_big_quiet_op
  refine takeM 5 rfl (by kernel_rfl) (heldS_mk hSi5) (fun _ _ _ _ h => h) (by rfl) rfl ?_
  go_big_quiet_op
  refine actM 6 rfl (by kernel_rfl) ?_
  intro K hK
  go_simp
  refine hTN.mono ?_
  rintro e wT hR
  obtain ⟨L6, rfl, hO6, hFT⟩ := hR.out.2 d4 mm rfl
  have hST := hFT.none
  simp only [wval]
  refine hK _ _ (fun h => absurd h (by decide +kernel)) ?_
  clear hK K
  refine takeW 7 rfl (by kernel_rfl) (fun _ _ _ _ h => h) (by rfl) rfl ?_
  go_big_quiet_op
  refine takeW 8 rfl (by kernel_rfl) (fun _ _ _ _ h => h) (by rfl) rfl ?_
  go_big_quiet_op
  refine takeW 9 rfl (by kernel_rfl) (fun _ _ _ _ h => h) (by rfl) rfl ?_
  go_big_quiet_op
  refine actM 10 rfl (by kernel_rfl) ?_
  intro K hK
  go_simp
  have hCt := count_ok (L' := L6) (d' := d4) mm (by omega) hmm (hB5.since (hs5.trans hST)) (hO6.mono (by have := hs5.size; have := hB5.made.box.lt; omega))
  unfold wval at hCt
  refine hCt.mono ?_
  rintro e w9 ⟨rfl, hB9, hF9⟩
  dsimp only
  refine hK _ _ (fun h => absurd h (by decide +kernel)) ?_
  clear hK K
  refine doneM (by kernel_rfl) ?_
  clear x0 x1 x2 x3 hne hneT
  go_end0
  rw [Int.zero_add] at hB9
  exact ⟨rfl, L6, hB9, hF5.upTrans ((((hs5.trans hST).up _ _).upTrans (hF9.mono (fun i _ e => .inl (by have e : i = p := e; omega)))))⟩
end Go.Proofs.YtiiifecfdkjmbaaGreat
