/- Contracts of what move.Wire does in a sea, and of move.Wire; conditions: the world reads as one. -/
import Derived.BigQuiet
import Derived.Test.YtiiifecfdkjmbaaGreatSMove
import Derived.Test.YtiiifecfdkjmbaaGreatPureX
import Derived.Test.YtiiifecfdkjmbaaGreatRDoneX
namespace Go.Proofs.YtiiifecfdkjmbaaGreat
set_option maxRecDepth 8000
open Go.RowKit Go.Shelf
open _root_.Go.Proofs.YtiiifecfdkjmbaaGreat.Pure
set_option linter.unusedVariables false
set_option linter.unusedSimpArgs false

theorem moves_succ (f t : Nat) : ∀ (k : Nat) (d : Wd), movesD f t (k + 1) d = (movesD f t k d).bind fun d' => moveD d' f t
  | 0, d => by
    show (moveD d f t).bind (movesD f t 0) = moveD d f t
    cases moveD d f t <;> rfl
  | k + 1, d => by
    show (moveD d f t).bind (movesD f t (k + 1)) = ((moveD d f t).bind (movesD f t k)).bind _
    cases h : moveD d f t with
    | error e => rfl
    | ok d1 => exact moves_succ f t k d1
theorem moves_fail {f t : Nat} {d : Wd} {e : Int} {k : Nat} (h : movesD f t k d = .error e) : ∀ j, movesD f t (k + j) d = .error e
  | 0 => h
  | j + 1 => by rw [← Nat.add_assoc, moves_succ, moves_fail h j]; rfl
theorem moveOf_right {d : Wd} {f t : Nat} (R : Right d) (hf : f < d.nodes.length) (ht : t < d.nodes.length) : moveOfD d (f : Int) (t : Int) = moveD d f t := by
  unfold moveOfD
  rw [if_pos ((right_iff d).2 R), if_pos (by simp [inB]; omega), Int.toNat_natCast, Int.toNat_natCast]
/-- A wire emptied, with the nodes' numbers as they come, and the count as the program has it. -/
def wireSD (d : Wd) (f t : Int) : Except Int (Wd × Int) :=
  if inB f 0 ((d.nodes.length : Int) - 1) && inB t 0 ((d.nodes.length : Int) - 1) then (wireD d f.toNat t.toNat).bind fun r => .ok (r.1, (r.2 : Int)) else .error 4
theorem wireW_no (lo p qf qt : Nat) (f t : Int) (d : Wd) (L : Lay) (w : World) (hB : SeaB lo w p d L 0) (hcf : w.cell? ⟨qf, 0, none⟩ = some (.int .i64 f)) (hct : w.cell? ⟨qt, 0, none⟩ = some (.int .i64 t)) (hn : ((decide (0 ≤ f) && decide (f < (d.nodes.length : Int))) && (decide (0 ≤ t) && decide (t < (d.nodes.length : Int)))) = false) :
    Calls Tryz.prog 95 #[.pointer (some ⟨p, 0, none⟩), .pointer (some ⟨qf, 0, none⟩), .pointer (some ⟨qt, 0, none⟩)] w fun e w' => e = .panicked (pan 4) ∧ Fr (Up lo fun _ => False) w w' := by
  have b1 := hB.made.box.c1
  have hb := both_f p f t _ _ _ w b1 hn
  clear hn
  go_enter Tryz.func95, Tryz.ntmps95
  go_wp2_with (go_at_call 87; refine hb.mono ?_; rintro e w' ⟨rfl, hw'⟩; obtain rfl := hw'.symm)
  exact ⟨rfl, rfl, Fr.refl _ _⟩

set_option maxHeartbeats 2000000 in
theorem wireW_key (lo p qf qt f t : Nat) (d : Wd) (L : Lay) (w : World) (hB : SeaB lo w p d L 0) (R : Right d) (hqf : qf < lo) (hqt : qt < lo) (hcf : w.cell? ⟨qf, 0, none⟩ = some (.int .i64 f)) (hct : w.cell? ⟨qt, 0, none⟩ = some (.int .i64 t)) (hlo : lo ≤ w.heap.size) (hf : f < d.nodes.length) (ht : t < d.nodes.length) (N : Nat) (hN : (wireAt d f t).length = N) (Post : Ending → World → Prop)
    (hErr : ∀ er, movesD f t N d = .error er → ∀ w', Fr (Up lo fun _ => False) w w' → Post (.panicked (pan er)) w')
    (hOk : ∀ d' L' w', movesD f t N d = .ok d' → SeaB lo w' p d' L' (N : Int) → Fr (Up lo fun _ => False) w w' → Post (.returned (.tuple #[])) w') :
    Calls Tryz.prog 95 #[.pointer (some ⟨p, 0, none⟩), .pointer (some ⟨qf, 0, none⟩), .pointer (some ⟨qt, 0, none⟩)] w fun e w' => Hid (Post e w') := by
  have HERR := (show Hid _ from hErr)
  have HOK := (show Hid _ from hOk)
  have HN : Hid ((wireAt d f t).length = N) := hN
  have HN40 : Hid (N ≤ 40) := by unfold Hid; rw [← hN]; exact R.wireN f t
  have HR : Hid (Right d) := R
  clear hErr hOk hN R
  have hpl := hB.made.box.lt
  have hlop := hB.lop
  have hqfw : qf < w.heap.size := by omega
  have hqtw : qt < w.heap.size := by omega
  have htn : (t : Int) < (d.nodes.length : Int) := by omega
  have hfn : (f : Int) < (d.nodes.length : Int) := by omega
  have b1 := hB.made.box.c1
  have QF : Hid (∀ y, Fr (Up lo fun _ => False) w y → y.cell? ⟨qf, 0, none⟩ = some (.int .i64 f) ∧ y.cell? ⟨qt, 0, none⟩ = some (.int .i64 t)) := fun y hy =>
    ⟨(hy.cell (p := ⟨qf, 0, none⟩) hqfw (by rintro (h | h); exact h hqf; exact h)).trans hcf, (hy.cell (p := ⟨qt, 0, none⟩) hqtw (by rintro (h | h); exact h hqt; exact h)).trans hct⟩
  go_enter Tryz.func95, Tryz.ntmps95
  go_wp2_with (go_at_call 87; refine (both_t p f t _ _ _ w b1 hfn htn).mono ?_; rintro e w' ⟨rfl, hw'⟩; obtain rfl := hw'.symm)
  clear b1 hcf hct htn hfn
  go_loopw [] (fun wr => ∃ (k : Nat) (dk : Wd) (Lk : Lay), k ≤ N ∧ movesD f t k d = .ok dk ∧ SeaB lo wr p dk Lk (k : Int) ∧ Fr (Up lo fun _ => False) w wr) (fun wr => N - (intOf ((wr.cell? ⟨p, 3, none⟩).getD (.int .i64 0))).toNat)
  case atStart => exact ⟨0, d, L, Nat.zero_le _, rfl, hB, Fr.refl _ _⟩
  case round =>
    clear hB
    obtain ⟨wo, rfl⟩ : ∃ wo, wo = wr := ⟨_, rfl⟩
    obtain ⟨k, dk, Lk, hk, hmv, hSB, hUp⟩ := hrel
    have HMV : Hid (movesD f t k d = .ok dk) := hmv
    have HSB : Hid (SeaB lo wo p dk Lk (k : Int)) := hSB
    have hms := moves_ok k d dk HR.out hf ht (by rw [HN.out]; exact hk) hmv
    have HRK : Hid (Right dk ∧ dk.nodes.length = d.nodes.length) := ⟨hms.right, hms.grow.alike.n⟩
    obtain ⟨nn, hnn⟩ : ∃ nn, (wireAt dk f t).length = nn := ⟨_, rfl⟩
    have HNN : Hid ((wireAt dk f t).length = nn) := hnn
    have HNK : Hid (nn = N - k) := by unfold Hid; rw [← hnn, hms.here, List.length_drop, HN.out]
    have hlow : lo ≤ wo.heap.size := Nat.le_trans hlo hUp.size
    have hfk : f < dk.nodes.length := by rw [HRK.out.2]; exact hf
    have htk : t < dk.nodes.length := by rw [HRK.out.2]; exact ht
    have hwn : (f : Int) < (dk.wires.length : Int) := by have := HRK.out.1.wlen; omega
    have htn : (t : Int) < (dk.nodes.length : Int) := by omega
    have hpl := hSB.made.box.lt
    have hqfo : qf < wo.heap.size := by omega
    have hqto : qt < wo.heap.size := by omega
    obtain ⟨q1, q2⟩ := QF.out _ hUp
    obtain ⟨bw2, ow2, cw2, br2, oR2, cr2, hH⟩ := hSB.made.headOf HRK.out.1.rows hfk htk
    obtain ⟨la, lcc, hL8⟩ : ∃ la lcc, Lk (8, f, t) = ⟨la, lcc⟩ := ⟨_, _, rfl⟩
    have hcell := hH.cell
    rw [hL8, hnn] at hcell
    dsimp only [Sl.v] at hcell
    have hbr := hH.ltr
    have HK : Hid (k ≤ N) := hk
    clear hmv hms hnn hL8 hk
    by_cases hlt : k < N
    · have hp : (0 : Int) < (nn : Int) := by have := HNK.out; omega
      have HLT : Hid (k < N) := hlt
      clear hlt
      obtain ⟨W0, hW0⟩ : ∃ y, wo.drew = y := ⟨_, rfl⟩
      have hs0 : Since wo W0 := by rw [← hW0]; exact Since.drew (Since.refl _)
      obtain ⟨S0, hS0⟩ : ∃ S0 : World → Prop, ∀ w', S0 w' ↔ Since wo w' := ⟨_, fun _ => Iff.rfl⟩
      have c1 : ∀ y : HeldW S0, y.w.cell? ⟨p, 2, none⟩ = some (.slice (some ⟨bw2, ow2, none⟩) dk.wires.length cw2) := fun y => (hH.since ((hS0 _).1 y.h)).top
      have c2 : ∀ y : HeldW S0, y.w.cell? ⟨bw2, ow2 + f, none⟩ = some (.slice (some ⟨br2, oR2, none⟩) dk.nodes.length cr2) := fun y => (hH.since ((hS0 _).1 y.h)).row
      have c3 : ∀ y : HeldW S0, y.w.cell? ⟨br2, oR2 + t, none⟩ = some (.slice la nn lcc) := fun y => (((hS0 _).1 y.h).cellAt hbr _).trans hcell
      have c4 : ∀ y : HeldW S0, y.w.cell? ⟨qf, 0, none⟩ = some (.int .i64 f) := fun y => (((hS0 _).1 y.h).cellAt hqfo _).trans q1
      have c5 : ∀ y : HeldW S0, y.w.cell? ⟨qt, 0, none⟩ = some (.int .i64 t) := fun y => (((hS0 _).1 y.h).cellAt hqto _).trans q2
      have hSi0 := (hS0 W0).2 hs0
      have hne : Nonempty (HeldW S0) := ⟨⟨_, hSi0⟩⟩
      have hneT := heldTrue w
      go_wp2_with fail
      refine beginM (fun w' => ∃ x : HeldW S0, w' = x.w) (by kernel_rfl) ?_
      rw [hW0]
      clear hW0
      refine takeW 0 rfl (by kernel_rfl) (fun _ _ _ _ h => h) (by rfl) rfl ?_
      go_big_quiet_op
      refine takeW 1 rfl (by kernel_rfl) (fun _ _ _ _ h => h) (by rfl) rfl ?_
      go_big_quiet_op
      refine takeW 2 rfl (by kernel_rfl) (fun _ _ _ _ h => h) (by rfl) rfl ?_
      go_big_quiet_op
      refine takeW 3 rfl (by kernel_rfl) (fun _ _ _ _ h => h) (by rfl) rfl ?_
      go_big_quiet_op
      refine takeM 4 rfl (by kernel_rfl) (heldS_mk hSi0) (fun _ _ _ _ h => h) (by rfl) rfl ?_
      go_big_quiet_op
      refine takeM 5 rfl (by kernel_rfl) (heldS_mk hSi0) (fun _ _ _ _ h => h) (by rfl) rfl ?_
      go_big_quiet_op
      refine takeW 6 rfl (by kernel_rfl) (fun _ _ _ _ h => h) (by rfl) rfl ?_
      go_big_quiet_op
      refine takeM 7 rfl (by kernel_rfl) (heldS_mk hSi0) (fun _ _ _ _ h => h) (by rfl) rfl ?_
      go_big_quiet_op
      refine takeM 8 rfl (by kernel_rfl) (heldS_mk hSi0) (fun _ _ _ _ h => h) (by rfl) rfl ?_
      go_big_quiet_op
      refine takeW 9 rfl (by kernel_rfl) (fun _ _ _ _ h => h) (by rfl) rfl ?_
      go_big_quiet_op
      refine takeM 10 rfl (by kernel_rfl) (heldS_mk hSi0) (fun _ _ _ _ h => h) (by rfl) rfl ?_
      go_big_quiet_op
      refine takeM 11 rfl (by kernel_rfl) (heldS_mk hSi0) (fun _ _ _ _ h => h) (by rfl) rfl ?_
      go_big_quiet_op
      refine takeW 12 rfl (by kernel_rfl) (fun _ _ _ _ h => h) (by rfl) rfl ?_
      go_big_quiet_op
      refine doneM (by kernel_rfl) ?_
      have hp' := hp
      clear c1 c2 c3 c4 c5 hne
      have hB0 := hSB.since hs0
      have b0 := hB0.made.box.c0
      have b1 := hB0.made.box.c1
      have b2 := hB0.made.box.c2
      have hpl0 := hB0.made.box.lt
      have q1' := (hs0.cellAt hqfo _).trans q1
      have q2' := (hs0.cellAt hqto _).trans q2
      have hqf0 : qf < W0.heap.size := Nat.lt_of_lt_of_le hqfo hs0.size
      have hqt0 : qt < W0.heap.size := Nat.lt_of_lt_of_le hqto hs0.size
      clear q1 q2 hcell
      obtain ⟨W1, hW0⟩ : ∃ y, W0.drew = y := ⟨_, rfl⟩
      have hs1 : Since W0 W1 := by rw [← hW0]; exact Since.drew (Since.refl _)
      obtain ⟨S1, hS1⟩ : ∃ S0 : World → Prop, ∀ w', S0 w' ↔ Since W0 w' := ⟨_, fun _ => Iff.rfl⟩
      have x0 : ∀ y : HeldW S1, y.w.cell? ⟨p, 0, none⟩ = some (.slice (Lk (0, 0, 0)).a dk.groups.length (Lk (0, 0, 0)).cap) := fun y => (((hS1 _).1 y.h).cellAt hpl0 _).trans b0
      have x1 : ∀ y : HeldW S1, y.w.cell? ⟨p, 1, none⟩ = some (.slice (Lk (1, 0, 0)).a dk.nodes.length (Lk (1, 0, 0)).cap) := fun y => (((hS1 _).1 y.h).cellAt hpl0 _).trans b1
      have x2 : ∀ y : HeldW S1, y.w.cell? ⟨p, 2, none⟩ = some (.slice (Lk (2, 0, 0)).a dk.wires.length (Lk (2, 0, 0)).cap) := fun y => (((hS1 _).1 y.h).cellAt hpl0 _).trans b2
      have x3 : ∀ y : HeldW S1, y.w.cell? ⟨qf, 0, none⟩ = some (.int .i64 f) := fun y => (((hS1 _).1 y.h).cellAt hqf0 _).trans q1'
      have x4 : ∀ y : HeldW S1, y.w.cell? ⟨qt, 0, none⟩ = some (.int .i64 t) := fun y => (((hS1 _).1 y.h).cellAt hqt0 _).trans q2'
      have hSi1 := (hS1 W1).2 hs1
      have hne : Nonempty (HeldW S1) := ⟨⟨_, hSi1⟩⟩
      have hOne := moveOne_any (wvOf Lk dk) dk f t W1 (hB0.made.own.since hs1).wat
      unfold wvOf at hOne
      rw [moveOf_right HRK.out.1 hfk htk] at hOne
      dsimp only at hOne
      have HM1 : Hid (movesD f t (k + 1) d = moveD dk f t) := by unfold Hid; rw [moves_succ, HMV.out]; rfl
      obtain ⟨r, hr⟩ : ∃ r, moveD dk f t = r := ⟨_, rfl⟩
      rw [hr] at hOne
      have HRR : Hid (movesD f t (k + 1) d = r) := by unfold Hid; rw [HM1.out, hr]
      have HNZ : Hid (∀ e, r = .error e → (e == 0) = false) := fun e h => by rw [h] at hr; have := moveD_nz hr; simpa using this
      clear hr b0 b1 b2 q1' q2'
      cases r with
      | error er =>
        have her := HNZ.out er rfl
        go_wp2_with fail
        refine beginM (fun w' => ∃ x : HeldW S1, w' = x.w) (by kernel_rfl) ?_
        rw [hW0]
        clear hW0
        refine takeW 0 rfl (by kernel_rfl) (fun _ _ _ _ h => h) (by rfl) rfl ?_
        go_big_quiet_op
        refine takeW 1 rfl (by kernel_rfl) (fun _ _ _ _ h => h) (by rfl) rfl ?_
        go_big_quiet_op
        refine takeW 2 rfl (by kernel_rfl) (fun _ _ _ _ h => h) (by rfl) rfl ?_
        go_big_quiet_op
        refine takeW 3 rfl (by kernel_rfl) (fun _ _ _ _ h => h) (by rfl) rfl ?_
        go_big_quiet_op
        refine takeM 4 rfl (by kernel_rfl) (heldS_mk hSi1) (fun _ _ _ _ h => h) (by rfl) rfl ?_
        go_big_quiet_op
        refine takeM 5 rfl (by kernel_rfl) (heldS_mk hSi1) (fun _ _ _ _ h => h) (by rfl) rfl ?_
        go_big_quiet_op
        refine takeM 6 rfl (by kernel_rfl) (heldS_mk hSi1) (fun _ _ _ _ h => h) (by rfl) rfl ?_
        go_big_quiet_op
        refine actM 7 rfl (by kernel_rfl) ?_
        intro K hK
        go_simp
        refine hOne.mono ?_
        rintro e wT hR
        obtain ⟨rfl, hST⟩ := hR.out.1 er rfl
        dsimp only
        refine hK _ _ (fun h => absurd h (by decide +kernel)) ?_
        clear hK K
        refine takeW 8 rfl (by kernel_rfl) (fun _ _ _ _ h => h) (by rfl) rfl ?_
        go_big_quiet_op
        refine takeW 9 rfl (by kernel_rfl) (fun _ _ _ _ h => h) (by rfl) rfl ?_
        go_big_quiet_op
        refine actM 10 rfl (by kernel_rfl) ?_
        intro K hK
        go_simp
        refine (become_err p ⟨none, 0, 0, none, 0, 0, none, 0, 0⟩ er her wT).mono ?_
        rintro e w' ⟨rfl, hS9⟩
        dsimp only
        exact ⟨rfl, HERR.out er (by have := moves_fail HRR.out (N - (k + 1)); rwa [show k + 1 + (N - (k + 1)) = N from by have := HLT.out; omega] at this) _ (hUp.upTrans ((((hs0.trans hs1).trans hST).trans hS9).up _ _))⟩
      | ok d2 =>
        go_wp2_with fail
        refine beginM (fun w' => ∃ x : HeldW S1, w' = x.w) (by kernel_rfl) ?_
        rw [hW0]
        clear hW0
        refine takeW 0 rfl (by kernel_rfl) (fun _ _ _ _ h => h) (by rfl) rfl ?_
        go_big_quiet_op
        refine takeW 1 rfl (by kernel_rfl) (fun _ _ _ _ h => h) (by rfl) rfl ?_
        go_big_quiet_op
        refine takeW 2 rfl (by kernel_rfl) (fun _ _ _ _ h => h) (by rfl) rfl ?_
        go_big_quiet_op
        refine takeW 3 rfl (by kernel_rfl) (fun _ _ _ _ h => h) (by rfl) rfl ?_
        go_big_quiet_op
        refine takeM 4 rfl (by kernel_rfl) (heldS_mk hSi1) (fun _ _ _ _ h => h) (by rfl) rfl ?_
        go_big_quiet_op
        refine takeM 5 rfl (by kernel_rfl) (heldS_mk hSi1) (fun _ _ _ _ h => h) (by rfl) rfl ?_
        go_big_quiet_op
        refine takeM 6 rfl (by kernel_rfl) (heldS_mk hSi1) (fun _ _ _ _ h => h) (by rfl) rfl ?_
        go_big_quiet_op
        refine actM 7 rfl (by kernel_rfl) ?_
        intro K hK
        go_simp
        refine hOne.mono ?_
        rintro e wT hR
        obtain ⟨L6, rfl, hO6, hST⟩ := hR.out.2 d2 rfl
        simp only [wval]
        refine hK _ _ (fun h => absurd h (by decide +kernel)) ?_
        clear hK K
        refine takeW 8 rfl (by kernel_rfl) (fun _ _ _ _ h => h) (by rfl) rfl ?_
        go_big_quiet_op
        refine takeW 9 rfl (by kernel_rfl) (fun _ _ _ _ h => h) (by rfl) rfl ?_
        go_big_quiet_op
        refine actM 10 rfl (by kernel_rfl) ?_
        intro K hK
        go_simp
        have hCt := become_ok (L' := L6) (d' := d2) (hB0.since (hs1.trans hST)) (hO6.mono (by have := hs1.size; have := hB0.made.box.lt; omega))
        unfold wval at hCt
        refine hCt.mono ?_
        rintro e w9 ⟨rfl, hB9, hF9⟩
        dsimp only
        refine hK _ _ (fun h => absurd h (by decide +kernel)) ?_
        clear hK K
        refine doneM (by kernel_rfl) ?_
        clear x0 x1 x2 x3 x4 hne hneT hOne
        have cm := hB9.cm
        have zm := hB9.zm
        have hk1 : IntKind.i64.wrap ((k : Int) + 1) = (k : Int) + 1 := IntWalk.i64_in _ (by have := HLT.out; have := HN40.out; omega)
        have hU9 : Fr (Up lo fun _ => False) w w9 := hUp.upTrans ((((hs0.trans hs1).trans hST).up _ _).upTrans (hF9.mono (fun i _ e => .inl (by have e : i = p := e; omega))))
        obtain ⟨wE, hwE⟩ : ∃ y, w9.setCell ⟨p, 3, none⟩ (.int .i64 ((k : Int) + 1)) = y := ⟨_, rfl⟩
        have hBE := hB9.many ((k : Int) + 1)
        rw [hwE] at hBE
        have hUE : Fr (Up lo fun _ => False) w wE := by rw [← hwE]; exact hU9.upTrans ((Fr.refl _ w9).setCell ⟨p, 3, none⟩ _ (fun _ => .inl (by show ¬ p < lo; omega)))
        go_wp2
        go_roundw
        case rel => exact ⟨k + 1, d2, L6, HLT.out, HRR.out, by have := hBE; rwa [show ((k + 1 : Nat) : Int) = (k : Int) + 1 from by omega], hUE⟩
        case measure =>
          have h1 := hBE.cm
          have h2 := HSB.out.cm
          have := HLT.out
          simp [h1, h2, intOf]
          omega
    · have HE : Hid (N = k) := by unfold Hid; have := HK.out; omega
      have hp : ¬ (0 : Int) < (nn : Int) := by have := HNK.out; omega
      clear hlt
      obtain ⟨W0, hW0⟩ : ∃ y, wo.drew = y := ⟨_, rfl⟩
      have hs0 : Since wo W0 := by rw [← hW0]; exact Since.drew (Since.refl _)
      obtain ⟨S0, hS0⟩ : ∃ S0 : World → Prop, ∀ w', S0 w' ↔ Since wo w' := ⟨_, fun _ => Iff.rfl⟩
      have c1 : ∀ y : HeldW S0, y.w.cell? ⟨p, 2, none⟩ = some (.slice (some ⟨bw2, ow2, none⟩) dk.wires.length cw2) := fun y => (hH.since ((hS0 _).1 y.h)).top
      have c2 : ∀ y : HeldW S0, y.w.cell? ⟨bw2, ow2 + f, none⟩ = some (.slice (some ⟨br2, oR2, none⟩) dk.nodes.length cr2) := fun y => (hH.since ((hS0 _).1 y.h)).row
      have c3 : ∀ y : HeldW S0, y.w.cell? ⟨br2, oR2 + t, none⟩ = some (.slice la nn lcc) := fun y => (((hS0 _).1 y.h).cellAt hbr _).trans hcell
      have c4 : ∀ y : HeldW S0, y.w.cell? ⟨qf, 0, none⟩ = some (.int .i64 f) := fun y => (((hS0 _).1 y.h).cellAt hqfo _).trans q1
      have c5 : ∀ y : HeldW S0, y.w.cell? ⟨qt, 0, none⟩ = some (.int .i64 t) := fun y => (((hS0 _).1 y.h).cellAt hqto _).trans q2
      have hSi0 := (hS0 W0).2 hs0
      have hne : Nonempty (HeldW S0) := ⟨⟨_, hSi0⟩⟩
      have hneT := heldTrue w
      go_wp2_with fail
      refine beginM (fun w' => ∃ x : HeldW S0, w' = x.w) (by kernel_rfl) ?_
      rw [hW0]
      clear hW0
      refine takeW 0 rfl (by kernel_rfl) (fun _ _ _ _ h => h) (by rfl) rfl ?_
      go_big_quiet_op
      refine takeW 1 rfl (by kernel_rfl) (fun _ _ _ _ h => h) (by rfl) rfl ?_
      go_big_quiet_op
      refine takeW 2 rfl (by kernel_rfl) (fun _ _ _ _ h => h) (by rfl) rfl ?_
      go_big_quiet_op
      refine takeW 3 rfl (by kernel_rfl) (fun _ _ _ _ h => h) (by rfl) rfl ?_
      go_big_quiet_op
      refine takeM 4 rfl (by kernel_rfl) (heldS_mk hSi0) (fun _ _ _ _ h => h) (by rfl) rfl ?_
      go_big_quiet_op
      refine takeM 5 rfl (by kernel_rfl) (heldS_mk hSi0) (fun _ _ _ _ h => h) (by rfl) rfl ?_
      go_big_quiet_op
      refine takeW 6 rfl (by kernel_rfl) (fun _ _ _ _ h => h) (by rfl) rfl ?_
      go_big_quiet_op
      refine takeM 7 rfl (by kernel_rfl) (heldS_mk hSi0) (fun _ _ _ _ h => h) (by rfl) rfl ?_
      go_big_quiet_op
      refine takeM 8 rfl (by kernel_rfl) (heldS_mk hSi0) (fun _ _ _ _ h => h) (by rfl) rfl ?_
      go_big_quiet_op
      refine takeW 9 rfl (by kernel_rfl) (fun _ _ _ _ h => h) (by rfl) rfl ?_
      go_big_quiet_op
      refine takeM 10 rfl (by kernel_rfl) (heldS_mk hSi0) (fun _ _ _ _ h => h) (by rfl) rfl ?_
      go_big_quiet_op
      refine takeM 11 rfl (by kernel_rfl) (heldS_mk hSi0) (fun _ _ _ _ h => h) (by rfl) rfl ?_
      go_big_quiet_op
      refine takeW 12 rfl (by kernel_rfl) (fun _ _ _ _ h => h) (by rfl) rfl ?_
      go_big_quiet_op
      refine doneM (by kernel_rfl) ?_
      clear c1 c2 c3 c4 c5 hne hneT
      go_wp2
      go_end0
      have hmv := HMV.out
      rw [← HE.out] at hmv
      exact HOK.out dk Lk _ hmv (by have := HSB.out.since hs0; rwa [← HE.out] at this) (hUp.upTrans (hs0.up _ _))
end Go.Proofs.YtiiifecfdkjmbaaGreat
