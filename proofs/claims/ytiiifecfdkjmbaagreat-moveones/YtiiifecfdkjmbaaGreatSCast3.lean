/- What cast.cast does in a sea, way by way; conditions: the world lies in a sea, and is right. -/
import Derived.BigQuiet
import Derived.Test.YtiiifecfdkjmbaaGreatSCast2
import Derived.Test.YtiiifecfdkjmbaaGreatSHold
namespace Go.Proofs.YtiiifecfdkjmbaaGreat
set_option maxRecDepth 8000
open Go.RowKit Go.Shelf
open _root_.Go.Proofs.YtiiifecfdkjmbaaGreat.Pure
set_option linter.unusedVariables false
set_option linter.unusedSimpArgs false

theorem SeaB.fr {B : Nat → Prop} {lo : Nat} {w w' : World} {p : Nat} {d : Wd} {L : Lay} {c : Int} (h : SeaB lo w p d L c) (k : Fr B w w') (hB : ∀ b, blkW d L b → ¬ B b) (hp : ¬ B p) : SeaB lo w' p d L c :=
  ⟨⟨h.made.own.fr k hB, h.made.box.fr k hp, h.made.off⟩, h.lop, (k.cell (p := ⟨p, 3, none⟩) h.made.box.lt hp).trans h.cm, (k.frozen (p := ⟨p, 3, none⟩) h.made.box.lt hp).trans h.zm⟩

set_option maxHeartbeats 1000000 in
theorem castW_post (lo p q k : Nat) (g st : Int) (nul : Bool) (body : ByteArray) (d d1 : Wd) (L : Lay) (w : World) (x : Nd) (hB : SeaB lo w p d L 0) (R : Right d) (hq : q < lo) (hMq : MsgAt w q 0 ⟨(k : Int), g, 0, nul, body⟩) (hqz : w.frozen? ⟨q, 2, none⟩ = false) (hx : d.nodes[k]? = some x) (hE : castE d k g body.size = 0) (hst : x.clock + 1 = st) (hd1 : setNode d k { x with clock := st } = d1) (hlo : lo ≤ w.heap.size) (er : Int) (hR1 : RowsOk d1) (hW1' : ∀ f t, (wireAt d1 f t).length ≤ 40) (hN : d1.nodes.length ≤ 1000) (hk1 : k < d1.nodes.length) (hlay : layTo ⟨(k : Int), g, st, nul, body⟩ k d1 d1.nodes.length = .error er) :
    Calls Tryz.prog 141 #[.pointer (some ⟨p, 0, none⟩), .pointer (some ⟨q, 0, none⟩)] w fun e w' => e = .panicked (pan er) ∧ Fr (Up lo fun i => i = q) w w' := by
  have hMq0 := hMq
  have HLAY := (show Hid _ from hlay)
  have HR1 : Hid (RowsOk d1) := hR1
  have HW1 : Hid (∀ f t, (wireAt d1 f t).length ≤ 40) := hW1'
  clear hlay hR1 hW1'
  have hk := node_lt hx
  have hpl := hB.made.box.lt
  have hlop := hB.lop
  have hqw : q < w.heap.size := by omega
  obtain ⟨bn, on, cn, hL1, hlb, hbn, hbk, hcn⟩ := hB.made.own.lies (ix := (1, 0, 0)) ⟨rfl, rfl⟩ (by show 0 < d.nodes.length; omega)
  obtain ⟨k0, _, _, _, kz⟩ := hB.made.own.cells hx hL1
  have kz0 := kz 0 (by omega)
  rw [Nat.add_zero] at kz0
  have b1 := hB.made.box.c1
  rw [hL1] at b1
  dsimp only at b1
  have HL1 : Hid (L (1, 0, 0) = ⟨some ⟨bn, on, none⟩, cn⟩) := hL1
  have hcl := R.clk k
  rw [(at_node hx).1] at hcl
  have hne3 : ¬ x.clock = 1048576 := by
    intro e
    have hE' := hE
    unfold castE at hE'
    rw [Int.toNat_natCast, (at_node hx).1, e] at hE'
    split at hE'; cases hE'; split at hE'; cases hE'; split at hE'; cases hE'; simp at hE'
  have hst' : IntKind.i64.wrap (x.clock + 1) = st := by rw [hst]; exact IntWalk.i64_in _ (by omega)
  have n1 : (k : Int) < (d.nodes.length : Int) := by omega
  have hMay := may_any lo p ⟨(k : Int), g, 0, nul, body⟩ d L w 0 hB R
  dsimp only at hMay
  obtain ⟨q0, q1, q2, q3, q4⟩ := hMq
  simp only [Nat.zero_add] at q0 q1 q2 q3 q4
  have HST : Hid (x.clock + 1 = st) := hst
  have HD1 : Hid (setNode d k { x with clock := st } = d1) := hd1
  have HE : Hid (castE d k g body.size = 0) := hE
  have hqo : ¬ blkW d L q := fun hb => by have := (hB.made.own.blk hb).1; omega
  clear hL1 hst hd1 hE kz hne3
  go_enter Tryz.func141, Tryz.ntmps141
  go_wp2_with (go_at_call 142; refine hMay.mono ?_; rintro e w2 hR; obtain ⟨h1, _, hS2⟩ := hR.out; obtain rfl := h1 HE.out; clear h1 hR)
  clear q0 q1 q2 q3 q4
  have QF : Hid (∀ y, Since w y → MsgAt y q 0 ⟨(k : Int), g, 0, nul, body⟩ ∧ y.frozen? ⟨q, 2, none⟩ = false) := fun y hy => ⟨msgAt_since hMq0 hqw hy, (hy.below.frozen (p := ⟨q, 2, none⟩) hqw).trans hqz⟩
  obtain ⟨S0, hS0⟩ : ∃ S0 : World → Prop, ∀ w', S0 w' ↔ Since w w' := ⟨_, fun _ => Iff.rfl⟩
  have hneT := heldTrue w
  have x1 : ∀ y : HeldW S0, y.w.cell? ⟨p, 1, none⟩ = some (.slice (some ⟨bn, on, none⟩) d.nodes.length cn) := fun y => (((hS0 _).1 y.h).cellAt hpl _).trans b1
  have x2 : ∀ y : HeldW S0, y.w.cell? ⟨bn, on + k * 4, none⟩ = some (.int .i64 x.clock) := fun y => (((hS0 _).1 y.h).cellAt hbn _).trans k0
  have m0 : ∀ y : HeldW S0, y.w.cell? ⟨q, 0, none⟩ = some (.int .i64 k) := fun y => ((QF.out _ ((hS0 _).1 y.h)).1).c0
  obtain ⟨W0, hW0⟩ : ∃ y, w2.drew = y := ⟨_, rfl⟩
  have hs0 : Since w W0 := by rw [← hW0]; exact Since.drew hS2
  have hSi0 := (hS0 W0).2 hs0
  have hne : Nonempty (HeldW S0) := ⟨⟨_, hSi0⟩⟩
  have y1 := x2 ⟨_, hSi0⟩
  have y2 := (hs0.below.frozen (p := ⟨bn, on + k * 4, none⟩) hbn).trans kz0
  dsimp only at y1
  obtain ⟨W1, hW1⟩ : ∃ y, W0.setCell ⟨bn, on + k * 4, none⟩ (.int .i64 st) = y := ⟨_, rfl⟩
  obtain ⟨hM1, hst1⟩ := hB.made.setClk hx HL1.out hs0 st
  rw [hW1, HD1.out] at hM1 hst1
  have hB1 := hB.step hM1 hst1
  have hU1 := hst1.up hB.made.own (fun i => i = q)
  have hQ1 : W1.heap[q]? = w.heap[q]? := (hst1.beside hqw hqo).1
  have hqo1 := (hst1.beside hqw hqo).2
  have hx1 : d1.nodes[k]? = some { x with clock := st } := by rw [← HD1.out, set_nodes _ hx, if_pos rfl]
  have hn1 : d1.nodes.length = d.nodes.length := by rw [← HD1.out]; simp [setNode]
  refine beginM (fun w' => ∃ x : HeldW S0, w' = x.w) (by kernel_rfl) ?_
  rw [hW0]
  clear hW0
  refine takeW 0 rfl (by kernel_rfl) (fun _ _ _ _ h => h) (by rfl) rfl ?_
  go_big_quiet_op
  refine takeW 1 rfl (by kernel_rfl) (fun _ _ _ _ h => h) (by rfl) rfl ?_
  go_big_quiet_op
  refine takeW 2 rfl (by kernel_rfl) (fun _ _ _ _ h => h) (by rfl) rfl ?_
  go_big_quiet_op
  refine takeW 3 rfl (by kernel_rfl) (fun _ _ _ _ h => h) (by rfl) rfl ?_
  go_big_quiet_op
  refine takeM 4 rfl (by kernel_rfl) (heldS_mk hSi0) (fun _ _ _ _ h => h) (by rfl) rfl ?_
  go_big_quiet_op
  refine takeW 5 rfl (by kernel_rfl) (fun _ _ _ _ h => h) (by rfl) rfl ?_
  go_big_quiet_op
  refine takeM 6 rfl (by kernel_rfl) (heldS_mk hSi0) (fun _ _ _ _ h => h) (by rfl) rfl ?_
  go_big_quiet_op
  refine takeW 7 rfl (by kernel_rfl) (fun _ _ _ _ h => h) (by rfl) rfl ?_
  go_big_quiet_op
  refine takeW 8 rfl (by kernel_rfl) (fun _ _ _ _ h => h) (by rfl) rfl ?_
  go_big_quiet_op
  refine takeM 9 rfl (by kernel_rfl) (heldS_mk hSi0) (fun _ _ _ _ h => h) (by rfl) rfl ?_
  go_big_quiet_op
  refine takeW 10 rfl (by kernel_rfl) (fun _ _ _ _ h => h) (by rfl) rfl ?_
  go_big_quiet_op
  refine takeW 11 rfl (by kernel_rfl) (fun _ _ _ _ h => h) (by rfl) rfl ?_
  go_big_quiet_op
  refine takeW 12 rfl (by kernel_rfl) (fun _ _ _ _ h => h) (by rfl) rfl ?_
  go_big_quiet_op
  refine actM 13 rfl (by kernel_rfl) ?_
  intro K hK
  go_simp
  refine hK _ _ (fun h => absurd h (by decide +kernel)) ?_
  clear hK K
  refine doneM (by kernel_rfl) ?_
  clear x1 x2 m0 hne y1 y2
  have hbW : bn < W1.heap.size := Nat.lt_of_lt_of_le hbn hst1.fr.size
  obtain ⟨k0', _, _, _, _⟩ := hB1.made.own.cells hx1 HL1.out
  have b1' := hB1.made.box.c1
  rw [HL1.out] at b1'
  dsimp only at b1' k0'
  have hqW1 : q < W1.heap.size := Nat.lt_of_lt_of_le hqw hst1.fr.size
  have hMq1 : MsgAt W1 q 0 ⟨(k : Int), g, 0, nul, body⟩ := msgAt_block hMq0 hQ1
  have hqz1 : W1.frozen? ⟨q, 2, none⟩ = false := (World.frozen?_of_block (a := ⟨q, 2, none⟩) hQ1).trans hqz
  go_wp2_with fail
  obtain ⟨S2, hS2'⟩ : ∃ S0 : World → Prop, ∀ w', S0 w' ↔ Since W1 w' := ⟨_, fun _ => Iff.rfl⟩
  have x1 : ∀ y : HeldW S2, y.w.cell? ⟨p, 1, none⟩ = some (.slice (some ⟨bn, on, none⟩) d1.nodes.length cn) := fun y => (((hS2' _).1 y.h).cellAt hB1.made.box.lt _).trans b1'
  have x2 : ∀ y : HeldW S2, y.w.cell? ⟨bn, on + k * 4, none⟩ = some (.int .i64 st) := fun y => (((hS2' _).1 y.h).cellAt hbW _).trans k0'
  have m0 : ∀ y : HeldW S2, y.w.cell? ⟨q, 0, none⟩ = some (.int .i64 k) := fun y => (msgAt_since hMq1 hqW1 ((hS2' _).1 y.h)).c0
  obtain ⟨V0, hW0⟩ : ∃ y, W1.drew = y := ⟨_, rfl⟩
  have hv0 : Since W1 V0 := by rw [← hW0]; exact Since.drew (Since.refl _)
  have hSi0 := (hS2' V0).2 hv0
  have hne : Nonempty (HeldW S2) := ⟨⟨_, hSi0⟩⟩
  have n1' : (k : Int) < (d1.nodes.length : Int) := by omega
  have z1 := (msgAt_since hMq1 hqW1 hv0).c2
  have z2 := (hv0.below.frozen (p := ⟨q, 2, none⟩) hqW1).trans hqz1
  dsimp only [Nat.zero_add] at z1
  simp only [Nat.zero_add] at z1
  obtain ⟨W3, hW3⟩ : ∃ y, V0.setCell ⟨q, 2, none⟩ (.int .i64 st) = y := ⟨_, rfl⟩
  have hF3 : Fr (fun i => i = q) V0 W3 := by rw [← hW3]; exact (Fr.refl (fun i => i = q) V0).setCell ⟨q, 2, none⟩ _ (fun _ => rfl)
  have hB3 := (hB1.since hv0).fr hF3 (fun b hb e => hqo1 (e ▸ hb)) (by omega)
  have hMq3 : MsgAt W3 q 0 ⟨(k : Int), g, st, nul, body⟩ := by
    have hm := msgAt_since hMq1 hqW1 hv0
    obtain ⟨a0, a1, a2, a3, a4⟩ := hm
    rw [← hW3]
    exact ⟨(set_ne _ _ _ (by decide)).trans a0, (set_ne _ _ _ (by decide)).trans a1, set_eq _ _ _ _ a2, (set_ne _ _ _ (by decide)).trans a3, (set_ne _ _ _ (by decide)).trans a4⟩
  have hqW3 : q < W3.heap.size := Nat.lt_of_lt_of_le hqW1 (Nat.le_trans hv0.size hF3.size)
  have hU3 : Fr (Up lo fun i => i = q) w W3 := (hU1.upTrans (hv0.up _ _)).upTrans (hF3.mono (fun i _ e => .inr e))
  have hlo3 : lo ≤ W3.heap.size := Nat.le_trans hlo hU3.size
  refine beginM (fun w' => ∃ x : HeldW S2, w' = x.w) (by kernel_rfl) ?_
  rw [hW0]
  clear hW0
  refine takeW 0 rfl (by kernel_rfl) (fun _ _ _ _ h => h) (by rfl) rfl ?_
  go_big_quiet_op
  refine takeW 1 rfl (by kernel_rfl) (fun _ _ _ _ h => h) (by rfl) rfl ?_
  go_big_quiet_op
  refine takeW 2 rfl (by kernel_rfl) (fun _ _ _ _ h => h) (by rfl) rfl ?_
  go_big_quiet_op
  refine takeW 3 rfl (by kernel_rfl) (fun _ _ _ _ h => h) (by rfl) rfl ?_
  go_big_quiet_op
  refine takeM 4 rfl (by kernel_rfl) (heldS_mk hSi0) (fun _ _ _ _ h => h) (by rfl) rfl ?_
  go_big_quiet_op
  refine takeW 5 rfl (by kernel_rfl) (fun _ _ _ _ h => h) (by rfl) rfl ?_
  go_big_quiet_op
  refine takeM 6 rfl (by kernel_rfl) (heldS_mk hSi0) (fun _ _ _ _ h => h) (by rfl) rfl ?_
  go_big_quiet_op
  refine takeW 7 rfl (by kernel_rfl) (fun _ _ _ _ h => h) (by rfl) rfl ?_
  go_big_quiet_op
  refine takeW 8 rfl (by kernel_rfl) (fun _ _ _ _ h => h) (by rfl) rfl ?_
  go_big_quiet_op
  refine takeM 9 rfl (by kernel_rfl) (heldS_mk hSi0) (fun _ _ _ _ h => h) (by rfl) rfl ?_
  go_big_quiet_op
  refine takeW 10 rfl (by kernel_rfl) (fun _ _ _ _ h => h) (by rfl) rfl ?_
  go_big_quiet_op
  refine actM 11 rfl (by kernel_rfl) ?_
  intro K hK
  go_simp
  refine hK _ _ (fun h => absurd h (by decide +kernel)) ?_
  clear hK K
  refine doneM (by kernel_rfl) ?_
  clear x1 x2 m0 hne hneT z1 z2 b1' k0' hW3
  have QF3 : Hid (∀ y, Fr (Up lo fun _ => False) W3 y → MsgAt y q 0 ⟨(k : Int), g, st, nul, body⟩) := fun y hy => msgAt_block hMq3 (hy.block q hqW3 (by rintro (h | h); exact h hq; exact h))
  obtain ⟨q0, q1, q2, q3, q4⟩ := hMq3
  simp only [Nat.zero_add] at q0 q1 q2 q3 q4
  have hUU : Hid (∀ y, Fr (Up lo fun _ => False) W3 y → Fr (Up lo fun i => i = q) w y) := fun y hy => hU3.upTrans (hy.mono (fun i _ h => by rcases h with h | h; exact .inl h; exact h.elim))
  go_wp2_with (go_at_call 143; refine (post_any lo p k g st nul body d1 L W3 0 hB3 HR1.out hk1 (by omega) HW1.out hlo3 (fun e w' => e = .panicked (pan er) ∧ Fr (Up lo fun i => i = q) w w') (fun er' h w' hF => by rw [HLAY.out] at h; cases h; exact ⟨rfl, hUU.out _ hF⟩) (fun d' L' w' h => by rw [HLAY.out] at h; cases h)).mono ?_; rintro e w4 hR; obtain ⟨rfl, hF4⟩ := hR.out)
  exact ⟨rfl, rfl, hF4⟩

set_option maxHeartbeats 1000000 in
theorem castW_puterr (lo p q k : Nat) (g st : Int) (body : ByteArray) (d d1 : Wd) (L : Lay) (w : World) (x : Nd) (hB : SeaB lo w p d L 0) (R : Right d) (hq : q < lo) (hMq : MsgAt w q 0 ⟨(k : Int), g, 0, false, body⟩) (hqz : w.frozen? ⟨q, 2, none⟩ = false) (hx : d.nodes[k]? = some x) (hE : castE d k g body.size = 0) (hst : x.clock + 1 = st) (hd1 : setNode d k { x with clock := st } = d1) (hlo : lo ≤ w.heap.size) (d2 : Wd) (hR1 : RowsOk d1) (hW1' : ∀ f t, (wireAt d1 f t).length ≤ 40) (hN : d1.nodes.length ≤ 1000) (hk1 : k < d1.nodes.length) (hlay : layTo ⟨(k : Int), g, st, false, body⟩ k d1 d1.nodes.length = .ok d2) (X2 : Nd) (hx2 : d2.nodes[k]? = some X2) (pe : Int) (pl : List Mg) (HPE0 : Hid (putE ⟨(k : Int), g, st, false, body⟩ X2.held = pe)) (HPL0 : Hid (putL ⟨(k : Int), g, st, false, body⟩ X2.held = pl)) (hpe0 : ¬ pe = 0) :
    Calls Tryz.prog 141 #[.pointer (some ⟨p, 0, none⟩), .pointer (some ⟨q, 0, none⟩)] w fun e w' => e = .panicked (pan pe) ∧ Fr (Up lo fun i => i = q) w w' := by
  have hMq0 := hMq
  have HLAY := (show Hid _ from hlay)
  have HR1 : Hid (RowsOk d1) := hR1
  have HW1 : Hid (∀ f t, (wireAt d1 f t).length ≤ 40) := hW1'
  clear hlay hR1 hW1'
  have hk := node_lt hx
  have hpl := hB.made.box.lt
  have hlop := hB.lop
  have hqw : q < w.heap.size := by omega
  obtain ⟨bn, on, cn, hL1, hlb, hbn, hbk, hcn⟩ := hB.made.own.lies (ix := (1, 0, 0)) ⟨rfl, rfl⟩ (by show 0 < d.nodes.length; omega)
  obtain ⟨k0, _, _, _, kz⟩ := hB.made.own.cells hx hL1
  have kz0 := kz 0 (by omega)
  rw [Nat.add_zero] at kz0
  have b1 := hB.made.box.c1
  rw [hL1] at b1
  dsimp only at b1
  have HL1 : Hid (L (1, 0, 0) = ⟨some ⟨bn, on, none⟩, cn⟩) := hL1
  have hcl := R.clk k
  rw [(at_node hx).1] at hcl
  have hne3 : ¬ x.clock = 1048576 := by
    intro e
    have hE' := hE
    unfold castE at hE'
    rw [Int.toNat_natCast, (at_node hx).1, e] at hE'
    split at hE'; cases hE'; split at hE'; cases hE'; split at hE'; cases hE'; simp at hE'
  have hst' : IntKind.i64.wrap (x.clock + 1) = st := by rw [hst]; exact IntWalk.i64_in _ (by omega)
  have n1 : (k : Int) < (d.nodes.length : Int) := by omega
  have hMay := may_any lo p ⟨(k : Int), g, 0, false, body⟩ d L w 0 hB R
  dsimp only at hMay
  obtain ⟨q0, q1, q2, q3, q4⟩ := hMq
  simp only [Nat.zero_add] at q0 q1 q2 q3 q4
  have HST : Hid (x.clock + 1 = st) := hst
  have HD1 : Hid (setNode d k { x with clock := st } = d1) := hd1
  have HE : Hid (castE d k g body.size = 0) := hE
  have hqo : ¬ blkW d L q := fun hb => by have := (hB.made.own.blk hb).1; omega
  clear hL1 hst hd1 hE kz hne3
  go_enter Tryz.func141, Tryz.ntmps141
  go_wp2_with (go_at_call 142; refine hMay.mono ?_; rintro e w2 hR; obtain ⟨h1, _, hS2⟩ := hR.out; obtain rfl := h1 HE.out; clear h1 hR)
  clear q0 q1 q2 q3 q4
  have QF : Hid (∀ y, Since w y → MsgAt y q 0 ⟨(k : Int), g, 0, false, body⟩ ∧ y.frozen? ⟨q, 2, none⟩ = false) := fun y hy => ⟨msgAt_since hMq0 hqw hy, (hy.below.frozen (p := ⟨q, 2, none⟩) hqw).trans hqz⟩
  obtain ⟨S0, hS0⟩ : ∃ S0 : World → Prop, ∀ w', S0 w' ↔ Since w w' := ⟨_, fun _ => Iff.rfl⟩
  have hneT := heldTrue w
  have x1 : ∀ y : HeldW S0, y.w.cell? ⟨p, 1, none⟩ = some (.slice (some ⟨bn, on, none⟩) d.nodes.length cn) := fun y => (((hS0 _).1 y.h).cellAt hpl _).trans b1
  have x2 : ∀ y : HeldW S0, y.w.cell? ⟨bn, on + k * 4, none⟩ = some (.int .i64 x.clock) := fun y => (((hS0 _).1 y.h).cellAt hbn _).trans k0
  have m0 : ∀ y : HeldW S0, y.w.cell? ⟨q, 0, none⟩ = some (.int .i64 k) := fun y => ((QF.out _ ((hS0 _).1 y.h)).1).c0
  obtain ⟨W0, hW0⟩ : ∃ y, w2.drew = y := ⟨_, rfl⟩
  have hs0 : Since w W0 := by rw [← hW0]; exact Since.drew hS2
  have hSi0 := (hS0 W0).2 hs0
  have hne : Nonempty (HeldW S0) := ⟨⟨_, hSi0⟩⟩
  have y1 := x2 ⟨_, hSi0⟩
  have y2 := (hs0.below.frozen (p := ⟨bn, on + k * 4, none⟩) hbn).trans kz0
  dsimp only at y1
  obtain ⟨W1, hW1⟩ : ∃ y, W0.setCell ⟨bn, on + k * 4, none⟩ (.int .i64 st) = y := ⟨_, rfl⟩
  obtain ⟨hM1, hst1⟩ := hB.made.setClk hx HL1.out hs0 st
  rw [hW1, HD1.out] at hM1 hst1
  have hB1 := hB.step hM1 hst1
  have hU1 := hst1.up hB.made.own (fun i => i = q)
  have hQ1 : W1.heap[q]? = w.heap[q]? := (hst1.beside hqw hqo).1
  have hqo1 := (hst1.beside hqw hqo).2
  have hx1 : d1.nodes[k]? = some { x with clock := st } := by rw [← HD1.out, set_nodes _ hx, if_pos rfl]
  have hn1 : d1.nodes.length = d.nodes.length := by rw [← HD1.out]; simp [setNode]
  refine beginM (fun w' => ∃ x : HeldW S0, w' = x.w) (by kernel_rfl) ?_
  rw [hW0]
  clear hW0
  refine takeW 0 rfl (by kernel_rfl) (fun _ _ _ _ h => h) (by rfl) rfl ?_
  go_big_quiet_op
  refine takeW 1 rfl (by kernel_rfl) (fun _ _ _ _ h => h) (by rfl) rfl ?_
  go_big_quiet_op
  refine takeW 2 rfl (by kernel_rfl) (fun _ _ _ _ h => h) (by rfl) rfl ?_
  go_big_quiet_op
  refine takeW 3 rfl (by kernel_rfl) (fun _ _ _ _ h => h) (by rfl) rfl ?_
  go_big_quiet_op
  refine takeM 4 rfl (by kernel_rfl) (heldS_mk hSi0) (fun _ _ _ _ h => h) (by rfl) rfl ?_
  go_big_quiet_op
  refine takeW 5 rfl (by kernel_rfl) (fun _ _ _ _ h => h) (by rfl) rfl ?_
  go_big_quiet_op
  refine takeM 6 rfl (by kernel_rfl) (heldS_mk hSi0) (fun _ _ _ _ h => h) (by rfl) rfl ?_
  go_big_quiet_op
  refine takeW 7 rfl (by kernel_rfl) (fun _ _ _ _ h => h) (by rfl) rfl ?_
  go_big_quiet_op
  refine takeW 8 rfl (by kernel_rfl) (fun _ _ _ _ h => h) (by rfl) rfl ?_
  go_big_quiet_op
  refine takeM 9 rfl (by kernel_rfl) (heldS_mk hSi0) (fun _ _ _ _ h => h) (by rfl) rfl ?_
  go_big_quiet_op
  refine takeW 10 rfl (by kernel_rfl) (fun _ _ _ _ h => h) (by rfl) rfl ?_
  go_big_quiet_op
  refine takeW 11 rfl (by kernel_rfl) (fun _ _ _ _ h => h) (by rfl) rfl ?_
  go_big_quiet_op
  refine takeW 12 rfl (by kernel_rfl) (fun _ _ _ _ h => h) (by rfl) rfl ?_
  go_big_quiet_op
  refine actM 13 rfl (by kernel_rfl) ?_
  intro K hK
  go_simp
  refine hK _ _ (fun h => absurd h (by decide +kernel)) ?_
  clear hK K
  refine doneM (by kernel_rfl) ?_
  clear x1 x2 m0 hne y1 y2
  have hbW : bn < W1.heap.size := Nat.lt_of_lt_of_le hbn hst1.fr.size
  obtain ⟨k0', _, _, _, _⟩ := hB1.made.own.cells hx1 HL1.out
  have b1' := hB1.made.box.c1
  rw [HL1.out] at b1'
  dsimp only at b1' k0'
  have hqW1 : q < W1.heap.size := Nat.lt_of_lt_of_le hqw hst1.fr.size
  have hMq1 : MsgAt W1 q 0 ⟨(k : Int), g, 0, false, body⟩ := msgAt_block hMq0 hQ1
  have hqz1 : W1.frozen? ⟨q, 2, none⟩ = false := (World.frozen?_of_block (a := ⟨q, 2, none⟩) hQ1).trans hqz
  go_wp2_with fail
  obtain ⟨S2, hS2'⟩ : ∃ S0 : World → Prop, ∀ w', S0 w' ↔ Since W1 w' := ⟨_, fun _ => Iff.rfl⟩
  have x1 : ∀ y : HeldW S2, y.w.cell? ⟨p, 1, none⟩ = some (.slice (some ⟨bn, on, none⟩) d1.nodes.length cn) := fun y => (((hS2' _).1 y.h).cellAt hB1.made.box.lt _).trans b1'
  have x2 : ∀ y : HeldW S2, y.w.cell? ⟨bn, on + k * 4, none⟩ = some (.int .i64 st) := fun y => (((hS2' _).1 y.h).cellAt hbW _).trans k0'
  have m0 : ∀ y : HeldW S2, y.w.cell? ⟨q, 0, none⟩ = some (.int .i64 k) := fun y => (msgAt_since hMq1 hqW1 ((hS2' _).1 y.h)).c0
  obtain ⟨V0, hW0⟩ : ∃ y, W1.drew = y := ⟨_, rfl⟩
  have hv0 : Since W1 V0 := by rw [← hW0]; exact Since.drew (Since.refl _)
  have hSi0 := (hS2' V0).2 hv0
  have hne : Nonempty (HeldW S2) := ⟨⟨_, hSi0⟩⟩
  have n1' : (k : Int) < (d1.nodes.length : Int) := by omega
  have z1 := (msgAt_since hMq1 hqW1 hv0).c2
  have z2 := (hv0.below.frozen (p := ⟨q, 2, none⟩) hqW1).trans hqz1
  dsimp only [Nat.zero_add] at z1
  simp only [Nat.zero_add] at z1
  obtain ⟨W3, hW3⟩ : ∃ y, V0.setCell ⟨q, 2, none⟩ (.int .i64 st) = y := ⟨_, rfl⟩
  have hF3 : Fr (fun i => i = q) V0 W3 := by rw [← hW3]; exact (Fr.refl (fun i => i = q) V0).setCell ⟨q, 2, none⟩ _ (fun _ => rfl)
  have hB3 := (hB1.since hv0).fr hF3 (fun b hb e => hqo1 (e ▸ hb)) (by omega)
  have hMq3 : MsgAt W3 q 0 ⟨(k : Int), g, st, false, body⟩ := by
    have hm := msgAt_since hMq1 hqW1 hv0
    obtain ⟨a0, a1, a2, a3, a4⟩ := hm
    rw [← hW3]
    exact ⟨(set_ne _ _ _ (by decide)).trans a0, (set_ne _ _ _ (by decide)).trans a1, set_eq _ _ _ _ a2, (set_ne _ _ _ (by decide)).trans a3, (set_ne _ _ _ (by decide)).trans a4⟩
  have hqW3 : q < W3.heap.size := Nat.lt_of_lt_of_le hqW1 (Nat.le_trans hv0.size hF3.size)
  have hU3 : Fr (Up lo fun i => i = q) w W3 := (hU1.upTrans (hv0.up _ _)).upTrans (hF3.mono (fun i _ e => .inr e))
  have hlo3 : lo ≤ W3.heap.size := Nat.le_trans hlo hU3.size
  refine beginM (fun w' => ∃ x : HeldW S2, w' = x.w) (by kernel_rfl) ?_
  rw [hW0]
  clear hW0
  refine takeW 0 rfl (by kernel_rfl) (fun _ _ _ _ h => h) (by rfl) rfl ?_
  go_big_quiet_op
  refine takeW 1 rfl (by kernel_rfl) (fun _ _ _ _ h => h) (by rfl) rfl ?_
  go_big_quiet_op
  refine takeW 2 rfl (by kernel_rfl) (fun _ _ _ _ h => h) (by rfl) rfl ?_
  go_big_quiet_op
  refine takeW 3 rfl (by kernel_rfl) (fun _ _ _ _ h => h) (by rfl) rfl ?_
  go_big_quiet_op
  refine takeM 4 rfl (by kernel_rfl) (heldS_mk hSi0) (fun _ _ _ _ h => h) (by rfl) rfl ?_
  go_big_quiet_op
  refine takeW 5 rfl (by kernel_rfl) (fun _ _ _ _ h => h) (by rfl) rfl ?_
  go_big_quiet_op
  refine takeM 6 rfl (by kernel_rfl) (heldS_mk hSi0) (fun _ _ _ _ h => h) (by rfl) rfl ?_
  go_big_quiet_op
  refine takeW 7 rfl (by kernel_rfl) (fun _ _ _ _ h => h) (by rfl) rfl ?_
  go_big_quiet_op
  refine takeW 8 rfl (by kernel_rfl) (fun _ _ _ _ h => h) (by rfl) rfl ?_
  go_big_quiet_op
  refine takeM 9 rfl (by kernel_rfl) (heldS_mk hSi0) (fun _ _ _ _ h => h) (by rfl) rfl ?_
  go_big_quiet_op
  refine takeW 10 rfl (by kernel_rfl) (fun _ _ _ _ h => h) (by rfl) rfl ?_
  go_big_quiet_op
  refine actM 11 rfl (by kernel_rfl) ?_
  intro K hK
  go_simp
  refine hK _ _ (fun h => absurd h (by decide +kernel)) ?_
  clear hK K
  refine doneM (by kernel_rfl) ?_
  clear x1 x2 m0 hne hneT z1 z2 b1' k0' hW3
  have QF3 : Hid (∀ y, Fr (Up lo fun _ => False) W3 y → MsgAt y q 0 ⟨(k : Int), g, st, false, body⟩) := fun y hy => msgAt_block hMq3 (hy.block q hqW3 (by rintro (h | h); exact h hq; exact h))
  obtain ⟨q0, q1, q2, q3, q4⟩ := hMq3
  simp only [Nat.zero_add] at q0 q1 q2 q3 q4
  have hUU : Hid (∀ y, Fr (Up lo fun _ => False) W3 y → Fr (Up lo fun i => i = q) w y) := fun y hy => hU3.upTrans (hy.mono (fun i _ h => by rcases h with h | h; exact .inl h; exact h.elim))
  go_wp2_with (go_at_call 143; refine (post_any lo p k g st false body d1 L W3 0 hB3 HR1.out hk1 (by omega) HW1.out hlo3 (fun e w' => e = .returned (.tuple #[]) ∧ ∃ L', SeaB lo w' p d2 L' 0 ∧ Fr (Up lo fun _ => False) W3 w') (fun er' h w' hF => by rw [HLAY.out] at h; cases h) (fun d' L' w' h hB' hF => by rw [HLAY.out] at h; cases h; exact ⟨rfl, L', hB', hF⟩)).mono ?_; rintro e w4 hR; obtain ⟨rfl, L4, hB4, hF4⟩ := hR.out; obtain ⟨r0, r1, r2, r3, r4⟩ := QF3.out _ hF4; simp only [Nat.zero_add] at r0 r1 r2 r3 r4; clear hR)
  clear q0 q1 q2 q3 q4
  refine (seaHold_put lo p k ⟨(k : Int), g, st, false, body⟩ d2 L4 w4 X2 0 hB4 hx2 rfl (Nat.le_trans hlo3 hF4.size) pe pl HPE0.out HPL0.out (fun e w' => e = .panicked (pan pe) ∧ Since w4 w') (fun h w' hS => ⟨rfl, hS⟩) (fun h => absurd h hpe0)).mono ?_
  rintro e w5 hR
  obtain ⟨rfl, hS5⟩ := hR.out
  dsimp only
  exact ⟨rfl, rfl, hUU.out _ (hF4.upTrans (hS5.up _ _))⟩

set_option maxHeartbeats 1000000 in
theorem castW_null_terr (lo p q k : Nat) (g st : Int) (body : ByteArray) (d d1 : Wd) (L : Lay) (w : World) (x : Nd) (hB : SeaB lo w p d L 0) (R : Right d) (hq : q < lo) (hMq : MsgAt w q 0 ⟨(k : Int), g, 0, true, body⟩) (hqz : w.frozen? ⟨q, 2, none⟩ = false) (hx : d.nodes[k]? = some x) (hE : castE d k g body.size = 0) (hst : x.clock + 1 = st) (hd1 : setNode d k { x with clock := st } = d1) (hlo : lo ≤ w.heap.size) (d2 : Wd) (hR1 : RowsOk d1) (hW1' : ∀ f t, (wireAt d1 f t).length ≤ 40) (hN : d1.nodes.length ≤ 1000) (hk1 : k < d1.nodes.length) (hlay : layTo ⟨(k : Int), g, st, true, body⟩ k d1 d1.nodes.length = .ok d2) (X2 : Nd) (hx2 : d2.nodes[k]? = some X2) (d3 : Wd) (er : Int) (HD3 : Hid (d2 = d3)) (HTL : Hid (checked d3 (tellOfD d3 (k : Int)) = .error er)) (her : (er == 0) = false) :
    Calls Tryz.prog 141 #[.pointer (some ⟨p, 0, none⟩), .pointer (some ⟨q, 0, none⟩)] w fun e w' => e = .panicked (pan er) ∧ Fr (Up lo fun i => i = q) w w' := by
  have hMq0 := hMq
  have HLAY := (show Hid _ from hlay)
  have HR1 : Hid (RowsOk d1) := hR1
  have HW1 : Hid (∀ f t, (wireAt d1 f t).length ≤ 40) := hW1'
  clear hlay hR1 hW1'
  have hk := node_lt hx
  have hpl := hB.made.box.lt
  have hlop := hB.lop
  have hqw : q < w.heap.size := by omega
  obtain ⟨bn, on, cn, hL1, hlb, hbn, hbk, hcn⟩ := hB.made.own.lies (ix := (1, 0, 0)) ⟨rfl, rfl⟩ (by show 0 < d.nodes.length; omega)
  obtain ⟨k0, _, _, _, kz⟩ := hB.made.own.cells hx hL1
  have kz0 := kz 0 (by omega)
  rw [Nat.add_zero] at kz0
  have b1 := hB.made.box.c1
  rw [hL1] at b1
  dsimp only at b1
  have HL1 : Hid (L (1, 0, 0) = ⟨some ⟨bn, on, none⟩, cn⟩) := hL1
  have hcl := R.clk k
  rw [(at_node hx).1] at hcl
  have hne3 : ¬ x.clock = 1048576 := by
    intro e
    have hE' := hE
    unfold castE at hE'
    rw [Int.toNat_natCast, (at_node hx).1, e] at hE'
    split at hE'; cases hE'; split at hE'; cases hE'; split at hE'; cases hE'; simp at hE'
  have hst' : IntKind.i64.wrap (x.clock + 1) = st := by rw [hst]; exact IntWalk.i64_in _ (by omega)
  have n1 : (k : Int) < (d.nodes.length : Int) := by omega
  have hMay := may_any lo p ⟨(k : Int), g, 0, true, body⟩ d L w 0 hB R
  dsimp only at hMay
  obtain ⟨q0, q1, q2, q3, q4⟩ := hMq
  simp only [Nat.zero_add] at q0 q1 q2 q3 q4
  have HST : Hid (x.clock + 1 = st) := hst
  have HD1 : Hid (setNode d k { x with clock := st } = d1) := hd1
  have HE : Hid (castE d k g body.size = 0) := hE
  have hqo : ¬ blkW d L q := fun hb => by have := (hB.made.own.blk hb).1; omega
  clear hL1 hst hd1 hE kz hne3
  go_enter Tryz.func141, Tryz.ntmps141
  go_wp2_with (go_at_call 142; refine hMay.mono ?_; rintro e w2 hR; obtain ⟨h1, _, hS2⟩ := hR.out; obtain rfl := h1 HE.out; clear h1 hR)
  clear q0 q1 q2 q3 q4
  have QF : Hid (∀ y, Since w y → MsgAt y q 0 ⟨(k : Int), g, 0, true, body⟩ ∧ y.frozen? ⟨q, 2, none⟩ = false) := fun y hy => ⟨msgAt_since hMq0 hqw hy, (hy.below.frozen (p := ⟨q, 2, none⟩) hqw).trans hqz⟩
  obtain ⟨S0, hS0⟩ : ∃ S0 : World → Prop, ∀ w', S0 w' ↔ Since w w' := ⟨_, fun _ => Iff.rfl⟩
  have hneT := heldTrue w
  have x1 : ∀ y : HeldW S0, y.w.cell? ⟨p, 1, none⟩ = some (.slice (some ⟨bn, on, none⟩) d.nodes.length cn) := fun y => (((hS0 _).1 y.h).cellAt hpl _).trans b1
  have x2 : ∀ y : HeldW S0, y.w.cell? ⟨bn, on + k * 4, none⟩ = some (.int .i64 x.clock) := fun y => (((hS0 _).1 y.h).cellAt hbn _).trans k0
  have m0 : ∀ y : HeldW S0, y.w.cell? ⟨q, 0, none⟩ = some (.int .i64 k) := fun y => ((QF.out _ ((hS0 _).1 y.h)).1).c0
  obtain ⟨W0, hW0⟩ : ∃ y, w2.drew = y := ⟨_, rfl⟩
  have hs0 : Since w W0 := by rw [← hW0]; exact Since.drew hS2
  have hSi0 := (hS0 W0).2 hs0
  have hne : Nonempty (HeldW S0) := ⟨⟨_, hSi0⟩⟩
  have y1 := x2 ⟨_, hSi0⟩
  have y2 := (hs0.below.frozen (p := ⟨bn, on + k * 4, none⟩) hbn).trans kz0
  dsimp only at y1
  obtain ⟨W1, hW1⟩ : ∃ y, W0.setCell ⟨bn, on + k * 4, none⟩ (.int .i64 st) = y := ⟨_, rfl⟩
  obtain ⟨hM1, hst1⟩ := hB.made.setClk hx HL1.out hs0 st
  rw [hW1, HD1.out] at hM1 hst1
  have hB1 := hB.step hM1 hst1
  have hU1 := hst1.up hB.made.own (fun i => i = q)
  have hQ1 : W1.heap[q]? = w.heap[q]? := (hst1.beside hqw hqo).1
  have hqo1 := (hst1.beside hqw hqo).2
  have hx1 : d1.nodes[k]? = some { x with clock := st } := by rw [← HD1.out, set_nodes _ hx, if_pos rfl]
  have hn1 : d1.nodes.length = d.nodes.length := by rw [← HD1.out]; simp [setNode]
  refine beginM (fun w' => ∃ x : HeldW S0, w' = x.w) (by kernel_rfl) ?_
  rw [hW0]
  clear hW0
  refine takeW 0 rfl (by kernel_rfl) (fun _ _ _ _ h => h) (by rfl) rfl ?_
  go_big_quiet_op
  refine takeW 1 rfl (by kernel_rfl) (fun _ _ _ _ h => h) (by rfl) rfl ?_
  go_big_quiet_op
  refine takeW 2 rfl (by kernel_rfl) (fun _ _ _ _ h => h) (by rfl) rfl ?_
  go_big_quiet_op
  refine takeW 3 rfl (by kernel_rfl) (fun _ _ _ _ h => h) (by rfl) rfl ?_
  go_big_quiet_op
  refine takeM 4 rfl (by kernel_rfl) (heldS_mk hSi0) (fun _ _ _ _ h => h) (by rfl) rfl ?_
  go_big_quiet_op
  refine takeW 5 rfl (by kernel_rfl) (fun _ _ _ _ h => h) (by rfl) rfl ?_
  go_big_quiet_op
  refine takeM 6 rfl (by kernel_rfl) (heldS_mk hSi0) (fun _ _ _ _ h => h) (by rfl) rfl ?_
  go_big_quiet_op
  refine takeW 7 rfl (by kernel_rfl) (fun _ _ _ _ h => h) (by rfl) rfl ?_
  go_big_quiet_op
  refine takeW 8 rfl (by kernel_rfl) (fun _ _ _ _ h => h) (by rfl) rfl ?_
  go_big_quiet_op
  refine takeM 9 rfl (by kernel_rfl) (heldS_mk hSi0) (fun _ _ _ _ h => h) (by rfl) rfl ?_
  go_big_quiet_op
  refine takeW 10 rfl (by kernel_rfl) (fun _ _ _ _ h => h) (by rfl) rfl ?_
  go_big_quiet_op
  refine takeW 11 rfl (by kernel_rfl) (fun _ _ _ _ h => h) (by rfl) rfl ?_
  go_big_quiet_op
  refine takeW 12 rfl (by kernel_rfl) (fun _ _ _ _ h => h) (by rfl) rfl ?_
  go_big_quiet_op
  refine actM 13 rfl (by kernel_rfl) ?_
  intro K hK
  go_simp
  refine hK _ _ (fun h => absurd h (by decide +kernel)) ?_
  clear hK K
  refine doneM (by kernel_rfl) ?_
  clear x1 x2 m0 hne y1 y2
  have hbW : bn < W1.heap.size := Nat.lt_of_lt_of_le hbn hst1.fr.size
  obtain ⟨k0', _, _, _, _⟩ := hB1.made.own.cells hx1 HL1.out
  have b1' := hB1.made.box.c1
  rw [HL1.out] at b1'
  dsimp only at b1' k0'
  have hqW1 : q < W1.heap.size := Nat.lt_of_lt_of_le hqw hst1.fr.size
  have hMq1 : MsgAt W1 q 0 ⟨(k : Int), g, 0, true, body⟩ := msgAt_block hMq0 hQ1
  have hqz1 : W1.frozen? ⟨q, 2, none⟩ = false := (World.frozen?_of_block (a := ⟨q, 2, none⟩) hQ1).trans hqz
  go_wp2_with fail
  obtain ⟨S2, hS2'⟩ : ∃ S0 : World → Prop, ∀ w', S0 w' ↔ Since W1 w' := ⟨_, fun _ => Iff.rfl⟩
  have x1 : ∀ y : HeldW S2, y.w.cell? ⟨p, 1, none⟩ = some (.slice (some ⟨bn, on, none⟩) d1.nodes.length cn) := fun y => (((hS2' _).1 y.h).cellAt hB1.made.box.lt _).trans b1'
  have x2 : ∀ y : HeldW S2, y.w.cell? ⟨bn, on + k * 4, none⟩ = some (.int .i64 st) := fun y => (((hS2' _).1 y.h).cellAt hbW _).trans k0'
  have m0 : ∀ y : HeldW S2, y.w.cell? ⟨q, 0, none⟩ = some (.int .i64 k) := fun y => (msgAt_since hMq1 hqW1 ((hS2' _).1 y.h)).c0
  obtain ⟨V0, hW0⟩ : ∃ y, W1.drew = y := ⟨_, rfl⟩
  have hv0 : Since W1 V0 := by rw [← hW0]; exact Since.drew (Since.refl _)
  have hSi0 := (hS2' V0).2 hv0
  have hne : Nonempty (HeldW S2) := ⟨⟨_, hSi0⟩⟩
  have n1' : (k : Int) < (d1.nodes.length : Int) := by omega
  have z1 := (msgAt_since hMq1 hqW1 hv0).c2
  have z2 := (hv0.below.frozen (p := ⟨q, 2, none⟩) hqW1).trans hqz1
  dsimp only [Nat.zero_add] at z1
  simp only [Nat.zero_add] at z1
  obtain ⟨W3, hW3⟩ : ∃ y, V0.setCell ⟨q, 2, none⟩ (.int .i64 st) = y := ⟨_, rfl⟩
  have hF3 : Fr (fun i => i = q) V0 W3 := by rw [← hW3]; exact (Fr.refl (fun i => i = q) V0).setCell ⟨q, 2, none⟩ _ (fun _ => rfl)
  have hB3 := (hB1.since hv0).fr hF3 (fun b hb e => hqo1 (e ▸ hb)) (by omega)
  have hMq3 : MsgAt W3 q 0 ⟨(k : Int), g, st, true, body⟩ := by
    have hm := msgAt_since hMq1 hqW1 hv0
    obtain ⟨a0, a1, a2, a3, a4⟩ := hm
    rw [← hW3]
    exact ⟨(set_ne _ _ _ (by decide)).trans a0, (set_ne _ _ _ (by decide)).trans a1, set_eq _ _ _ _ a2, (set_ne _ _ _ (by decide)).trans a3, (set_ne _ _ _ (by decide)).trans a4⟩
  have hqW3 : q < W3.heap.size := Nat.lt_of_lt_of_le hqW1 (Nat.le_trans hv0.size hF3.size)
  have hU3 : Fr (Up lo fun i => i = q) w W3 := (hU1.upTrans (hv0.up _ _)).upTrans (hF3.mono (fun i _ e => .inr e))
  have hlo3 : lo ≤ W3.heap.size := Nat.le_trans hlo hU3.size
  refine beginM (fun w' => ∃ x : HeldW S2, w' = x.w) (by kernel_rfl) ?_
  rw [hW0]
  clear hW0
  refine takeW 0 rfl (by kernel_rfl) (fun _ _ _ _ h => h) (by rfl) rfl ?_
  go_big_quiet_op
  refine takeW 1 rfl (by kernel_rfl) (fun _ _ _ _ h => h) (by rfl) rfl ?_
  go_big_quiet_op
  refine takeW 2 rfl (by kernel_rfl) (fun _ _ _ _ h => h) (by rfl) rfl ?_
  go_big_quiet_op
  refine takeW 3 rfl (by kernel_rfl) (fun _ _ _ _ h => h) (by rfl) rfl ?_
  go_big_quiet_op
  refine takeM 4 rfl (by kernel_rfl) (heldS_mk hSi0) (fun _ _ _ _ h => h) (by rfl) rfl ?_
  go_big_quiet_op
  refine takeW 5 rfl (by kernel_rfl) (fun _ _ _ _ h => h) (by rfl) rfl ?_
  go_big_quiet_op
  refine takeM 6 rfl (by kernel_rfl) (heldS_mk hSi0) (fun _ _ _ _ h => h) (by rfl) rfl ?_
  go_big_quiet_op
  refine takeW 7 rfl (by kernel_rfl) (fun _ _ _ _ h => h) (by rfl) rfl ?_
  go_big_quiet_op
  refine takeW 8 rfl (by kernel_rfl) (fun _ _ _ _ h => h) (by rfl) rfl ?_
  go_big_quiet_op
  refine takeM 9 rfl (by kernel_rfl) (heldS_mk hSi0) (fun _ _ _ _ h => h) (by rfl) rfl ?_
  go_big_quiet_op
  refine takeW 10 rfl (by kernel_rfl) (fun _ _ _ _ h => h) (by rfl) rfl ?_
  go_big_quiet_op
  refine actM 11 rfl (by kernel_rfl) ?_
  intro K hK
  go_simp
  refine hK _ _ (fun h => absurd h (by decide +kernel)) ?_
  clear hK K
  refine doneM (by kernel_rfl) ?_
  clear x1 x2 m0 hne hneT z1 z2 b1' k0' hW3
  have QF3 : Hid (∀ y, Fr (Up lo fun _ => False) W3 y → MsgAt y q 0 ⟨(k : Int), g, st, true, body⟩) := fun y hy => msgAt_block hMq3 (hy.block q hqW3 (by rintro (h | h); exact h hq; exact h))
  obtain ⟨q0, q1, q2, q3, q4⟩ := hMq3
  simp only [Nat.zero_add] at q0 q1 q2 q3 q4
  have hUU : Hid (∀ y, Fr (Up lo fun _ => False) W3 y → Fr (Up lo fun i => i = q) w y) := fun y hy => hU3.upTrans (hy.mono (fun i _ h => by rcases h with h | h; exact .inl h; exact h.elim))
  go_wp2_with (go_at_call 143; refine (post_any lo p k g st true body d1 L W3 0 hB3 HR1.out hk1 (by omega) HW1.out hlo3 (fun e w' => e = .returned (.tuple #[]) ∧ ∃ L', SeaB lo w' p d2 L' 0 ∧ Fr (Up lo fun _ => False) W3 w') (fun er' h w' hF => by rw [HLAY.out] at h; cases h) (fun d' L' w' h hB' hF => by rw [HLAY.out] at h; cases h; exact ⟨rfl, L', hB', hF⟩)).mono ?_; rintro e w4 hR; obtain ⟨rfl, L4, hB4, hF4⟩ := hR.out; obtain ⟨r0, r1, r2, r3, r4⟩ := QF3.out _ hF4; simp only [Nat.zero_add] at r0 r1 r2 r3 r4; clear hR)
  clear q0 q1 q2 q3 q4
  refine (seaHold_null lo p k ⟨(k : Int), g, st, true, body⟩ d2 L4 w4 X2 0 hB4 hx2 rfl).mono ?_
  rintro e w5 ⟨rfl, hS5⟩
  have hB5 := hB4.since hS5
  have hF5 := hF4.upTrans (hS5.up lo (fun _ => False))
  have L5 := L4
  obtain ⟨L5, hB5⟩ : ∃ L5, SeaB lo w5 p d3 L5 0 := ⟨L4, by rw [← HD3.out]; exact hB5⟩
  dsimp only
  clear r0 r1 r2 r3 r4
  have hpl5 := hB5.made.box.lt
  have b0 := hB5.made.box.c0
  have b1 := hB5.made.box.c1
  have b2 := hB5.made.box.c2
  have hMq5 := QF3.out _ hF5
  have hqW5 : q < w5.heap.size := Nat.lt_of_lt_of_le hqW3 hF5.size
  obtain ⟨S5, hS5'⟩ : ∃ S0 : World → Prop, ∀ w', S0 w' ↔ Since w5 w' := ⟨_, fun _ => Iff.rfl⟩
  have hneT := heldTrue w
  have x0 : ∀ y : HeldW S5, y.w.cell? ⟨p, 0, none⟩ = some (.slice (L5 (0, 0, 0)).a d3.groups.length (L5 (0, 0, 0)).cap) := fun y => (((hS5' _).1 y.h).cellAt hpl5 _).trans b0
  have x1 : ∀ y : HeldW S5, y.w.cell? ⟨p, 1, none⟩ = some (.slice (L5 (1, 0, 0)).a d3.nodes.length (L5 (1, 0, 0)).cap) := fun y => (((hS5' _).1 y.h).cellAt hpl5 _).trans b1
  have x2 : ∀ y : HeldW S5, y.w.cell? ⟨p, 2, none⟩ = some (.slice (L5 (2, 0, 0)).a d3.wires.length (L5 (2, 0, 0)).cap) := fun y => (((hS5' _).1 y.h).cellAt hpl5 _).trans b2
  have m0 : ∀ y : HeldW S5, y.w.cell? ⟨q, 0, none⟩ = some (.int .i64 k) := fun y => (msgAt_since hMq5 hqW5 ((hS5' _).1 y.h)).c0
  go_wp2_with fail
  obtain ⟨U0, hW0⟩ : ∃ y, w5.drew = y := ⟨_, rfl⟩
  have hu0 : Since w5 U0 := by rw [← hW0]; exact Since.drew (Since.refl _)
  have hSi0 := (hS5' U0).2 hu0
  have hne : Nonempty (HeldW S5) := ⟨⟨_, hSi0⟩⟩
  have hTN := tellNode_any (wvOf L5 d3) d3 k U0 (hB5.made.own.since hu0).wat
  unfold wvOf at hTN
  rw [HTL.out] at hTN
  dsimp only at hTN
  refine beginM (fun w' => ∃ x : HeldW S5, w' = x.w) (by kernel_rfl) ?_
  rw [hW0]
  clear hW0
  refine takeW 0 rfl (by kernel_rfl) (fun _ _ _ _ h => h) (by rfl) rfl ?_
  go_big_quiet_op
  refine takeW 1 rfl (by kernel_rfl) (fun _ _ _ _ h => h) (by rfl) rfl ?_
  go_big_quiet_op
  refine takeW 2 rfl (by kernel_rfl) (fun _ _ _ _ h => h) (by rfl) rfl ?_
  go_big_quiet_op
  refine takeW 3 rfl (by kernel_rfl) (fun _ _ _ _ h => h) (by rfl) rfl ?_
  go_big_quiet_op
  refine takeM 4 rfl (by kernel_rfl) (heldS_mk hSi0) (fun _ _ _ _ h => h) (by rfl) rfl ?_
  go_big_quiet_op
  refine takeW 5 rfl (by kernel_rfl) (fun _ _ _ _ h => h) (by rfl) rfl ?_
  go_big_quiet_op
  refine takeM 6 rfl (by kernel_rfl) (heldS_mk hSi0) (fun _ _ _ _ h => h) (by rfl) rfl ?_
  go_big_quiet_op
  refine actM 7 rfl (by kernel_rfl) ?_
  intro K hK
  go_simp
  refine hTN.mono ?_
  rintro e wT hR
  obtain ⟨rfl, hFT⟩ := hR.out.1 er rfl
  have hST := hFT.none
  dsimp only
  refine hK _ _ (fun h => absurd h (by decide +kernel)) ?_
  clear hK K
  refine takeW 8 rfl (by kernel_rfl) (fun _ _ _ _ h => h) (by rfl) rfl ?_
  go_big_quiet_op
  refine takeW 9 rfl (by kernel_rfl) (fun _ _ _ _ h => h) (by rfl) rfl ?_
  go_big_quiet_op
  refine takeW 10 rfl (by kernel_rfl) (fun _ _ _ _ h => h) (by rfl) rfl ?_
  go_big_quiet_op
  refine actM 11 rfl (by kernel_rfl) ?_
  intro K hK
  go_simp
  refine (count_err p ⟨none, 0, 0, none, 0, 0, none, 0, 0⟩ 0 er her wT).mono ?_
  rintro e w' ⟨rfl, hS9⟩
  dsimp only
  exact ⟨rfl, rfl, hUU.out _ (hF5.upTrans (((hu0.trans hST).trans hS9).up _ _))⟩

set_option maxHeartbeats 1000000 in
theorem castW_put_terr (lo p q k : Nat) (g st : Int) (body : ByteArray) (d d1 : Wd) (L : Lay) (w : World) (x : Nd) (hB : SeaB lo w p d L 0) (R : Right d) (hq : q < lo) (hMq : MsgAt w q 0 ⟨(k : Int), g, 0, false, body⟩) (hqz : w.frozen? ⟨q, 2, none⟩ = false) (hx : d.nodes[k]? = some x) (hE : castE d k g body.size = 0) (hst : x.clock + 1 = st) (hd1 : setNode d k { x with clock := st } = d1) (hlo : lo ≤ w.heap.size) (d2 : Wd) (hR1 : RowsOk d1) (hW1' : ∀ f t, (wireAt d1 f t).length ≤ 40) (hN : d1.nodes.length ≤ 1000) (hk1 : k < d1.nodes.length) (hlay : layTo ⟨(k : Int), g, st, false, body⟩ k d1 d1.nodes.length = .ok d2) (X2 : Nd) (hx2 : d2.nodes[k]? = some X2) (pl : List Mg) (HPE0 : Hid (putE ⟨(k : Int), g, st, false, body⟩ X2.held = 0)) (HPL0 : Hid (putL ⟨(k : Int), g, st, false, body⟩ X2.held = pl)) (d3 : Wd) (er : Int) (HD3 : Hid (setNode d2 k { X2 with held := pl } = d3)) (HTL : Hid (checked d3 (tellOfD d3 (k : Int)) = .error er)) (her : (er == 0) = false) :
    Calls Tryz.prog 141 #[.pointer (some ⟨p, 0, none⟩), .pointer (some ⟨q, 0, none⟩)] w fun e w' => e = .panicked (pan er) ∧ Fr (Up lo fun i => i = q) w w' := by
  have hMq0 := hMq
  have HLAY := (show Hid _ from hlay)
  have HR1 : Hid (RowsOk d1) := hR1
  have HW1 : Hid (∀ f t, (wireAt d1 f t).length ≤ 40) := hW1'
  clear hlay hR1 hW1'
  have hk := node_lt hx
  have hpl := hB.made.box.lt
  have hlop := hB.lop
  have hqw : q < w.heap.size := by omega
  obtain ⟨bn, on, cn, hL1, hlb, hbn, hbk, hcn⟩ := hB.made.own.lies (ix := (1, 0, 0)) ⟨rfl, rfl⟩ (by show 0 < d.nodes.length; omega)
  obtain ⟨k0, _, _, _, kz⟩ := hB.made.own.cells hx hL1
  have kz0 := kz 0 (by omega)
  rw [Nat.add_zero] at kz0
  have b1 := hB.made.box.c1
  rw [hL1] at b1
  dsimp only at b1
  have HL1 : Hid (L (1, 0, 0) = ⟨some ⟨bn, on, none⟩, cn⟩) := hL1
  have hcl := R.clk k
  rw [(at_node hx).1] at hcl
  have hne3 : ¬ x.clock = 1048576 := by
    intro e
    have hE' := hE
    unfold castE at hE'
    rw [Int.toNat_natCast, (at_node hx).1, e] at hE'
    split at hE'; cases hE'; split at hE'; cases hE'; split at hE'; cases hE'; simp at hE'
  have hst' : IntKind.i64.wrap (x.clock + 1) = st := by rw [hst]; exact IntWalk.i64_in _ (by omega)
  have n1 : (k : Int) < (d.nodes.length : Int) := by omega
  have hMay := may_any lo p ⟨(k : Int), g, 0, false, body⟩ d L w 0 hB R
  dsimp only at hMay
  obtain ⟨q0, q1, q2, q3, q4⟩ := hMq
  simp only [Nat.zero_add] at q0 q1 q2 q3 q4
  have HST : Hid (x.clock + 1 = st) := hst
  have HD1 : Hid (setNode d k { x with clock := st } = d1) := hd1
  have HE : Hid (castE d k g body.size = 0) := hE
  have hqo : ¬ blkW d L q := fun hb => by have := (hB.made.own.blk hb).1; omega
  clear hL1 hst hd1 hE kz hne3
  go_enter Tryz.func141, Tryz.ntmps141
  go_wp2_with (go_at_call 142; refine hMay.mono ?_; rintro e w2 hR; obtain ⟨h1, _, hS2⟩ := hR.out; obtain rfl := h1 HE.out; clear h1 hR)
  clear q0 q1 q2 q3 q4
  have QF : Hid (∀ y, Since w y → MsgAt y q 0 ⟨(k : Int), g, 0, false, body⟩ ∧ y.frozen? ⟨q, 2, none⟩ = false) := fun y hy => ⟨msgAt_since hMq0 hqw hy, (hy.below.frozen (p := ⟨q, 2, none⟩) hqw).trans hqz⟩
  obtain ⟨S0, hS0⟩ : ∃ S0 : World → Prop, ∀ w', S0 w' ↔ Since w w' := ⟨_, fun _ => Iff.rfl⟩
  have hneT := heldTrue w
  have x1 : ∀ y : HeldW S0, y.w.cell? ⟨p, 1, none⟩ = some (.slice (some ⟨bn, on, none⟩) d.nodes.length cn) := fun y => (((hS0 _).1 y.h).cellAt hpl _).trans b1
  have x2 : ∀ y : HeldW S0, y.w.cell? ⟨bn, on + k * 4, none⟩ = some (.int .i64 x.clock) := fun y => (((hS0 _).1 y.h).cellAt hbn _).trans k0
  have m0 : ∀ y : HeldW S0, y.w.cell? ⟨q, 0, none⟩ = some (.int .i64 k) := fun y => ((QF.out _ ((hS0 _).1 y.h)).1).c0
  obtain ⟨W0, hW0⟩ : ∃ y, w2.drew = y := ⟨_, rfl⟩
  have hs0 : Since w W0 := by rw [← hW0]; exact Since.drew hS2
  have hSi0 := (hS0 W0).2 hs0
  have hne : Nonempty (HeldW S0) := ⟨⟨_, hSi0⟩⟩
  have y1 := x2 ⟨_, hSi0⟩
  have y2 := (hs0.below.frozen (p := ⟨bn, on + k * 4, none⟩) hbn).trans kz0
  dsimp only at y1
  obtain ⟨W1, hW1⟩ : ∃ y, W0.setCell ⟨bn, on + k * 4, none⟩ (.int .i64 st) = y := ⟨_, rfl⟩
  obtain ⟨hM1, hst1⟩ := hB.made.setClk hx HL1.out hs0 st
  rw [hW1, HD1.out] at hM1 hst1
  have hB1 := hB.step hM1 hst1
  have hU1 := hst1.up hB.made.own (fun i => i = q)
  have hQ1 : W1.heap[q]? = w.heap[q]? := (hst1.beside hqw hqo).1
  have hqo1 := (hst1.beside hqw hqo).2
  have hx1 : d1.nodes[k]? = some { x with clock := st } := by rw [← HD1.out, set_nodes _ hx, if_pos rfl]
  have hn1 : d1.nodes.length = d.nodes.length := by rw [← HD1.out]; simp [setNode]
  refine beginM (fun w' => ∃ x : HeldW S0, w' = x.w) (by kernel_rfl) ?_
  rw [hW0]
  clear hW0
  refine takeW 0 rfl (by kernel_rfl) (fun _ _ _ _ h => h) (by rfl) rfl ?_
  go_big_quiet_op
  refine takeW 1 rfl (by kernel_rfl) (fun _ _ _ _ h => h) (by rfl) rfl ?_
  go_big_quiet_op
  refine takeW 2 rfl (by kernel_rfl) (fun _ _ _ _ h => h) (by rfl) rfl ?_
  go_big_quiet_op
  refine takeW 3 rfl (by kernel_rfl) (fun _ _ _ _ h => h) (by rfl) rfl ?_
  go_big_quiet_op
  refine takeM 4 rfl (by kernel_rfl) (heldS_mk hSi0) (fun _ _ _ _ h => h) (by rfl) rfl ?_
  go_big_quiet_op
  refine takeW 5 rfl (by kernel_rfl) (fun _ _ _ _ h => h) (by rfl) rfl ?_
  go_big_quiet_op
  refine takeM 6 rfl (by kernel_rfl) (heldS_mk hSi0) (fun _ _ _ _ h => h) (by rfl) rfl ?_
  go_big_quiet_op
  refine takeW 7 rfl (by kernel_rfl) (fun _ _ _ _ h => h) (by rfl) rfl ?_
  go_big_quiet_op
  refine takeW 8 rfl (by kernel_rfl) (fun _ _ _ _ h => h) (by rfl) rfl ?_
  go_big_quiet_op
  refine takeM 9 rfl (by kernel_rfl) (heldS_mk hSi0) (fun _ _ _ _ h => h) (by rfl) rfl ?_
  go_big_quiet_op
  refine takeW 10 rfl (by kernel_rfl) (fun _ _ _ _ h => h) (by rfl) rfl ?_
  go_big_quiet_op
  refine takeW 11 rfl (by kernel_rfl) (fun _ _ _ _ h => h) (by rfl) rfl ?_
  go_big_quiet_op
  refine takeW 12 rfl (by kernel_rfl) (fun _ _ _ _ h => h) (by rfl) rfl ?_
  go_big_quiet_op
  refine actM 13 rfl (by kernel_rfl) ?_
  intro K hK
  go_simp
  refine hK _ _ (fun h => absurd h (by decide +kernel)) ?_
  clear hK K
  refine doneM (by kernel_rfl) ?_
  clear x1 x2 m0 hne y1 y2
  have hbW : bn < W1.heap.size := Nat.lt_of_lt_of_le hbn hst1.fr.size
  obtain ⟨k0', _, _, _, _⟩ := hB1.made.own.cells hx1 HL1.out
  have b1' := hB1.made.box.c1
  rw [HL1.out] at b1'
  dsimp only at b1' k0'
  have hqW1 : q < W1.heap.size := Nat.lt_of_lt_of_le hqw hst1.fr.size
  have hMq1 : MsgAt W1 q 0 ⟨(k : Int), g, 0, false, body⟩ := msgAt_block hMq0 hQ1
  have hqz1 : W1.frozen? ⟨q, 2, none⟩ = false := (World.frozen?_of_block (a := ⟨q, 2, none⟩) hQ1).trans hqz
  go_wp2_with fail
  obtain ⟨S2, hS2'⟩ : ∃ S0 : World → Prop, ∀ w', S0 w' ↔ Since W1 w' := ⟨_, fun _ => Iff.rfl⟩
  have x1 : ∀ y : HeldW S2, y.w.cell? ⟨p, 1, none⟩ = some (.slice (some ⟨bn, on, none⟩) d1.nodes.length cn) := fun y => (((hS2' _).1 y.h).cellAt hB1.made.box.lt _).trans b1'
  have x2 : ∀ y : HeldW S2, y.w.cell? ⟨bn, on + k * 4, none⟩ = some (.int .i64 st) := fun y => (((hS2' _).1 y.h).cellAt hbW _).trans k0'
  have m0 : ∀ y : HeldW S2, y.w.cell? ⟨q, 0, none⟩ = some (.int .i64 k) := fun y => (msgAt_since hMq1 hqW1 ((hS2' _).1 y.h)).c0
  obtain ⟨V0, hW0⟩ : ∃ y, W1.drew = y := ⟨_, rfl⟩
  have hv0 : Since W1 V0 := by rw [← hW0]; exact Since.drew (Since.refl _)
  have hSi0 := (hS2' V0).2 hv0
  have hne : Nonempty (HeldW S2) := ⟨⟨_, hSi0⟩⟩
  have n1' : (k : Int) < (d1.nodes.length : Int) := by omega
  have z1 := (msgAt_since hMq1 hqW1 hv0).c2
  have z2 := (hv0.below.frozen (p := ⟨q, 2, none⟩) hqW1).trans hqz1
  dsimp only [Nat.zero_add] at z1
  simp only [Nat.zero_add] at z1
  obtain ⟨W3, hW3⟩ : ∃ y, V0.setCell ⟨q, 2, none⟩ (.int .i64 st) = y := ⟨_, rfl⟩
  have hF3 : Fr (fun i => i = q) V0 W3 := by rw [← hW3]; exact (Fr.refl (fun i => i = q) V0).setCell ⟨q, 2, none⟩ _ (fun _ => rfl)
  have hB3 := (hB1.since hv0).fr hF3 (fun b hb e => hqo1 (e ▸ hb)) (by omega)
  have hMq3 : MsgAt W3 q 0 ⟨(k : Int), g, st, false, body⟩ := by
    have hm := msgAt_since hMq1 hqW1 hv0
    obtain ⟨a0, a1, a2, a3, a4⟩ := hm
    rw [← hW3]
    exact ⟨(set_ne _ _ _ (by decide)).trans a0, (set_ne _ _ _ (by decide)).trans a1, set_eq _ _ _ _ a2, (set_ne _ _ _ (by decide)).trans a3, (set_ne _ _ _ (by decide)).trans a4⟩
  have hqW3 : q < W3.heap.size := Nat.lt_of_lt_of_le hqW1 (Nat.le_trans hv0.size hF3.size)
  have hU3 : Fr (Up lo fun i => i = q) w W3 := (hU1.upTrans (hv0.up _ _)).upTrans (hF3.mono (fun i _ e => .inr e))
  have hlo3 : lo ≤ W3.heap.size := Nat.le_trans hlo hU3.size
  refine beginM (fun w' => ∃ x : HeldW S2, w' = x.w) (by kernel_rfl) ?_
  rw [hW0]
  clear hW0
  refine takeW 0 rfl (by kernel_rfl) (fun _ _ _ _ h => h) (by rfl) rfl ?_
  go_big_quiet_op
  refine takeW 1 rfl (by kernel_rfl) (fun _ _ _ _ h => h) (by rfl) rfl ?_
  go_big_quiet_op
  refine takeW 2 rfl (by kernel_rfl) (fun _ _ _ _ h => h) (by rfl) rfl ?_
  go_big_quiet_op
  refine takeW 3 rfl (by kernel_rfl) (fun _ _ _ _ h => h) (by rfl) rfl ?_
  go_big_quiet_op
  refine takeM 4 rfl (by kernel_rfl) (heldS_mk hSi0) (fun _ _ _ _ h => h) (by rfl) rfl ?_
  go_big_quiet_op
  refine takeW 5 rfl (by kernel_rfl) (fun _ _ _ _ h => h) (by rfl) rfl ?_
  go_big_quiet_op
  refine takeM 6 rfl (by kernel_rfl) (heldS_mk hSi0) (fun _ _ _ _ h => h) (by rfl) rfl ?_
  go_big_quiet_op
  refine takeW 7 rfl (by kernel_rfl) (fun _ _ _ _ h => h) (by rfl) rfl ?_
  go_big_quiet_op
  refine takeW 8 rfl (by kernel_rfl) (fun _ _ _ _ h => h) (by rfl) rfl ?_
  go_big_quiet_op
  refine takeM 9 rfl (by kernel_rfl) (heldS_mk hSi0) (fun _ _ _ _ h => h) (by rfl) rfl ?_
  go_big_quiet_op
  refine takeW 10 rfl (by kernel_rfl) (fun _ _ _ _ h => h) (by rfl) rfl ?_
  go_big_quiet_op
  refine actM 11 rfl (by kernel_rfl) ?_
  intro K hK
  go_simp
  refine hK _ _ (fun h => absurd h (by decide +kernel)) ?_
  clear hK K
  refine doneM (by kernel_rfl) ?_
  clear x1 x2 m0 hne hneT z1 z2 b1' k0' hW3
  have QF3 : Hid (∀ y, Fr (Up lo fun _ => False) W3 y → MsgAt y q 0 ⟨(k : Int), g, st, false, body⟩) := fun y hy => msgAt_block hMq3 (hy.block q hqW3 (by rintro (h | h); exact h hq; exact h))
  obtain ⟨q0, q1, q2, q3, q4⟩ := hMq3
  simp only [Nat.zero_add] at q0 q1 q2 q3 q4
  have hUU : Hid (∀ y, Fr (Up lo fun _ => False) W3 y → Fr (Up lo fun i => i = q) w y) := fun y hy => hU3.upTrans (hy.mono (fun i _ h => by rcases h with h | h; exact .inl h; exact h.elim))
  go_wp2_with (go_at_call 143; refine (post_any lo p k g st false body d1 L W3 0 hB3 HR1.out hk1 (by omega) HW1.out hlo3 (fun e w' => e = .returned (.tuple #[]) ∧ ∃ L', SeaB lo w' p d2 L' 0 ∧ Fr (Up lo fun _ => False) W3 w') (fun er' h w' hF => by rw [HLAY.out] at h; cases h) (fun d' L' w' h hB' hF => by rw [HLAY.out] at h; cases h; exact ⟨rfl, L', hB', hF⟩)).mono ?_; rintro e w4 hR; obtain ⟨rfl, L4, hB4, hF4⟩ := hR.out; obtain ⟨r0, r1, r2, r3, r4⟩ := QF3.out _ hF4; simp only [Nat.zero_add] at r0 r1 r2 r3 r4; clear hR)
  clear q0 q1 q2 q3 q4
  refine (seaHold_put lo p k ⟨(k : Int), g, st, false, body⟩ d2 L4 w4 X2 0 hB4 hx2 rfl (Nat.le_trans hlo3 hF4.size) 0 pl HPE0.out HPL0.out (fun e w' => e = .returned (.tuple #[]) ∧ ∃ L', SeaB lo w' p (setNode d2 k { X2 with held := pl }) L' 0 ∧ Fr (Up lo fun _ => False) w4 w') (fun h => absurd rfl h) (fun _ w' L' hB' hF => ⟨rfl, L', hB', hF⟩)).mono ?_
  rintro e w5 hR
  obtain ⟨rfl, L5, hB5, hF45⟩ := hR.out
  have hF5 := hF4.upTrans hF45
  rw [HD3.out] at hB5
  clear hR
  dsimp only
  clear r0 r1 r2 r3 r4
  have hpl5 := hB5.made.box.lt
  have b0 := hB5.made.box.c0
  have b1 := hB5.made.box.c1
  have b2 := hB5.made.box.c2
  have hMq5 := QF3.out _ hF5
  have hqW5 : q < w5.heap.size := Nat.lt_of_lt_of_le hqW3 hF5.size
  obtain ⟨S5, hS5'⟩ : ∃ S0 : World → Prop, ∀ w', S0 w' ↔ Since w5 w' := ⟨_, fun _ => Iff.rfl⟩
  have hneT := heldTrue w
  have x0 : ∀ y : HeldW S5, y.w.cell? ⟨p, 0, none⟩ = some (.slice (L5 (0, 0, 0)).a d3.groups.length (L5 (0, 0, 0)).cap) := fun y => (((hS5' _).1 y.h).cellAt hpl5 _).trans b0
  have x1 : ∀ y : HeldW S5, y.w.cell? ⟨p, 1, none⟩ = some (.slice (L5 (1, 0, 0)).a d3.nodes.length (L5 (1, 0, 0)).cap) := fun y => (((hS5' _).1 y.h).cellAt hpl5 _).trans b1
  have x2 : ∀ y : HeldW S5, y.w.cell? ⟨p, 2, none⟩ = some (.slice (L5 (2, 0, 0)).a d3.wires.length (L5 (2, 0, 0)).cap) := fun y => (((hS5' _).1 y.h).cellAt hpl5 _).trans b2
  have m0 : ∀ y : HeldW S5, y.w.cell? ⟨q, 0, none⟩ = some (.int .i64 k) := fun y => (msgAt_since hMq5 hqW5 ((hS5' _).1 y.h)).c0
  go_wp2_with fail
  obtain ⟨U0, hW0⟩ : ∃ y, w5.drew = y := ⟨_, rfl⟩
  have hu0 : Since w5 U0 := by rw [← hW0]; exact Since.drew (Since.refl _)
  have hSi0 := (hS5' U0).2 hu0
  have hne : Nonempty (HeldW S5) := ⟨⟨_, hSi0⟩⟩
  have hTN := tellNode_any (wvOf L5 d3) d3 k U0 (hB5.made.own.since hu0).wat
  unfold wvOf at hTN
  rw [HTL.out] at hTN
  dsimp only at hTN
  refine beginM (fun w' => ∃ x : HeldW S5, w' = x.w) (by kernel_rfl) ?_
  rw [hW0]
  clear hW0
  refine takeW 0 rfl (by kernel_rfl) (fun _ _ _ _ h => h) (by rfl) rfl ?_
  go_big_quiet_op
  refine takeW 1 rfl (by kernel_rfl) (fun _ _ _ _ h => h) (by rfl) rfl ?_
  go_big_quiet_op
  refine takeW 2 rfl (by kernel_rfl) (fun _ _ _ _ h => h) (by rfl) rfl ?_
  go_big_quiet_op
  refine takeW 3 rfl (by kernel_rfl) (fun _ _ _ _ h => h) (by rfl) rfl ?_
  go_big_quiet_op
  refine takeM 4 rfl (by kernel_rfl) (heldS_mk hSi0) (fun _ _ _ _ h => h) (by rfl) rfl ?_
  go_big_quiet_op
  refine takeW 5 rfl (by kernel_rfl) (fun _ _ _ _ h => h) (by rfl) rfl ?_
  go_big_quiet_op
  refine takeM 6 rfl (by kernel_rfl) (heldS_mk hSi0) (fun _ _ _ _ h => h) (by rfl) rfl ?_
  go_big_quiet_op
  refine actM 7 rfl (by kernel_rfl) ?_
  intro K hK
  go_simp
  refine hTN.mono ?_
  rintro e wT hR
  obtain ⟨rfl, hFT⟩ := hR.out.1 er rfl
  have hST := hFT.none
  dsimp only
  refine hK _ _ (fun h => absurd h (by decide +kernel)) ?_
  clear hK K
  refine takeW 8 rfl (by kernel_rfl) (fun _ _ _ _ h => h) (by rfl) rfl ?_
  go_big_quiet_op
  refine takeW 9 rfl (by kernel_rfl) (fun _ _ _ _ h => h) (by rfl) rfl ?_
  go_big_quiet_op
  refine takeW 10 rfl (by kernel_rfl) (fun _ _ _ _ h => h) (by rfl) rfl ?_
  go_big_quiet_op
  refine actM 11 rfl (by kernel_rfl) ?_
  intro K hK
  go_simp
  refine (count_err p ⟨none, 0, 0, none, 0, 0, none, 0, 0⟩ 0 er her wT).mono ?_
  rintro e w' ⟨rfl, hS9⟩
  dsimp only
  exact ⟨rfl, rfl, hUU.out _ (hF5.upTrans (((hu0.trans hST).trans hS9).up _ _))⟩

set_option maxHeartbeats 1000000 in
theorem castW_null_tok (lo p q k : Nat) (g st : Int) (body : ByteArray) (d d1 : Wd) (L : Lay) (w : World) (x : Nd) (hB : SeaB lo w p d L 0) (R : Right d) (hq : q < lo) (hMq : MsgAt w q 0 ⟨(k : Int), g, 0, true, body⟩) (hqz : w.frozen? ⟨q, 2, none⟩ = false) (hx : d.nodes[k]? = some x) (hE : castE d k g body.size = 0) (hst : x.clock + 1 = st) (hd1 : setNode d k { x with clock := st } = d1) (hlo : lo ≤ w.heap.size) (d2 : Wd) (hR1 : RowsOk d1) (hW1' : ∀ f t, (wireAt d1 f t).length ≤ 40) (hN : d1.nodes.length ≤ 1000) (hk1 : k < d1.nodes.length) (hlay : layTo ⟨(k : Int), g, st, true, body⟩ k d1 d1.nodes.length = .ok d2) (X2 : Nd) (hx2 : d2.nodes[k]? = some X2) (d3 d4 : Wd) (mm : Int) (HD3 : Hid (d2 = d3)) (HTL : Hid (checked d3 (tellOfD d3 (k : Int)) = .ok (d4, mm))) (hmm : 0 ≤ mm ∧ mm ≤ 100000) :
    Calls Tryz.prog 141 #[.pointer (some ⟨p, 0, none⟩), .pointer (some ⟨q, 0, none⟩)] w fun e w' => e = .returned (.tuple #[]) ∧ ∃ L', SeaB lo w' p d4 L' mm ∧ Fr (Up lo fun i => i = q) w w' := by
  have hMq0 := hMq
  have HLAY := (show Hid _ from hlay)
  have HR1 : Hid (RowsOk d1) := hR1
  have HW1 : Hid (∀ f t, (wireAt d1 f t).length ≤ 40) := hW1'
  clear hlay hR1 hW1'
  have hk := node_lt hx
  have hpl := hB.made.box.lt
  have hlop := hB.lop
  have hqw : q < w.heap.size := by omega
  obtain ⟨bn, on, cn, hL1, hlb, hbn, hbk, hcn⟩ := hB.made.own.lies (ix := (1, 0, 0)) ⟨rfl, rfl⟩ (by show 0 < d.nodes.length; omega)
  obtain ⟨k0, _, _, _, kz⟩ := hB.made.own.cells hx hL1
  have kz0 := kz 0 (by omega)
  rw [Nat.add_zero] at kz0
  have b1 := hB.made.box.c1
  rw [hL1] at b1
  dsimp only at b1
  have HL1 : Hid (L (1, 0, 0) = ⟨some ⟨bn, on, none⟩, cn⟩) := hL1
  have hcl := R.clk k
  rw [(at_node hx).1] at hcl
  have hne3 : ¬ x.clock = 1048576 := by
    intro e
    have hE' := hE
    unfold castE at hE'
    rw [Int.toNat_natCast, (at_node hx).1, e] at hE'
    split at hE'; cases hE'; split at hE'; cases hE'; split at hE'; cases hE'; simp at hE'
  have hst' : IntKind.i64.wrap (x.clock + 1) = st := by rw [hst]; exact IntWalk.i64_in _ (by omega)
  have n1 : (k : Int) < (d.nodes.length : Int) := by omega
  have hMay := may_any lo p ⟨(k : Int), g, 0, true, body⟩ d L w 0 hB R
  dsimp only at hMay
  obtain ⟨q0, q1, q2, q3, q4⟩ := hMq
  simp only [Nat.zero_add] at q0 q1 q2 q3 q4
  have HST : Hid (x.clock + 1 = st) := hst
  have HD1 : Hid (setNode d k { x with clock := st } = d1) := hd1
  have HE : Hid (castE d k g body.size = 0) := hE
  have hqo : ¬ blkW d L q := fun hb => by have := (hB.made.own.blk hb).1; omega
  clear hL1 hst hd1 hE kz hne3
  go_enter Tryz.func141, Tryz.ntmps141
  go_wp2_with (go_at_call 142; refine hMay.mono ?_; rintro e w2 hR; obtain ⟨h1, _, hS2⟩ := hR.out; obtain rfl := h1 HE.out; clear h1 hR)
  clear q0 q1 q2 q3 q4
  have QF : Hid (∀ y, Since w y → MsgAt y q 0 ⟨(k : Int), g, 0, true, body⟩ ∧ y.frozen? ⟨q, 2, none⟩ = false) := fun y hy => ⟨msgAt_since hMq0 hqw hy, (hy.below.frozen (p := ⟨q, 2, none⟩) hqw).trans hqz⟩
  obtain ⟨S0, hS0⟩ : ∃ S0 : World → Prop, ∀ w', S0 w' ↔ Since w w' := ⟨_, fun _ => Iff.rfl⟩
  have hneT := heldTrue w
  have x1 : ∀ y : HeldW S0, y.w.cell? ⟨p, 1, none⟩ = some (.slice (some ⟨bn, on, none⟩) d.nodes.length cn) := fun y => (((hS0 _).1 y.h).cellAt hpl _).trans b1
  have x2 : ∀ y : HeldW S0, y.w.cell? ⟨bn, on + k * 4, none⟩ = some (.int .i64 x.clock) := fun y => (((hS0 _).1 y.h).cellAt hbn _).trans k0
  have m0 : ∀ y : HeldW S0, y.w.cell? ⟨q, 0, none⟩ = some (.int .i64 k) := fun y => ((QF.out _ ((hS0 _).1 y.h)).1).c0
  obtain ⟨W0, hW0⟩ : ∃ y, w2.drew = y := ⟨_, rfl⟩
  have hs0 : Since w W0 := by rw [← hW0]; exact Since.drew hS2
  have hSi0 := (hS0 W0).2 hs0
  have hne : Nonempty (HeldW S0) := ⟨⟨_, hSi0⟩⟩
  have y1 := x2 ⟨_, hSi0⟩
  have y2 := (hs0.below.frozen (p := ⟨bn, on + k * 4, none⟩) hbn).trans kz0
  dsimp only at y1
  obtain ⟨W1, hW1⟩ : ∃ y, W0.setCell ⟨bn, on + k * 4, none⟩ (.int .i64 st) = y := ⟨_, rfl⟩
  obtain ⟨hM1, hst1⟩ := hB.made.setClk hx HL1.out hs0 st
  rw [hW1, HD1.out] at hM1 hst1
  have hB1 := hB.step hM1 hst1
  have hU1 := hst1.up hB.made.own (fun i => i = q)
  have hQ1 : W1.heap[q]? = w.heap[q]? := (hst1.beside hqw hqo).1
  have hqo1 := (hst1.beside hqw hqo).2
  have hx1 : d1.nodes[k]? = some { x with clock := st } := by rw [← HD1.out, set_nodes _ hx, if_pos rfl]
  have hn1 : d1.nodes.length = d.nodes.length := by rw [← HD1.out]; simp [setNode]
  refine beginM (fun w' => ∃ x : HeldW S0, w' = x.w) (by kernel_rfl) ?_
  rw [hW0]
  clear hW0
  refine takeW 0 rfl (by kernel_rfl) (fun _ _ _ _ h => h) (by rfl) rfl ?_
  go_big_quiet_op
  refine takeW 1 rfl (by kernel_rfl) (fun _ _ _ _ h => h) (by rfl) rfl ?_
  go_big_quiet_op
  refine takeW 2 rfl (by kernel_rfl) (fun _ _ _ _ h => h) (by rfl) rfl ?_
  go_big_quiet_op
  refine takeW 3 rfl (by kernel_rfl) (fun _ _ _ _ h => h) (by rfl) rfl ?_
  go_big_quiet_op
  refine takeM 4 rfl (by kernel_rfl) (heldS_mk hSi0) (fun _ _ _ _ h => h) (by rfl) rfl ?_
  go_big_quiet_op
  refine takeW 5 rfl (by kernel_rfl) (fun _ _ _ _ h => h) (by rfl) rfl ?_
  go_big_quiet_op
  refine takeM 6 rfl (by kernel_rfl) (heldS_mk hSi0) (fun _ _ _ _ h => h) (by rfl) rfl ?_
  go_big_quiet_op
  refine takeW 7 rfl (by kernel_rfl) (fun _ _ _ _ h => h) (by rfl) rfl ?_
  go_big_quiet_op
  refine takeW 8 rfl (by kernel_rfl) (fun _ _ _ _ h => h) (by rfl) rfl ?_
  go_big_quiet_op
  refine takeM 9 rfl (by kernel_rfl) (heldS_mk hSi0) (fun _ _ _ _ h => h) (by rfl) rfl ?_
  go_big_quiet_op
  refine takeW 10 rfl (by kernel_rfl) (fun _ _ _ _ h => h) (by rfl) rfl ?_
  go_big_quiet_op
  refine takeW 11 rfl (by kernel_rfl) (fun _ _ _ _ h => h) (by rfl) rfl ?_
  go_big_quiet_op
  refine takeW 12 rfl (by kernel_rfl) (fun _ _ _ _ h => h) (by rfl) rfl ?_
  go_big_quiet_op
  refine actM 13 rfl (by kernel_rfl) ?_
  intro K hK
  go_simp
  refine hK _ _ (fun h => absurd h (by decide +kernel)) ?_
  clear hK K
  refine doneM (by kernel_rfl) ?_
  clear x1 x2 m0 hne y1 y2
  have hbW : bn < W1.heap.size := Nat.lt_of_lt_of_le hbn hst1.fr.size
  obtain ⟨k0', _, _, _, _⟩ := hB1.made.own.cells hx1 HL1.out
  have b1' := hB1.made.box.c1
  rw [HL1.out] at b1'
  dsimp only at b1' k0'
  have hqW1 : q < W1.heap.size := Nat.lt_of_lt_of_le hqw hst1.fr.size
  have hMq1 : MsgAt W1 q 0 ⟨(k : Int), g, 0, true, body⟩ := msgAt_block hMq0 hQ1
  have hqz1 : W1.frozen? ⟨q, 2, none⟩ = false := (World.frozen?_of_block (a := ⟨q, 2, none⟩) hQ1).trans hqz
  go_wp2_with fail
  obtain ⟨S2, hS2'⟩ : ∃ S0 : World → Prop, ∀ w', S0 w' ↔ Since W1 w' := ⟨_, fun _ => Iff.rfl⟩
  have x1 : ∀ y : HeldW S2, y.w.cell? ⟨p, 1, none⟩ = some (.slice (some ⟨bn, on, none⟩) d1.nodes.length cn) := fun y => (((hS2' _).1 y.h).cellAt hB1.made.box.lt _).trans b1'
  have x2 : ∀ y : HeldW S2, y.w.cell? ⟨bn, on + k * 4, none⟩ = some (.int .i64 st) := fun y => (((hS2' _).1 y.h).cellAt hbW _).trans k0'
  have m0 : ∀ y : HeldW S2, y.w.cell? ⟨q, 0, none⟩ = some (.int .i64 k) := fun y => (msgAt_since hMq1 hqW1 ((hS2' _).1 y.h)).c0
  obtain ⟨V0, hW0⟩ : ∃ y, W1.drew = y := ⟨_, rfl⟩
  have hv0 : Since W1 V0 := by rw [← hW0]; exact Since.drew (Since.refl _)
  have hSi0 := (hS2' V0).2 hv0
  have hne : Nonempty (HeldW S2) := ⟨⟨_, hSi0⟩⟩
  have n1' : (k : Int) < (d1.nodes.length : Int) := by omega
  have z1 := (msgAt_since hMq1 hqW1 hv0).c2
  have z2 := (hv0.below.frozen (p := ⟨q, 2, none⟩) hqW1).trans hqz1
  dsimp only [Nat.zero_add] at z1
  simp only [Nat.zero_add] at z1
  obtain ⟨W3, hW3⟩ : ∃ y, V0.setCell ⟨q, 2, none⟩ (.int .i64 st) = y := ⟨_, rfl⟩
  have hF3 : Fr (fun i => i = q) V0 W3 := by rw [← hW3]; exact (Fr.refl (fun i => i = q) V0).setCell ⟨q, 2, none⟩ _ (fun _ => rfl)
  have hB3 := (hB1.since hv0).fr hF3 (fun b hb e => hqo1 (e ▸ hb)) (by omega)
  have hMq3 : MsgAt W3 q 0 ⟨(k : Int), g, st, true, body⟩ := by
    have hm := msgAt_since hMq1 hqW1 hv0
    obtain ⟨a0, a1, a2, a3, a4⟩ := hm
    rw [← hW3]
    exact ⟨(set_ne _ _ _ (by decide)).trans a0, (set_ne _ _ _ (by decide)).trans a1, set_eq _ _ _ _ a2, (set_ne _ _ _ (by decide)).trans a3, (set_ne _ _ _ (by decide)).trans a4⟩
  have hqW3 : q < W3.heap.size := Nat.lt_of_lt_of_le hqW1 (Nat.le_trans hv0.size hF3.size)
  have hU3 : Fr (Up lo fun i => i = q) w W3 := (hU1.upTrans (hv0.up _ _)).upTrans (hF3.mono (fun i _ e => .inr e))
  have hlo3 : lo ≤ W3.heap.size := Nat.le_trans hlo hU3.size
  refine beginM (fun w' => ∃ x : HeldW S2, w' = x.w) (by kernel_rfl) ?_
  rw [hW0]
  clear hW0
  refine takeW 0 rfl (by kernel_rfl) (fun _ _ _ _ h => h) (by rfl) rfl ?_
  go_big_quiet_op
  refine takeW 1 rfl (by kernel_rfl) (fun _ _ _ _ h => h) (by rfl) rfl ?_
  go_big_quiet_op
  refine takeW 2 rfl (by kernel_rfl) (fun _ _ _ _ h => h) (by rfl) rfl ?_
  go_big_quiet_op
  refine takeW 3 rfl (by kernel_rfl) (fun _ _ _ _ h => h) (by rfl) rfl ?_
  go_big_quiet_op
  refine takeM 4 rfl (by kernel_rfl) (heldS_mk hSi0) (fun _ _ _ _ h => h) (by rfl) rfl ?_
  go_big_quiet_op
  refine takeW 5 rfl (by kernel_rfl) (fun _ _ _ _ h => h) (by rfl) rfl ?_
  go_big_quiet_op
  refine takeM 6 rfl (by kernel_rfl) (heldS_mk hSi0) (fun _ _ _ _ h => h) (by rfl) rfl ?_
  go_big_quiet_op
  refine takeW 7 rfl (by kernel_rfl) (fun _ _ _ _ h => h) (by rfl) rfl ?_
  go_big_quiet_op
  refine takeW 8 rfl (by kernel_rfl) (fun _ _ _ _ h => h) (by rfl) rfl ?_
  go_big_quiet_op
  refine takeM 9 rfl (by kernel_rfl) (heldS_mk hSi0) (fun _ _ _ _ h => h) (by rfl) rfl ?_
  go_big_quiet_op
  refine takeW 10 rfl (by kernel_rfl) (fun _ _ _ _ h => h) (by rfl) rfl ?_
  go_big_quiet_op
  refine actM 11 rfl (by kernel_rfl) ?_
  intro K hK
  go_simp
  refine hK _ _ (fun h => absurd h (by decide +kernel)) ?_
  clear hK K
  refine doneM (by kernel_rfl) ?_
  clear x1 x2 m0 hne hneT z1 z2 b1' k0' hW3
  have QF3 : Hid (∀ y, Fr (Up lo fun _ => False) W3 y → MsgAt y q 0 ⟨(k : Int), g, st, true, body⟩) := fun y hy => msgAt_block hMq3 (hy.block q hqW3 (by rintro (h | h); exact h hq; exact h))
  obtain ⟨q0, q1, q2, q3, q4⟩ := hMq3
  simp only [Nat.zero_add] at q0 q1 q2 q3 q4
  have hUU : Hid (∀ y, Fr (Up lo fun _ => False) W3 y → Fr (Up lo fun i => i = q) w y) := fun y hy => hU3.upTrans (hy.mono (fun i _ h => by rcases h with h | h; exact .inl h; exact h.elim))
  go_wp2_with (go_at_call 143; refine (post_any lo p k g st true body d1 L W3 0 hB3 HR1.out hk1 (by omega) HW1.out hlo3 (fun e w' => e = .returned (.tuple #[]) ∧ ∃ L', SeaB lo w' p d2 L' 0 ∧ Fr (Up lo fun _ => False) W3 w') (fun er' h w' hF => by rw [HLAY.out] at h; cases h) (fun d' L' w' h hB' hF => by rw [HLAY.out] at h; cases h; exact ⟨rfl, L', hB', hF⟩)).mono ?_; rintro e w4 hR; obtain ⟨rfl, L4, hB4, hF4⟩ := hR.out; obtain ⟨r0, r1, r2, r3, r4⟩ := QF3.out _ hF4; simp only [Nat.zero_add] at r0 r1 r2 r3 r4; clear hR)
  clear q0 q1 q2 q3 q4
  refine (seaHold_null lo p k ⟨(k : Int), g, st, true, body⟩ d2 L4 w4 X2 0 hB4 hx2 rfl).mono ?_
  rintro e w5 ⟨rfl, hS5⟩
  have hB5 := hB4.since hS5
  have hF5 := hF4.upTrans (hS5.up lo (fun _ => False))
  have L5 := L4
  obtain ⟨L5, hB5⟩ : ∃ L5, SeaB lo w5 p d3 L5 0 := ⟨L4, by rw [← HD3.out]; exact hB5⟩
  dsimp only
  clear r0 r1 r2 r3 r4
  have hpl5 := hB5.made.box.lt
  have b0 := hB5.made.box.c0
  have b1 := hB5.made.box.c1
  have b2 := hB5.made.box.c2
  have hMq5 := QF3.out _ hF5
  have hqW5 : q < w5.heap.size := Nat.lt_of_lt_of_le hqW3 hF5.size
  obtain ⟨S5, hS5'⟩ : ∃ S0 : World → Prop, ∀ w', S0 w' ↔ Since w5 w' := ⟨_, fun _ => Iff.rfl⟩
  have hneT := heldTrue w
  have x0 : ∀ y : HeldW S5, y.w.cell? ⟨p, 0, none⟩ = some (.slice (L5 (0, 0, 0)).a d3.groups.length (L5 (0, 0, 0)).cap) := fun y => (((hS5' _).1 y.h).cellAt hpl5 _).trans b0
  have x1 : ∀ y : HeldW S5, y.w.cell? ⟨p, 1, none⟩ = some (.slice (L5 (1, 0, 0)).a d3.nodes.length (L5 (1, 0, 0)).cap) := fun y => (((hS5' _).1 y.h).cellAt hpl5 _).trans b1
  have x2 : ∀ y : HeldW S5, y.w.cell? ⟨p, 2, none⟩ = some (.slice (L5 (2, 0, 0)).a d3.wires.length (L5 (2, 0, 0)).cap) := fun y => (((hS5' _).1 y.h).cellAt hpl5 _).trans b2
  have m0 : ∀ y : HeldW S5, y.w.cell? ⟨q, 0, none⟩ = some (.int .i64 k) := fun y => (msgAt_since hMq5 hqW5 ((hS5' _).1 y.h)).c0
  go_wp2_with fail
  obtain ⟨U0, hW0⟩ : ∃ y, w5.drew = y := ⟨_, rfl⟩
  have hu0 : Since w5 U0 := by rw [← hW0]; exact Since.drew (Since.refl _)
  have hSi0 := (hS5' U0).2 hu0
  have hne : Nonempty (HeldW S5) := ⟨⟨_, hSi0⟩⟩
  have hTN := tellNode_any (wvOf L5 d3) d3 k U0 (hB5.made.own.since hu0).wat
  unfold wvOf at hTN
  rw [HTL.out] at hTN
  dsimp only at hTN
  refine beginM (fun w' => ∃ x : HeldW S5, w' = x.w) (by kernel_rfl) ?_
  rw [hW0]
  clear hW0
  refine takeW 0 rfl (by kernel_rfl) (fun _ _ _ _ h => h) (by rfl) rfl ?_
  go_big_quiet_op
  refine takeW 1 rfl (by kernel_rfl) (fun _ _ _ _ h => h) (by rfl) rfl ?_
  go_big_quiet_op
  refine takeW 2 rfl (by kernel_rfl) (fun _ _ _ _ h => h) (by rfl) rfl ?_
  go_big_quiet_op
  refine takeW 3 rfl (by kernel_rfl) (fun _ _ _ _ h => h) (by rfl) rfl ?_
  go_big_quiet_op
  refine takeM 4 rfl (by kernel_rfl) (heldS_mk hSi0) (fun _ _ _ _ h => h) (by rfl) rfl ?_
  go_big_quiet_op
  refine takeW 5 rfl (by kernel_rfl) (fun _ _ _ _ h => h) (by rfl) rfl ?_
  go_big_quiet_op
  refine takeM 6 rfl (by kernel_rfl) (heldS_mk hSi0) (fun _ _ _ _ h => h) (by rfl) rfl ?_
  go_big_quiet_op
  refine actM 7 rfl (by kernel_rfl) ?_
  intro K hK
  go_simp
  refine hTN.mono ?_
  rintro e wT hR
  obtain ⟨L6, rfl, hO6, hFT⟩ := hR.out.2 d4 mm rfl
  have hST := hFT.none
  simp only [wval]
  refine hK _ _ (fun h => absurd h (by decide +kernel)) ?_
  clear hK K
  refine takeW 8 rfl (by kernel_rfl) (fun _ _ _ _ h => h) (by rfl) rfl ?_
  go_big_quiet_op
  refine takeW 9 rfl (by kernel_rfl) (fun _ _ _ _ h => h) (by rfl) rfl ?_
  go_big_quiet_op
  refine takeW 10 rfl (by kernel_rfl) (fun _ _ _ _ h => h) (by rfl) rfl ?_
  go_big_quiet_op
  refine actM 11 rfl (by kernel_rfl) ?_
  intro K hK
  go_simp
  have hCo := count_ok (L' := L6) (d' := d4) mm (by omega) hmm (hB5.since (hu0.trans hST)) (hO6.mono (by have := hu0.size; have := hB5.made.box.lt; omega))
  unfold wval at hCo
  refine hCo.mono ?_
  rintro e w9 ⟨rfl, hB9, hF9⟩
  dsimp only
  refine hK _ _ (fun h => absurd h (by decide +kernel)) ?_
  clear hK K
  refine doneM (by kernel_rfl) ?_
  clear x0 x1 x2 m0 hne hneT
  go_end0
  rw [Int.zero_add] at hB9
  exact ⟨rfl, L6, hB9, hUU.out _ (hF5.upTrans ((((hu0.trans hST).up _ _).upTrans (hF9.mono (fun i _ e => .inl (by have e : i = p := e; omega))))))⟩

set_option maxHeartbeats 1000000 in
theorem castW_put_tok (lo p q k : Nat) (g st : Int) (body : ByteArray) (d d1 : Wd) (L : Lay) (w : World) (x : Nd) (hB : SeaB lo w p d L 0) (R : Right d) (hq : q < lo) (hMq : MsgAt w q 0 ⟨(k : Int), g, 0, false, body⟩) (hqz : w.frozen? ⟨q, 2, none⟩ = false) (hx : d.nodes[k]? = some x) (hE : castE d k g body.size = 0) (hst : x.clock + 1 = st) (hd1 : setNode d k { x with clock := st } = d1) (hlo : lo ≤ w.heap.size) (d2 : Wd) (hR1 : RowsOk d1) (hW1' : ∀ f t, (wireAt d1 f t).length ≤ 40) (hN : d1.nodes.length ≤ 1000) (hk1 : k < d1.nodes.length) (hlay : layTo ⟨(k : Int), g, st, false, body⟩ k d1 d1.nodes.length = .ok d2) (X2 : Nd) (hx2 : d2.nodes[k]? = some X2) (pl : List Mg) (HPE0 : Hid (putE ⟨(k : Int), g, st, false, body⟩ X2.held = 0)) (HPL0 : Hid (putL ⟨(k : Int), g, st, false, body⟩ X2.held = pl)) (d3 d4 : Wd) (mm : Int) (HD3 : Hid (setNode d2 k { X2 with held := pl } = d3)) (HTL : Hid (checked d3 (tellOfD d3 (k : Int)) = .ok (d4, mm))) (hmm : 0 ≤ mm ∧ mm ≤ 100000) :
    Calls Tryz.prog 141 #[.pointer (some ⟨p, 0, none⟩), .pointer (some ⟨q, 0, none⟩)] w fun e w' => e = .returned (.tuple #[]) ∧ ∃ L', SeaB lo w' p d4 L' mm ∧ Fr (Up lo fun i => i = q) w w' := by
  have hMq0 := hMq
  have HLAY := (show Hid _ from hlay)
  have HR1 : Hid (RowsOk d1) := hR1
  have HW1 : Hid (∀ f t, (wireAt d1 f t).length ≤ 40) := hW1'
  clear hlay hR1 hW1'
  have hk := node_lt hx
  have hpl := hB.made.box.lt
  have hlop := hB.lop
  have hqw : q < w.heap.size := by omega
  obtain ⟨bn, on, cn, hL1, hlb, hbn, hbk, hcn⟩ := hB.made.own.lies (ix := (1, 0, 0)) ⟨rfl, rfl⟩ (by show 0 < d.nodes.length; omega)
  obtain ⟨k0, _, _, _, kz⟩ := hB.made.own.cells hx hL1
  have kz0 := kz 0 (by omega)
  rw [Nat.add_zero] at kz0
  have b1 := hB.made.box.c1
  rw [hL1] at b1
  dsimp only at b1
  have HL1 : Hid (L (1, 0, 0) = ⟨some ⟨bn, on, none⟩, cn⟩) := hL1
  have hcl := R.clk k
  rw [(at_node hx).1] at hcl
  have hne3 : ¬ x.clock = 1048576 := by
    intro e
    have hE' := hE
    unfold castE at hE'
    rw [Int.toNat_natCast, (at_node hx).1, e] at hE'
    split at hE'; cases hE'; split at hE'; cases hE'; split at hE'; cases hE'; simp at hE'
  have hst' : IntKind.i64.wrap (x.clock + 1) = st := by rw [hst]; exact IntWalk.i64_in _ (by omega)
  have n1 : (k : Int) < (d.nodes.length : Int) := by omega
  have hMay := may_any lo p ⟨(k : Int), g, 0, false, body⟩ d L w 0 hB R
  dsimp only at hMay
  obtain ⟨q0, q1, q2, q3, q4⟩ := hMq
  simp only [Nat.zero_add] at q0 q1 q2 q3 q4
  have HST : Hid (x.clock + 1 = st) := hst
  have HD1 : Hid (setNode d k { x with clock := st } = d1) := hd1
  have HE : Hid (castE d k g body.size = 0) := hE
  have hqo : ¬ blkW d L q := fun hb => by have := (hB.made.own.blk hb).1; omega
  clear hL1 hst hd1 hE kz hne3
  go_enter Tryz.func141, Tryz.ntmps141
  go_wp2_with (go_at_call 142; refine hMay.mono ?_; rintro e w2 hR; obtain ⟨h1, _, hS2⟩ := hR.out; obtain rfl := h1 HE.out; clear h1 hR)
  clear q0 q1 q2 q3 q4
  have QF : Hid (∀ y, Since w y → MsgAt y q 0 ⟨(k : Int), g, 0, false, body⟩ ∧ y.frozen? ⟨q, 2, none⟩ = false) := fun y hy => ⟨msgAt_since hMq0 hqw hy, (hy.below.frozen (p := ⟨q, 2, none⟩) hqw).trans hqz⟩
  obtain ⟨S0, hS0⟩ : ∃ S0 : World → Prop, ∀ w', S0 w' ↔ Since w w' := ⟨_, fun _ => Iff.rfl⟩
  have hneT := heldTrue w
  have x1 : ∀ y : HeldW S0, y.w.cell? ⟨p, 1, none⟩ = some (.slice (some ⟨bn, on, none⟩) d.nodes.length cn) := fun y => (((hS0 _).1 y.h).cellAt hpl _).trans b1
  have x2 : ∀ y : HeldW S0, y.w.cell? ⟨bn, on + k * 4, none⟩ = some (.int .i64 x.clock) := fun y => (((hS0 _).1 y.h).cellAt hbn _).trans k0
  have m0 : ∀ y : HeldW S0, y.w.cell? ⟨q, 0, none⟩ = some (.int .i64 k) := fun y => ((QF.out _ ((hS0 _).1 y.h)).1).c0
  obtain ⟨W0, hW0⟩ : ∃ y, w2.drew = y := ⟨_, rfl⟩
  have hs0 : Since w W0 := by rw [← hW0]; exact Since.drew hS2
  have hSi0 := (hS0 W0).2 hs0
  have hne : Nonempty (HeldW S0) := ⟨⟨_, hSi0⟩⟩
  have y1 := x2 ⟨_, hSi0⟩
  have y2 := (hs0.below.frozen (p := ⟨bn, on + k * 4, none⟩) hbn).trans kz0
  dsimp only at y1
  obtain ⟨W1, hW1⟩ : ∃ y, W0.setCell ⟨bn, on + k * 4, none⟩ (.int .i64 st) = y := ⟨_, rfl⟩
  obtain ⟨hM1, hst1⟩ := hB.made.setClk hx HL1.out hs0 st
  rw [hW1, HD1.out] at hM1 hst1
  have hB1 := hB.step hM1 hst1
  have hU1 := hst1.up hB.made.own (fun i => i = q)
  have hQ1 : W1.heap[q]? = w.heap[q]? := (hst1.beside hqw hqo).1
  have hqo1 := (hst1.beside hqw hqo).2
  have hx1 : d1.nodes[k]? = some { x with clock := st } := by rw [← HD1.out, set_nodes _ hx, if_pos rfl]
  have hn1 : d1.nodes.length = d.nodes.length := by rw [← HD1.out]; simp [setNode]
  refine beginM (fun w' => ∃ x : HeldW S0, w' = x.w) (by kernel_rfl) ?_
  rw [hW0]
  clear hW0
  refine takeW 0 rfl (by kernel_rfl) (fun _ _ _ _ h => h) (by rfl) rfl ?_
  go_big_quiet_op
  refine takeW 1 rfl (by kernel_rfl) (fun _ _ _ _ h => h) (by rfl) rfl ?_
  go_big_quiet_op
  refine takeW 2 rfl (by kernel_rfl) (fun _ _ _ _ h => h) (by rfl) rfl ?_
  go_big_quiet_op
  refine takeW 3 rfl (by kernel_rfl) (fun _ _ _ _ h => h) (by rfl) rfl ?_
  go_big_quiet_op
  refine takeM 4 rfl (by kernel_rfl) (heldS_mk hSi0) (fun _ _ _ _ h => h) (by rfl) rfl ?_
  go_big_quiet_op
  refine takeW 5 rfl (by kernel_rfl) (fun _ _ _ _ h => h) (by rfl) rfl ?_
  go_big_quiet_op
  refine takeM 6 rfl (by kernel_rfl) (heldS_mk hSi0) (fun _ _ _ _ h => h) (by rfl) rfl ?_
  go_big_quiet_op
  refine takeW 7 rfl (by kernel_rfl) (fun _ _ _ _ h => h) (by rfl) rfl ?_
  go_big_quiet_op
  refine takeW 8 rfl (by kernel_rfl) (fun _ _ _ _ h => h) (by rfl) rfl ?_
  go_big_quiet_op
  refine takeM 9 rfl (by kernel_rfl) (heldS_mk hSi0) (fun _ _ _ _ h => h) (by rfl) rfl ?_
  go_big_quiet_op
  refine takeW 10 rfl (by kernel_rfl) (fun _ _ _ _ h => h) (by rfl) rfl ?_
  go_big_quiet_op
  refine takeW 11 rfl (by kernel_rfl) (fun _ _ _ _ h => h) (by rfl) rfl ?_
  go_big_quiet_op
  refine takeW 12 rfl (by kernel_rfl) (fun _ _ _ _ h => h) (by rfl) rfl ?_
  go_big_quiet_op
  refine actM 13 rfl (by kernel_rfl) ?_
  intro K hK
  go_simp
  refine hK _ _ (fun h => absurd h (by decide +kernel)) ?_
  clear hK K
  refine doneM (by kernel_rfl) ?_
  clear x1 x2 m0 hne y1 y2
  have hbW : bn < W1.heap.size := Nat.lt_of_lt_of_le hbn hst1.fr.size
  obtain ⟨k0', _, _, _, _⟩ := hB1.made.own.cells hx1 HL1.out
  have b1' := hB1.made.box.c1
  rw [HL1.out] at b1'
  dsimp only at b1' k0'
  have hqW1 : q < W1.heap.size := Nat.lt_of_lt_of_le hqw hst1.fr.size
  have hMq1 : MsgAt W1 q 0 ⟨(k : Int), g, 0, false, body⟩ := msgAt_block hMq0 hQ1
  have hqz1 : W1.frozen? ⟨q, 2, none⟩ = false := (World.frozen?_of_block (a := ⟨q, 2, none⟩) hQ1).trans hqz
  go_wp2_with fail
  obtain ⟨S2, hS2'⟩ : ∃ S0 : World → Prop, ∀ w', S0 w' ↔ Since W1 w' := ⟨_, fun _ => Iff.rfl⟩
  have x1 : ∀ y : HeldW S2, y.w.cell? ⟨p, 1, none⟩ = some (.slice (some ⟨bn, on, none⟩) d1.nodes.length cn) := fun y => (((hS2' _).1 y.h).cellAt hB1.made.box.lt _).trans b1'
  have x2 : ∀ y : HeldW S2, y.w.cell? ⟨bn, on + k * 4, none⟩ = some (.int .i64 st) := fun y => (((hS2' _).1 y.h).cellAt hbW _).trans k0'
  have m0 : ∀ y : HeldW S2, y.w.cell? ⟨q, 0, none⟩ = some (.int .i64 k) := fun y => (msgAt_since hMq1 hqW1 ((hS2' _).1 y.h)).c0
  obtain ⟨V0, hW0⟩ : ∃ y, W1.drew = y := ⟨_, rfl⟩
  have hv0 : Since W1 V0 := by rw [← hW0]; exact Since.drew (Since.refl _)
  have hSi0 := (hS2' V0).2 hv0
  have hne : Nonempty (HeldW S2) := ⟨⟨_, hSi0⟩⟩
  have n1' : (k : Int) < (d1.nodes.length : Int) := by omega
  have z1 := (msgAt_since hMq1 hqW1 hv0).c2
  have z2 := (hv0.below.frozen (p := ⟨q, 2, none⟩) hqW1).trans hqz1
  dsimp only [Nat.zero_add] at z1
  simp only [Nat.zero_add] at z1
  obtain ⟨W3, hW3⟩ : ∃ y, V0.setCell ⟨q, 2, none⟩ (.int .i64 st) = y := ⟨_, rfl⟩
  have hF3 : Fr (fun i => i = q) V0 W3 := by rw [← hW3]; exact (Fr.refl (fun i => i = q) V0).setCell ⟨q, 2, none⟩ _ (fun _ => rfl)
  have hB3 := (hB1.since hv0).fr hF3 (fun b hb e => hqo1 (e ▸ hb)) (by omega)
  have hMq3 : MsgAt W3 q 0 ⟨(k : Int), g, st, false, body⟩ := by
    have hm := msgAt_since hMq1 hqW1 hv0
    obtain ⟨a0, a1, a2, a3, a4⟩ := hm
    rw [← hW3]
    exact ⟨(set_ne _ _ _ (by decide)).trans a0, (set_ne _ _ _ (by decide)).trans a1, set_eq _ _ _ _ a2, (set_ne _ _ _ (by decide)).trans a3, (set_ne _ _ _ (by decide)).trans a4⟩
  have hqW3 : q < W3.heap.size := Nat.lt_of_lt_of_le hqW1 (Nat.le_trans hv0.size hF3.size)
  have hU3 : Fr (Up lo fun i => i = q) w W3 := (hU1.upTrans (hv0.up _ _)).upTrans (hF3.mono (fun i _ e => .inr e))
  have hlo3 : lo ≤ W3.heap.size := Nat.le_trans hlo hU3.size
  refine beginM (fun w' => ∃ x : HeldW S2, w' = x.w) (by kernel_rfl) ?_
  rw [hW0]
  clear hW0
  refine takeW 0 rfl (by kernel_rfl) (fun _ _ _ _ h => h) (by rfl) rfl ?_
  go_big_quiet_op
  refine takeW 1 rfl (by kernel_rfl) (fun _ _ _ _ h => h) (by rfl) rfl ?_
  go_big_quiet_op
  refine takeW 2 rfl (by kernel_rfl) (fun _ _ _ _ h => h) (by rfl) rfl ?_
  go_big_quiet_op
  refine takeW 3 rfl (by kernel_rfl) (fun _ _ _ _ h => h) (by rfl) rfl ?_
  go_big_quiet_op
  refine takeM 4 rfl (by kernel_rfl) (heldS_mk hSi0) (fun _ _ _ _ h => h) (by rfl) rfl ?_
  go_big_quiet_op
  refine takeW 5 rfl (by kernel_rfl) (fun _ _ _ _ h => h) (by rfl) rfl ?_
  go_big_quiet_op
  refine takeM 6 rfl (by kernel_rfl) (heldS_mk hSi0) (fun _ _ _ _ h => h) (by rfl) rfl ?_
  go_big_quiet_op
  refine takeW 7 rfl (by kernel_rfl) (fun _ _ _ _ h => h) (by rfl) rfl ?_
  go_big_quiet_op
  refine takeW 8 rfl (by kernel_rfl) (fun _ _ _ _ h => h) (by rfl) rfl ?_
  go_big_quiet_op
  refine takeM 9 rfl (by kernel_rfl) (heldS_mk hSi0) (fun _ _ _ _ h => h) (by rfl) rfl ?_
  go_big_quiet_op
  refine takeW 10 rfl (by kernel_rfl) (fun _ _ _ _ h => h) (by rfl) rfl ?_
  go_big_quiet_op
  refine actM 11 rfl (by kernel_rfl) ?_
  intro K hK
  go_simp
  refine hK _ _ (fun h => absurd h (by decide +kernel)) ?_
  clear hK K
  refine doneM (by kernel_rfl) ?_
  clear x1 x2 m0 hne hneT z1 z2 b1' k0' hW3
  have QF3 : Hid (∀ y, Fr (Up lo fun _ => False) W3 y → MsgAt y q 0 ⟨(k : Int), g, st, false, body⟩) := fun y hy => msgAt_block hMq3 (hy.block q hqW3 (by rintro (h | h); exact h hq; exact h))
  obtain ⟨q0, q1, q2, q3, q4⟩ := hMq3
  simp only [Nat.zero_add] at q0 q1 q2 q3 q4
  have hUU : Hid (∀ y, Fr (Up lo fun _ => False) W3 y → Fr (Up lo fun i => i = q) w y) := fun y hy => hU3.upTrans (hy.mono (fun i _ h => by rcases h with h | h; exact .inl h; exact h.elim))
  go_wp2_with (go_at_call 143; refine (post_any lo p k g st false body d1 L W3 0 hB3 HR1.out hk1 (by omega) HW1.out hlo3 (fun e w' => e = .returned (.tuple #[]) ∧ ∃ L', SeaB lo w' p d2 L' 0 ∧ Fr (Up lo fun _ => False) W3 w') (fun er' h w' hF => by rw [HLAY.out] at h; cases h) (fun d' L' w' h hB' hF => by rw [HLAY.out] at h; cases h; exact ⟨rfl, L', hB', hF⟩)).mono ?_; rintro e w4 hR; obtain ⟨rfl, L4, hB4, hF4⟩ := hR.out; obtain ⟨r0, r1, r2, r3, r4⟩ := QF3.out _ hF4; simp only [Nat.zero_add] at r0 r1 r2 r3 r4; clear hR)
  clear q0 q1 q2 q3 q4
  refine (seaHold_put lo p k ⟨(k : Int), g, st, false, body⟩ d2 L4 w4 X2 0 hB4 hx2 rfl (Nat.le_trans hlo3 hF4.size) 0 pl HPE0.out HPL0.out (fun e w' => e = .returned (.tuple #[]) ∧ ∃ L', SeaB lo w' p (setNode d2 k { X2 with held := pl }) L' 0 ∧ Fr (Up lo fun _ => False) w4 w') (fun h => absurd rfl h) (fun _ w' L' hB' hF => ⟨rfl, L', hB', hF⟩)).mono ?_
  rintro e w5 hR
  obtain ⟨rfl, L5, hB5, hF45⟩ := hR.out
  have hF5 := hF4.upTrans hF45
  rw [HD3.out] at hB5
  clear hR
  dsimp only
  clear r0 r1 r2 r3 r4
  have hpl5 := hB5.made.box.lt
  have b0 := hB5.made.box.c0
  have b1 := hB5.made.box.c1
  have b2 := hB5.made.box.c2
  have hMq5 := QF3.out _ hF5
  have hqW5 : q < w5.heap.size := Nat.lt_of_lt_of_le hqW3 hF5.size
  obtain ⟨S5, hS5'⟩ : ∃ S0 : World → Prop, ∀ w', S0 w' ↔ Since w5 w' := ⟨_, fun _ => Iff.rfl⟩
  have hneT := heldTrue w
  have x0 : ∀ y : HeldW S5, y.w.cell? ⟨p, 0, none⟩ = some (.slice (L5 (0, 0, 0)).a d3.groups.length (L5 (0, 0, 0)).cap) := fun y => (((hS5' _).1 y.h).cellAt hpl5 _).trans b0
  have x1 : ∀ y : HeldW S5, y.w.cell? ⟨p, 1, none⟩ = some (.slice (L5 (1, 0, 0)).a d3.nodes.length (L5 (1, 0, 0)).cap) := fun y => (((hS5' _).1 y.h).cellAt hpl5 _).trans b1
  have x2 : ∀ y : HeldW S5, y.w.cell? ⟨p, 2, none⟩ = some (.slice (L5 (2, 0, 0)).a d3.wires.length (L5 (2, 0, 0)).cap) := fun y => (((hS5' _).1 y.h).cellAt hpl5 _).trans b2
  have m0 : ∀ y : HeldW S5, y.w.cell? ⟨q, 0, none⟩ = some (.int .i64 k) := fun y => (msgAt_since hMq5 hqW5 ((hS5' _).1 y.h)).c0
  go_wp2_with fail
  obtain ⟨U0, hW0⟩ : ∃ y, w5.drew = y := ⟨_, rfl⟩
  have hu0 : Since w5 U0 := by rw [← hW0]; exact Since.drew (Since.refl _)
  have hSi0 := (hS5' U0).2 hu0
  have hne : Nonempty (HeldW S5) := ⟨⟨_, hSi0⟩⟩
  have hTN := tellNode_any (wvOf L5 d3) d3 k U0 (hB5.made.own.since hu0).wat
  unfold wvOf at hTN
  rw [HTL.out] at hTN
  dsimp only at hTN
  refine beginM (fun w' => ∃ x : HeldW S5, w' = x.w) (by kernel_rfl) ?_
  rw [hW0]
  clear hW0
  refine takeW 0 rfl (by kernel_rfl) (fun _ _ _ _ h => h) (by rfl) rfl ?_
  go_big_quiet_op
  refine takeW 1 rfl (by kernel_rfl) (fun _ _ _ _ h => h) (by rfl) rfl ?_
  go_big_quiet_op
  refine takeW 2 rfl (by kernel_rfl) (fun _ _ _ _ h => h) (by rfl) rfl ?_
  go_big_quiet_op
  refine takeW 3 rfl (by kernel_rfl) (fun _ _ _ _ h => h) (by rfl) rfl ?_
  go_big_quiet_op
  refine takeM 4 rfl (by kernel_rfl) (heldS_mk hSi0) (fun _ _ _ _ h => h) (by rfl) rfl ?_
  go_big_quiet_op
  refine takeW 5 rfl (by kernel_rfl) (fun _ _ _ _ h => h) (by rfl) rfl ?_
  go_big_quiet_op
  refine takeM 6 rfl (by kernel_rfl) (heldS_mk hSi0) (fun _ _ _ _ h => h) (by rfl) rfl ?_
  go_big_quiet_op
  refine actM 7 rfl (by kernel_rfl) ?_
  intro K hK
  go_simp
  refine hTN.mono ?_
  rintro e wT hR
  obtain ⟨L6, rfl, hO6, hFT⟩ := hR.out.2 d4 mm rfl
  have hST := hFT.none
  simp only [wval]
  refine hK _ _ (fun h => absurd h (by decide +kernel)) ?_
  clear hK K
  refine takeW 8 rfl (by kernel_rfl) (fun _ _ _ _ h => h) (by rfl) rfl ?_
  go_big_quiet_op
  refine takeW 9 rfl (by kernel_rfl) (fun _ _ _ _ h => h) (by rfl) rfl ?_
  go_big_quiet_op
  refine takeW 10 rfl (by kernel_rfl) (fun _ _ _ _ h => h) (by rfl) rfl ?_
  go_big_quiet_op
  refine actM 11 rfl (by kernel_rfl) ?_
  intro K hK
  go_simp
  have hCo := count_ok (L' := L6) (d' := d4) mm (by omega) hmm (hB5.since (hu0.trans hST)) (hO6.mono (by have := hu0.size; have := hB5.made.box.lt; omega))
  unfold wval at hCo
  refine hCo.mono ?_
  rintro e w9 ⟨rfl, hB9, hF9⟩
  dsimp only
  refine hK _ _ (fun h => absurd h (by decide +kernel)) ?_
  clear hK K
  refine doneM (by kernel_rfl) ?_
  clear x0 x1 x2 m0 hne hneT
  go_end0
  rw [Int.zero_add] at hB9
  exact ⟨rfl, L6, hB9, hUU.out _ (hF5.upTrans ((((hu0.trans hST).up _ _).upTrans (hF9.mono (fun i _ e => .inl (by have e : i = p := e; omega))))))⟩
end Go.Proofs.YtiiifecfdkjmbaaGreat
