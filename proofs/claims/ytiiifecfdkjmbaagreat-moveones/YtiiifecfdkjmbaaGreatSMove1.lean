/- Contract of move.come; conditions: the world lies in a sea, is right, and the wire holds a message. -/
import Derived.BigQuiet
import Derived.Test.YtiiifecfdkjmbaaGreatRMoveX
import Derived.Test.YtiiifecfdkjmbaaGreatSHold
import Derived.Test.YtiiifecfdkjmbaaGreatPureX
namespace Go.Proofs.YtiiifecfdkjmbaaGreat
set_option maxRecDepth 8000
open Go.RowKit Go.Shelf
open _root_.Go.Proofs.YtiiifecfdkjmbaaGreat.Pure
set_option linter.unusedVariables false
set_option linter.unusedSimpArgs false

set_option maxHeartbeats 4000000 in
theorem come_any (lo p f t : Nat) (d : Wd) (L : Lay) (w : World) (c : Int) (hB : SeaB lo w p d L c) (R : Right d) (hf : f < d.nodes.length) (ht : t < d.nodes.length) (M : Mg) (rest : List Mg) (hE : wireAt d f t = M :: rest) (hlo : lo ≤ w.heap.size) (Post : Ending → World → Prop)
    (hErr : ∀ er, preMoveD d f t = .error er → ∀ w', Fr (Up lo fun _ => False) w w' → Post (.panicked (pan er)) w')
    (hOk : ∀ d' L' w', preMoveD d f t = .ok d' → SeaB lo w' p d' L' c → Fr (Up lo fun _ => False) w w' → Post (.returned (.tuple #[])) w') :
    Calls Tryz.prog 89 #[.pointer (some ⟨p, 0, none⟩), .int .i64 f, .int .i64 t] w fun e w' => Hid (Post e w') := by
  have hmv : preMoveD d f t = holdIf (comeD d f t M rest) t M := by unfold preMoveD; rw [hE]
  obtain ⟨sn1, sn4, sg1, sg3⟩ := chkE_sizes R.chk
  obtain ⟨nd, hnd⟩ : ∃ nd, d.nodes[t]? = some nd := ⟨_, List.getElem?_eq_getElem ht⟩
  have hfine := R.wireF f t M (by rw [hE]; simp)
  obtain ⟨hc1, hc2⟩ := fine_iff.1 hfine.1
  obtain ⟨_, ⟨hg0, hg1⟩, _, _⟩ := chkM_zero hc1
  obtain ⟨gg, hgg⟩ := Int.eq_ofNat_of_zero_le hg0
  have hglt : gg < d.groups.length := by omega
  obtain ⟨lrow, hlrow⟩ : ∃ r, nd.last[gg]? = some r := ⟨_, List.getElem?_eq_getElem (by rw [R.llen t nd hnd]; exact hglt)⟩
  have hlrl := R.lrow t nd gg lrow hnd hlrow
  obtain ⟨lv, hlv⟩ : ∃ v, lrow[f]? = some v := ⟨_, List.getElem?_eq_getElem (by omega)⟩
  obtain ⟨X2, hX2⟩ : ∃ y, comeNd nd M f = y := ⟨_, rfl⟩
  have hcome : comeD d f t M rest = setNode (setWire d f t rest) t X2 := by unfold comeD; rw [hnd]; show setNode (setWire d f t rest) t (comeNd nd M f) = _; rw [hX2]
  have hX2' : X2 = { moveX1 nd M with last := (moveX1 nd M).last.set gg (lrow.set f (max lv M.st)) } := by
    rw [← hX2]; unfold comeNd moveX1
    rw [hgg, Int.toNat_natCast]
    simp only [hlrow, Option.getD_some]
    have : lastAt nd.last gg f = lv := lastAt_some hlrow hlv
    rw [this]
  have hwn : (f : Int) < (d.wires.length : Int) := by have := R.wlen; omega
  have htn : (t : Int) < (d.nodes.length : Int) := by omega
  have hrn : rest.length + 1 ≤ 40 := by have := R.wireN f t; rw [hE] at this; simpa using this
  have HGG : Hid (M.gr = gg) := hgg
  have HLR := (show Hid _ from hlrl)
  have HERR := (show Hid _ from hErr)
  have HOK := (show Hid _ from hOk)
  have HR : Hid (Right d) := R
  have HMV := (show Hid _ from hmv)
  have HCO := (show Hid _ from hcome)
  have HX := (show Hid _ from hX2')
  clear hgg hfine hc1 hc2 hg0 hg1 hlrl hErr hOk hmv hcome hX2' hX2
  -- the wire
  have hpl := hB.made.box.lt
  obtain ⟨row, hr, hrl⟩ := row_of R.rows hf
  have hok8 : okI d (8, f, t) := ⟨by rw [R.rows.1]; exact hf, by rw [rowAt_of hr]; omega⟩
  have h8 : Row w lo 5 (L (8, f, t)) (wireAt d f t).length (flat (wireAt d f t)) := hB.made.own.row (8, f, t) hok8
  obtain ⟨bw2, ow2, cw2, br2, oR2, cr2, hH⟩ := hB.made.headOf R.rows hf ht
  rw [hE] at h8 hH
  obtain ⟨bl, ol, e8, hll, hbl, hcl, hxl⟩ := h8.body (by have := h8.cap; simp at this; omega)
  obtain ⟨lcc, hL8⟩ : ∃ lcc, L (8, f, t) = ⟨some ⟨bl, ol, none⟩, lcc⟩ := ⟨(L (8, f, t)).cap, by rw [← e8]⟩
  have hMs : MsgAt w bl ol M := by
    have := msgAt_of hxl 0 M rfl
    simp only [Nat.zero_mul, Nat.add_zero] at this
    exact this
  obtain ⟨w4, hw4⟩ : ∃ y, w.alloc (.cells #[.int .i64 M.fr, .int .i64 M.gr, .int .i64 M.st, .bool M.nul, .string M.body] 42) = y := ⟨_, rfl⟩
  have hS4 : Since w w4 := by rw [← hw4]; exact (Since.refl w).alloc _
  have hM4 : MsgAt w4 w.heap.size 0 M := by rw [← hw4]; constructor <;> simp [go_sem]
  have hlt4 : w.heap.size < w4.heap.size := by rw [← hw4]; simp
  have hof4 : ¬ blkW d L w.heap.size := fun hb => by have := (hB.made.own.blk hb).2; omega
  have hB4 := hB.since hS4
  have hH4 := hH.since hS4
  rw [hL8] at h8
  have h84 := h8.since hS4
  obtain ⟨bn, on, cn, hL1, _, hbn, hbk, hcn⟩ := hB4.made.own.lies (ix := (1, 0, 0)) ⟨rfl, rfl⟩ (by show 0 < d.nodes.length; omega)
  obtain ⟨sa, sc, hsl, hRs, hbs⟩ := cut_row h84
  have s2 := hH.top
  have s3 := hH.row
  have s4 := hH.cell
  rw [hL8] at s4
  dsimp only [Sl.v, List.length_cons] at s4
  obtain ⟨g0, g1, g2, g3, g4⟩ := hMs
  have HL1 : Hid (L (1, 0, 0) = ⟨some ⟨bn, on, none⟩, cn⟩) := hL1
  have HL8 : Hid (L (8, f, t) = ⟨some ⟨bl, ol, none⟩, lcc⟩) := hL8
  have HSL := (show Hid _ from hsl)
  clear hL1 hL8 e8 hE hsl hxl hcl
  go_enter Tryz.func89, Tryz.ntmps89
  go_wp2_with fail
  clear s2 s3 s4 g0 g1 g2 g3 g4 hw4
  obtain ⟨W0, hW0⟩ : ∃ y, w4.drew = y := ⟨_, rfl⟩
  have hs0 : Since w4 W0 := by rw [← hW0]; exact Since.drew (Since.refl _)
  obtain ⟨S0, hS0⟩ : ∃ S0 : World → Prop, ∀ w', S0 w' ↔ Since w4 w' := ⟨_, fun _ => Iff.rfl⟩
  have c1 : ∀ y : HeldW S0, y.w.cell? ⟨p, 2, none⟩ = some (.slice (some ⟨bw2, ow2, none⟩) d.wires.length cw2) := fun y => (hH4.since ((hS0 _).1 y.h)).top
  have c2 : ∀ y : HeldW S0, y.w.cell? ⟨bw2, ow2 + f, none⟩ = some (.slice (some ⟨br2, oR2, none⟩) d.nodes.length cr2) := fun y => (hH4.since ((hS0 _).1 y.h)).row
  have c3 : ∀ y : HeldW S0, y.w.cell? ⟨br2, oR2 + t, none⟩ = some (.slice (some ⟨bl, ol, none⟩) (rest.length + 1) lcc) := fun y => by have := (hH4.since ((hS0 _).1 y.h)).cell; rw [HL8.out] at this; exact this
  have hSi0 := (hS0 W0).2 hs0
  have hne : Nonempty (HeldW S0) := ⟨⟨_, hSi0⟩⟩
  have hneT := heldTrue w
  have y3 := (hH4.since hs0).cell
  have z3 := (hH4.since hs0).free
  rw [HL8.out] at y3
  dsimp only [Sl.v, List.length_cons] at y3
  have hcut := hB4.made.cutWire R.rows hf ht hH4.lay hs0 (rest := rest) (by omega) (s := ⟨sa, sc⟩) (hRs.since hs0) (by rw [HL8.out]; exact hbs)
  obtain ⟨W5, hW5⟩ : ∃ y, W0.setCell ⟨br2, oR2 + t, none⟩ (.slice sa rest.length sc) = y := ⟨_, rfl⟩
  have hW5' : W0.setCell ⟨br2, oR2 + t, none⟩ (Sl.v ⟨sa, sc⟩ rest.length) = W5 := hW5
  rw [hW5'] at hcut
  have hlcc : (rest.length : Int) + 1 ≤ (lcc : Int) := by have := h84.cap; simp only [List.length_cons] at this; omega
  have HW5 := (show Hid _ from hW5')
  clear hW5'
  have hsl := HSL.out
  refine beginM (fun w' => ∃ x : HeldW S0, w' = x.w) (by kernel_rfl) ?_
  rw [hW0]
  clear hW0
  refine takeW 0 rfl (by kernel_rfl) (fun _ _ _ _ h => h) (by rfl) rfl ?_
  go_big_quiet_op
  refine takeW 1 rfl (by kernel_rfl) (fun _ _ _ _ h => h) (by rfl) rfl ?_
  go_big_quiet_op
  refine takeW 2 rfl (by kernel_rfl) (fun _ _ _ _ h => h) (by rfl) rfl ?_
  go_big_quiet_op
  refine takeW 3 rfl (by kernel_rfl) (fun _ _ _ _ h => h) (by rfl) rfl ?_
  go_big_quiet_op
  refine takeM 4 rfl (by kernel_rfl) (heldS_mk hSi0) (fun _ _ _ _ h => h) (by rfl) rfl ?_
  go_big_quiet_op
  refine takeW 5 rfl (by kernel_rfl) (fun _ _ _ _ h => h) (by rfl) rfl ?_
  go_big_quiet_op
  refine takeW 6 rfl (by kernel_rfl) (fun _ _ _ _ h => h) (by rfl) rfl ?_
  go_big_quiet_op
  refine takeM 7 rfl (by kernel_rfl) (heldS_mk hSi0) (fun _ _ _ _ h => h) (by rfl) rfl ?_
  go_big_quiet_op
  refine takeW 8 rfl (by kernel_rfl) (fun _ _ _ _ h => h) (by rfl) rfl ?_
  go_big_quiet_op
  refine takeW 9 rfl (by kernel_rfl) (fun _ _ _ _ h => h) (by rfl) rfl ?_
  go_big_quiet_op
  refine takeW 10 rfl (by kernel_rfl) (fun _ _ _ _ h => h) (by rfl) rfl ?_
  go_big_quiet_op
  refine takeW 11 rfl (by kernel_rfl) (fun _ _ _ _ h => h) (by rfl) rfl ?_
  go_big_quiet_op
  refine takeW 12 rfl (by kernel_rfl) (fun _ _ _ _ h => h) (by rfl) rfl ?_
  go_big_quiet_op
  refine takeM 13 rfl (by kernel_rfl) (heldS_mk hSi0) (fun _ _ _ _ h => h) (by rfl) rfl ?_
  go_big_quiet_op
  refine takeW 14 rfl (by kernel_rfl) (fun _ _ _ _ h => h) (by rfl) rfl ?_
  go_big_quiet_op
  refine takeW 15 rfl (by kernel_rfl) (fun _ _ _ _ h => h) (by rfl) rfl ?_
  go_big_quiet_op
  refine takeM 16 rfl (by kernel_rfl) (heldS_mk hSi0) (fun _ _ _ _ h => h) (by rfl) rfl ?_
  go_big_quiet_op
  refine takeW 17 rfl (by kernel_rfl) (fun _ _ _ _ h => h) (by rfl) rfl ?_
  go_big_quiet_op
  refine takeW 18 rfl (by kernel_rfl) (fun _ _ _ _ h => h) (by rfl) rfl ?_
  go_big_quiet_op
  refine takeM 19 rfl (by kernel_rfl) (heldS_mk hSi0) (fun _ _ _ _ h => h) (by rfl) rfl ?_
  go_big_quiet_op
  refine takeM 20 rfl (by kernel_rfl) (heldS_mk hSi0) (fun _ _ _ _ h => h) (by rfl) rfl ?_
  refine quiet_out (v := .slice sa rest.length sc) ?_ ?_
  · rcases hsl with ⟨h1, h2, h3, h4⟩ | ⟨h1, h3, h4⟩
    · subst h1 h3 h4
      have hr : rest = [] := List.eq_nil_of_length_eq_zero h2
      subst hr
      go_big_quiet_op
      simp [Act.put]
    · subst h3 h4
      have h1' : (1 : Int) < (lcc : Int) := by omega
      go_big_quiet_op
      simp [Act.put]
  simp only [Act.put, List.setIfInBounds_toArray, List.set_cons_zero, List.set_cons_succ]
  refine takeW 21 rfl (by kernel_rfl) (fun _ _ _ _ h => h) (by rfl) rfl ?_
  go_big_quiet_op
  refine actM 22 rfl (by kernel_rfl) ?_
  intro K hK
  go_simp
  refine hK _ _ (fun h => absurd h (by decide +kernel)) ?_
  clear hK K
  refine doneM (by kernel_rfl) ?_
  clear hsl
  obtain ⟨hM5, hst5⟩ := hcut
  obtain ⟨hq5, hof5⟩ := hst5.beside hlt4 hof4
  have hMs5 := msgAt_block hM4 hq5
  have hlt5 := Nat.lt_of_lt_of_le hlt4 hst5.fr.size
  have hB5 := hB4.step hM5 hst5
  have hU5 : Fr (Up lo fun _ => False) w W5 := (hS4.up lo _).upTrans (hst5.up hB4.made.own _)
  have hL15 : (L.upd (8, f, t) ⟨sa, sc⟩) (1, 0, 0) = ⟨some ⟨bn, on, none⟩, cn⟩ := HL1.out
  obtain ⟨L5, hL5⟩ : ∃ y, L.upd (8, f, t) ⟨sa, sc⟩ = y := ⟨_, rfl⟩
  obtain ⟨D1, hD1⟩ : ∃ y, setWire d f t rest = y := ⟨_, rfl⟩
  have hnd1 : D1.nodes[t]? = some nd := by rw [← hD1]; exact hnd
  have hN1 : D1.nodes.length = d.nodes.length := by rw [← hD1]; rfl
  rw [hL5] at hL15 hM5 hof5 hB5
  rw [hD1] at hM5 hof5 hB5
  have HD1 := (show Hid _ from hD1)
  have HN1 := (show Hid _ from hN1)
  have b1 := hM5.box.c1
  rw [hL15, hN1] at b1
  dsimp only at b1
  obtain ⟨q0, q1, _, _, qz⟩ := hM5.own.cells hnd1 hL15
  have hb5 : bn < W5.heap.size := Nat.lt_of_lt_of_le hbn hst5.fr.size
  have HL15 : Hid (L5 (1, 0, 0) = ⟨some ⟨bn, on, none⟩, cn⟩) := hL15
  clear hN1 hD1 hL5 c1 c2 c3 hne y3 z3 hW5 hL15
  go_wp2_with fail
  obtain ⟨W6, hW0⟩ : ∃ y, W5.drew = y := ⟨_, rfl⟩
  have hs6 : Since W5 W6 := by rw [← hW0]; exact Since.drew (Since.refl _)
  obtain ⟨S7, hS7⟩ : ∃ S0 : World → Prop, ∀ w', S0 w' ↔ Since W5 w' := ⟨_, fun _ => Iff.rfl⟩
  have c1 : ∀ y : HeldW S7, y.w.cell? ⟨bn, on + t * 4, none⟩ = some (.int .i64 nd.clock) := fun y => (((hS7 _).1 y.h).cellAt hb5 _).trans q0
  have c2 : ∀ y : HeldW S7, y.w.cell? ⟨w.heap.size, 2, none⟩ = some (.int .i64 M.st) := fun y => (((hS7 _).1 y.h).cellAt hlt5 _).trans hMs5.c2
  have hSi6 := (hS7 W6).2 hs6
  have hne : Nonempty (HeldW S7) := ⟨⟨_, hSi6⟩⟩
  have e6 := (hs6.cellAt hb5 _).trans q0
  have z6 := (hs6.below.frozen (p := ⟨bn, on + t * 4, none⟩) hb5).trans (by have := qz 0 (by omega); simpa using this)
  obtain ⟨W7, hW7⟩ : ∃ y, W6.setCell ⟨bn, on + t * 4, none⟩ (.int .i64 (max nd.clock M.st)) = y := ⟨_, rfl⟩
  obtain ⟨hM7, hst7⟩ := hM5.setClk hnd1 HL15.out hs6 (max nd.clock M.st)
  rw [hW7] at hM7 hst7
  refine beginM (fun w' => ∃ x : HeldW S7, w' = x.w) (by kernel_rfl) ?_
  rw [hW0]
  clear hW0
  refine takeW 0 rfl (by kernel_rfl) (fun _ _ _ _ h => h) (by rfl) rfl ?_
  go_big_quiet_op
  refine takeW 1 rfl (by kernel_rfl) (fun _ _ _ _ h => h) (by rfl) rfl ?_
  go_big_quiet_op
  refine takeW 2 rfl (by kernel_rfl) (fun _ _ _ _ h => h) (by rfl) rfl ?_
  go_big_quiet_op
  refine takeW 3 rfl (by kernel_rfl) (fun _ _ _ _ h => h) (by rfl) rfl ?_
  go_big_quiet_op
  refine takeM 4 rfl (by kernel_rfl) (heldS_mk hSi6) (fun _ _ _ _ h => h) (by rfl) rfl ?_
  go_big_quiet_op
  refine takeW 5 rfl (by kernel_rfl) (fun _ _ _ _ h => h) (by rfl) rfl ?_
  go_big_quiet_op
  refine takeM 6 rfl (by kernel_rfl) (heldS_mk hSi6) (fun _ _ _ _ h => h) (by rfl) rfl ?_
  go_big_quiet_op
  refine takeM 7 rfl (by kernel_rfl) (heldS_mk hSi6) (fun _ _ _ _ h => h) (by rfl) rfl ?_
  refine quiet_out (v := .int .i64 (max nd.clock M.st)) ?_ ?_
  · go_big_quiet_op
    all_goals
      simp [Act.put]
      try omega
  simp only [Act.put, List.setIfInBounds_toArray, List.set_cons_zero, List.set_cons_succ]
  refine takeW 8 rfl (by kernel_rfl) (fun _ _ _ _ h => h) (by rfl) rfl ?_
  go_big_quiet_op
  refine takeW 9 rfl (by kernel_rfl) (fun _ _ _ _ h => h) (by rfl) rfl ?_
  go_big_quiet_op
  refine actM 10 rfl (by kernel_rfl) ?_
  intro K hK
  go_simp
  refine hK _ _ (fun h => absurd h (by decide +kernel)) ?_
  clear hK K
  refine doneM (by kernel_rfl) ?_
  have hB7 := hB5.step hM7 hst7
  have hU7 := hU5.upTrans (hst7.up hM5.own _)
  obtain ⟨X1, hX1⟩ : ∃ y, ({ nd with clock := max nd.clock M.st } : Nd) = y := ⟨_, rfl⟩
  have hX1' : moveX1 nd M = X1 := hX1
  rw [hX1] at hM7 hst7 hB7
  have hla : X1.last = nd.last := by rw [← hX1]
  have hnd2 : (setNode D1 t X1).nodes[t]? = some X1 := by rw [set_nodes _ hnd1, if_pos rfl]
  obtain ⟨D2, hD2⟩ : ∃ y, setNode D1 t X1 = y := ⟨_, rfl⟩
  rw [hD2] at hM7 hst7 hnd2 hB7
  obtain ⟨hq7, hof7⟩ := hst7.beside hlt5 hof5
  have hMs7 := msgAt_block hMs5 hq7
  have hlt7 := Nat.lt_of_lt_of_le hlt5 hst7.fr.size
  have hrow7 : X1.last[gg]? = some lrow := by rw [hla]; exact hlrow
  have hpl' : 0 < lrow.length := by rw [HLR.out]; omega
  obtain ⟨u0, u1, _, _, uz⟩ := hM7.own.cells hnd2 HL15.out
  obtain ⟨b3, o3, cc3, b4, o4, cc4, hL3, hL4, hb3, hb4, v1, v2, v3⟩ := hM7.own.lastCells hnd2 hrow7 hpl'
  rw [hL3, hla] at u1
  dsimp only [Sl.v] at u1
  have HX1 := (show Hid _ from hX1')
  have HLA := (show Hid _ from hla)
  have HD2 := (show Hid _ from hD2)
  have HL4 := (show Hid _ from hL4)
  have m1' := hMs7.c1
  rw [HGG.out] at m1'
  have hgl' : (gg : Int) < (nd.last.length : Int) := by have := (List.getElem?_eq_some_iff.1 hlrow).1; omega
  have hfl' : (f : Int) < (lrow.length : Int) := by rw [HLR.out]; omega
  have v4 := v2 f lv hlv
  have v5 := v3 f (by omega)
  have hb7 : bn < W7.heap.size := Nat.lt_of_lt_of_le hb5 hst7.fr.size
  clear hX1 hX1' hla hD2 hW7 c1 c2 hne e6 z6 q0 q1 b1 hL3 hL4
  go_wp2_with fail
  obtain ⟨W8, hW0⟩ : ∃ y, W7.drew = y := ⟨_, rfl⟩
  have hs8 : Since W7 W8 := by rw [← hW0]; exact Since.drew (Since.refl _)
  obtain ⟨S8, hS8⟩ : ∃ S0 : World → Prop, ∀ w', S0 w' ↔ Since W7 w' := ⟨_, fun _ => Iff.rfl⟩
  have c1 : ∀ y : HeldW S8, y.w.cell? ⟨bn, on + t * 4 + 1, none⟩ = some (.slice (some ⟨b3, o3, none⟩) nd.last.length cc3) := fun y => (((hS8 _).1 y.h).cellAt hb7 _).trans u1
  have c2 : ∀ y : HeldW S8, y.w.cell? ⟨w.heap.size, 1, none⟩ = some (.int .i64 gg) := fun y => (((hS8 _).1 y.h).cellAt hlt7 _).trans m1'
  have c3 : ∀ y : HeldW S8, y.w.cell? ⟨b3, o3 + gg, none⟩ = some (.slice (some ⟨b4, o4, none⟩) lrow.length cc4) := fun y => (((hS8 _).1 y.h).cellAt hb3 _).trans v1
  have c4 : ∀ y : HeldW S8, y.w.cell? ⟨b4, o4 + f, none⟩ = some (.int .i64 lv) := fun y => (((hS8 _).1 y.h).cellAt hb4 _).trans v4
  have c5 : ∀ y : HeldW S8, y.w.cell? ⟨w.heap.size, 2, none⟩ = some (.int .i64 M.st) := fun y => (((hS8 _).1 y.h).cellAt hlt7 _).trans hMs7.c2
  have hSi8 := (hS8 W8).2 hs8
  have hne : Nonempty (HeldW S8) := ⟨⟨_, hSi8⟩⟩
  have e8 := (hs8.cellAt hb4 _).trans v4
  have z8 := (hs8.below.frozen (p := ⟨b4, o4 + f, none⟩) hb4).trans v5
  obtain ⟨W9, hW9⟩ : ∃ y, W8.setCell ⟨b4, o4 + f, none⟩ (.int .i64 (max lv M.st)) = y := ⟨_, rfl⟩
  obtain ⟨hM9, hst9⟩ := hM7.setLst (k := f) hnd2 hrow7 (by omega) HL4.out hs8 (max lv M.st)
  rw [hW9] at hM9 hst9
  refine beginM (fun w' => ∃ x : HeldW S8, w' = x.w) (by kernel_rfl) ?_
  rw [hW0]
  clear hW0
  refine takeW 0 rfl (by kernel_rfl) (fun _ _ _ _ h => h) (by rfl) rfl ?_
  go_big_quiet_op
  refine takeW 1 rfl (by kernel_rfl) (fun _ _ _ _ h => h) (by rfl) rfl ?_
  go_big_quiet_op
  refine takeW 2 rfl (by kernel_rfl) (fun _ _ _ _ h => h) (by rfl) rfl ?_
  go_big_quiet_op
  refine takeM 3 rfl (by kernel_rfl) (heldS_mk hSi8) (fun _ _ _ _ h => h) (by rfl) rfl ?_
  go_big_quiet_op
  refine takeW 4 rfl (by kernel_rfl) (fun _ _ _ _ h => h) (by rfl) rfl ?_
  go_big_quiet_op
  refine takeM 5 rfl (by kernel_rfl) (heldS_mk hSi8) (fun _ _ _ _ h => h) (by rfl) rfl ?_
  go_big_quiet_op
  refine takeW 6 rfl (by kernel_rfl) (fun _ _ _ _ h => h) (by rfl) rfl ?_
  go_big_quiet_op
  refine takeM 7 rfl (by kernel_rfl) (heldS_mk hSi8) (fun _ _ _ _ h => h) (by rfl) rfl ?_
  go_big_quiet_op
  refine takeW 8 rfl (by kernel_rfl) (fun _ _ _ _ h => h) (by rfl) rfl ?_
  go_big_quiet_op
  refine takeW 9 rfl (by kernel_rfl) (fun _ _ _ _ h => h) (by rfl) rfl ?_
  go_big_quiet_op
  refine takeW 10 rfl (by kernel_rfl) (fun _ _ _ _ h => h) (by rfl) rfl ?_
  go_big_quiet_op
  refine takeW 11 rfl (by kernel_rfl) (fun _ _ _ _ h => h) (by rfl) rfl ?_
  go_big_quiet_op
  refine takeM 12 rfl (by kernel_rfl) (heldS_mk hSi8) (fun _ _ _ _ h => h) (by rfl) rfl ?_
  go_big_quiet_op
  refine takeW 13 rfl (by kernel_rfl) (fun _ _ _ _ h => h) (by rfl) rfl ?_
  go_big_quiet_op
  refine takeM 14 rfl (by kernel_rfl) (heldS_mk hSi8) (fun _ _ _ _ h => h) (by rfl) rfl ?_
  go_big_quiet_op
  refine takeW 15 rfl (by kernel_rfl) (fun _ _ _ _ h => h) (by rfl) rfl ?_
  go_big_quiet_op
  refine takeM 16 rfl (by kernel_rfl) (heldS_mk hSi8) (fun _ _ _ _ h => h) (by rfl) rfl ?_
  go_big_quiet_op
  refine takeW 17 rfl (by kernel_rfl) (fun _ _ _ _ h => h) (by rfl) rfl ?_
  go_big_quiet_op
  refine takeW 18 rfl (by kernel_rfl) (fun _ _ _ _ h => h) (by rfl) rfl ?_
  go_big_quiet_op
  refine takeM 19 rfl (by kernel_rfl) (heldS_mk hSi8) (fun _ _ _ _ h => h) (by rfl) rfl ?_
  go_big_quiet_op
  refine takeW 20 rfl (by kernel_rfl) (fun _ _ _ _ h => h) (by rfl) rfl ?_
  go_big_quiet_op
  refine takeM 21 rfl (by kernel_rfl) (heldS_mk hSi8) (fun _ _ _ _ h => h) (by rfl) rfl ?_
  go_big_quiet_op
  refine takeM 22 rfl (by kernel_rfl) (heldS_mk hSi8) (fun _ _ _ _ h => h) (by rfl) rfl ?_
  refine quiet_out (v := .int .i64 (max lv M.st)) ?_ ?_
  · go_big_quiet_op
    all_goals
      simp [Act.put]
      try omega
  simp only [Act.put, List.setIfInBounds_toArray, List.set_cons_zero, List.set_cons_succ]
  refine takeW 23 rfl (by kernel_rfl) (fun _ _ _ _ h => h) (by rfl) rfl ?_
  go_big_quiet_op
  refine actM 24 rfl (by kernel_rfl) ?_
  intro K hK
  go_simp
  refine hK _ _ (fun h => absurd h (by decide +kernel)) ?_
  clear hK K
  refine doneM (by kernel_rfl) ?_
  have hB9 := hB7.step hM9 hst9
  have hU9 := hU7.upTrans (hst9.up hM7.own _)
  obtain ⟨dk, hdk⟩ : ∃ y, comeD d f t M rest = y := ⟨_, rfl⟩
  have hDc : setNode D2 t { X1 with last := X1.last.set gg (lrow.set f (max lv M.st)) } = dk := by
    rw [← hdk, HCO.out, HX.out, HX1.out, ← HD2.out, ← HD1.out]
    unfold setNode; simp [List.set_set]
  rw [hDc] at hB9 hst9 hM9
  have hxk : dk.nodes[t]? = some X2 := by
    rw [← hdk, HCO.out]
    have h1 : (setWire d f t rest).nodes[t]? = some nd := hnd
    rw [set_nodes _ h1, if_pos rfl]
  obtain ⟨hq9, hof9⟩ := hst9.beside hlt7 hof7
  have hMs9 := msgAt_block hMs7 hq9
  obtain ⟨m0, m1, m2, m3, m4⟩ := hMs9
  have HMC : Hid (preMoveD d f t = holdIf dk t M) := by unfold Hid; rw [HMV.out, hdk]
  have hloW : lo ≤ W9.heap.size := Nat.le_trans hlo hU9.size
  clear hDc hdk c1 c2 c3 c4 c5 hne hneT e8 z8 hW9 u0 u1 v1 v4 v5 m1'
  simp only [Nat.zero_add] at m0 m1 m2 m3 m4
  cases hmn : M.nul
  · have HN : Hid (M.nul = false) := hmn
    by_cases h0 : putE M X2.held = 0
    · have H0 : Hid (putE M X2.held = 0) := h0
      have hHold := seaHold_put lo p t M dk L5 W9 X2 c hB9 hxk hmn hloW _ _ rfl rfl (fun e w' => e = .returned (.tuple #[]) ∧ Post e w')
        (fun hne w' hS => absurd H0.out hne)
        (fun h0 w' L' hB' hF => ⟨rfl, HOK.out _ L' w' (by rw [HMC.out]; unfold holdIf holdD; rw [HN.out, hxk]; simp only [h0, if_true, Bool.false_eq_true, if_false]) hB' (hU9.upTrans hF)⟩)
      clear hmn h0
      go_wp2_with (go_at_call 144; refine hHold.mono ?_; rintro e w6 hP; obtain ⟨rfl, hP'⟩ := hP.out)
      go_end0
      exact hP'
    · have H0 : Hid (¬ putE M X2.held = 0) := h0
      have hHold := seaHold_put lo p t M dk L5 W9 X2 c hB9 hxk hmn hloW _ _ rfl rfl (fun e w' => e = .panicked (pan (putE M X2.held)) ∧ Post e w')
        (fun hne w' hS => ⟨rfl, HERR.out _ (by rw [HMC.out]; unfold holdIf holdD; rw [HN.out, hxk]; simp only [hne, Bool.false_eq_true, if_false]) w' (hU9.upTrans (hS.up lo _))⟩)
        (fun h0 w' L' hB' hF => absurd h0 H0.out)
      clear hmn h0
      go_wp2_with (go_at_call 144; refine hHold.mono ?_; rintro e w6 hP; obtain ⟨rfl, hP'⟩ := hP.out)
      exact ⟨rfl, hP'⟩
  · have HN : Hid (M.nul = true) := hmn
    have hHold := seaHold_null lo p t M dk L5 W9 X2 c hB9 hxk hmn
    clear hmn
    go_wp2_with (go_at_call 144; refine hHold.mono ?_; rintro e w6 ⟨rfl, hS⟩)
    go_end0
    exact HOK.out _ L5 _ (by rw [HMC.out]; unfold holdIf; rw [HN.out]; rfl) (hB9.since hS) (hU9.upTrans (hS.up lo _))
end Go.Proofs.YtiiifecfdkjmbaaGreat
