/- The laws' helper agreeBegun answers true; no condition. -/
import Derived.Test.YtiiifecfdkjmbaaGreatDAgX
import Derived.Test.YtiiifecfdkjmbaaGreatDRDo4X
import Derived.Test.YtiiifecfdkjmbaaGreatDMsgBegun
namespace Go.Proofs.YtiiifecfdkjmbaaGreat
set_option maxRecDepth 8000
open Go.RowKit Go.Shelf
open _root_.Go.Proofs.YtiiifecfdkjmbaaGreat.Pure
set_option linter.unusedVariables false
set_option linter.unusedSimpArgs false
set_option maxHeartbeats 1000000 in
theorem begin4_any (ac : Option Addr) (acap : Nat) (acts : List Ac) (w : World) (hA : Acts w ac acts.length acts) :
  Calls Tryz.prog 83 #[.slice ac acts.length acap] w fun e w' => ∃ L, e = .returned (wval L (doneD 3 [3, 6] acts)) ∧ OwnW w.heap.size w' (doneD 3 [3, 6] acts) L ∧ Since w w' := by
 obtain ⟨w1, hw1⟩ : ∃ w1, w.alloc (.cells #[.slice none 0 0, .slice none 0 0, .slice none 0 0] 26) = w1 := ⟨_, rfl⟩
 have hNB : NilBox w1 w.heap.size := by rw [← hw1]; exact NilBox.new w _
 have hS1 := sinceA hw1
 have hA1 := hA.since hS1
 go_enter Tryz.func83, Tryz.ntmps83
 go_wp2_with (first
  | (go_at_call 125; refine (two_s w1 w1 (Since.refl _)).mono ?_; rintro e w2 ⟨b, cap, rfl, hI, hS2⟩)
  | (go_at_call 70; refine (refDone_any 3 (by omega) [3, 6] (by simp) (some ⟨b, 0, none⟩) cap ac acap acts w2 hI (hA1.since hS2)).mono ?_; rintro e w3 ⟨L, rfl, hO, hS3⟩; simp only [wval]; have hSr := hS2.trans hS3; obtain ⟨lt, r0, r1, r2, r3, r4, r5⟩ := hNB.since hSr))
 obtain ⟨hO2, hSf⟩ := hO.result (w0 := w) (p := w.heap.size) (Nat.lt_of_lt_of_le hNB.lt hS2.size) (Nat.le_refl _) (hS1.trans hSr) (Nat.le_trans hS1.size hS2.size)
 refine bodyPost_ret (v := wval L (doneD 3 [3, 6] acts)) ?_ rfl ⟨L, rfl, hO2, hSf⟩
 simp [results, Tryz.results83, go_sem, r0, r1, r2, wval]
set_option maxHeartbeats 4000000 in
theorem agreeBegun_key (D : Wd) (hb : Hid (∀ w : World, Calls Tryz.prog 83 #[.slice (some ⟨w.heap.size, 0, none⟩) 3 3] (w.alloc (.cells #[.int .i64 1, .int .i64 0, .int .i64 0, .string ⟨#[97]⟩, .int .i64 1, .int .i64 2, .int .i64 1, .string ⟨#[98]⟩, .int .i64 4, .int .i64 0, .int .i64 0, .string ⟨#[]⟩] 58)) fun e w' => ∃ L, e = .returned (wval L D) ∧ OwnW w.heap.size w' D L ∧ Since w w')) (f1 : Hid (∀ (L : Lay) (lo : Nat) (y : World), OwnW lo y D L → Calls Tryz.prog 55 #[.agg #[.slice (L (0, 0, 0)).a D.groups.length (L (0, 0, 0)).cap, .slice (L (1, 0, 0)).a D.nodes.length (L (1, 0, 0)).cap, .slice (L (2, 0, 0)).a D.wires.length (L (2, 0, 0)).cap], .int .i64 1, .int .i64 2] y fun e w' => ∃ (sa : Option Addr) (sc : Nat), e = .returned (.tuple #[.slice sa 1 sc, .int .i64 0]) ∧ Msgs w' sa 1 [⟨2, 1, 1, false, ⟨#[98]⟩⟩] ∧ Since y w')) (f2 : Hid (∀ (L : Lay) (lo : Nat) (y : World), OwnW lo y D L → Calls Tryz.prog 56 #[.agg #[.slice (L (0, 0, 0)).a D.groups.length (L (0, 0, 0)).cap, .slice (L (1, 0, 0)).a D.nodes.length (L (1, 0, 0)).cap, .slice (L (2, 0, 0)).a D.wires.length (L (2, 0, 0)).cap], .int .i64 1, .agg #[.int .i64 2, .int .i64 1, .int .i64 1, .bool false, .string ⟨#[98]⟩]] y fun e w' => e = .returned (.tuple #[.int .i64 1, .bool true, .int .i64 0]) ∧ Since y w')) (f3 : Hid (∀ (L : Lay) (lo : Nat) (y : World), OwnW lo y D L → Calls Tryz.prog 56 #[.agg #[.slice (L (0, 0, 0)).a D.groups.length (L (0, 0, 0)).cap, .slice (L (1, 0, 0)).a D.nodes.length (L (1, 0, 0)).cap, .slice (L (2, 0, 0)).a D.wires.length (L (2, 0, 0)).cap], .int .i64 0, .agg #[.int .i64 2, .int .i64 1, .int .i64 1, .bool false, .string ⟨#[98]⟩]] y fun e w' => e = .returned (.tuple #[.int .i64 0, .bool false, .int .i64 0]) ∧ Since y w')) (f4 : Hid (∀ (L : Lay) (lo : Nat) (y : World), OwnW lo y D L → Calls Tryz.prog 49 #[.agg #[.slice (L (0, 0, 0)).a D.groups.length (L (0, 0, 0)).cap, .slice (L (1, 0, 0)).a D.nodes.length (L (1, 0, 0)).cap, .slice (L (2, 0, 0)).a D.wires.length (L (2, 0, 0)).cap]] y fun e w' => ∃ (sa : Option Addr) (sc : Nat), e = .returned (.tuple #[.slice sa 2 sc, .int .i64 0]) ∧ Msgs w' sa 2 [⟨0, 0, 1, false, ⟨#[97]⟩⟩, ⟨2, 1, 1, false, ⟨#[98]⟩⟩] ∧ Since y w')) (f5 : Hid (∀ (L : Lay) (lo : Nat) (y : World), OwnW lo y D L → Calls Tryz.prog 55 #[.agg #[.slice (L (0, 0, 0)).a D.groups.length (L (0, 0, 0)).cap, .slice (L (1, 0, 0)).a D.nodes.length (L (1, 0, 0)).cap, .slice (L (2, 0, 0)).a D.wires.length (L (2, 0, 0)).cap], .int .i64 1, .int .i64 3] y fun e w' => ∃ (sa : Option Addr) (sc : Nat), e = .returned (.tuple #[.slice sa 0 sc, .int .i64 4]) ∧ Msgs w' sa 0 [] ∧ Since y w')) (w : World) :
  Calls Tryz.prog 59 #[] w fun e w' => e = .returned (.bool true) ∧ Since w w' := by
 have hc : Since w w := Since.refl w
 go_enter Tryz.func59, Tryz.ntmps59
 go_wp2_with (go_at_call 94; refine (act_any _ _ _ _ _).mono ?_; rintro e w' ⟨rfl, hS⟩; have hc := hc.trans hS)
 refine (hb.out _).mono ?_
 rintro e wb ⟨L0, rfl, hO0, hSb⟩
 simp only [wval]
 obtain ⟨w1, hw1⟩ : ∃ y, wb.alloc (.cells #[.slice (L0 (0, 0, 0)).a D.groups.length (L0 (0, 0, 0)).cap, .slice (L0 (1, 0, 0)).a D.nodes.length (L0 (1, 0, 0)).cap, .slice (L0 (2, 0, 0)).a D.wires.length (L0 (2, 0, 0)).cap] 26) = y := ⟨_, rfl⟩
 have hSb1 := sinceA hw1
 have hB1 : BoxW w1 wb.heap.size L0 D := by rw [← hw1]; constructor <;> simp [go_sem]
 have hO1 := hO0.since hSb1
 have hc1 := hc.trans (hSb.trans hSb1)
 have BF : Hid (∀ y, Since w1 y → BoxW y wb.heap.size L0 D) := fun y hy => hB1.since hy
 clear hO0 hSb hSb1 hc
 obtain ⟨_, b0, b1, b2, _, _, _⟩ := hB1
 go_wp2_with fail
 refine (f1.out L0 _ w1 hO1).mono ?_
 rintro e w2 ⟨ca, cc, rfl, hMc, h12⟩
 clear b0 b1 b2 hw1
 obtain ⟨_, b0, b1, b2, _, _, _⟩ := BF.out _ h12
 go_wp2_with fail
 obtain ⟨W0, hW0⟩ : ∃ y, w2.drew = y := ⟨_, rfl⟩
 have hs0 := sinceD hW0
 obtain ⟨S0, hS0⟩ : ∃ S0 : World → Prop, ∀ w', S0 w' ↔ Since w2 w' := ⟨_, fun _ => Iff.rfl⟩
 have hneT := heldTrue w
 have y0 : ∀ y : HeldW S0, y.w.cell? ⟨wb.heap.size, 0, none⟩ = some (.slice (L0 (0, 0, 0)).a D.groups.length (L0 (0, 0, 0)).cap) := fun y => (BF.out _ (h12.trans ((hS0 _).1 y.h))).c0
 have y1 : ∀ y : HeldW S0, y.w.cell? ⟨wb.heap.size, 1, none⟩ = some (.slice (L0 (1, 0, 0)).a D.nodes.length (L0 (1, 0, 0)).cap) := fun y => (BF.out _ (h12.trans ((hS0 _).1 y.h))).c1
 have y2 : ∀ y : HeldW S0, y.w.cell? ⟨wb.heap.size, 2, none⟩ = some (.slice (L0 (2, 0, 0)).a D.wires.length (L0 (2, 0, 0)).cap) := fun y => (BF.out _ (h12.trans ((hS0 _).1 y.h))).c2
 have hSi0 := (hS0 W0).2 hs0
 have hne : Nonempty (HeldW S0) := ⟨⟨_, hSi0⟩⟩
 clear b0 b1 b2
 refine beginM (fun w' => ∃ x : HeldW S0, w' = x.w) (by kernel_rfl) ?_
 rw [hW0]
 clear hW0
 refine tM 0 rfl (heldS_mk hSi0) ?_
 go_big_quiet_op
 refine actM 1 rfl (by kernel_rfl) ?_
 intro K hK
 go_simp
 refine (say_any 2 1 1 ⟨#[98]⟩ W0).mono ?_
 rintro e wA ⟨rfl, hSA⟩
 dsimp only
 have hA := hs0.trans hSA
 have hsA := (hS0 _).2 hA
 refine hK _ _ (fun _ _ => heldS_mk hsA) ?_
 clear hK K
 refine actM 2 rfl (by kernel_rfl) ?_
 intro K hK
 go_simp
 refine (f2.out L0 _ wA (hO1.since (h12.trans hA))).mono ?_
 rintro e w3 ⟨rfl, hSB⟩
 dsimp only
 have hw3 := h12.trans (hA.trans hSB)
 have gw3 := hA.trans hSB
 refine hK _ _ (fun h => absurd h (by decide +kernel)) ?_
 clear hK K
 refine tW 3 rfl ?_
 go_big_quiet_op
 refine tW 4 rfl ?_
 go_big_quiet_op
 refine tW 5 rfl ?_
 go_big_quiet_op
 refine tW 6 rfl ?_
 go_big_quiet_op
 refine tW 7 rfl ?_
 go_big_quiet_op
 refine tW 8 rfl ?_
 go_big_quiet_op
 refine tW 9 rfl ?_
 go_big_quiet_op
 refine doneM (by kernel_rfl) ?_
 clear y0 y1 y2 hne hneT hSi0 hs0 hA hsA hSA hSB hS0
 try clear S0
 obtain ⟨_, b0, b1, b2, _, _, _⟩ := BF.out _ hw3
 go_wp2_with fail
 obtain ⟨W0, hW0⟩ : ∃ y, w3.drew = y := ⟨_, rfl⟩
 have hs0 := sinceD hW0
 obtain ⟨S0, hS0⟩ : ∃ S0 : World → Prop, ∀ w', S0 w' ↔ Since w3 w' := ⟨_, fun _ => Iff.rfl⟩
 have hneT := heldTrue w
 have y0 : ∀ y : HeldW S0, y.w.cell? ⟨wb.heap.size, 0, none⟩ = some (.slice (L0 (0, 0, 0)).a D.groups.length (L0 (0, 0, 0)).cap) := fun y => (BF.out _ (hw3.trans ((hS0 _).1 y.h))).c0
 have y1 : ∀ y : HeldW S0, y.w.cell? ⟨wb.heap.size, 1, none⟩ = some (.slice (L0 (1, 0, 0)).a D.nodes.length (L0 (1, 0, 0)).cap) := fun y => (BF.out _ (hw3.trans ((hS0 _).1 y.h))).c1
 have y2 : ∀ y : HeldW S0, y.w.cell? ⟨wb.heap.size, 2, none⟩ = some (.slice (L0 (2, 0, 0)).a D.wires.length (L0 (2, 0, 0)).cap) := fun y => (BF.out _ (hw3.trans ((hS0 _).1 y.h))).c2
 have hSi0 := (hS0 W0).2 hs0
 have hne : Nonempty (HeldW S0) := ⟨⟨_, hSi0⟩⟩
 clear b0 b1 b2
 refine beginM (fun w' => ∃ x : HeldW S0, w' = x.w) (by kernel_rfl) ?_
 rw [hW0]
 clear hW0
 refine tM 0 rfl (heldS_mk hSi0) ?_
 go_big_quiet_op
 refine actM 1 rfl (by kernel_rfl) ?_
 intro K hK
 go_simp
 refine (say_any 2 1 1 ⟨#[98]⟩ W0).mono ?_
 rintro e wA ⟨rfl, hSA⟩
 dsimp only
 have hA := hs0.trans hSA
 have hsA := (hS0 _).2 hA
 refine hK _ _ (fun _ _ => heldS_mk hsA) ?_
 clear hK K
 refine actM 2 rfl (by kernel_rfl) ?_
 intro K hK
 go_simp
 refine (f3.out L0 _ wA (hO1.since (hw3.trans hA))).mono ?_
 rintro e w4 ⟨rfl, hSB⟩
 dsimp only
 have hw4 := hw3.trans (hA.trans hSB)
 have gw4 := hA.trans hSB
 refine hK _ _ (fun h => absurd h (by decide +kernel)) ?_
 clear hK K
 refine tW 3 rfl ?_
 go_big_quiet_op
 refine tW 4 rfl ?_
 go_big_quiet_op
 refine tW 5 rfl ?_
 go_big_quiet_op
 refine tW 6 rfl ?_
 go_big_quiet_op
 refine tW 7 rfl ?_
 go_big_quiet_op
 refine tW 8 rfl ?_
 go_big_quiet_op
 refine tW 9 rfl ?_
 go_big_quiet_op
 refine doneM (by kernel_rfl) ?_
 clear y0 y1 y2 hne hneT hSi0 hs0 hA hsA hSA hSB hS0
 try clear S0
 obtain ⟨_, b0, b1, b2, _, _, _⟩ := BF.out _ hw4
 go_wp2_with fail
 refine (f4.out L0 _ w4 (hO1.since hw4)).mono ?_
 rintro e w5 ⟨da, dc, rfl, hMd, h45⟩
 have h15 := hw4.trans h45
 clear b0 b1 b2
 obtain ⟨_, b0, b1, b2, _, _, _⟩ := BF.out _ h15
 go_wp2_with fail
 refine (f5.out L0 _ w5 (hO1.since h15)).mono ?_
 rintro e w6 ⟨ea, ec, rfl, hMe, h56⟩
 have h16 := h15.trans h56
 clear b0 b1 b2
 have hMc6 := hMc.since (gw3.trans (gw4.trans (h45.trans h56)))
 have hMd6 := hMd.since h56
 clear hMc hMd hMe hO1
 go_wp2_with fail
 refine (say_any 2 1 1 ⟨#[98]⟩ w6).mono ?_
 rintro e wA ⟨rfl, hSA⟩
 have hJ1 := msgs_lit1 (w := wA) (m := ⟨2, 1, 1, false, ⟨#[98]⟩⟩)
 obtain ⟨wB, hwB⟩ : ∃ y, wA.alloc (.cells #[.int .i64 2, .int .i64 1, .int .i64 1, .bool false, .string ⟨#[98]⟩] 42) = y := ⟨_, rfl⟩
 dsimp only at hJ1
 rw [hwB] at hJ1
 have hSB := sinceA hwB
 have hB := hSA.trans hSB
 go_wp2_with fail
 have hSM := sameMsgs_any ca 1 cc _ _ 1 1 _ wB (hMc6.since hB) hJ1
 rw [sameMs_refl] at hSM
 refine hSM.mono ?_
 rintro e wC ⟨rfl, hSC⟩
 have hC := hB.trans hSC
 clear hwB hSM
 go_wp2_with fail
 refine (say_any 0 0 1 ⟨#[97]⟩ wC).mono ?_
 rintro e wD ⟨rfl, hSD⟩
 go_wp2_with fail
 refine (say_any 2 1 1 ⟨#[98]⟩ wD).mono ?_
 rintro e wE ⟨rfl, hSE⟩
 have hJ2 := msgs_lit2 (w := wE) (m := ⟨0, 0, 1, false, ⟨#[97]⟩⟩) (n := ⟨2, 1, 1, false, ⟨#[98]⟩⟩)
 obtain ⟨wF, hwF⟩ : ∃ y, wE.alloc (.cells #[.int .i64 0, .int .i64 0, .int .i64 1, .bool false, .string ⟨#[97]⟩, .int .i64 2, .int .i64 1, .int .i64 1, .bool false, .string ⟨#[98]⟩] 42) = y := ⟨_, rfl⟩
 dsimp only at hJ2
 rw [hwF] at hJ2
 have hSF := sinceA hwF
 have hF := hC.trans (hSD.trans (hSE.trans hSF))
 go_wp2_with fail
 have hSM := sameMsgs_any da 2 dc _ _ 2 2 _ wF (hMd6.since hF) hJ2
 rw [sameMs_refl] at hSM
 refine hSM.mono ?_
 rintro e wG ⟨rfl, hSG⟩
 have hG := hF.trans hSG
 clear hwF hSM
 go_wp2_with fail
 go_ret
 exact ⟨rfl, hc1.trans (h16.trans hG)⟩
def aActs : List Ac := [⟨1, 0, 0, ⟨#[97]⟩⟩, ⟨1, 2, 1, ⟨#[98]⟩⟩, ⟨4, 0, 0, ⟨#[]⟩⟩]
def aD : Wd := doneD 3 [3, 6] aActs
theorem aAsk : askE aD [1, 2] = 0 ∧ askE aD [1, 3] = 4 ∧ askE aD [1] = 0 ∧ askE aD [0] = 0 ∧ worldE aD = 0 := by decide +kernel
theorem aCom : sameMs (comL aD 1 2) [⟨2, 1, 1, false, ⟨#[98]⟩⟩] = true ∧ comL aD 1 3 = [] := by decide +kernel
theorem aAhd : ahdO aD 1 ⟨2, 1, 1, false, ⟨#[98]⟩⟩ = some 1 ∧ ahdO aD 0 ⟨2, 1, 1, false, ⟨#[98]⟩⟩ = none := by decide +kernel
theorem aAll : allE aD = 0 ∧ sameMs (allL aD) [⟨0, 0, 1, false, ⟨#[97]⟩⟩, ⟨2, 1, 1, false, ⟨#[98]⟩⟩] = true := by decide +kernel
theorem begin_a (w : World) : Calls Tryz.prog 83 #[.slice (some ⟨w.heap.size, 0, none⟩) 3 3] (w.alloc (.cells #[.int .i64 1, .int .i64 0, .int .i64 0, .string ⟨#[97]⟩, .int .i64 1, .int .i64 2, .int .i64 1, .string ⟨#[98]⟩, .int .i64 4, .int .i64 0, .int .i64 0, .string ⟨#[]⟩] 58)) fun e w' => ∃ L, e = .returned (wval L aD) ∧ OwnW w.heap.size w' aD L ∧ Since w w' := by
 refine (begin4_any _ _ aActs _ (acts_new w aActs (by decide) _)).mono ?_
 rintro e w' ⟨L, rfl, hO, hS⟩
 exact ⟨L, rfl, hO.mono (by simp), ((Since.refl w).alloc _).trans hS⟩
theorem com_k {D : Wd} {a b er : Int} {l : List Mg} {n : Nat} (h : askE D [a, b] = er) (hl : comL D a b = l) (hn : l.length = n) (L : Lay) (lo : Nat) (y : World) (hO : OwnW lo y D L) :
  Calls Tryz.prog 55 #[.agg #[.slice (L (0, 0, 0)).a D.groups.length (L (0, 0, 0)).cap, .slice (L (1, 0, 0)).a D.nodes.length (L (1, 0, 0)).cap, .slice (L (2, 0, 0)).a D.wires.length (L (2, 0, 0)).cap], .int .i64 a, .int .i64 b] y fun e w' => ∃ (sa : Option Addr) (sc : Nat), e = .returned (.tuple #[.slice sa n sc, .int .i64 er]) ∧ Msgs w' sa n l ∧ Since y w' := by
 have k := common_any (wvOf L D) D a b y hO.wat
 rw [h, hl, hn] at k; exact k
theorem ahd_k {D : Wd} {n : Int} {m : Mg} {o : Option Nat} {k : Int} {b : Bool} (h : askE D [n] = 0) (hl : ahdO D n m = o) (hk : ((o.getD 0 : Nat) : Int) = k) (hb : o.isSome = b) (L : Lay) (lo : Nat) (y : World) (hO : OwnW lo y D L) :
  Calls Tryz.prog 56 #[.agg #[.slice (L (0, 0, 0)).a D.groups.length (L (0, 0, 0)).cap, .slice (L (1, 0, 0)).a D.nodes.length (L (1, 0, 0)).cap, .slice (L (2, 0, 0)).a D.wires.length (L (2, 0, 0)).cap], .int .i64 n, .agg #[.int .i64 m.fr, .int .i64 m.gr, .int .i64 m.st, .bool m.nul, .string m.body]] y fun e w' => e = .returned (.tuple #[.int .i64 k, .bool b, .int .i64 0]) ∧ Since y w' := by
 have q := agAhead_any (wvOf L D) D n m y hO.wat
 rw [h, hl, hk, hb] at q; exact q
theorem all_k {D : Wd} {l : List Mg} {n : Nat} (h : allE D = 0) (hl : allL D = l) (hn : l.length = n) (L : Lay) (lo : Nat) (y : World) (hO : OwnW lo y D L) :
  Calls Tryz.prog 49 #[.agg #[.slice (L (0, 0, 0)).a D.groups.length (L (0, 0, 0)).cap, .slice (L (1, 0, 0)).a D.nodes.length (L (1, 0, 0)).cap, .slice (L (2, 0, 0)).a D.wires.length (L (2, 0, 0)).cap]] y fun e w' => ∃ (sa : Option Addr) (sc : Nat), e = .returned (.tuple #[.slice sa n sc, .int .i64 0]) ∧ Msgs w' sa n l ∧ Since y w' := by
 have k := agAll_any (wvOf L D) D y hO.wat
 rw [h, hl, hn] at k; exact k
theorem agreeBegun_any (w : World) : Calls Tryz.prog 59 #[] w fun e w' => e = .returned (.bool true) ∧ Since w w' := by
 refine agreeBegun_key aD ?_ ?_ ?_ ?_ ?_ ?_ w
 ·exact begin_a
 ·exact com_k aAsk.1 ((sameMs_iff _ _).1 aCom.1) rfl
 ·exact ahd_k (m := ⟨2, 1, 1, false, ⟨#[98]⟩⟩) aAsk.2.2.1 aAhd.1 rfl rfl
 ·exact ahd_k (m := ⟨2, 1, 1, false, ⟨#[98]⟩⟩) aAsk.2.2.2.1 aAhd.2 rfl rfl
 ·exact all_k aAll.1 ((sameMs_iff _ _).1 aAll.2) rfl
 ·exact com_k aAsk.2.1 aCom.2 rfl
end Go.Proofs.YtiiifecfdkjmbaaGreat
