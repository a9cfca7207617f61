/- Contract of cast.post; conditions: the world lies in a sea, its rows are as they must be. -/
import Derived.BigQuiet
import Derived.Test.YtiiifecfdkjmbaaGreatSCast1
import Derived.Test.YtiiifecfdkjmbaaGreatRCastX
namespace Go.Proofs.YtiiifecfdkjmbaaGreat
set_option maxRecDepth 8000
open Go.RowKit Go.Shelf
open _root_.Go.Proofs.YtiiifecfdkjmbaaGreat.Pure
set_option linter.unusedVariables false
set_option linter.unusedSimpArgs false

theorem has_v (w0 : World) (a : Option Addr) (len cap : Nat) (xs : List Int) (g n : Int) (v : Bool) (hv : hasB xs g n = v) (hI : Ints w0 a len xs) (w : World) (h : Since w0 w) :
    Calls Tryz.prog 50 #[.slice a len cap, .int .i64 g, .int .i64 n] w fun e w' => e = .returned (.bool v) ∧ Since w0 w' :=
  (has_any a len cap xs g n w (hI.since h)).mono fun _ _ ⟨he, hw⟩ => ⟨by rw [← hv]; exact he, by rw [hw]; exact h⟩

set_option maxHeartbeats 1000000 in
theorem post_any (lo p n : Nat) (gr st : Int) (nul : Bool) (body : ByteArray) (d : Wd) (L : Lay) (w : World) (c : Int) (hB : SeaB lo w p d L c) (hrk0 : RowsOk d) (hn : n < d.nodes.length) (hN : d.nodes.length ≤ 1000) (hw40 : ∀ f t, (wireAt d f t).length ≤ 40) (hlo : lo ≤ w.heap.size) (Post : Ending → World → Prop)
    (hErr : ∀ er, layTo ⟨(n : Int), gr, st, nul, body⟩ n d d.nodes.length = .error er → ∀ w', Fr (Up lo fun _ => False) w w' → Post (.panicked (pan er)) w')
    (hOk : ∀ d' L' w', layTo ⟨(n : Int), gr, st, nul, body⟩ n d d.nodes.length = .ok d' → SeaB lo w' p d' L' c → Fr (Up lo fun _ => False) w w' → Post (.returned (.tuple #[])) w') :
    Calls Tryz.prog 143 #[.pointer (some ⟨p, 0, none⟩), .agg #[.int .i64 n, .int .i64 gr, .int .i64 st, .bool nul, .string body]] w fun e w' => Hid (Post e w') := by
  have HERR := (show Hid _ from hErr)
  have HOK := (show Hid _ from hOk)
  have HW40 : Hid (∀ f t, (wireAt d f t).length ≤ 40) := hw40
  have HR0 : Hid (RowsOk d) := hrk0
  clear hErr hOk hw40 hrk0
  have b1 := hB.made.box.c1
  obtain ⟨w1, hw1⟩ : ∃ y, w.alloc (.cells #[.int .i64 n, .int .i64 gr, .int .i64 st, .bool nul, .string body] 42) = y := ⟨_, rfl⟩
  have hS1 : Since w w1 := by rw [← hw1]; exact (Since.refl w).alloc _
  have hMb : MsgAt w1 w.heap.size 0 ⟨(n : Int), gr, st, nul, body⟩ := by rw [← hw1]; constructor <;> simp [go_sem]
  have hl1 : w.heap.size < w1.heap.size := by rw [← hw1]; simp
  have hB1 := hB.since hS1
  have b1 := hB1.made.box.c1
  have hof1 : ¬ blkW d L w.heap.size := fun hb => by have := (hB.made.own.blk hb).2; omega
  go_enter Tryz.func143, Tryz.ntmps143
  go_wp2_with fail
  clear b1 hw1
  go_loopw [12] (fun i wr => ∃ (k : Nat) (dk : Wd) (Lk : Lay), k ≤ d.nodes.length ∧ i = .int .i64 k ∧ layTo ⟨(n : Int), gr, st, nul, body⟩ n d k = .ok dk ∧ SeaB lo wr p dk Lk c ∧ MsgAt wr w.heap.size 0 ⟨(n : Int), gr, st, nul, body⟩ ∧ ¬ blkW dk Lk w.heap.size ∧ w.heap.size < wr.heap.size ∧ Fr (Up lo fun _ => False) w wr) (fun i _ => d.nodes.length - (intOf i).toNat)
  case atStart => exact ⟨0, d, L, Nat.zero_le _, rfl, rfl, hB1, hMb, hof1, hl1, hS1.up _ _⟩
  case round =>
    clear hB1 hMb hof1 hl1
    obtain ⟨wo, rfl⟩ : ∃ wo, wo = wr := ⟨_, rfl⟩
    obtain ⟨k, dk, Lk, hk, rfl, hlay, hSB, hMk, hofk, hltk, hUp⟩ := hrel
    have HL : Hid (layTo ⟨(n : Int), gr, st, nul, body⟩ n d k = .ok dk) := hlay
    have HSB : Hid (SeaB lo wo p dk Lk c) := hSB
    have HST := (show Hid _ from layTo_ok HR0.out hn k dk hk hlay)
    have HRK : Hid (RowsOk dk ∧ dk.nodes.length = d.nodes.length) := ⟨HST.out.alike.rows HR0.out, HST.out.alike.n⟩
    have hlow : lo ≤ wo.heap.size := Nat.le_trans hlo hUp.size
    clear hlay
    by_cases hlt : k < d.nodes.length
    · have hpl := hSB.made.box.lt
      have c0 := hSB.made.box.c0
      have hG : Ints wo (Lk (0, 0, 0)).a dk.groups.length dk.groups := hSB.made.own.wat.g
      have hne : Nonempty (Later wo) := ⟨⟨wo, Since.refl wo⟩⟩
      have o1 : ∀ y : Later wo, y.w.cell? ⟨w.heap.size, 0, none⟩ = some (.int .i64 n) := fun y => (msgAt_since hMk hltk y.h).c0
      have o2 : ∀ y : Later wo, y.w.cell? ⟨w.heap.size, 1, none⟩ = some (.int .i64 gr) := fun y => (msgAt_since hMk hltk y.h).c1
      have o3 : ∀ y : Later wo, y.w.cell? ⟨p, 0, none⟩ = some (.slice (Lk (0, 0, 0)).a dk.groups.length (Lk (0, 0, 0)).cap) := fun y => (y.h.cellAt hpl _).trans c0
      have HLO : Hid (layTo ⟨(n : Int), gr, st, nul, body⟩ n d (k + 1) = layOne ⟨(n : Int), gr, st, nul, body⟩ n dk k) := by unfold Hid; rw [layTo_succ, HL.out]; rfl
      cases e1 : ((k : Int) == (n : Int))
      · have hkn : k ≠ n := by intro e; subst e; simp at e1
        cases e2 : hasB dk.groups gr k
        · have HL2 : Hid (layTo ⟨(n : Int), gr, st, nul, body⟩ n d (k + 1) = .ok dk) := by unfold Hid; rw [HLO.out]; unfold layOne; rw [if_pos (.inr e2)]
          go_wp2_with fail
          refine wp_region_since (by kernel_rfl) (by kernel_rfl) (Since.refl wo) ?_
          repeat (go_big_quiet_step ((go_at_call 50; exact Later.call (has_v wo _ _ _ dk.groups gr k _ e2 hG))))
          refine wpQuiet_nil ?_
          intro w9 hS9
          clear o1 o2 o3 hne
          go_wp2
          go_roundw
          case rel => exact ⟨k + 1, dk, Lk, by omega, by go_num, HL2.out, HSB.out.since hS9, msgAt_since hMk hltk hS9, hofk, Nat.lt_of_lt_of_le hltk hS9.size, hUp.upTrans (hS9.up _ _)⟩
          case measure => simp [intOf]; omega
        · obtain ⟨bw, ow, cw, br, oR, cr, hHD⟩ := hSB.made.headOf HRK.out.1 (f := n) (t := k) (by have := HRK.out.2; omega) (by have := HRK.out.2; omega)
          obtain ⟨l, hl⟩ : ∃ l, wireAt dk n k = l := ⟨_, rfl⟩
          have HW : Hid (wireAt dk n k = l) := hl
          have HOK8 : Hid (okI dk (8, n, k)) := by
            obtain ⟨row, hr, hrl⟩ := row_of HRK.out.1 (f := n) (by have := HRK.out.2; omega)
            exact ⟨by rw [HRK.out.1.1]; have := HRK.out.2; omega, by rw [rowAt_of hr]; have := HRK.out.2; omega⟩
          rw [hl] at hHD
          have hl40 : l.length ≤ 40 := by
            have h1 := HST.out.wire n k
            rw [hl] at h1
            rw [if_neg (fun h => by have := h.2.1; omega)] at h1
            rw [h1]; exact HW40.out n k
          have hRow0 : Row wo lo 5 (Lk (8, n, k)) (wrAt dk n k).length (flat (wrAt dk n k)) := hSB.made.own.row (8, n, k) HOK8.out
          have hRow1 : Row wo lo 5 (Lk (8, n, k)) l.length (flat l) := by rw [← hl]; exact hRow0
          obtain ⟨sa, sc, hL8⟩ : ∃ a c, Lk (8, n, k) = ⟨a, c⟩ := ⟨_, _, rfl⟩
          have HM8 : Hid (Lk (8, n, k) = ⟨sa, sc⟩) := hL8
          have HHD : Hid (HeadAt wo p dk Lk n k l bw ow cw br oR cr) := hHD
          have hRow := hRow1
          rw [hL8] at hRow
          have hc8 := hHD.cell
          rw [hL8] at hc8
          dsimp only [Sl.v] at hc8
          have o4 : ∀ y : Later wo, y.w.cell? ⟨p, 2, none⟩ = some (.slice (some ⟨bw, ow, none⟩) dk.wires.length cw) := fun y => (y.h.cellAt hHD.lt _).trans hHD.top
          have o5 : ∀ y : Later wo, y.w.cell? ⟨bw, ow + n, none⟩ = some (.slice (some ⟨br, oR, none⟩) dk.nodes.length cr) := fun y => (y.h.cellAt hHD.ltw _).trans hHD.row
          have o6 : ∀ y : Later wo, y.w.cell? ⟨br, oR + k, none⟩ = some (.slice sa l.length sc) := fun y => (y.h.cellAt hHD.ltr _).trans hc8
          have n1 : (n : Int) < (dk.wires.length : Int) := by have := HRK.out.1.1; have := HRK.out.2; omega
          have n2 : (k : Int) < (dk.nodes.length : Int) := by have := HRK.out.2; omega
          have HLO2 : Hid (layTo ⟨(n : Int), gr, st, nul, body⟩ n d (k + 1) = if l.length = 40 then .error 2 else if lateB ⟨(n : Int), gr, st, nul, body⟩ l then .error 1 else .ok (setWire dk n k (l ++ [⟨(n : Int), gr, st, nul, body⟩]))) := by
            unfold Hid; rw [HLO.out]; unfold layOne; rw [if_neg (by rintro (h | h); exact hkn h; rw [e2] at h; cases h), HW.out]
          clear hl hL8 hRow0 hRow1 hHD hSB HLO
          cases e3 : decide ((l.length : Int) < 40)
          · have HL1 : Hid (layTo ⟨(n : Int), gr, st, nul, body⟩ n d (k + 1) = .error 2) := by unfold Hid; rw [HLO2.out, if_pos (by simp at e3; omega)]
            go_wp2_with fail
            refine wp_region_since (by kernel_rfl) (by kernel_rfl) (Since.refl wo) ?_
            repeat (go_big_quiet_step ((go_at_call 50; exact Later.call (has_v wo _ _ _ dk.groups gr k _ e2 hG))))
            refine wpQuiet_nil ?_
            intro w9 hS9
            go_wp2_with fail
            refine wp_region_since (by kernel_rfl) (by kernel_rfl) hS9 ?_
            repeat (go_big_quiet_step (fail))
            refine wpQuiet_nil ?_
            intro w8 hS8
            clear o1 o2 o3 o4 o5 o6 hne
            go_wp2_with (go_at_call 88; refine (seaMust_f 2 _).mono ?_; rintro e w' ⟨rfl, hw'⟩; obtain rfl := hw'.symm)
            exact ⟨rfl, HERR.out 2 (layTo_stop _ (k + 1) (by omega) HL1.out) _ (hUp.upTrans (hS8.up _ _))⟩
          · have h40 : ¬ l.length = 40 := by simp at e3; omega
            by_cases hz : l.length = 0
            · have hz' : ((l.length : Int) == 0) = true := by simp [hz]
              have HL2 : Hid (layTo ⟨(n : Int), gr, st, nul, body⟩ n d (k + 1) = .ok (setWire dk n k (l ++ [⟨(n : Int), gr, st, nul, body⟩]))) := by
                have hn0 : l = [] := List.eq_nil_of_length_eq_zero hz
                unfold Hid; rw [HLO2.out, if_neg h40, if_neg (by rw [hn0]; simp [lateB])]
              clear hz
              go_wp2_with fail
              refine wp_region_since (by kernel_rfl) (by kernel_rfl) (Since.refl wo) ?_
              repeat (go_big_quiet_step ((go_at_call 50; exact Later.call (has_v wo _ _ _ dk.groups gr k _ e2 hG))))
              refine wpQuiet_nil ?_
              intro w9 hS9
              go_wp2_with fail
              refine wp_region_since (by kernel_rfl) (by kernel_rfl) hS9 ?_
              repeat (go_big_quiet_step (fail))
              refine wpQuiet_nil ?_
              intro w8 hS8
              clear o1 o2 o3 o4 o5 o6 hne
              go_wp2_with (go_at_call 88; refine (seaMust_t 2 _).mono ?_; rintro e w' ⟨rfl, hw'⟩; obtain rfl := hw'.symm)
              obtain ⟨V0, hW0⟩ : ∃ y, w8.drew = y := ⟨_, rfl⟩
              have hs7 : Since w8 V0 := by rw [← hW0]; exact Since.drew (Since.refl _)
              obtain ⟨S7, hS7⟩ : ∃ S0 : World → Prop, ∀ w', S0 w' ↔ Since wo w' := ⟨_, fun _ => Iff.rfl⟩
              have hSi0 := (hS7 V0).2 (hS8.trans hs7)
              have hne : Nonempty (HeldW S7) := ⟨⟨_, hSi0⟩⟩
              have hneT := heldTrue w
              refine beginM (fun w' => ∃ x : HeldW S7, w' = x.w) (by kernel_rfl) ?_
              rw [hW0]
              clear hW0
              refine takeW 0 rfl (by kernel_rfl) (fun _ _ _ _ h => h) (by rfl) rfl ?_
              go_big_quiet_op
              refine takeM 1 rfl (by kernel_rfl) (heldS_mk hSi0) (fun _ _ _ _ h => h) (by rfl) rfl ?_
              go_big_quiet_op
              refine takeW 2 rfl (by kernel_rfl) (fun _ _ _ _ h => h) (by rfl) rfl ?_
              go_big_quiet_op
              refine takeW 3 rfl (by kernel_rfl) (fun _ _ _ _ h => h) (by rfl) rfl ?_
              go_big_quiet_op
              refine skipM 4 rfl (by kernel_rfl) (fun _ => heldS_mk hSi0) (fun _ _ _ _ h => h) (by rfl) ?_
              simp only [Act.put, List.setIfInBounds_toArray, List.set_cons_zero, List.set_cons_succ]
              refine skipM 5 rfl (by kernel_rfl) (fun _ => heldS_mk hSi0) (fun _ _ _ _ h => h) (by rfl) ?_
              simp only [Act.put, List.setIfInBounds_toArray, List.set_cons_zero, List.set_cons_succ]
              refine skipM 6 rfl (by kernel_rfl) (fun _ => heldS_mk hSi0) (fun _ _ _ _ h => h) (by rfl) ?_
              simp only [Act.put, List.setIfInBounds_toArray, List.set_cons_zero, List.set_cons_succ]
              refine skipM 7 rfl (by kernel_rfl) (fun _ => heldS_mk hSi0) (fun _ _ _ _ h => h) (by rfl) ?_
              simp only [Act.put, List.setIfInBounds_toArray, List.set_cons_zero, List.set_cons_succ]
              refine skipM 8 rfl (by kernel_rfl) (fun _ => heldS_mk hSi0) (fun _ _ _ _ h => h) (by rfl) ?_
              simp only [Act.put, List.setIfInBounds_toArray, List.set_cons_zero, List.set_cons_succ]
              refine skipM 9 rfl (by kernel_rfl) (fun _ => heldS_mk hSi0) (fun _ _ _ _ h => h) (by rfl) ?_
              simp only [Act.put, List.setIfInBounds_toArray, List.set_cons_zero, List.set_cons_succ]
              refine skipM 10 rfl (by kernel_rfl) (fun _ => heldS_mk hSi0) (fun _ _ _ _ h => h) (by rfl) ?_
              simp only [Act.put, List.setIfInBounds_toArray, List.set_cons_zero, List.set_cons_succ]
              refine skipM 11 rfl (by kernel_rfl) (fun _ => heldS_mk hSi0) (fun _ _ _ _ h => h) (by rfl) ?_
              simp only [Act.put, List.setIfInBounds_toArray, List.set_cons_zero, List.set_cons_succ]
              refine skipM 12 rfl (by kernel_rfl) (fun _ => heldS_mk hSi0) (fun _ _ _ _ h => h) (by rfl) ?_
              simp only [Act.put, List.setIfInBounds_toArray, List.set_cons_zero, List.set_cons_succ]
              refine skipM 13 rfl (by kernel_rfl) (fun _ => heldS_mk hSi0) (fun _ _ _ _ h => h) (by rfl) ?_
              simp only [Act.put, List.setIfInBounds_toArray, List.set_cons_zero, List.set_cons_succ]
              refine takeW 14 rfl (by kernel_rfl) (fun _ _ _ _ h => h) (by rfl) rfl ?_
              go_big_quiet_op
              refine actM 15 rfl (by kernel_rfl) ?_
              intro K hK
              go_simp
              refine (seaMust_t 1 _).mono ?_
              rintro e w' ⟨rfl, hw'⟩
              obtain rfl := hw'.symm
              dsimp only
              refine hK _ _ (fun h => absurd h (by decide +kernel)) ?_
              clear hK K
              refine doneM (by kernel_rfl) ?_
              clear hne hneT
              go_wp2_with fail
              obtain ⟨W0, hW0⟩ : ∃ y, V0.drew = y := ⟨_, rfl⟩
              have hs0 : Since wo W0 := by rw [← hW0]; exact Since.drew (hS8.trans hs7)
              obtain ⟨S0, hS0⟩ : ∃ S0 : World → Prop, ∀ w', S0 w' ↔ (HeadAt w' p dk Lk n k l bw ow cw br oR cr ∧ MsgAt w' w.heap.size 0 ⟨(n : Int), gr, st, nul, body⟩) := ⟨_, fun _ => Iff.rfl⟩
              have hneT := heldTrue w
              have c1 : ∀ y : HeldW S0, y.w.cell? ⟨p, 2, none⟩ = some (.slice (some ⟨bw, ow, none⟩) dk.wires.length cw) := fun y => ((hS0 _).1 y.h).1.top
              have c2 : ∀ y : HeldW S0, y.w.cell? ⟨bw, ow + n, none⟩ = some (.slice (some ⟨br, oR, none⟩) dk.nodes.length cr) := fun y => ((hS0 _).1 y.h).1.row
              have m0 : ∀ y : HeldW S0, y.w.cell? ⟨w.heap.size, 0, none⟩ = some (.int .i64 n) := fun y => ((hS0 _).1 y.h).2.c0
              have m1 : ∀ y : HeldW S0, y.w.cell? ⟨w.heap.size, 1, none⟩ = some (.int .i64 gr) := fun y => ((hS0 _).1 y.h).2.c1
              have m2 : ∀ y : HeldW S0, y.w.cell? ⟨w.heap.size, 2, none⟩ = some (.int .i64 st) := fun y => ((hS0 _).1 y.h).2.c2
              have m3 : ∀ y : HeldW S0, y.w.cell? ⟨w.heap.size, 3, none⟩ = some (.bool nul) := fun y => ((hS0 _).1 y.h).2.c3
              have m4 : ∀ y : HeldW S0, y.w.cell? ⟨w.heap.size, 4, none⟩ = some (.string body) := fun y => ((hS0 _).1 y.h).2.c4
              have hMW := msgAt_since hMk hltk hs0
              have hqW : w.heap.size < W0.heap.size := Nat.lt_of_lt_of_le hltk hs0.size
              have hSi0 := (hS0 W0).2 ⟨HHD.out.since hs0, hMW⟩
              have hne : Nonempty (HeldW S0) := ⟨⟨_, hSi0⟩⟩
              obtain ⟨WA, hWA⟩ : ∃ y, W0.alloc (.cells #[.int .i64 n, .int .i64 gr, .int .i64 st, .bool nul, .string body] 42) = y := ⟨_, rfl⟩
              have hsA : Since W0 WA := by rw [← hWA]; exact (Since.refl W0).alloc _
              have hoA := hs0.trans hsA
              have hSiA := (hS0 WA).2 ⟨HHD.out.since hoA, msgAt_since hMW hqW hsA⟩
              have hsrc := src_new (size := 5) (T := 42) (w := W0) etMsg.und (flat [⟨(n : Int), gr, st, nul, body⟩]) (by simp [flat_length]) (fun u hu => flat_one u _ hu) 1
              rw [show (W0.alloc (.cells (flat [⟨(n : Int), gr, st, nul, body⟩]).toArray 42)) = WA from hWA] at hsrc
              have hRA := hRow.since hoA
              have hloA : lo ≤ WA.heap.size := Nat.le_trans hlow hoA.size
              have HH0 := (show Hid _ from HHD.out.since hoA)
              refine beginM (fun w' => ∃ x : HeldW S0, w' = x.w) (by kernel_rfl) ?_
              rw [hW0]
              clear hW0
              refine takeW 0 rfl (by kernel_rfl) (fun _ _ _ _ h => h) (by rfl) rfl ?_
              go_big_quiet_op
              refine takeW 1 rfl (by kernel_rfl) (fun _ _ _ _ h => h) (by rfl) rfl ?_
              go_big_quiet_op
              refine takeW 2 rfl (by kernel_rfl) (fun _ _ _ _ h => h) (by rfl) rfl ?_
              go_big_quiet_op
              refine takeW 3 rfl (by kernel_rfl) (fun _ _ _ _ h => h) (by rfl) rfl ?_
              go_big_quiet_op
              refine takeM 4 rfl (by kernel_rfl) (heldS_mk hSi0) (fun _ _ _ _ h => h) (by rfl) rfl ?_
              go_big_quiet_op
              refine takeW 5 rfl (by kernel_rfl) (fun _ _ _ _ h => h) (by rfl) rfl ?_
              go_big_quiet_op
              refine takeM 6 rfl (by kernel_rfl) (heldS_mk hSi0) (fun _ _ _ _ h => h) (by rfl) rfl ?_
              go_big_quiet_op
              refine takeW 7 rfl (by kernel_rfl) (fun _ _ _ _ h => h) (by rfl) rfl ?_
              go_big_quiet_op
              refine takeM 8 rfl (by kernel_rfl) (heldS_mk hSi0) (fun _ _ _ _ h => h) (by rfl) rfl ?_
              go_big_quiet_op
              refine takeW 9 rfl (by kernel_rfl) (fun _ _ _ _ h => h) (by rfl) rfl ?_
              go_big_quiet_op
              refine takeW 10 rfl (by kernel_rfl) (fun _ _ _ _ h => h) (by rfl) rfl ?_
              go_big_quiet_op
              refine takeM 11 rfl (by kernel_rfl) (heldS_mk hSi0) (fun _ _ _ _ h => h) (by rfl) rfl ?_
              go_big_quiet_op
              refine actM 12 rfl (by kernel_rfl) ?_
              intro K hK
              go_simp
              refine hK _ _ (fun _ _ => heldS_mk hSiA) ?_
              clear hK K
              refine actM 13 rfl (by kernel_rfl) ?_
              intro K hK
              refine step_app etMsg (by rfl) _ _ 39 (by rfl) (by rfl) hRA (by rfl) hsrc (by omega) hloA ?_
              intro a' c' wB hRB hFB hBB
              have hHB := HH0.out.fr (HSB.out.made.since hoA) HRK.out.1 (by have := HRK.out.2; omega) (by have := HRK.out.2; omega) (by rw [HM8.out]; exact hFB)
              have hnq : ¬ (Lk (8, n, k)).blk = some w.heap.size := fun e => hofk ⟨(8, n, k), HOK8.out, e⟩
              have hMB : MsgAt wB w.heap.size 0 ⟨(n : Int), gr, st, nul, body⟩ := msgAt_block (msgAt_since hMW hqW hsA) (hFB.block _ (by have := hsA.size; omega) (by rw [HM8.out] at hnq; exact hnq))
              have hSiB := (hS0 wB).2 ⟨hHB, hMB⟩
              have fB := hHB.free
              have gB := hHB.cell
              have lB := hHB.ltr
              rw [HM8.out] at gB
              dsimp only [Sl.v] at gB
              refine hK _ _ (fun _ _ => heldS_mk hSiB) ?_
              clear hK K
              simp only [Act.put, List.setIfInBounds_toArray, List.set_cons_zero, List.set_cons_succ]
              refine takeW 14 rfl (by kernel_rfl) (fun _ _ _ _ h => h) (by rfl) rfl ?_
              go_big_quiet_op
              refine actM 15 rfl (by kernel_rfl) ?_
              intro K hK
              go_simp
              refine hK _ _ (fun h => absurd h (by decide +kernel)) ?_
              clear hK K
              refine doneM (by kernel_rfl) ?_
              have hgw := HSB.out.made.growWire (m := ⟨(n : Int), gr, st, nul, body⟩) (a' := a') (c' := c') (w1 := WA) (w2 := wB) HRK.out.1 (f := n) (t := k) (by have := HRK.out.2; omega) (by have := HRK.out.2; omega) HHD.out.lay hlow hoA (by rw [HW.out]; omega) (by rw [HW.out]; exact hRB) (by rw [HM8.out]; exact hFB) (by rw [HM8.out]; exact hBB)
              rw [HW.out] at hgw
              obtain ⟨hMf, hstf⟩ := hgw
              have hSBf := HSB.out.step hMf hstf
              obtain ⟨hMg', hofg⟩ := hstf.beside (q := w.heap.size) hltk hofk
              have hltf := Nat.lt_of_lt_of_le hltk hstf.fr.size
              have hUf := hUp.upTrans (hstf.up HSB.out.made.own (fun _ => False))
              have hMsf := msgAt_block hMk hMg'
              clear c1 c2 m0 m1 m2 m3 m4 hne hneT gB fB
              go_wp2
              exact ⟨⟨k + 1, _, _, by omega, by go_num, HL2.out, hSBf, hMsf, hofg, hltf, hUf⟩, by simp [intOf]; omega⟩
            · have hz' : ((l.length : Int) == 0) = false := by rw [beq_eq_false_iff_ne]; omega
              obtain ⟨j, hj1, hj2, hj3⟩ : ∃ j : Nat, (l.length : Int) - 1 = (j : Int) ∧ j < l.length ∧ l.length = j + 1 := ⟨l.length - 1, by omega, by omega, by omega⟩
              obtain ⟨ml, hml⟩ : ∃ ml, l[j]? = some ml := ⟨_, List.getElem?_eq_getElem hj2⟩
              have hgl : l.getLast? = some ml := by rw [List.getLast?_eq_getElem?, hj3]; exact hml
              obtain ⟨bl, ol, rfl, hbl, hcl⟩ := (row_msgs hRow (by omega)).cells (by omega)
              have hmlc := (msgAt_of hcl j ml hml).c2
              have hwj : IntKind.i64.wrap (j : Int) = (j : Int) := IntWalk.i64_in _ (by omega)
              have hjl : (j : Int) < (l.length : Int) := by omega
              have HLT : Hid (lateB ⟨(n : Int), gr, st, nul, body⟩ l = decide (st ≤ ml.st)) := by unfold Hid lateB; rw [hgl]
              clear hz hml hgl hcl hj3
              cases e4 : decide (ml.st < st)
              · have HL1 : Hid (layTo ⟨(n : Int), gr, st, nul, body⟩ n d (k + 1) = .error 1) := by
                  unfold Hid; rw [HLO2.out, if_neg h40, if_pos (by rw [HLT.out]; simp at e4 ⊢; omega)]
                go_wp2_with fail
                refine wp_region_since (by kernel_rfl) (by kernel_rfl) (Since.refl wo) ?_
                repeat (go_big_quiet_step ((go_at_call 50; exact Later.call (has_v wo _ _ _ dk.groups gr k _ e2 hG))))
                refine wpQuiet_nil ?_
                intro w9 hS9
                go_wp2_with fail
                refine wp_region_since (by kernel_rfl) (by kernel_rfl) hS9 ?_
                repeat (go_big_quiet_step (fail))
                refine wpQuiet_nil ?_
                intro w8 hS8
                clear o1 o2 o3 o4 o5 o6 hne
                go_wp2_with (go_at_call 88; refine (seaMust_t 2 _).mono ?_; rintro e w' ⟨rfl, hw'⟩; obtain rfl := hw'.symm)
                obtain ⟨V0, hW0⟩ : ∃ y, w8.drew = y := ⟨_, rfl⟩
                have hs7 : Since w8 V0 := by rw [← hW0]; exact Since.drew (Since.refl _)
                obtain ⟨S7, hS7⟩ : ∃ S0 : World → Prop, ∀ w', S0 w' ↔ Since wo w' := ⟨_, fun _ => Iff.rfl⟩
                have hSi0 := (hS7 V0).2 (hS8.trans hs7)
                have hne : Nonempty (HeldW S7) := ⟨⟨_, hSi0⟩⟩
                have hneT := heldTrue w
                have g1 : ∀ y : HeldW S7, y.w.cell? ⟨bl, ol + j * 5 + 2, none⟩ = some (.int .i64 ml.st) := fun y => (((hS7 _).1 y.h).cellAt hbl _).trans hmlc
                have g2 : ∀ y : HeldW S7, y.w.cell? ⟨w.heap.size, 2, none⟩ = some (.int .i64 st) := fun y => (msgAt_since hMk hltk ((hS7 _).1 y.h)).c2
                refine beginM (fun w' => ∃ x : HeldW S7, w' = x.w) (by kernel_rfl) ?_
                rw [hW0]
                clear hW0
                refine takeW 0 rfl (by kernel_rfl) (fun _ _ _ _ h => h) (by rfl) rfl ?_
                go_big_quiet_op
                refine takeM 1 rfl (by kernel_rfl) (heldS_mk hSi0) (fun _ _ _ _ h => h) (by rfl) rfl ?_
                go_big_quiet_op
                refine takeW 2 rfl (by kernel_rfl) (fun _ _ _ _ h => h) (by rfl) rfl ?_
                go_big_quiet_op
                refine takeW 3 rfl (by kernel_rfl) (fun _ _ _ _ h => h) (by rfl) rfl ?_
                go_big_quiet_op
                refine takeW 4 rfl (by kernel_rfl) (fun _ _ _ _ h => h) (by rfl) rfl ?_
                go_big_quiet_op
                refine takeW 5 rfl (by kernel_rfl) (fun _ _ _ _ h => h) (by rfl) rfl ?_
                go_big_quiet_op
                refine takeM 6 rfl (by kernel_rfl) (heldS_mk hSi0) (fun _ _ _ _ h => h) (by rfl) rfl ?_
                go_big_quiet_op
                refine takeW 7 rfl (by kernel_rfl) (fun _ _ _ _ h => h) (by rfl) rfl ?_
                go_big_quiet_op
                refine takeW 8 rfl (by kernel_rfl) (fun _ _ _ _ h => h) (by rfl) rfl ?_
                go_big_quiet_op
                refine takeW 9 rfl (by kernel_rfl) (fun _ _ _ _ h => h) (by rfl) rfl ?_
                go_big_quiet_op
                refine takeM 10 rfl (by kernel_rfl) (heldS_mk hSi0) (fun _ _ _ _ h => h) (by rfl) rfl ?_
                go_big_quiet_op
                refine takeW 11 rfl (by kernel_rfl) (fun _ _ _ _ h => h) (by rfl) rfl ?_
                go_big_quiet_op
                refine takeM 12 rfl (by kernel_rfl) (heldS_mk hSi0) (fun _ _ _ _ h => h) (by rfl) rfl ?_
                go_big_quiet_op
                refine takeW 13 rfl (by kernel_rfl) (fun _ _ _ _ h => h) (by rfl) rfl ?_
                go_big_quiet_op
                refine takeW 14 rfl (by kernel_rfl) (fun _ _ _ _ h => h) (by rfl) rfl ?_
                go_big_quiet_op
                refine actM 15 rfl (by kernel_rfl) ?_
                intro K hK
                go_simp
                refine (seaMust_f 1 _).mono ?_
                rintro e w' ⟨rfl, hw'⟩
                obtain rfl := hw'.symm
                dsimp only
                exact ⟨rfl, HERR.out 1 (layTo_stop _ (k + 1) (by omega) HL1.out) _ (hUp.upTrans ((hS8.trans hs7).up _ _))⟩
              · have HL2 : Hid (layTo ⟨(n : Int), gr, st, nul, body⟩ n d (k + 1) = .ok (setWire dk n k (l ++ [⟨(n : Int), gr, st, nul, body⟩]))) := by
                  unfold Hid; rw [HLO2.out, if_neg h40, if_neg (by rw [HLT.out]; simp at e4 ⊢; omega)]
                go_wp2_with fail
                refine wp_region_since (by kernel_rfl) (by kernel_rfl) (Since.refl wo) ?_
                repeat (go_big_quiet_step ((go_at_call 50; exact Later.call (has_v wo _ _ _ dk.groups gr k _ e2 hG))))
                refine wpQuiet_nil ?_
                intro w9 hS9
                go_wp2_with fail
                refine wp_region_since (by kernel_rfl) (by kernel_rfl) hS9 ?_
                repeat (go_big_quiet_step (fail))
                refine wpQuiet_nil ?_
                intro w8 hS8
                clear o1 o2 o3 o4 o5 o6 hne
                go_wp2_with (go_at_call 88; refine (seaMust_t 2 _).mono ?_; rintro e w' ⟨rfl, hw'⟩; obtain rfl := hw'.symm)
                obtain ⟨V0, hW0⟩ : ∃ y, w8.drew = y := ⟨_, rfl⟩
                have hs7 : Since w8 V0 := by rw [← hW0]; exact Since.drew (Since.refl _)
                obtain ⟨S7, hS7⟩ : ∃ S0 : World → Prop, ∀ w', S0 w' ↔ Since wo w' := ⟨_, fun _ => Iff.rfl⟩
                have hSi0 := (hS7 V0).2 (hS8.trans hs7)
                have hne : Nonempty (HeldW S7) := ⟨⟨_, hSi0⟩⟩
                have hneT := heldTrue w
                have g1 : ∀ y : HeldW S7, y.w.cell? ⟨bl, ol + j * 5 + 2, none⟩ = some (.int .i64 ml.st) := fun y => (((hS7 _).1 y.h).cellAt hbl _).trans hmlc
                have g2 : ∀ y : HeldW S7, y.w.cell? ⟨w.heap.size, 2, none⟩ = some (.int .i64 st) := fun y => (msgAt_since hMk hltk ((hS7 _).1 y.h)).c2
                refine beginM (fun w' => ∃ x : HeldW S7, w' = x.w) (by kernel_rfl) ?_
                rw [hW0]
                clear hW0
                refine takeW 0 rfl (by kernel_rfl) (fun _ _ _ _ h => h) (by rfl) rfl ?_
                go_big_quiet_op
                refine takeM 1 rfl (by kernel_rfl) (heldS_mk hSi0) (fun _ _ _ _ h => h) (by rfl) rfl ?_
                go_big_quiet_op
                refine takeW 2 rfl (by kernel_rfl) (fun _ _ _ _ h => h) (by rfl) rfl ?_
                go_big_quiet_op
                refine takeW 3 rfl (by kernel_rfl) (fun _ _ _ _ h => h) (by rfl) rfl ?_
                go_big_quiet_op
                refine takeW 4 rfl (by kernel_rfl) (fun _ _ _ _ h => h) (by rfl) rfl ?_
                go_big_quiet_op
                refine takeW 5 rfl (by kernel_rfl) (fun _ _ _ _ h => h) (by rfl) rfl ?_
                go_big_quiet_op
                refine takeM 6 rfl (by kernel_rfl) (heldS_mk hSi0) (fun _ _ _ _ h => h) (by rfl) rfl ?_
                go_big_quiet_op
                refine takeW 7 rfl (by kernel_rfl) (fun _ _ _ _ h => h) (by rfl) rfl ?_
                go_big_quiet_op
                refine takeW 8 rfl (by kernel_rfl) (fun _ _ _ _ h => h) (by rfl) rfl ?_
                go_big_quiet_op
                refine takeW 9 rfl (by kernel_rfl) (fun _ _ _ _ h => h) (by rfl) rfl ?_
                go_big_quiet_op
                refine takeM 10 rfl (by kernel_rfl) (heldS_mk hSi0) (fun _ _ _ _ h => h) (by rfl) rfl ?_
                go_big_quiet_op
                refine takeW 11 rfl (by kernel_rfl) (fun _ _ _ _ h => h) (by rfl) rfl ?_
                go_big_quiet_op
                refine takeM 12 rfl (by kernel_rfl) (heldS_mk hSi0) (fun _ _ _ _ h => h) (by rfl) rfl ?_
                go_big_quiet_op
                refine takeW 13 rfl (by kernel_rfl) (fun _ _ _ _ h => h) (by rfl) rfl ?_
                go_big_quiet_op
                refine takeW 14 rfl (by kernel_rfl) (fun _ _ _ _ h => h) (by rfl) rfl ?_
                go_big_quiet_op
                refine actM 15 rfl (by kernel_rfl) ?_
                intro K hK
                go_simp
                refine (seaMust_t 1 _).mono ?_
                rintro e w' ⟨rfl, hw'⟩
                obtain rfl := hw'.symm
                dsimp only
                refine hK _ _ (fun h => absurd h (by decide +kernel)) ?_
                clear hK K
                refine doneM (by kernel_rfl) ?_
                clear hne hneT g1 g2
                go_wp2_with fail
                obtain ⟨W0, hW0⟩ : ∃ y, V0.drew = y := ⟨_, rfl⟩
                have hs0 : Since wo W0 := by rw [← hW0]; exact Since.drew (hS8.trans hs7)
                obtain ⟨S0, hS0⟩ : ∃ S0 : World → Prop, ∀ w', S0 w' ↔ (HeadAt w' p dk Lk n k l bw ow cw br oR cr ∧ MsgAt w' w.heap.size 0 ⟨(n : Int), gr, st, nul, body⟩) := ⟨_, fun _ => Iff.rfl⟩
                have hneT := heldTrue w
                have c1 : ∀ y : HeldW S0, y.w.cell? ⟨p, 2, none⟩ = some (.slice (some ⟨bw, ow, none⟩) dk.wires.length cw) := fun y => ((hS0 _).1 y.h).1.top
                have c2 : ∀ y : HeldW S0, y.w.cell? ⟨bw, ow + n, none⟩ = some (.slice (some ⟨br, oR, none⟩) dk.nodes.length cr) := fun y => ((hS0 _).1 y.h).1.row
                have m0 : ∀ y : HeldW S0, y.w.cell? ⟨w.heap.size, 0, none⟩ = some (.int .i64 n) := fun y => ((hS0 _).1 y.h).2.c0
                have m1 : ∀ y : HeldW S0, y.w.cell? ⟨w.heap.size, 1, none⟩ = some (.int .i64 gr) := fun y => ((hS0 _).1 y.h).2.c1
                have m2 : ∀ y : HeldW S0, y.w.cell? ⟨w.heap.size, 2, none⟩ = some (.int .i64 st) := fun y => ((hS0 _).1 y.h).2.c2
                have m3 : ∀ y : HeldW S0, y.w.cell? ⟨w.heap.size, 3, none⟩ = some (.bool nul) := fun y => ((hS0 _).1 y.h).2.c3
                have m4 : ∀ y : HeldW S0, y.w.cell? ⟨w.heap.size, 4, none⟩ = some (.string body) := fun y => ((hS0 _).1 y.h).2.c4
                have hMW := msgAt_since hMk hltk hs0
                have hqW : w.heap.size < W0.heap.size := Nat.lt_of_lt_of_le hltk hs0.size
                have hSi0 := (hS0 W0).2 ⟨HHD.out.since hs0, hMW⟩
                have hne : Nonempty (HeldW S0) := ⟨⟨_, hSi0⟩⟩
                obtain ⟨WA, hWA⟩ : ∃ y, W0.alloc (.cells #[.int .i64 n, .int .i64 gr, .int .i64 st, .bool nul, .string body] 42) = y := ⟨_, rfl⟩
                have hsA : Since W0 WA := by rw [← hWA]; exact (Since.refl W0).alloc _
                have hoA := hs0.trans hsA
                have hSiA := (hS0 WA).2 ⟨HHD.out.since hoA, msgAt_since hMW hqW hsA⟩
                have hsrc := src_new (size := 5) (T := 42) (w := W0) etMsg.und (flat [⟨(n : Int), gr, st, nul, body⟩]) (by simp [flat_length]) (fun u hu => flat_one u _ hu) 1
                rw [show (W0.alloc (.cells (flat [⟨(n : Int), gr, st, nul, body⟩]).toArray 42)) = WA from hWA] at hsrc
                have hRA := hRow.since hoA
                have hloA : lo ≤ WA.heap.size := Nat.le_trans hlow hoA.size
                have HH0 := (show Hid _ from HHD.out.since hoA)
                refine beginM (fun w' => ∃ x : HeldW S0, w' = x.w) (by kernel_rfl) ?_
                rw [hW0]
                clear hW0
                refine takeW 0 rfl (by kernel_rfl) (fun _ _ _ _ h => h) (by rfl) rfl ?_
                go_big_quiet_op
                refine takeW 1 rfl (by kernel_rfl) (fun _ _ _ _ h => h) (by rfl) rfl ?_
                go_big_quiet_op
                refine takeW 2 rfl (by kernel_rfl) (fun _ _ _ _ h => h) (by rfl) rfl ?_
                go_big_quiet_op
                refine takeW 3 rfl (by kernel_rfl) (fun _ _ _ _ h => h) (by rfl) rfl ?_
                go_big_quiet_op
                refine takeM 4 rfl (by kernel_rfl) (heldS_mk hSi0) (fun _ _ _ _ h => h) (by rfl) rfl ?_
                go_big_quiet_op
                refine takeW 5 rfl (by kernel_rfl) (fun _ _ _ _ h => h) (by rfl) rfl ?_
                go_big_quiet_op
                refine takeM 6 rfl (by kernel_rfl) (heldS_mk hSi0) (fun _ _ _ _ h => h) (by rfl) rfl ?_
                go_big_quiet_op
                refine takeW 7 rfl (by kernel_rfl) (fun _ _ _ _ h => h) (by rfl) rfl ?_
                go_big_quiet_op
                refine takeM 8 rfl (by kernel_rfl) (heldS_mk hSi0) (fun _ _ _ _ h => h) (by rfl) rfl ?_
                go_big_quiet_op
                refine takeW 9 rfl (by kernel_rfl) (fun _ _ _ _ h => h) (by rfl) rfl ?_
                go_big_quiet_op
                refine takeW 10 rfl (by kernel_rfl) (fun _ _ _ _ h => h) (by rfl) rfl ?_
                go_big_quiet_op
                refine takeM 11 rfl (by kernel_rfl) (heldS_mk hSi0) (fun _ _ _ _ h => h) (by rfl) rfl ?_
                go_big_quiet_op
                refine actM 12 rfl (by kernel_rfl) ?_
                intro K hK
                go_simp
                refine hK _ _ (fun _ _ => heldS_mk hSiA) ?_
                clear hK K
                refine actM 13 rfl (by kernel_rfl) ?_
                intro K hK
                refine step_app etMsg (by rfl) _ _ 39 (by rfl) (by rfl) hRA (by rfl) hsrc (by omega) hloA ?_
                intro a' c' wB hRB hFB hBB
                have hHB := HH0.out.fr (HSB.out.made.since hoA) HRK.out.1 (by have := HRK.out.2; omega) (by have := HRK.out.2; omega) (by rw [HM8.out]; exact hFB)
                have hnq : ¬ (Lk (8, n, k)).blk = some w.heap.size := fun e => hofk ⟨(8, n, k), HOK8.out, e⟩
                have hMB : MsgAt wB w.heap.size 0 ⟨(n : Int), gr, st, nul, body⟩ := msgAt_block (msgAt_since hMW hqW hsA) (hFB.block _ (by have := hsA.size; omega) (by rw [HM8.out] at hnq; exact hnq))
                have hSiB := (hS0 wB).2 ⟨hHB, hMB⟩
                have fB := hHB.free
                have gB := hHB.cell
                have lB := hHB.ltr
                rw [HM8.out] at gB
                dsimp only [Sl.v] at gB
                refine hK _ _ (fun _ _ => heldS_mk hSiB) ?_
                clear hK K
                simp only [Act.put, List.setIfInBounds_toArray, List.set_cons_zero, List.set_cons_succ]
                refine takeW 14 rfl (by kernel_rfl) (fun _ _ _ _ h => h) (by rfl) rfl ?_
                go_big_quiet_op
                refine actM 15 rfl (by kernel_rfl) ?_
                intro K hK
                go_simp
                refine hK _ _ (fun h => absurd h (by decide +kernel)) ?_
                clear hK K
                refine doneM (by kernel_rfl) ?_
                have hgw := HSB.out.made.growWire (m := ⟨(n : Int), gr, st, nul, body⟩) (a' := a') (c' := c') (w1 := WA) (w2 := wB) HRK.out.1 (f := n) (t := k) (by have := HRK.out.2; omega) (by have := HRK.out.2; omega) HHD.out.lay hlow hoA (by rw [HW.out]; omega) (by rw [HW.out]; exact hRB) (by rw [HM8.out]; exact hFB) (by rw [HM8.out]; exact hBB)
                rw [HW.out] at hgw
                obtain ⟨hMf, hstf⟩ := hgw
                have hSBf := HSB.out.step hMf hstf
                obtain ⟨hMg', hofg⟩ := hstf.beside (q := w.heap.size) hltk hofk
                have hltf := Nat.lt_of_lt_of_le hltk hstf.fr.size
                have hUf := hUp.upTrans (hstf.up HSB.out.made.own (fun _ => False))
                have hMsf := msgAt_block hMk hMg'
                clear c1 c2 m0 m1 m2 m3 m4 hne hneT gB fB
                go_wp2
                exact ⟨⟨k + 1, _, _, by omega, by go_num, HL2.out, hSBf, hMsf, hofg, hltf, hUf⟩, by simp [intOf]; omega⟩
      · have hkn : k = n := by have := beq_iff_eq.1 e1; omega
        have HL2 : Hid (layTo ⟨(n : Int), gr, st, nul, body⟩ n d (k + 1) = .ok dk) := by unfold Hid; rw [HLO.out]; unfold layOne; rw [if_pos (.inl hkn)]
        clear hkn
        go_wp2_with fail
        refine wp_region_since (by kernel_rfl) (by kernel_rfl) (Since.refl wo) ?_
        repeat (go_big_quiet_step (fail))
        refine wpQuiet_nil ?_
        intro w9 hS9
        clear o1 o2 o3 hne
        go_wp2
        go_roundw
        case rel => exact ⟨k + 1, dk, Lk, by omega, by go_num, HL2.out, HSB.out.since hS9, msgAt_since hMk hltk hS9, hofk, Nat.lt_of_lt_of_le hltk hS9.size, hUp.upTrans (hS9.up _ _)⟩
        case measure => simp [intOf]; omega
    · obtain rfl : k = d.nodes.length := by omega
      go_wp2
      go_end0
      exact HOK.out _ _ _ HL.out HSB.out hUp
end Go.Proofs.YtiiifecfdkjmbaaGreat
