/- Contract: what furlonglaw.msgBegun comes to: true, whatever the world; no condition. -/
import Derived.Test.YtbkfpdohgjnegaaMsgB
import Derived.Test.YtbkfpdohgjnegaaMsgPut
import Derived.Deep.RegionHeld3
namespace Go.Proofs.Ytbkfpdohgjnegaa
set_option maxRecDepth 8000
open Go.RowKit Go.Shelf

theorem say_s (w0 : World) (n g st : Int) (body : ByteArray) (w : World) (h : Since w0 w) :
    Calls Try.prog 34 #[.int .i64 n, .int .i64 g, .int .i64 st, .string body] w fun e w' => e = .returned (.agg #[.int .i64 n, .int .i64 g, .int .i64 st, .bool false, .string body]) ∧ Since w0 w' ∧ Since w w' :=
  (say_any n g st body w).mono fun _ _ ⟨he, hw⟩ => ⟨he, h.trans hw, hw⟩
theorem two_t (w0 : World) (w : World) (h : Since w0 w) :
    Calls Try.prog 27 #[] w fun e w' => ∃ b cap, e = .returned (.slice (some ⟨b, 0, none⟩) 2 cap) ∧ Ints w' (some ⟨b, 0, none⟩) 2 [3, 6] ∧ Since w0 w' :=
  two_s w0 w h
theorem put_f (w0 : World) (a : Option Addr) (len cap : Nat) (ms : List Mg) (fr gr st : Int) (nul : Bool) (body : ByteArray) (w : World) (hM : Msgs w a len ms) (hcap : len ≤ cap) (h : Since w0 w) :
    Calls Try.prog 24 #[.slice a len cap, .agg #[.int .i64 fr, .int .i64 gr, .int .i64 st, .bool nul, .string body]] w fun e w' => ∃ a' len' cap', e = .returned (.tuple #[.slice a' len' cap', .int .i64 (putE ⟨fr, gr, st, nul, body⟩ ms)]) ∧ Msgs w' a' len' (putL ⟨fr, gr, st, nul, body⟩ ms) ∧ len' ≤ cap' ∧ Since w0 w' ∧ Since w w' :=
  (put_any a len cap ms ⟨fr, gr, st, nul, body⟩ w hM hcap).mono fun _ _ ⟨a', len', cap', h1, h2, h3, h4⟩ => ⟨a', len', cap', h1, h2, h3, h.trans h4, h4⟩
theorem check_f (w0 : World) (nodes : Int) (a : Option Addr) (len cap : Nat) (xs : List Int) (fr gr st : Int) (nul : Bool) (body : ByteArray) (w : World) (hI : Ints w a len xs) (h : Since w0 w) :
    Calls Try.prog 20 #[.int .i64 nodes, .slice a len cap, .agg #[.int .i64 fr, .int .i64 gr, .int .i64 st, .bool nul, .string body]] w fun e w' => e = .returned (.int .i64 (chkM nodes xs ⟨fr, gr, st, nul, body⟩)) ∧ Since w0 w' ∧ Since w w' :=
  (msgCheck_any nodes a len cap xs ⟨fr, gr, st, nul, body⟩ w hI).mono fun _ _ ⟨he, hw⟩ => ⟨he, h.trans hw, hw⟩
theorem less_f (w0 : World) (fr gr st : Int) (nul : Bool) (body : ByteArray) (fr' gr' st' : Int) (nul' : Bool) (body' : ByteArray) (w : World) (h : Since w0 w) :
    Calls Try.prog 22 #[.agg #[.int .i64 fr, .int .i64 gr, .int .i64 st, .bool nul, .string body], .agg #[.int .i64 fr', .int .i64 gr', .int .i64 st', .bool nul', .string body']] w fun e w' =>
      e = .returned (.bool (lessM ⟨fr, gr, st, nul, body⟩ ⟨fr', gr', st', nul', body'⟩)) ∧ Since w0 w' ∧ Since w w' :=
  (less_any ⟨fr, gr, st, nul, body⟩ ⟨fr', gr', st', nul', body'⟩ w).mono fun _ _ ⟨he, hw⟩ => ⟨he, by rw [hw]; exact (h.alloc _).alloc _, by rw [hw]; exact ((Since.refl _).alloc _).alloc _⟩

theorem msgs_lit1 {w : World} {m : Mg} : Msgs (w.alloc (.cells #[.int .i64 m.fr, .int .i64 m.gr, .int .i64 m.st, .bool m.nul, .string m.body] 31)) (some ⟨w.heap.size, 0, none⟩) 1 [m] :=
  ⟨rfl, by omega, fun _ => ⟨_, _, rfl, by simp, fun j u hj => by
    have := msg_new w m 31 j u (by simpa [flat] using hj)
    rw [add_at] at this; exact this⟩⟩
theorem msgs_lit2 {w : World} {m n : Mg} : Msgs (w.alloc (.cells #[.int .i64 m.fr, .int .i64 m.gr, .int .i64 m.st, .bool m.nul, .string m.body, .int .i64 n.fr, .int .i64 n.gr, .int .i64 n.st, .bool n.nul, .string n.body] 31)) (some ⟨w.heap.size, 0, none⟩) 2 [m, n] :=
  ⟨rfl, by omega, fun _ => ⟨_, _, rfl, by simp, fun j u hj => by
    have hl := (List.getElem?_eq_some_iff.1 hj).1
    simp [flat, Mg.cells] at hl
    rcases (show j = 0 ∨ j = 1 ∨ j = 2 ∨ j = 3 ∨ j = 4 ∨ j = 5 ∨ j = 6 ∨ j = 7 ∨ j = 8 ∨ j = 9 by omega) with rfl | rfl | rfl | rfl | rfl | rfl | rfl | rfl | rfl | rfl <;> simp [flat, Mg.cells] at hj <;> subst hj <;> simp [go_sem]⟩⟩

set_option maxRecDepth 100000 in
set_option maxHeartbeats 4000000 in
theorem msgBegun_s (w0 w : World) (h : Since w0 w) : Calls Try.prog 19 #[] w fun e w' => e = .returned (.bool true) ∧ Since w0 w' := by
  go_enter Try.func19, Try.ntmps19
  go_wp2_with fail
  refine (say_s w0 _ _ _ _ _ h).mono ?_
  rintro e w1 ⟨rfl, h1, _⟩
  go_wp2_with fail
  refine (say_s w0 _ _ _ _ _ h1).mono ?_
  rintro e w2 ⟨rfl, h2, _⟩
  have hM0 : Msgs _ (some ⟨w2.heap.size, 0, none⟩) 2 [⟨0, 0, 1, false, ⟨#[97]⟩⟩, ⟨1, 1, 3, false, ⟨#[99]⟩⟩] := msgs_lit2 (w := w2)
  have h2a := h2.alloc (.cells #[.int .i64 0, .int .i64 0, .int .i64 1, .bool false, .string ⟨#[97]⟩, .int .i64 1, .int .i64 1, .int .i64 3, .bool false, .string ⟨#[99]⟩] 31)
  clear h h1 h2
  go_wp2_with fail
  refine (say_s w0 _ _ _ _ _ h2a).mono ?_
  rintro e w3 ⟨rfl, h3, h3'⟩
  have hM1 := hM0.since h3'
  clear hM0 h2a h3'
  go_wp2_with fail
  refine (put_f w0 _ _ _ _ _ _ _ _ _ _ hM1 (by omega) h3).mono ?_
  rw [show putE ⟨2, 1, 1, false, ⟨#[98]⟩⟩ [⟨0, 0, 1, false, ⟨#[97]⟩⟩, ⟨1, 1, 3, false, ⟨#[99]⟩⟩] = 0 from by decide, show putL ⟨2, 1, 1, false, ⟨#[98]⟩⟩ [⟨0, 0, 1, false, ⟨#[97]⟩⟩, ⟨1, 1, 3, false, ⟨#[99]⟩⟩] = [⟨0, 0, 1, false, ⟨#[97]⟩⟩, ⟨2, 1, 1, false, ⟨#[98]⟩⟩, ⟨1, 1, 3, false, ⟨#[99]⟩⟩] from rfl]
  rintro e w4 ⟨aP, lP, cP, rfl, hMP, _, h4, _⟩
  obtain rfl : 3 = lP := hMP.hlen
  clear hM1 h3
  go_wp2_with fail
  refine (say_s w0 _ _ _ _ _ h4).mono ?_
  rintro e w5 ⟨rfl, h5, k5⟩
  have hMQ := hMP.since k5
  clear hMP h4 k5
  go_wp2_with fail
  have hM0 : Msgs _ (some ⟨w5.heap.size, 0, none⟩) 1 [⟨0, 0, 1, false, ⟨#[97]⟩⟩] := msgs_lit1 (w := w5)
  have h5a := h5.alloc (.cells #[.int .i64 0, .int .i64 0, .int .i64 1, .bool false, .string ⟨#[97]⟩] 31)
  have hMQ2 := hMQ.since ((Since.refl w5).alloc (.cells #[.int .i64 0, .int .i64 0, .int .i64 1, .bool false, .string ⟨#[97]⟩] 31))
  clear h5 hMQ
  refine (say_s w0 _ _ _ _ _ h5a).mono ?_
  rintro e w6 ⟨rfl, h6, k6⟩
  have hM1 := hM0.since k6
  have hMR := hMQ2.since k6
  clear hM0 h5a k6 hMQ2
  go_wp2_with fail
  refine (put_f w0 _ _ _ _ _ _ _ _ _ _ hM1 (by omega) h6).mono ?_
  rw [show putE ⟨0, 0, 1, false, ⟨#[98]⟩⟩ [⟨0, 0, 1, false, ⟨#[97]⟩⟩] = 1 from by decide]
  rintro e w7 ⟨a7, l7, c7, rfl, _, _, h7, k7⟩
  have hMS := hMR.since k7
  clear hM1 h6 hMR k7
  go_wp2_with fail
  refine (say_s w0 _ _ _ _ _ h7).mono ?_
  rintro e w8 ⟨rfl, h8, k8⟩
  have hMT := hMS.since k8
  clear h7 k8 hMS
  go_wp2_with fail
  refine (say_s w0 _ _ _ _ _ h8).mono ?_
  rintro e w9 ⟨rfl, h9, k9⟩
  have hMU := hMT.since k9
  clear h8 k9 hMT
  go_wp2_with fail
  have hM0 : Msgs _ (some ⟨w9.heap.size, 0, none⟩) 2 [⟨0, 0, 2, false, ⟨#[97]⟩⟩, ⟨0, 0, 1, false, ⟨#[97]⟩⟩] := msgs_lit2 (w := w9)
  have h9a := h9.alloc (.cells #[.int .i64 0, .int .i64 0, .int .i64 2, .bool false, .string ⟨#[97]⟩, .int .i64 0, .int .i64 0, .int .i64 1, .bool false, .string ⟨#[97]⟩] 31)
  have hMV := hMU.since ((Since.refl w9).alloc (.cells #[.int .i64 0, .int .i64 0, .int .i64 2, .bool false, .string ⟨#[97]⟩, .int .i64 0, .int .i64 0, .int .i64 1, .bool false, .string ⟨#[97]⟩] 31))
  clear h9 hMU
  refine (say_s w0 _ _ _ _ _ h9a).mono ?_
  rintro e wA ⟨rfl, hA, kA⟩
  have hM1 := hM0.since kA
  have hMW := hMV.since kA
  clear hM0 h9a kA hMV
  go_wp2_with fail
  refine (put_f w0 _ _ _ _ _ _ _ _ _ _ hM1 (by omega) hA).mono ?_
  rw [show putE ⟨0, 0, 3, false, ⟨#[98]⟩⟩ [⟨0, 0, 2, false, ⟨#[97]⟩⟩, ⟨0, 0, 1, false, ⟨#[97]⟩⟩] = 1 from by decide]
  rintro e wB ⟨a8, l8, c8, rfl, _, _, hB, kB⟩
  have hMX := hMW.since kB
  clear hM1 hA hMW kB
  obtain ⟨b, off, rfl, hb, hcell⟩ := hMX.cells (by omega)
  obtain ⟨d0, d1, d2, d3, d4⟩ := msgAt_of hcell 1 ⟨2, 1, 1, false, ⟨#[98]⟩⟩ rfl
  clear hcell hMX
  have k1 : chkM 3 [3, 6] ⟨1, 1, 5, false, ⟨#[120]⟩⟩ = 0 := by decide
  have k2 : chkM 3 [3, 6] ⟨0, 1, 5, false, ⟨#[120]⟩⟩ = 5 := by decide
  have k3 : chkM 3 [3, 6] ⟨1, 1, 0, false, ⟨#[120]⟩⟩ = 3 := by decide
  have k4 : chkM 3 [3, 6] ⟨1, 1, 1, false, ⟨#[49, 50, 51, 52, 53, 54, 55, 56, 57]⟩⟩ = 1 := by decide
  have k5 : lessM ⟨2, 1, 1, false, ⟨#[]⟩⟩ ⟨0, 0, 2, false, ⟨#[]⟩⟩ = true := by decide
  have k6 : lessM ⟨0, 0, 1, false, ⟨#[]⟩⟩ ⟨2, 1, 1, false, ⟨#[]⟩⟩ = true := by decide
  have k7 : lessM ⟨0, 0, 1, false, ⟨#[]⟩⟩ ⟨0, 0, 1, false, ⟨#[120]⟩⟩ = false := by decide
  simp only [Nat.one_mul] at d0 d1 d2 d3 d4
  have HK : Hid (∀ w', Since wB w' → Since wB w' ∧ w'.cell? ⟨b, off + 5, none⟩ = some (.int .i64 2) ∧ w'.cell? ⟨b, off + 5 + 1, none⟩ = some (.int .i64 1) ∧ w'.cell? ⟨b, off + 5 + 2, none⟩ = some (.int .i64 1) ∧ w'.cell? ⟨b, off + 5 + 3, none⟩ = some (.bool false) ∧ w'.cell? ⟨b, off + 5 + 4, none⟩ = some (.string ⟨#[98]⟩)) :=
    fun w' hw => ⟨hw, (hw.cellAt hb _).trans d0, (hw.cellAt hb _).trans d1, (hw.cellAt hb _).trans d2, (hw.cellAt hb _).trans d3, (hw.cellAt hb _).trans d4⟩
  clear d0 d1 d2 d3 d4
  go_wp2_with fail
  go_region_held3 (fun w' => Since wB w' ∧ w'.cell? ⟨b, off + 5, none⟩ = some (.int .i64 2) ∧ w'.cell? ⟨b, off + 5 + 1, none⟩ = some (.int .i64 1) ∧ w'.cell? ⟨b, off + 5 + 2, none⟩ = some (.int .i64 1) ∧ w'.cell? ⟨b, off + 5 + 3, none⟩ = some (.bool false) ∧ w'.cell? ⟨b, off + 5 + 4, none⟩ = some (.string ⟨#[98]⟩))
    (refine HK.out _ (by first | assumption | exact (Since.refl _).drew))
    (first
      | (go_at_call 34; refine (say_s wB _ _ _ _ _ (by first | assumption | exact And.left (by assumption))).mono ?_; rintro e w' ⟨rfl, hN, hP⟩)
      | (go_at_call 27; refine (two_t wB _ (by first | assumption | exact And.left (by assumption))).mono ?_; rintro e w' ⟨b', c', rfl, hI, hN⟩)
      | (go_at_call 20; refine (check_f wB _ _ _ _ _ _ _ _ _ _ _ (Ints.since (by assumption) (by assumption)) (by first | assumption | exact And.left (by assumption))).mono ?_; rintro e w' ⟨rfl, hN, hP⟩)
      | (go_at_call 22; refine (less_f wB _ _ _ _ _ _ _ _ _ _ _ (by first | assumption | exact And.left (by assumption))).mono ?_; rintro e w' ⟨rfl, hN, hP⟩))
  go_wp2
  go_ret
  exact ⟨rfl, hB.trans hN⟩
end Go.Proofs.Ytbkfpdohgjnegaa
