/- Worlds as plain data, how a value reads as one; contracts of furlongref.noNull and furlongref.listFine; no condition but that the world reads so. -/
import Derived.Test.YtiiifecfdkjmbaaGreatDMsgB
import Derived.Test.YtiiifecfdkjmbaaGreatDMsgPutOf
namespace Go.Proofs.YtiiifecfdkjmbaaGreat
set_option maxRecDepth 8000
open Go.RowKit Go.Shelf
structure Nd where
 clock : Int
 last : List (List Int)
 held : List Mg
 told : List Mg
structure Wd where
 groups : List Int
 nodes : List Nd
 wires : List (List (List Mg))
structure WV where
 ga : Option Addr
 gl : Nat
 gc : Nat
 na : Option Addr
 nl : Nat
 nc : Nat
 wa : Option Addr
 wl : Nat
 wc : Nat
def VInts (w : World) (v : Value) (xs : List Int) : Prop := ∃ a cap, v = .slice a xs.length cap ∧ xs.length ≤ cap ∧ Ints w a xs.length xs
def VMsgs (w : World) (v : Value) (xs : List Mg) : Prop := ∃ a cap, v = .slice a xs.length cap ∧ xs.length ≤ cap ∧ Msgs w a xs.length xs
structure Slices {α : Type} (P : World → Value → α → Prop) (w : World) (a : Option Addr) (len : Nat) (xs : List α) : Prop where
 hlen : xs.length = len
 hmax : len ≤ 5864062014634
 cells : 0 < len → ∃ b off, a = some ⟨b, off, none⟩ ∧ b < w.heap.size ∧ ∀ i x, xs[i]? = some x → ∃ v, w.cell? ⟨b, off + i, none⟩ = some v ∧ P w v x
def VSlices {α : Type} (P : World → Value → α → Prop) (w : World) (v : Value) (xs : List α) : Prop := ∃ a cap, v = .slice a xs.length cap ∧ xs.length ≤ cap ∧ Slices P w a xs.length xs
structure NodeAt (w : World) (b o : Nat) (x : Nd) : Prop where
 clk : w.cell? ⟨b, o, none⟩ = some (.int .i64 x.clock)
 last : ∃ v, w.cell? ⟨b, o + 1, none⟩ = some v ∧ VSlices VInts w v x.last
 held : ∃ v, w.cell? ⟨b, o + 2, none⟩ = some v ∧ VMsgs w v x.held
 told : ∃ v, w.cell? ⟨b, o + 3, none⟩ = some v ∧ VMsgs w v x.told
structure Nodes (w : World) (a : Option Addr) (len : Nat) (xs : List Nd) : Prop where
 hlen : xs.length = len
 hmax : len ≤ 1759218604390
 cells : 0 < len → ∃ b off, a = some ⟨b, off, none⟩ ∧ b < w.heap.size ∧ ∀ i x, xs[i]? = some x → NodeAt w b (off + i * 4) x
structure WAt (w : World) (x : WV) (d : Wd) : Prop where
 g : Ints w x.ga x.gl d.groups
 gcap : x.gl ≤ x.gc
 n : Nodes w x.na x.nl d.nodes
 ncap : x.nl ≤ x.nc
 r : Slices (VSlices VMsgs) w x.wa x.wl d.wires
 rcap : x.wl ≤ x.wc
def Stable {α : Type} (P : World → Value → α → Prop) : Prop := ∀ w W v x, Since w W → P w v x → P W v x
theorem vints_stable : Stable VInts := fun _ _ _ _ k ⟨a, cap, e, hc, h⟩ => ⟨a, cap, e, hc, h.since k⟩
theorem vmsgs_stable : Stable VMsgs := fun _ _ _ _ k ⟨a, cap, e, hc, h⟩ => ⟨a, cap, e, hc, h.since k⟩
theorem Slices.since {α : Type} {P : World → Value → α → Prop} (hP : Stable P) {w W : World} {a : Option Addr} {len : Nat} {xs : List α} (h : Slices P w a len xs) (k : Since w W) : Slices P W a len xs := by
 refine ⟨h.hlen, h.hmax, fun hp => ?_⟩
 obtain ⟨b, off, e, hb, hc⟩ := h.cells hp
 refine ⟨b, off, e, by have := k.size; omega, fun i x hx => ?_⟩
 obtain ⟨v, hv, hp⟩ := hc i x hx
 exact ⟨v, (k.cellAt hb _).trans hv, hP _ _ _ _ k hp⟩
theorem vslices_stable {α : Type} {P : World → Value → α → Prop} (hP : Stable P) : Stable (VSlices P) := fun _ _ _ _ k ⟨a, cap, e, hc, h⟩ => ⟨a, cap, e, hc, h.since hP k⟩
theorem NodeAt.since {w W : World} {b o : Nat} {x : Nd} (h : NodeAt w b o x) (hb : b < w.heap.size) (k : Since w W) : NodeAt W b o x := by
 refine ⟨(k.cellAt hb _).trans h.clk, ?_, ?_, ?_⟩
 ·obtain ⟨v, h1, h2⟩ := h.last; exact ⟨v, (k.cellAt hb _).trans h1, vslices_stable vints_stable _ _ _ _ k h2⟩
 ·obtain ⟨v, h1, h2⟩ := h.held; exact ⟨v, (k.cellAt hb _).trans h1, vmsgs_stable _ _ _ _ k h2⟩
 ·obtain ⟨v, h1, h2⟩ := h.told; exact ⟨v, (k.cellAt hb _).trans h1, vmsgs_stable _ _ _ _ k h2⟩
theorem Nodes.since {w W : World} {a : Option Addr} {len : Nat} {xs : List Nd} (h : Nodes w a len xs) (k : Since w W) : Nodes W a len xs := by
 refine ⟨h.hlen, h.hmax, fun hp => ?_⟩
 obtain ⟨b, off, e, hb, hc⟩ := h.cells hp
 exact ⟨b, off, e, by have := k.size; omega, fun i x hx => (hc i x hx).since hb k⟩
theorem WAt.since {w W : World} {x : WV} {d : Wd} (h : WAt w x d) (k : Since w W) : WAt W x d :=
 ⟨h.g.since k, h.gcap, h.n.since k, h.ncap, h.r.since (vslices_stable vmsgs_stable) k, h.rcap⟩
def noNullB (ms : List Mg) : Bool := ms.all fun m => !m.nul
def fineB (d : Wd) (n : Int) (m : Mg) : Bool := decide (chkM d.nodes.length d.groups m = 0) && hasB d.groups m.gr n
def listFineB (d : Wd) (ms : List Mg) (n : Int) : Bool := ms.all (fineB d n)
theorem all_at {α : Type} {p : α → Bool} {xs : List α} {k : Nat} {x : α} (h : xs[k]? = some x) (hp : p x = false) : xs.all p = false := by
 rw [List.all_eq_false]
 exact ⟨x, List.mem_of_getElem? h, by simp [hp]⟩
theorem all_step {α : Type} {p : α → Bool} {xs : List α} {k : Nat} {x : α} (h : xs[k]? = some x) (h0 : (xs.take k).all p = true) (hp : p x = true) : (xs.take (k + 1)).all p = true := by
 rw [List.take_add_one, List.all_append, h0, h]; simp [hp]
theorem noNull_any (a : Option Addr) (len cap : Nat) (ms : List Mg) (w : World) (hM : Msgs w a len ms) :
  Calls Tryz.prog 155 #[.slice a len cap] w fun e w' => e = .returned (.bool (noNullB ms)) ∧ w' = w := by
 obtain ⟨rfl, hmax, hc⟩ := hM
 go_enter Tryz.func155, Tryz.ntmps155
 go_wp2
 go_loop [3] (fun i => ∃ k : Nat, k ≤ ms.length ∧ i = .int .i64 k ∧ (ms.take k).all (fun m => !m.nul) = true) (fun i => ms.length - (intOf i).toNat)
 case atStart => exact ⟨0, Nat.zero_le _, rfl, rfl⟩
 case round =>
  obtain ⟨k, hk, rfl, hn⟩ := hrel
  have HN : Hid ((ms.take k).all (fun m => !m.nul) = true) := hn
  clear hn
  by_cases hlt : k < ms.length
  ·obtain ⟨b, off, rfl, hb, hcell⟩ := hc (by omega)
   obtain ⟨m, hm⟩ : ∃ m, ms[k]? = some m := ⟨_, List.getElem?_eq_getElem hlt⟩
   obtain ⟨d0, d1, d2, d3, d4⟩ := msgAt_of hcell k m hm
   have HM : Hid (ms[k]? = some m) := hm
   clear hm hcell hc
   cases hl : m.nul
   ·rw [hl] at d3
    go_wp2
    go_round
    case rel => exact ⟨k + 1, by omega, by go_num, all_step HM.out HN.out (by simp [hl])⟩
    case measure => simp [intOf]; omega
   ·have HF : Hid (noNullB ms = false) := all_at HM.out (by simp [hl])
    rw [hl] at d3
    go_wp2
    go_ret
    exact ⟨by rw [HF.out]; rfl, rfl⟩
  ·have HF : Hid (noNullB ms = true) := by have := HN.out; rw [List.take_of_length_le (by omega)] at this; exact this
   clear hc
   go_wp2
   go_ret
   exact ⟨by rw [HF.out]; rfl, rfl⟩
theorem msgError_v (w0 : World) (nodes : Int) (a : Option Addr) (len cap : Nat) (xs : List Int) (m : Mg) (c : Int) (hc : chkM nodes xs m = c) (hI : Ints w0 a len xs) (w : World) (h : Since w0 w) :
  Calls Tryz.prog 192 #[.int .i64 nodes, .slice a len cap, .agg #[.int .i64 m.fr, .int .i64 m.gr, .int .i64 m.st, .bool m.nul, .string m.body]] w fun e w' => e = .returned (.int .i64 c) ∧ Since w0 w' :=
 (msgError_any nodes a len cap xs m w (hI.since h)).mono fun _ _ ⟨he, hw⟩ => ⟨by rw [← hc]; exact he, h.trans hw⟩
theorem hasOf_v (w0 : World) (a : Option Addr) (len cap : Nat) (xs : List Int) (g n : Int) (v : Bool) (hv : hasB xs g n = v) (hI : Ints w0 a len xs) (w : World) (h : Since w0 w) :
  Calls Tryz.prog 145 #[.slice a len cap, .int .i64 g, .int .i64 n] w fun e w' => e = .returned (.bool v) ∧ Since w0 w' :=
 (hasOf_any a len cap xs g n w (hI.since h)).mono fun _ _ ⟨he, hw⟩ => ⟨by rw [← hv]; exact he, by rw [hw]; exact h⟩
set_option maxHeartbeats 1000000 in
theorem listFine_any (x : WV) (d : Wd) (a : Option Addr) (len cap : Nat) (ms : List Mg) (n : Int) (w : World) (hW : WAt w x d) (hM : Msgs w a len ms) :
  Calls Tryz.prog 156 #[.agg #[.slice x.ga x.gl x.gc, .slice x.na x.nl x.nc, .slice x.wa x.wl x.wc], .slice a len cap, .int .i64 n] w fun e w' => e = .returned (.bool (listFineB d ms n)) ∧ Since w w' := by
 obtain ⟨rfl, hmax, hc⟩ := hM
 obtain ⟨w1, hw1⟩ : ∃ w1, w.alloc (.cells #[.slice x.ga x.gl x.gc, .slice x.na x.nl x.nc, .slice x.wa x.wl x.wc] 26) = w1 := ⟨_, rfl⟩
 have hS1 := sinceA hw1
 have hsz : w1.heap.size = w.heap.size + 1 := by rw [← hw1]; simp
 have b0 : w1.cell? ⟨w.heap.size, 0, none⟩ = some (.slice x.ga x.gl x.gc) := by rw [← hw1]; simp [go_sem]
 have b1 : w1.cell? ⟨w.heap.size, 1, none⟩ = some (.slice x.na x.nl x.nc) := by rw [← hw1]; simp [go_sem]
 have hI1 := hW.g.since hS1
 have hnl := hW.n.hlen
 have hnm := hW.n.hmax
 have HNL : Hid (d.nodes.length = x.nl) := hnl
 have hne : Nonempty (Later w1) := ⟨⟨w1, Since.refl w1⟩⟩
 have hg2 : ∀ (y : Later w1) (o : Nat), y.w.cell? ⟨w.heap.size, o, none⟩ = w1.cell? ⟨w.heap.size, o, none⟩ := fun y o => y.cell (by omega)
 clear hnl
 go_enter Tryz.func156, Tryz.ntmps156
 go_wp2
 clear hw1
 go_loopw [7] (fun i wr => (∃ k : Nat, k ≤ ms.length ∧ i = .int .i64 k ∧ (ms.take k).all (fineB d n) = true) ∧ Since w1 wr) (fun i _ => ms.length - (intOf i).toNat)
 case atStart => exact ⟨⟨0, Nat.zero_le _, rfl, rfl⟩, Since.refl _⟩
 case round =>
  obtain ⟨⟨k, hk, rfl, hn⟩, hS⟩ := hrel
  have HN : Hid ((ms.take k).all (fineB d n) = true) := hn
  clear hn
  by_cases hlt : k < ms.length
  ·obtain ⟨b, off, rfl, hb, hcell⟩ := hc (by omega)
   obtain ⟨m, hm⟩ : ∃ m, ms[k]? = some m := ⟨_, List.getElem?_eq_getElem hlt⟩
   obtain ⟨d0, d1, d2, d3, d4⟩ := msgAt_of hcell k m hm
   have hg : ∀ (y : Later w1) (o : Nat), y.w.cell? ⟨b, o, none⟩ = w.cell? ⟨b, o, none⟩ := fun y o => Later.old hS1 y o hb
   have HM : Hid (ms[k]? = some m) := hm
   clear hm hcell hc
   obtain ⟨c, hce⟩ : ∃ c, chkM x.nl d.groups m = c := ⟨_, rfl⟩
   have HC : Hid (chkM x.nl d.groups m = c) := hce
   clear hce
   cases h1 : (c != 0)
   ·have hc0 : Hid (chkM d.nodes.length d.groups m = 0) := by unfold Hid; rw [HNL.out, HC.out]; simpa using h1
    cases h2 : hasB d.groups m.gr n
    ·have HF : Hid (listFineB d ms n = false) := all_at HM.out (by simp [fineB, h2])
     have H2 : Hid (hasB d.groups m.gr n = false) := h2
     clear h2
     go_wp2_with fail
     refine wp_region_since (by kernel_rfl) (by kernel_rfl) hS ?_
     repeat (go_big_quiet_step ((first | (go_at_call 192; exact Later.call (msgError_v w1 _ _ _ _ d.groups m _ HC.out hI1)) | (go_at_call 145; exact Later.call (hasOf_v w1 _ _ _ d.groups _ _ _ H2.out hI1)))))
     refine wpQuiet_nil ?_
     intro w9 hS9
     go_wp2
     go_ret
     exact ⟨by rw [HF.out]; rfl, hS1.trans hS9⟩
    ·have HF : Hid ((ms.take (k + 1)).all (fineB d n) = true) := all_step HM.out HN.out (by simp [fineB, h2, hc0.out])
     have H2 : Hid (hasB d.groups m.gr n = true) := h2
     clear h2
     go_wp2_with fail
     refine wp_region_since (by kernel_rfl) (by kernel_rfl) hS ?_
     repeat (go_big_quiet_step ((first | (go_at_call 192; exact Later.call (msgError_v w1 _ _ _ _ d.groups m _ HC.out hI1)) | (go_at_call 145; exact Later.call (hasOf_v w1 _ _ _ d.groups _ _ _ H2.out hI1)))))
     refine wpQuiet_nil ?_
     intro w9 hS9
     go_wp2
     go_roundw
     case rel => exact ⟨⟨k + 1, by omega, by go_num, HF.out⟩, hS9⟩
     case measure => simp [intOf]; omega
   ·have HF : Hid (listFineB d ms n = false) := all_at HM.out (by
     have : ¬ chkM d.nodes.length d.groups m = 0 := by rw [HNL.out, HC.out]; simpa using h1
     simp [fineB, this])
    go_wp2_with fail
    refine wp_region_since (by kernel_rfl) (by kernel_rfl) hS ?_
    repeat (go_big_quiet_step ((first | (go_at_call 192; exact Later.call (msgError_v w1 _ _ _ _ d.groups m _ HC.out hI1)))))
    refine wpQuiet_nil ?_
    intro w9 hS9
    go_wp2
    go_ret
    exact ⟨by rw [HF.out]; rfl, hS1.trans hS9⟩
  ·have HF : Hid (listFineB d ms n = true) := by have := HN.out; rw [List.take_of_length_le (by omega)] at this; exact this
   clear hc
   go_wp2
   go_ret
   exact ⟨by rw [HF.out]; rfl, hS1.trans hS⟩
end Go.Proofs.YtiiifecfdkjmbaaGreat
