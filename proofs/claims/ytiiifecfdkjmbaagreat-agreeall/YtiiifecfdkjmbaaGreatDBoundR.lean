/- Contracts of furlongref.NodeError and furlongref.bound; conditions: the world reads as one; for bound: it has that node, whose Last has the right shape. -/
import Derived.Test.YtiiifecfdkjmbaaGreatDWErr
namespace Go.Proofs.YtiiifecfdkjmbaaGreat
set_option maxRecDepth 8000
open Go.RowKit Go.Shelf
def otherB (d : Wd) (n : Nat) (p : Nat × Nat) : Bool := ((p.2 : Int) != (n : Int)) && (hasB d.groups p.1 n && hasB d.groups p.1 p.2)
def farStep (d : Wd) (n : Nat) (nd : Nd) (acc : Int) (p : Nat × Nat) : Int := if otherB d n p then (if lastAt nd.last p.1 p.2 < acc then lastAt nd.last p.1 p.2 else acc) else acc
def farTo (d : Wd) (n : Nat) (nd : Nd) (i : Nat) : Int := ((pairs d.groups.length d.nodes.length).take i).foldl (farStep d n nd) nd.clock
def farZ (d : Wd) (n : Nat) (nd : Nd) : Int := (pairs d.groups.length d.nodes.length).foldl (farStep d n nd) nd.clock
theorem farTo_succ {d : Wd} {n : Nat} {nd : Nd} {i : Nat} {p : Nat × Nat} (h : (pairs d.groups.length d.nodes.length)[i]? = some p) : farTo d n nd (i + 1) = farStep d n nd (farTo d n nd i) p := by
 unfold farTo; rw [List.take_add_one, h, List.foldl_append]; rfl
theorem farTo_all (d : Wd) (n : Nat) (nd : Nd) : farTo d n nd (d.groups.length * d.nodes.length) = farZ d n nd := by
 unfold farTo farZ; rw [List.take_of_length_le (by rw [pairs_len]; exact Nat.le_refl _)]
def nodeErr (d : Wd) (n : Int) : Int := if worldE d = 0 then (if inB n 0 ((d.nodes.length : Int) - 1) then 0 else 4) else worldE d
theorem worldError_s (w0 w : World) (x : WV) (d : Wd) (hW : WAt w x d) (h : Since w0 w) :
  Calls Tryz.prog 38 #[.agg #[.slice x.ga x.gl x.gc, .slice x.na x.nl x.nc, .slice x.wa x.wl x.wc]] w fun e w' => e = .returned (.int .i64 (worldE d)) ∧ Since w0 w' :=
 (worldError_any x d w hW).mono fun _ _ ⟨he, hw⟩ => ⟨he, h.trans hw⟩
set_option maxHeartbeats 1000000 in
theorem nodeError_any (x : WV) (d : Wd) (n : Int) (w : World) (hW : WAt w x d) :
  Calls Tryz.prog 123 #[.agg #[.slice x.ga x.gl x.gc, .slice x.na x.nl x.nc, .slice x.wa x.wl x.wc], .int .i64 n] w fun e w' => e = .returned (.int .i64 (nodeErr d n)) ∧ Since w w' := by
 obtain ⟨ga, gl, gc, na, nl, nc, wa, wl, wc⟩ := x
 have hnl := hW.n.hlen
 have hnm := hW.n.hmax
 dsimp only at hnl hnm ⊢
 subst hnl
 obtain ⟨w1, hw1⟩ : ∃ w1, w.alloc (.cells #[.slice ga gl gc, .slice na d.nodes.length nc, .slice wa wl wc] 26) = w1 := ⟨_, rfl⟩
 have hS1 := sinceA hw1
 have hsz : w.heap.size < w1.heap.size := by rw [← hw1]; simp
 have b0 : w1.cell? ⟨w.heap.size, 0, none⟩ = some (.slice ga gl gc) := by rw [← hw1]; simp [go_sem]
 have b1 : w1.cell? ⟨w.heap.size, 1, none⟩ = some (.slice na d.nodes.length nc) := by rw [← hw1]; simp [go_sem]
 have b2 : w1.cell? ⟨w.heap.size, 2, none⟩ = some (.slice wa wl wc) := by rw [← hw1]; simp [go_sem]
 have hW1 := hW.since hS1
 have RF : Hid (∀ y, Since w1 y → y.cell? ⟨w.heap.size, 1, none⟩ = some (.slice na d.nodes.length nc)) := fun y hy => (hy.cellAt (by omega) _).trans b1
 have hwk : IntKind.i64.wrap ((d.nodes.length : Int) - 1) = (d.nodes.length : Int) - 1 := IntWalk.i64_in _ (by omega)
 cases h1 : (worldE d != 0)
 rotate_left
 ·have HF : Hid (nodeErr d n = worldE d) := by
   have : ¬ worldE d = 0 := by simpa using h1
   unfold Hid nodeErr; rw [if_neg this]
  go_enter Tryz.func123, Tryz.ntmps123
  go_wp2_with (go_at_call 38; refine (worldError_s w1 _ ⟨ga, gl, gc, na, d.nodes.length, nc, wa, wl, wc⟩ d hW1 (Since.refl _)).mono ?_; rintro e w2 ⟨rfl, hS2⟩; have f1 := RF.out _ hS2)
  go_ret
  exact ⟨by rw [HF.out]; rfl, hS1.trans (by assumption)⟩
 have HF : Hid (nodeErr d n = if inB n 0 ((d.nodes.length : Int) - 1) then 0 else 4) := by
  have : worldE d = 0 := by simpa using h1
  unfold Hid nodeErr; rw [if_pos this]
 cases h2 : inB n 0 ((d.nodes.length : Int) - 1)
 ·have HG : Hid (nodeErr d n = 4) := by unfold Hid; rw [HF.out, h2]; rfl
  have H2 : Hid (inB n 0 ((d.nodes.length : Int) - 1) = false) := h2
  clear h2
  go_enter Tryz.func123, Tryz.ntmps123
  go_wp2_with (first
   | (go_at_call 38; refine (worldError_s w1 _ ⟨ga, gl, gc, na, d.nodes.length, nc, wa, wl, wc⟩ d hW1 (Since.refl _)).mono ?_; rintro e w2 ⟨rfl, hS2⟩; have f1 := RF.out _ hS2)
   | (go_at_call 126; refine (within_any _ _ _ _).mono ?_; rw [H2.out]; rintro e w' ⟨rfl, hw⟩; obtain rfl := hw.symm))
  go_ret
  exact ⟨by rw [HG.out]; rfl, hS1.trans (by assumption)⟩
 ·have HG : Hid (nodeErr d n = 0) := by unfold Hid; rw [HF.out, h2]; rfl
  have H2 : Hid (inB n 0 ((d.nodes.length : Int) - 1) = true) := h2
  clear h2
  go_enter Tryz.func123, Tryz.ntmps123
  go_wp2_with (first
   | (go_at_call 38; refine (worldError_s w1 _ ⟨ga, gl, gc, na, d.nodes.length, nc, wa, wl, wc⟩ d hW1 (Since.refl _)).mono ?_; rintro e w2 ⟨rfl, hS2⟩; have f1 := RF.out _ hS2)
   | (go_at_call 126; refine (within_any _ _ _ _).mono ?_; rw [H2.out]; rintro e w' ⟨rfl, hw⟩; obtain rfl := hw.symm))
  go_ret
  exact ⟨by rw [HG.out]; rfl, hS1.trans (by assumption)⟩
structure LastOk (d : Wd) (nd : Nd) : Prop where
 len : nd.last.length = d.groups.length
 rows : ∀ (g : Nat) (row : List Int), nd.last[g]? = some row → row.length = d.nodes.length
set_option maxRecDepth 4000 in
set_option maxHeartbeats 2000000 in
theorem refBound_any (x : WV) (d : Wd) (n : Nat) (nd : Nd) (w : World) (hW : WAt w x d) (hn : d.nodes[n]? = some nd) (hL0 : LastOk d nd) :
  Calls Tryz.prog 218 #[.agg #[.slice x.ga x.gl x.gc, .slice x.na x.nl x.nc, .slice x.wa x.wl x.wc], .int .i64 n] w fun e w' => e = .returned (.int .i64 (farZ d n nd)) ∧ Since w w' := by
 have hnl := (List.getElem?_eq_some_iff.1 hn).1
 obtain ⟨ga, gl, gc, na, nl, nc, wa, wl, wc⟩ := x
 have hnle := hW.n.hlen
 have hnm := hW.n.hmax
 have hgl := hW.g.hlen
 have hgm := hW.g.hmax
 dsimp only at hnle hnm hgl hgm ⊢
 subst hnle hgl
 obtain ⟨bn, on, rfl, hbn, hcn⟩ := hW.n.cells (by dsimp only; omega)
 obtain ⟨k0, ⟨v1, k1, la, lc, rfl, hlc, hL⟩, ⟨v2, k2, ha, hc, rfl, hhc, hH⟩, ⟨v3, k3, ta, tc, rfl, htc, hT⟩⟩ := hcn n nd hn
 have hlm := hL.hmax
 obtain ⟨w1, hw1⟩ : ∃ w1, (w.alloc (.cells #[.slice ga d.groups.length gc, .slice (some ⟨bn, on, none⟩) d.nodes.length nc, .slice wa wl wc] 26)).alloc (.cells #[.int .i64 nd.clock, .slice la nd.last.length lc, .slice ha nd.held.length hc, .slice ta nd.told.length tc] 45) = w1 := ⟨_, rfl⟩
 have hS1 : Since w w1 := by rw [← hw1]; exact ((Since.refl w).alloc _).alloc _
 have hsz : w.heap.size + 1 < w1.heap.size := by rw [← hw1]; simp
 have b0 : w1.cell? ⟨w.heap.size, 0, none⟩ = some (.slice ga d.groups.length gc) := by rw [← hw1]; simp [go_sem]
 have b1 : w1.cell? ⟨w.heap.size, 1, none⟩ = some (.slice (some ⟨bn, on, none⟩) d.nodes.length nc) := by rw [← hw1]; simp [go_sem]
 have b3 : w1.cell? ⟨w.heap.size + 1, 0, none⟩ = some (.int .i64 nd.clock) := by rw [← hw1]; simp [go_sem]
 have b4 : w1.cell? ⟨w.heap.size + 1, 1, none⟩ = some (.slice la nd.last.length lc) := by rw [← hw1]; simp [go_sem]
 have hG1 : Ints w1 ga d.groups.length d.groups := hW.g.since hS1
 have hL1 := hL.since vints_stable hS1
 have n1 : (n : Int) < (d.nodes.length : Int) := by omega
 clear hcn
 go_enter Tryz.func218, Tryz.ntmps218
 go_wp2
 clear hw1 k0 k1 k2 k3
 go_loopw [6, 7, 8] (fun o g _ wr => (∃ k : Nat, k ≤ d.groups.length ∧ g = .int .i64 k ∧ o = .int .i64 (farTo d n nd (k * d.nodes.length))) ∧ wr = w1) (fun _ g _ _ => d.groups.length - (intOf g).toNat)
 case atStart => exact ⟨⟨0, Nat.zero_le _, rfl, by unfold farTo; simp⟩, rfl⟩
 case round =>
  obtain ⟨⟨g, hg, rfl, rfl⟩, hwr⟩ := hrel
  obtain rfl := hwr.symm
  clear hwr
  by_cases hlt : g < d.groups.length
  ·obtain ⟨row, hrow⟩ : ∃ row, nd.last[g]? = some row := ⟨_, List.getElem?_eq_getElem (by have := hL0.len; omega)⟩
   have hrl := hL0.rows g row hrow
   obtain ⟨bL, oL, rfl, hbL, hcL⟩ := hL1.cells (by have := hL0.len; omega)
   obtain ⟨v4, k4, ra, rc, rfl, hrc, hR⟩ := hcL g row hrow
   have hRm := hR.hmax
   have hRc := hR.cells
   have HROW : Hid (nd.last[g]? = some row) := hrow
   have HRL : Hid (row.length = d.nodes.length) := hrl
   have g1 : (g : Int) < (nd.last.length : Int) := by have := hL0.len; omega
   clear hcL hrow hR hrl
   go_wp2_with fail
   go_loopw [6, 8] (fun o i wr => (∃ k : Nat, k ≤ d.nodes.length ∧ i = .int .i64 k ∧ o = .int .i64 (farTo d n nd (g * d.nodes.length + k))) ∧ wr = w1) (fun _ i _ => d.nodes.length - (intOf i).toNat)
   case atStart => exact ⟨⟨0, Nat.zero_le _, rfl, rfl⟩, rfl⟩
   case round =>
    obtain ⟨⟨k, hk, rfl, rfl⟩, hwr⟩ := hrel
    obtain rfl := hwr.symm
    clear hwr
    by_cases hkl : k < d.nodes.length
    ·obtain ⟨v, hv⟩ : ∃ v, row[k]? = some v := ⟨_, List.getElem?_eq_getElem (by have := HRL.out; omega)⟩
     obtain ⟨bR, oR, rfl, hbR, hcR⟩ := hRc (by have := HRL.out; omega)
     have k6 : w1.cell? ⟨bR, oR + k, none⟩ = some (.int .i64 v) := by have := hcR k (by have := HRL.out; omega); rw [hv] at this; exact this
     have g2 : (k : Int) < (row.length : Int) := by have := HRL.out; omega
     have HV : Hid (lastAt nd.last g k = v) := by unfold Hid lastAt; rw [HROW.out, Option.getD_some, hv]; rfl
     have HS : Hid (farTo d n nd (g * d.nodes.length + (k + 1)) = if otherB d n (g, k) then (if v < farTo d n nd (g * d.nodes.length + k) then v else farTo d n nd (g * d.nodes.length + k)) else farTo d n nd (g * d.nodes.length + k)) := by
      have := farTo_succ (n := n) (nd := nd) (pairs_at hlt hkl)
      unfold farStep at this
      rw [HV.out] at this
      exact this
     have HO : Hid (otherB d n (g, k) = (((k : Int) != (n : Int)) && (hasB d.groups g n && hasB d.groups g k))) := rfl
     obtain ⟨acc, hacc⟩ : ∃ acc, farTo d n nd (g * d.nodes.length + k) = acc := ⟨_, rfl⟩
     rw [hacc]
     have HACC : Hid (farTo d n nd (g * d.nodes.length + k) = acc) := hacc
     clear hv hcR hRc hacc
     cases h1 : ((k : Int) != (n : Int))
     all_goals cases h2 : hasB d.groups g n
     all_goals cases h3 : hasB d.groups g k
     all_goals
      have HO1 := HO.out
      rw [h1, h2, h3] at HO1
      have HS1 := HS.out
      rw [HO1, HACC.out] at HS1
      have HS2 : Hid (farTo d n nd (g * d.nodes.length + (k + 1)) = _) := HS1
      clear HO1 HS1
      have H3 : Hid (hasB d.groups g k = _) := h3
      clear h3
      go_wp2_with (go_at_call 145; refine (hasOf_any _ _ _ d.groups _ _ _ hG1).mono ?_; (first | rw [h2] | rw [H3.out]); rintro e w' ⟨rfl, hw⟩; obtain rfl := hw.symm)
     all_goals exact ⟨⟨⟨k + 1, by omega, by go_num, by rw [HS2.out]; rfl⟩, trivial⟩, by simp [intOf]; omega⟩
    ·obtain rfl : k = d.nodes.length := by omega
     go_wp2_with fail
     exact ⟨⟨⟨g + 1, by omega, by go_num, by rw [Nat.succ_mul]⟩, trivial⟩, by simp [intOf]; omega⟩
  ·obtain rfl : g = d.groups.length := by omega
   go_wp2
   go_ret
   exact ⟨by rw [farTo_all]; rfl, hS1⟩
end Go.Proofs.YtiiifecfdkjmbaaGreat
