/- Contracts of furlongref.BoundOf, ready and ReadyOf; no condition but that the world reads as one (ready: it has that node, and is right). -/
import Derived.Test.YtiiifecfdkjmbaaGreatDBoundR
namespace Go.Proofs.YtiiifecfdkjmbaaGreat
set_option maxRecDepth 8000
open Go.RowKit Go.Shelf
theorem refBound_v (w0 : World) (x : WV) (d : Wd) (n : Nat) (nd : Nd) (v : Int) (hv : farZ d n nd = v) (hW : WAt w0 x d) (hn : d.nodes[n]? = some nd) (hL0 : LastOk d nd) (w : World) (h : Since w0 w) :
  Calls Tryz.prog 218 #[.agg #[.slice x.ga x.gl x.gc, .slice x.na x.nl x.nc, .slice x.wa x.wl x.wc], .int .i64 n] w fun e w' => e = .returned (.int .i64 v) ∧ Since w0 w' :=
 (refBound_any x d n nd w (hW.since h) hn hL0).mono fun _ _ ⟨he, hw⟩ => ⟨by rw [← hv]; exact he, h.trans hw⟩
def readyL (d : Wd) (n : Nat) (nd : Nd) : List Mg := nd.held.filter fun m => decide (m.st ≤ farZ d n nd)
theorem readyTo_len (f : Int) (l : List Mg) (k : Nat) : ((l.take k).filter fun m => decide (m.st ≤ f)).length ≤ k := by
 have := List.length_filter_le (fun m : Mg => decide (m.st ≤ f)) (l.take k)
 have := List.length_take_le k l
 omega
set_option maxRecDepth 8000 in
set_option maxHeartbeats 2000000 in
theorem refReady_any (x : WV) (d : Wd) (n : Nat) (nd : Nd) (w : World) (hW : WAt w x d) (hn : d.nodes[n]? = some nd) (hL0 : LastOk d nd) (hsh : nd.held.length ≤ 40) :
  Calls Tryz.prog 187 #[.agg #[.slice x.ga x.gl x.gc, .slice x.na x.nl x.nc, .slice x.wa x.wl x.wc], .int .i64 n] w fun e w' => ∃ v, e = .returned v ∧ w'.ownsRow w.heap.size 42 5 v (readyL d n nd).length (flat (readyL d n nd)) ∧ Since w w' := by
 obtain ⟨i0, hi, hz0, hz1, hz2⟩ := info_parts Tryz.infoMsg
 have hnl := (List.getElem?_eq_some_iff.1 hn).1
 obtain ⟨ga, gl, gc, na, nl, nc, wa, wl, wc⟩ := x
 have hnle := hW.n.hlen
 have hnm := hW.n.hmax
 dsimp only at hnle hnm ⊢
 subst hnle
 obtain ⟨bn, on, rfl, hbn, hcn⟩ := hW.n.cells (by dsimp only; omega)
 obtain ⟨k0, -, ⟨v2, k2, ha, hc, rfl, hhc, hH⟩, -⟩ := hcn n nd hn
 obtain ⟨w1, hw1⟩ : ∃ w1, w.alloc (.cells #[.slice ga gl gc, .slice (some ⟨bn, on, none⟩) d.nodes.length nc, .slice wa wl wc] 26) = w1 := ⟨_, rfl⟩
 have hS1 := sinceA hw1
 have hsz : w.heap.size < w1.heap.size := by rw [← hw1]; simp
 have b0 : w1.cell? ⟨w.heap.size, 0, none⟩ = some (.slice ga gl gc) := by rw [← hw1]; simp [go_sem]
 have b1 : w1.cell? ⟨w.heap.size, 1, none⟩ = some (.slice (some ⟨bn, on, none⟩) d.nodes.length nc) := by rw [← hw1]; simp [go_sem]
 have b2 : w1.cell? ⟨w.heap.size, 2, none⟩ = some (.slice wa wl wc) := by rw [← hw1]; simp [go_sem]
 have hW1 := hW.since hS1
 have n1 : (n : Int) < (d.nodes.length : Int) := by omega
 obtain ⟨far, hfar⟩ : ∃ far, farZ d n nd = far := ⟨_, rfl⟩
 have HFAR : Hid (farZ d n nd = far) := hfar
 have HRL : Hid (readyL d n nd = nd.held.filter fun m => decide (m.st ≤ far)) := by unfold Hid readyL; rw [hfar]
 clear hcn k0 hfar
 have RF : Hid (∀ y, Since w1 y → y.cell? ⟨w.heap.size, 0, none⟩ = some (.slice ga gl gc) ∧ y.cell? ⟨w.heap.size, 1, none⟩ = some (.slice (some ⟨bn, on, none⟩) d.nodes.length nc) ∧ y.cell? ⟨w.heap.size, 2, none⟩ = some (.slice wa wl wc) ∧ y.cell? ⟨bn, on + n * 4 + 2, none⟩ = some (.slice ha nd.held.length hc)) := fun y hy =>
  ⟨(hy.cellAt (by omega) _).trans b0, (hy.cellAt (by omega) _).trans b1, (hy.cellAt (by omega) _).trans b2, ((hS1.trans hy).cellAt hbn _).trans k2⟩
 obtain ⟨_, hHm, hHc⟩ := hH
 go_enter Tryz.func187, Tryz.ntmps187
 go_wp2
 clear hw1
 go_loopw [5, 6] (fun v i wr => (∃ k : Nat, k ≤ nd.held.length ∧ i = .int .i64 k ∧ wr.ownsRow w1.heap.size 42 5 v ((nd.held.take k).filter fun m => decide (m.st ≤ far)).length (flat ((nd.held.take k).filter fun m => decide (m.st ≤ far)))) ∧ Since w1 wr) (fun _ i _ => nd.held.length - (intOf i).toNat)
 case atStart => exact ⟨⟨0, by omega, rfl, World.ownsRow_nil _ _ _ _⟩, Since.refl _⟩
 case round =>
  obtain ⟨⟨k, hk, rfl, hown⟩, hS⟩ := hrel
  obtain ⟨va, vcap, rfl, hvc⟩ := ownsRow_form hown
  obtain ⟨f0, f1, f2, f3⟩ := RF.out _ hS
  by_cases hlt : k < nd.held.length
  ·obtain ⟨b, off, rfl, hb, hcell⟩ := hHc (by omega)
   obtain ⟨m, hm⟩ : ∃ m, nd.held[k]? = some m := ⟨_, List.getElem?_eq_getElem hlt⟩
   have hS0 := hS1.trans hS
   obtain ⟨d0, d1, d2, d3, d4⟩ := msgAt_of (w := wr) (fun i u hi => (hS0.cellAt hb _).trans (hcell i u hi)) k m hm
   have HM : Hid (nd.held[k]? = some m) := hm
   obtain ⟨L, hL⟩ : ∃ L, ((nd.held.take k).filter fun m => decide (m.st ≤ far)) = L := ⟨_, rfl⟩
   have hLk : L.length ≤ k := by rw [← hL]; exact readyTo_len _ _ _
   rw [hL] at hown hvc ⊢
   have HL : Hid (((nd.held.take k).filter fun m => decide (m.st ≤ far)) = L) := hL
   obtain ⟨w2, hw2⟩ : ∃ w2, wr.alloc (.cells #[.int .i64 m.fr, .int .i64 m.gr, .int .i64 m.st, .bool m.nul, .string m.body] 42) = w2 := ⟨_, rfl⟩
   have hS2 := sinceA hw2
   have hsz2 : wr.heap.size < w2.heap.size := by rw [← hw2]; simp
   have q2 : w2.cell? ⟨wr.heap.size, 2, none⟩ = some (.int .i64 m.st) := by rw [← hw2]; simp [go_sem]
   have hQ : MsgAt w2 wr.heap.size 0 m := by rw [← hw2]; constructor <;> simp [go_sem]
   have hne : Nonempty (Later w2) := ⟨⟨w2, Since.refl w2⟩⟩
   have gm : ∀ (y : Later w2) (o : Nat), y.w.cell? ⟨wr.heap.size, o, none⟩ = w2.cell? ⟨wr.heap.size, o, none⟩ := fun y o => y.cell hsz2
   have gw : ∀ (y : Later w2) (o : Nat), y.w.cell? ⟨w.heap.size, o, none⟩ = w1.cell? ⟨w.heap.size, o, none⟩ := fun y o => Later.old (hS.trans hS2) y o (by omega)
   have hW2 := hW1.since (hS.trans hS2)
   have hown2 := ownsRow_since hS2 hown
   clear hm hcell hHc hL hown
   cases h6 : decide (m.st ≤ far)
   ·have HF : Hid (((nd.held.take (k + 1)).filter fun m => decide (m.st ≤ far)) = L) := by
     unfold Hid; rw [List.take_add_one, HM.out, List.filter_append, HL.out]; simp [h6]
    go_wp2_with fail
    refine wp_region_since (by kernel_rfl) (by kernel_rfl) (Since.refl w2) ?_
    repeat (go_big_quiet_step ((go_at_call 218; exact Later.call (refBound_v w2 ⟨ga, gl, gc, _, d.nodes.length, nc, wa, wl, wc⟩ d n nd _ HFAR.out hW2 hn hL0))))
    refine wpQuiet_nil ?_
    intro w9 hS9
    go_wp2
    go_roundw
    case rel => exact ⟨⟨k + 1, by omega, by go_num, by rw [HF.out]; exact ownsRow_since hS9 hown2⟩, hS.trans (hS2.trans hS9)⟩
    case measure => simp [intOf]; omega
   ·have HF : Hid (((nd.held.take (k + 1)).filter fun m => decide (m.st ≤ far)) = L ++ [m]) := by
     unfold Hid; rw [List.take_add_one, HM.out, List.filter_append, HL.out]; simp [h6]
    go_wp2_with fail
    refine wp_region_since (by kernel_rfl) (by kernel_rfl) (Since.refl w2) ?_
    repeat (go_big_quiet_step ((go_at_call 218; exact Later.call (refBound_v w2 ⟨ga, gl, gc, _, d.nodes.length, nc, wa, wl, wc⟩ d n nd _ HFAR.out hW2 hn hL0))))
    refine wpQuiet_nil ?_
    intro w9 hS9
    have hown9 := ownsRow_since hS9 hown2
    have hS19 : Since w1 w9 := hS.trans (hS2.trans hS9)
    obtain ⟨g0, g1, g2, g3, g4⟩ := hQ
    have p0 : w9.cell? ⟨wr.heap.size, 0, none⟩ = some (.int .i64 m.fr) := (hS9.cellAt hsz2 _).trans g0
    have p1 : w9.cell? ⟨wr.heap.size, 1, none⟩ = some (.int .i64 m.gr) := (hS9.cellAt hsz2 _).trans g1
    have p2 : w9.cell? ⟨wr.heap.size, 2, none⟩ = some (.int .i64 m.st) := (hS9.cellAt hsz2 _).trans g2
    have p3 : w9.cell? ⟨wr.heap.size, 3, none⟩ = some (.bool m.nul) := (hS9.cellAt hsz2 _).trans g3
    have p4 : w9.cell? ⟨wr.heap.size, 4, none⟩ = some (.string m.body) := (hS9.cellAt hsz2 _).trans g4
    clear g0 g1 g2 g3 g4 gm gw hown2 hw2 d0 d1 d2 d3 d4 q2
    go_wp2_with (at_builtin; refine wpList_append_own _ rfl _ _ 39 rfl w1.heap.size 42 i0 (.agg #[.int .i64 0, .int .i64 0, .int .i64 0, .bool false, .string ByteArray.empty]) 5 48 Tryz.underlying39 hi hz0 hz1 hz2 rfl (by decide) _ _ _ rfl (hown9.alloc _) ⟨w9.heap.size, 0, none⟩ 1 1 m.cells rfl rfl (msg_new _ _ _) (fun u hu => flat_one u [m] (by simpa [flat] using hu)) (by unfold maxLen; omega) (by omega) (by have := hS19.size; simp; omega) ?_; intro v3 w12 hown3 hgr3 _; have hS12 : Since w1 w12 := (hS19.alloc _).grown hgr3 (ownBlock_ge hown9))
    go_roundw
    case rel => exact ⟨⟨k + 1, by omega, by go_num, by rw [HF.out, List.length_append, flat_append]; simpa [flat] using hown3⟩, by assumption⟩
    case measure => simp [intOf]; omega
  ·obtain rfl : k = nd.held.length := by omega
   rw [List.take_of_length_le (Nat.le_refl _)] at hown
   have hown' : wr.ownsRow w1.heap.size 42 5 (.slice va ((nd.held.take nd.held.length).filter fun m => decide (m.st ≤ far)).length vcap) (readyL d n nd).length (flat (readyL d n nd)) := by
    rw [HRL.out]; rw [List.take_of_length_le (Nat.le_refl _)]; exact hown
   go_wp2
   go_ret
   exact ⟨_, rfl, ownsRow_base (by omega) hown', hS1.trans hS⟩
end Go.Proofs.YtiiifecfdkjmbaaGreat
