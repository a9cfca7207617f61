/- The iterator of package world that goes through all lists of messages: its contract; condition: the captured world lies below. -/
import Derived.Test.YtiiifecfdkjmbaaGreatDJudgeX
namespace Go.Proofs.YtiiifecfdkjmbaaGreat
set_option maxRecDepth 8000
open Go.RowKit Go.Shelf
attribute [local go_sem] Oper.semAt_some
def nodeLens (ns : List Nd) : List Nat := ns.flatMap fun nd => [nd.held.length, nd.told.length]
def wireLens (rs : List (List (List Mg))) : List Nat := rs.flatMap fun row => row.map List.length
def allLens (d : Wd) : List Nat := nodeLens d.nodes ++ wireLens d.wires
theorem nodeLens_take (ns : List Nd) (i : Nat) (h : i ≤ ns.length) : (nodeLens (ns.take i)).length = 2 * i := by
 unfold nodeLens
 rw [List.length_flatMap]
 have : ((ns.take i).map fun nd : Nd => [nd.held.length, nd.told.length].length) = List.replicate i 2 := by
  rw [List.eq_replicate_iff]
  refine ⟨by simp; omega, fun b hb => ?_⟩
  simp only [List.mem_map] at hb
  obtain ⟨_, _, rfl⟩ := hb; rfl
 rw [this]; simp [Nat.mul_comm]
theorem split_at {α : Type} {l : List α} {i : Nat} {x : α} (h : l[i]? = some x) : l = l.take i ++ x :: l.drop (i + 1) := by
 obtain ⟨hi, rfl⟩ := List.getElem?_eq_some_iff.1 h
 simp
theorem nodeLens_at {ns : List Nd} {i : Nat} {nd : Nd} (h : ns[i]? = some nd) : (nodeLens ns)[2 * i]? = some nd.held.length ∧ (nodeLens ns)[2 * i + 1]? = some nd.told.length := by
 have hl := nodeLens_take ns i (Nat.le_of_lt (List.getElem?_eq_some_iff.1 h).1)
 have e : nodeLens ns = nodeLens (ns.take i) ++ ([nd.held.length, nd.told.length] ++ nodeLens (ns.drop (i + 1))) := by
  conv => lhs; rw [split_at h]
  simp [nodeLens]
 rw [e]
 constructor
 ·rw [List.getElem?_append_right (by omega), hl]; simp
 ·rw [List.getElem?_append_right (by omega), hl]; simp
theorem nodeLens_len (ns : List Nd) : (nodeLens ns).length = 2 * ns.length := by
 have := nodeLens_take ns ns.length (Nat.le_refl _); rwa [List.take_length] at this
def wOff (rs : List (List (List Mg))) (f : Nat) : Nat := (wireLens (rs.take f)).length
theorem wOff_succ {rs : List (List (List Mg))} {f : Nat} {row : List (List Mg)} (h : rs[f]? = some row) : wOff rs (f + 1) = wOff rs f + row.length := by
 unfold wOff wireLens
 rw [List.take_add_one, h, List.flatMap_append, List.length_append]; simp
theorem wireLens_at {rs : List (List (List Mg))} {f t : Nat} {row : List (List Mg)} {l : List Mg} (h : rs[f]? = some row) (hl : row[t]? = some l) : (wireLens rs)[wOff rs f + t]? = some l.length := by
 have e : wireLens rs = wireLens (rs.take f) ++ (row.map List.length ++ wireLens (rs.drop (f + 1))) := by
  conv => lhs; rw [split_at h]
  simp [wireLens]
 have ht := (List.getElem?_eq_some_iff.1 hl).1
 rw [e, List.getElem?_append_right (by unfold wOff; omega)]
 unfold wOff
 rw [Nat.add_sub_cancel_left, List.getElem?_append_left (by simpa using ht)]
 simp [hl]
theorem lists_any (x : WV) (w : World) :
  Calls Tryz.prog 160 #[.agg #[.slice x.ga x.gl x.gc, .slice x.na x.nl x.nc, .slice x.wa x.wl x.wc]] w fun e w' => e = .returned (.func (.func 196) #[] #[.pointer (some ⟨w.heap.size, 0, none⟩)]) ∧ w' = w.alloc (.cells #[.slice x.ga x.gl x.gc, .slice x.na x.nl x.nc, .slice x.wa x.wl x.wc] 111) := by
 go_enter Tryz.func160, Tryz.ntmps160
 go_wp2
 go_ret
 exact ⟨rfl, rfl⟩
set_option maxRecDepth 100000 in
set_option maxHeartbeats 2000000 in
theorem lists_seq (m : Nat) (Bj : Nat) (w : World) (hBj : Bj < w.heap.size) (x : WV) (d : Wd) (hWA : WAt w x d)
  (c1 : w.cell? ⟨Bj, 1, none⟩ = some (.slice x.na x.nl x.nc)) (c2 : w.cell? ⟨Bj, 2, none⟩ = some (.slice x.wa x.wl x.wc)) :
  SeqP Tryz.prog m 196 #[.pointer (some ⟨Bj, 0, none⟩)] (fun s : Option Addr × Nat × Nat => #[.slice s.1 s.2.1 s.2.2]) (KX w.heap.size none) (fun i s => (allLens d)[i]? = some s.2.1) (fun _ => False) (allLens d).length w := by
 intro l J Jp W hW hJ _ hY h0
 obtain ⟨ga, gl, gc, na, nl, nc, wa, wl, wc⟩ := x
 have hwl := hWA.r.hlen
 have hwm := hWA.r.hmax
 have hnl := hWA.n.hlen
 have hnm := hWA.n.hmax
 dsimp only at hwl hwm hnl hnm c1 c2
 subst hwl hnl
 have C : ∀ W', Below w.heap.size W W' → Since w W' ∧ W'.cell? ⟨Bj, 1, none⟩ = some (.slice na d.nodes.length nc) ∧ W'.cell? ⟨Bj, 2, none⟩ = some (.slice wa d.wires.length wc) := fun W' h =>
  have hs : Since w W' := ⟨hW.below.trans h⟩
  ⟨hs, (hs.cellAt hBj _).trans c1, (hs.cellAt hBj _).trans c2⟩
 obtain ⟨-, d1, d2⟩ := C W (Below.refl _ _)
 refine callsIn_of_wp Tryz.func196 rfl trivial ?_ rfl
 simp only [Tryz.ntmps196, List.size_toArray, List.length_cons, List.length_nil, Nat.reduceAdd, Nat.reduceSub, Array.replicate_succ, Array.replicate_zero, List.push_toArray, List.append_toArray, List.nil_append, List.cons_append]
 gi_wp2
 gi_loopw [13] (fun i wr => ∃ k : Nat, k ≤ d.nodes.length ∧ i = .int .i64 k ∧ J (2 * k) wr ∧ Below w.heap.size W wr) (fun i _ => d.nodes.length - (intOf i).toNat)
 case atStart => exact ⟨0, Nat.zero_le _, rfl, h0, Below.refl _ _⟩
 case round =>
  obtain ⟨k, hk, rfl, hJs, hB⟩ := hrel
  obtain ⟨hSr, f1, f2⟩ := C wr hB
  by_cases hlt : k < d.nodes.length
  ·obtain ⟨nd, hnd⟩ : ∃ nd, d.nodes[k]? = some nd := ⟨_, List.getElem?_eq_getElem hlt⟩
   obtain ⟨bn, on, rfl, hbn, hcn⟩ := hWA.n.cells (by dsimp only; omega)
   obtain ⟨k0, ⟨v1, k1, la, lc, rfl, hlc, hL⟩, ⟨v2, k2, ha, hc, rfl, hhc, hH⟩, ⟨v3, k3, ta, tc, rfl, htc, hT⟩⟩ := hcn k nd hnd
   have j0 : wr.cell? ⟨bn, on + k * 4, none⟩ = _ := (hSr.cellAt hbn _).trans k0
   have j1 : wr.cell? ⟨bn, on + k * 4 + 1, none⟩ = _ := (hSr.cellAt hbn _).trans k1
   have j2 : wr.cell? ⟨bn, on + k * 4 + 2, none⟩ = _ := (hSr.cellAt hbn _).trans k2
   have j3 : wr.cell? ⟨bn, on + k * 4 + 3, none⟩ = _ := (hSr.cellAt hbn _).trans k3
   obtain ⟨e1, e2⟩ := nodeLens_at hnd
   have hll := nodeLens_len d.nodes
   have E1 : (allLens d)[2 * k]? = some nd.held.length := by unfold allLens; rw [List.getElem?_append_left (by omega)]; exact e1
   have E2 : (allLens d)[2 * k + 1]? = some nd.told.length := by unfold allLens; rw [List.getElem?_append_left (by omega)]; exact e2
   have hS1 : Since wr (wr.alloc (.cells #[.int .i64 nd.clock, .slice la nd.last.length lc, .slice ha nd.held.length hc, .slice ta nd.told.length tc] 45)) := (Since.refl wr).alloc _
   have hbb := World.alloc_heap_new wr (.cells #[.int .i64 nd.clock, .slice la nd.last.length lc, .slice ha nd.held.length hc, .slice ta nd.told.length tc] 45)
   obtain ⟨fn, tmps, assign, body, hy, hR⟩ := hY (2 * k) (ha, nd.held.length, hc) _ (hJ _ _ _ hJs hS1) (List.getElem?_eq_some_iff.1 E1).1 E1
   have HBB : Hid _ := hbb
   have HY : Hid _ := hY
   clear hY hcn k0 k1 k2 k3 hL hH hT hbb e1 e2 E1
   gi_wp2
   refine ⟨fun h => (by cases h), ?_⟩
   refine hR.mono ?_
   rintro e W3 (⟨rfl, hJ3, hk3⟩ | ⟨ch, rfl, hp3⟩)
   ·have t3 : W3.cell? ⟨wr.heap.size, 3, none⟩ = some (.slice ta nd.told.length tc) :=
     (World.cell?_of_block (w := wr.alloc (.cells #[.int .i64 nd.clock, .slice la nd.last.length lc, .slice ha nd.held.length hc, .slice ta nd.told.length tc] 45)) ((hk3.cells _ _ HBB.out rfl (by simp)).trans HBB.out.symm)).trans (by simp [go_sem])
    obtain ⟨fn2, tmps2, assign2, body2, hy2, hR2⟩ := HY.out (2 * k + 1) (ta, nd.told.length, tc) W3 hJ3 (List.getElem?_eq_some_iff.1 E2).1 E2
    have hB3 : Below w.heap.size W W3 := (hB.trans (hS1.below.mono hSr.size)).trans hk3.below
    clear hy hR
    gi_wp2
    refine ⟨fun h => (by cases h), ?_⟩
    refine hR2.mono ?_
    rintro e W4 (⟨rfl, hJ4, hk4⟩ | ⟨ch, rfl, hp4⟩)
    ·gi_wp2
     go_roundw
     case rel => exact ⟨k + 1, by omega, by simp, hJ4, hB3.trans hk4.below⟩
     case measure => simp [intOf]; omega
    ·exact ⟨rfl, .inr ⟨ch, rfl, hp4⟩⟩
   ·exact ⟨rfl, .inr ⟨ch, rfl, hp3⟩⟩
  ·obtain rfl : k = d.nodes.length := by omega
   gi_wp2
   gi_loopw [34] (fun i wr => ∃ f : Nat, f ≤ d.wires.length ∧ i = .int .i64 f ∧ J (2 * d.nodes.length + wOff d.wires f) wr ∧ Below w.heap.size W wr) (fun i _ => d.wires.length - (intOf i).toNat)
   case atStart => exact ⟨0, Nat.zero_le _, rfl, hJs, hB⟩
   case round =>
    obtain ⟨f, hf, rfl, hJf, hBf⟩ := hrel
    obtain ⟨hSf, g1, g2⟩ := C wr hBf
    by_cases hfl : f < d.wires.length
    ·obtain ⟨row, hrow⟩ : ∃ row, d.wires[f]? = some row := ⟨_, List.getElem?_eq_getElem hfl⟩
     obtain ⟨bL, oL, rfl, hbL, hcL⟩ := hWA.r.cells (by dsimp only; omega)
     obtain ⟨v4, k4, ra, rc, rfl, hrc, hR⟩ := hcL f row hrow
     have k5 : wr.cell? ⟨bL, oL + f, none⟩ = _ := (hSf.cellAt hbL _).trans k4
     have HROW : Hid (d.wires[f]? = some row) := hrow
     have hrm := hR.hmax
     clear hrow k4 hcL
     gi_wp2
     gi_loopw [40] (fun i wr => ∃ t : Nat, t ≤ row.length ∧ i = .int .i64 t ∧ J (2 * d.nodes.length + (wOff d.wires f + t)) wr ∧ Below w.heap.size W wr) (fun i _ => row.length - (intOf i).toNat)
     case atStart => exact ⟨0, Nat.zero_le _, rfl, hJf, hBf⟩
     case round =>
      obtain ⟨t, ht, rfl, hJt, hBt⟩ := hrel
      obtain ⟨hSt, -, -⟩ := C wr hBt
      by_cases htl : t < row.length
      ·obtain ⟨li, hli⟩ : ∃ li, row[t]? = some li := ⟨_, List.getElem?_eq_getElem htl⟩
       obtain ⟨bR, oR, rfl, hbR, hcR⟩ := hR.cells (by omega)
       obtain ⟨v6, k6, qa, qc, rfl, hqc, hM⟩ := hcR t li hli
       have k7 : wr.cell? ⟨bR, oR + t, none⟩ = _ := (hSt.cellAt hbR _).trans k6
       have E3 : (allLens d)[2 * d.nodes.length + (wOff d.wires f + t)]? = some li.length := by
        unfold allLens
        rw [List.getElem?_append_right (by rw [nodeLens_len]; omega), nodeLens_len, Nat.add_sub_cancel_left]
        exact wireLens_at HROW.out hli
       obtain ⟨fn, tmps, assign, body, hy, hR2⟩ := hY _ (qa, li.length, qc) wr hJt (List.getElem?_eq_some_iff.1 E3).1 E3
       clear hcR hli k6 hM E3 hY
       gi_wp2
       refine ⟨fun h => (by cases h), ?_⟩
       refine hR2.mono ?_
       rintro e W4 (⟨rfl, hJ4, hk4⟩ | ⟨ch, rfl, hp4⟩)
       ·gi_wp2
        go_roundw
        case rel => exact ⟨t + 1, by omega, by simp, hJ4, hBt.trans hk4.below⟩
        case measure => simp [intOf]; omega
       ·exact ⟨rfl, .inr ⟨ch, rfl, hp4⟩⟩
      ·obtain rfl : t = row.length := by omega
       gi_wp2
       go_roundw
       case rel => exact ⟨f + 1, by omega, by simp, by rw [wOff_succ HROW.out]; exact hJt, hBt⟩
       case measure => simp [intOf]; omega
    ·obtain rfl : f = d.wires.length := by omega
     gi_wp2
     go_end0
     refine .inl ⟨_, rfl, ?_⟩
     have : (allLens d).length = 2 * d.nodes.length + wOff d.wires d.wires.length := by
      unfold allLens wOff; rw [List.length_append, nodeLens_len, List.take_length]
     rw [this]; exact hJf
end Go.Proofs.YtiiifecfdkjmbaaGreat
