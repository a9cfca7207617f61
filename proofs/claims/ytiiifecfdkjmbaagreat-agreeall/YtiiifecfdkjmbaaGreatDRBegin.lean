/- Contract of furlongref.BeginOf; conditions: at most four nodes, at most three groups. -/
import Derived.Test.YtiiifecfdkjmbaaGreatDRegK
import Derived.Test.YtiiifecfdkjmbaaGreatDOwnX
namespace Go.Proofs.YtiiifecfdkjmbaaGreat
set_option maxRecDepth 8000
open Go.RowKit Go.Shelf
open _root_.Go.Proofs.YtiiifecfdkjmbaaGreat.Pure
def partD (nodes : Nat) (l : List Int) (k : Nat) : Wd := ⟨l, List.replicate k ⟨0, List.replicate l.length (List.replicate nodes 0), [], []⟩, List.replicate k (List.replicate nodes [])⟩
set_option maxHeartbeats 1000000 in
theorem beginOf_any (nodes : Nat) (hn : nodes ≤ 4) (l : List Int) (hl : l.length ≤ 3) (a : Option Addr) (cap : Nat) (w : World) (hI : Ints w a l.length l) :
  Calls Tryz.prog 129 #[.int .i64 nodes, .slice a l.length cap] w fun e w' => ∃ L, e = .returned (wval L (beginD nodes l)) ∧ OwnW w.heap.size w' (beginD nodes l) L ∧ Since w w' := by
 obtain ⟨w1, hw1⟩ : ∃ w1, w.alloc (.cells #[.slice none 0 0, .slice none 0 0, .slice none 0 0] 26) = w1 := ⟨_, rfl⟩
 have hS1 := sinceA hw1
 obtain ⟨w2, hw2⟩ : ∃ w2, w1.alloc (.cells #[] 3) = w2 := ⟨_, rfl⟩
 have hS12 := sinceA hw2
 have hS2 := hS1.trans hS12
 have hR2 : Row w2 w1.heap.size 1 ⟨some ⟨w1.heap.size, 0, none⟩, 0⟩ 0 [] := by rw [← hw2]; exact Row.empty w1 _ 1 _
 have hsz2 : w1.heap.size < w2.heap.size := by rw [← hw2]; simp
 have hrl0 : w.heap.size < w1.heap.size := by rw [← hw1]; simp
 have RB0 : ∀ y, Since w1 y → y.cell? ⟨w.heap.size, 0, none⟩ = some (.slice none 0 0) ∧ y.cell? ⟨w.heap.size, 1, none⟩ = some (.slice none 0 0) ∧ y.cell? ⟨w.heap.size, 2, none⟩ = some (.slice none 0 0) ∧ y.frozen? ⟨w.heap.size, 0, none⟩ = false ∧ y.frozen? ⟨w.heap.size, 1, none⟩ = false ∧ y.frozen? ⟨w.heap.size, 2, none⟩ = false := by
  intro y hy
  have hl : w.heap.size < w1.heap.size := by rw [← hw1]; simp
  have hc : ∀ o, y.cell? ⟨w.heap.size, o, none⟩ = w1.cell? ⟨w.heap.size, o, none⟩ := fun o => hy.cellAt hl o
  have hz : ∀ o, y.frozen? ⟨w.heap.size, o, none⟩ = w1.frozen? ⟨w.heap.size, o, none⟩ := fun o => hy.below.frozen (p := ⟨w.heap.size, o, none⟩) hl
  rw [hc, hc, hc, hz, hz, hz, ← hw1]
  simp [go_sem]
 go_enter Tryz.func129, Tryz.ntmps129
 go_wp2_with (at_builtin; refine wp_app etInt rfl _ _ 22 rfl rfl hR2 rfl (src_ints (hI.since hS2)) (by omega) hS12.size ?_; intro ga gc w3 hR3 hF3 hB3)
 clear hw1 hw2
 simp only [Nat.zero_add, List.nil_append] at hR3
 have hS3 : Since w2 w3 := by
  refine hF3.since (fun i _ e => ?_)
  unfold Sl.blk at e; simp at e
 obtain ⟨w4, hw4⟩ : ∃ w4, w3.alloc (.cells #[.slice ga l.length gc, .slice none 0 0, .slice none 0 0] 26) = w4 := ⟨_, rfl⟩
 rw [hw4]
 have hS34 := sinceA hw4
 have hM0 : MadeW w1.heap.size w4 w3.heap.size (partD nodes l 0) (fun ix => if ix = (0, 0, 0) then ⟨ga, gc⟩ else ⟨none, 0⟩) := by
  have hO := OwnW.start (gs := l) hR3 (by omega)
  refine ⟨hO.since hS34, ?_, fun hb => ?_⟩
  ·rw [← hw4]; constructor <;> simp [go_sem, partD]
  ·have := (hO.blk hb).2; omega
 have hS14 : Since w1 w4 := (hS12.trans hS3).trans hS34
 have hp3 : w1.heap.size ≤ w3.heap.size := (hS12.trans hS3).size
 have RB : Hid (∀ y, Since w1 y → y.cell? ⟨w.heap.size, 0, none⟩ = some (.slice none 0 0) ∧ y.cell? ⟨w.heap.size, 1, none⟩ = some (.slice none 0 0) ∧ y.cell? ⟨w.heap.size, 2, none⟩ = some (.slice none 0 0) ∧ y.frozen? ⟨w.heap.size, 0, none⟩ = false ∧ y.frozen? ⟨w.heap.size, 1, none⟩ = false ∧ y.frozen? ⟨w.heap.size, 2, none⟩ = false) := RB0
 have hI4 := (hI.since hS1).since hS14
 have hmk1 := fun y => run_make_row' (P := Tryz.prog) 22 3 (.int .i64 0) 8 (by kernel_rfl) (by kernel_rfl) rfl .i64 .i64 nodes (by omega) (by omega) y
 have hmk2 := fun y => run_make_row' (P := Tryz.prog) 40 39 (.slice none 0 0) 24 (by kernel_rfl) (by kernel_rfl) rfl .i64 .i64 nodes (by omega) (by omega) y
 clear hw4 hR3 hF3 hB3 hS34 hS3 hR2 hS12 hsz2 hS2 RB0
 go_loopw [6] (fun i wr => ∃ k : Nat, k ≤ nodes ∧ i = .int .i64 k ∧ (∃ L, MadeW w1.heap.size wr w3.heap.size (partD nodes l k) L) ∧ Since w1 wr) (fun i _ => nodes - (intOf i).toNat)
 case atStart => exact ⟨0, Nat.zero_le _, rfl, ⟨_, hM0⟩, hS14⟩
 case round =>
  obtain ⟨wo, rfl⟩ : ∃ wo, wo = wr := ⟨_, rfl⟩
  obtain ⟨k, hk, rfl, ⟨L, hM⟩, hSr⟩ := hrel
  clear hM0
  by_cases hlt : k < nodes
  ·go_wp2
   go_loopw [7, 8] (fun v i wi => ∃ (j : Nat) (sa : Option Addr) (sc : Nat) (rs : Nat → Sl), j ≤ l.length ∧ i = .int .i64 j ∧ v = .slice sa j sc ∧ OwnLL 1 intsV wo.heap.size wi ⟨sa, sc⟩ rs (List.replicate j (List.replicate nodes 0)) ∧ Since wo wi) (fun _ i _ => l.length - (intOf i).toNat)
   case atStart => exact ⟨0, none, 0, fun _ => ⟨none, 0⟩, Nat.zero_le _, rfl, rfl, OwnLL.nil, Since.refl _⟩
   case round =>
    obtain ⟨wi, rfl⟩ : ∃ wi, wi = wr := ⟨_, rfl⟩
    obtain ⟨j, sa, sc, rs, hj, rfl, rfl, hLL, hSi⟩ := hrel
    by_cases hjl : j < l.length
    ·have hbb : ∀ b, Sl.blk ⟨some ⟨wi.heap.size, 0, none⟩, nodes⟩ = some b → b = wi.heap.size := by
      intro b e; unfold Sl.blk at e; split at e
      ·cases e
      ·cases e; rfl
     have hS6 : Since wi (wi.alloc (.cells (madeCells #[.int .i64 0] nodes) 3)) := (Since.refl wi).alloc _
     have hS7 : Since wi ((wi.alloc (.cells (madeCells #[.int .i64 0] nodes) 3)).alloc (.cells #[.slice (some ⟨wi.heap.size, 0, none⟩) nodes nodes] 22)) := hS6.alloc _
     have hrow : Row (wi.alloc (.cells (madeCells #[.int .i64 0] nodes) 3)) wo.heap.size 1 ⟨some ⟨wi.heap.size, 0, none⟩, nodes⟩ nodes (intsV (List.replicate nodes 0)) := by
      have := Row.new wi wo.heap.size 1 (madeCells #[.int .i64 0] nodes) 3 nodes hSi.size (by rw [size_madeCells]; omega) (by unfold maxLen; omega)
      rw [made_list] at this
      unfold intsV; rw [List.map_replicate]; exact this
     have hsrc := src_new (size := 1) (T := 22) (w := wi.alloc (.cells (madeCells #[.int .i64 0] nodes) 3)) etInts.und [.slice (some ⟨wi.heap.size, 0, none⟩) nodes nodes] rfl (fun u hu => by simp at hu; subst hu; rfl) 1
     have hLL7 := hLL.since hS7
     have htop := hLL7.top
     simp only [List.length_replicate] at htop
     simp only [World.size_alloc] at hsrc
     go_wp2_with (at_builtin; refine wp_app etInts rfl _ _ 43 rfl rfl htop rfl hsrc ?_ ?_ ?_; omega; exact (Nat.le_trans hSi.size hS7.size); intro sa' sc' w8 hR8 hF8 hB8)
     go_roundw
     case rel =>
      have hp := hLL7.push (xs := List.replicate nodes 0) (r := ⟨some ⟨wi.heap.size, 0, none⟩, nodes⟩) (w' := w8) (s' := ⟨sa', sc'⟩) (by simpa using hrow.since ((Since.refl _).alloc _))
       (fun b e hb => by have := hbb b e; have := (hLL.blk hb).2; omega) (by simpa [Sl.v] using hR8) hF8 hB8
      refine ⟨j + 1, sa', sc', updN rs j ⟨some ⟨wi.heap.size, 0, none⟩, nodes⟩, by omega, by go_num, by go_num, ?_, ?_⟩
      ·rw [List.replicate_succ']; simpa using hp
      ·exact hF8.sinceBase (hSi.trans hS7) (fun i hi e => by have := (hLL.blk (.inl e)).1; omega)
     case measure => simp [intOf]; omega
    ·obtain rfl : j = l.length := by omega
     obtain ⟨x, hx⟩ : ∃ x : Nd, x = ⟨0, List.replicate l.length (List.replicate nodes 0), [], []⟩ := ⟨_, rfl⟩
     obtain ⟨na, nc, hL1⟩ : ∃ na nc, L (1, 0, 0) = ⟨na, nc⟩ := ⟨_, _, rfl⟩
     obtain ⟨ra, rc, hL2⟩ : ∃ ra rc, L (2, 0, 0) = ⟨ra, rc⟩ := ⟨_, _, rfl⟩
     have hMi := hM.since hSi
     have b1 : wi.cell? ⟨w3.heap.size, 1, none⟩ = some (.slice na k nc) := by have := hMi.box.c1; rw [hL1] at this; simpa [partD] using this
     have z1 := hMi.box.z1
     have hpl := hMi.box.lt
     have hRn : Row wi w1.heap.size 4 ⟨na, nc⟩ k (cellsI (partD nodes l k) L (1, 0, 0)) := by
      have : Row wi w1.heap.size 4 (L (1, 0, 0)) (partD nodes l k).nodes.length (cellsI (partD nodes l k) L (1, 0, 0)) := hMi.own.row (1, 0, 0) ⟨rfl, rfl⟩
      rw [hL1] at this; simpa [partD] using this
     have hsrc := src_new (size := 4) (T := 45) (w := wi) etNode.und [.int .i64 0, .slice sa l.length sc, .slice none 0 0, .slice none 0 0] rfl (fun u hu => by simp at hu; rcases hu with rfl | rfl | rfl <;> rfl) 1
     have hS9 : Since wi (wi.alloc (.cells #[.int .i64 0, .slice sa l.length sc, .slice none 0 0, .slice none 0 0] 45)) := (Since.refl wi).alloc _
     have hS19 := hSr.trans (hSi.trans hS9)
     go_wp2_with (at_builtin; refine wp_app etNode rfl _ _ 23 rfl rfl (hRn.since hS9) rfl hsrc ?_ ?_ ?_; omega; exact hS19.size; intro na' nc' w10 hR10 hF10 hB10; have hb10 := (hMi.box.since hS9).fr hF10 (fun e => hM.off ⟨(1, 0, 0), ⟨rfl, rfl⟩, by rw [hL1]; exact e⟩); have q1 := hb10.c1; have q2 := hb10.z1)
     have hNd : OwnNd wo.heap.size (wi.alloc (.cells #[.int .i64 0, .slice sa l.length sc, .slice none 0 0, .slice none 0 0] 45)) x ⟨sa, sc⟩ rs ⟨none, 0⟩ ⟨none, 0⟩ := by
      rw [hx]
      exact ⟨hLL.since hS9, Row.nil _ _ _, Row.nil _ _ _, fun b e => (by cases e), fun b e => (by cases e)⟩
     have hM11 := hM.addNode (a' := na') (c' := nc') (w' := w10) (hSi.trans hS9) hNd hSr.size (by rw [hx]; refine ⟨by simp; omega, fun i r hr => ?_, by simp, by simp⟩; (have := List.getElem?_eq_some_iff.1 hr; obtain ⟨h1, h2⟩ := this; simp at h2; rw [← h2]; simp; omega)) (by simp [partD]; omega)
      (by rw [hx]; simpa [partD, Sl.v] using hR10) (by rw [hL1]; exact hF10) (by rw [hL1]; exact hB10)
     obtain ⟨w11, hw11⟩ : ∃ w11, w10.setCell ⟨w3.heap.size, 1, none⟩ (.slice na' (k + 1) nc') = w11 := ⟨_, rfl⟩
     have hl11 : (partD nodes l k).nodes.length = k := by simp [partD]
     rw [hl11, hw11] at hM11
     rw [hw11]
     have hS11 : Since w1 w11 := by
      rw [← hw11]
      refine Fr.sinceBase (B := fun i => ¬ i < w1.heap.size) ((hF10.mono (fun i _ e => ?_)).setCell _ _ ?_) hS19 (fun i hi h => h hi)
      ·have := (hM.own.blk ⟨(1, 0, 0), ⟨rfl, rfl⟩, by rw [hL1]; exact e⟩).1; omega
      ·intro _; show ¬ w3.heap.size < _; omega
     obtain ⟨d11, hd11⟩ : ∃ d : Wd, { (partD nodes l k) with nodes := (partD nodes l k).nodes ++ [x] } = d := ⟨_, rfl⟩
     rw [hd11] at hM11
     obtain ⟨L11, hL11⟩ : ∃ L' : Lay, layNode L k ⟨na', nc'⟩ ⟨sa, sc⟩ rs ⟨none, 0⟩ ⟨none, 0⟩ = L' := ⟨_, rfl⟩
     rw [hL11] at hM11
     obtain ⟨ra, rc, hL2⟩ : ∃ ra rc, L11 (2, 0, 0) = ⟨ra, rc⟩ := ⟨_, _, rfl⟩
     have hwl : d11.wires.length = k := by rw [← hd11]; simp [partD]
     have b2 : w11.cell? ⟨w3.heap.size, 2, none⟩ = some (.slice ra k rc) := by have := hM11.box.c2; rw [hL2, hwl] at this; exact this
     have z2 := hM11.box.z2
     have hRw : Row w11 w1.heap.size 1 ⟨ra, rc⟩ k (cellsI d11 L11 (2, 0, 0)) := by
      have : Row w11 w1.heap.size 1 (L11 (2, 0, 0)) d11.wires.length (cellsI d11 L11 (2, 0, 0)) := hM11.own.row (2, 0, 0) ⟨rfl, rfl⟩
      rw [hL2, hwl] at this; exact this
     clear hL1 hMi b1 z1 hRn hsrc hR10 hF10 hB10 hb10 q1 q2 hNd hLL hM hw11 hL11 hS9 hS19 hSi hmk1
     have hS12 : Since w11 ((w11.alloc (.cells (madeCells #[.slice none 0 0] nodes) 39)).alloc (.cells #[.slice (some ⟨w11.heap.size, 0, none⟩) nodes nodes] 40)).drew := Since.drew (((Since.refl _).alloc _).alloc _)
     have hsrcW := src_new_drew (size := 1) (T := 40) (w := w11.alloc (.cells (madeCells #[.slice none 0 0] nodes) 39)) etWires.und [.slice (some ⟨w11.heap.size, 0, none⟩) nodes nodes] rfl (fun u hu => by simp at hu; subst hu; rfl) 1
     simp only [World.size_alloc] at hsrcW
     have hlo11 := Nat.le_trans hS11.size hS12.size
     obtain ⟨S0, hS0⟩ : ∃ S0 : World → Prop, ∀ w', S0 w' ↔ w'.cell? ⟨w3.heap.size, 2, none⟩ = some (.slice ra k rc) := ⟨_, fun _ => Iff.rfl⟩
     have hc2 : ∀ x : HeldW S0, x.w.cell? ⟨w3.heap.size, 2, none⟩ = some (.slice ra k rc) := fun x => (hS0 _).1 x.h
     have hp11 : w3.heap.size < w11.heap.size := hM11.box.lt
     have KS : Hid (∀ y, Since w11 y → S0 y) := fun y hy => (hS0 y).2 ((hy.cellAt hp11 _).trans b2)
     have hSi := KS.out w11.drew (Since.drew (Since.refl _))
     have hne : Nonempty (HeldW S0) := ⟨⟨_, hSi⟩⟩
     refine beginL (fun w' => ∃ x : HeldW S0, w' = x.w) (by kernel_rfl) ?_
     refine tL 0 rfl (heldS_mk hSi) ?_
     go_big_quiet_op
     refine tL 1 rfl (heldS_mk hSi) ?_
     go_big_quiet_op
     refine tL 2 rfl (heldS_mk hSi) ?_
     go_big_quiet_op
     refine actL 3 rfl (by kernel_rfl) ?_
     intro K hK
     go_simp
     refine hK _ _ (fun _ _ => heldS_mk (KS.out _ (Since.drew ((Since.refl _).alloc _)))) ?_
     clear hK K
     refine actL 4 rfl (by kernel_rfl) ?_
     intro K hK
     go_simp
     refine hK _ _ (fun _ _ => heldS_mk (KS.out _ hS12)) ?_
     clear hK K
     refine actL 5 rfl (by kernel_rfl) ?_
     intro K hK
     refine step_app etWires (by rfl) _ _ 24 (by rfl) (by rfl) (hRw.since hS12) (by rfl) hsrcW (by omega) hlo11 ?_
     intro ra' rc' w12 hR12 hF12 hB12
     have hb12 := (hM11.box.since hS12).fr hF12 (fun e => hM11.off ⟨(2, 0, 0), ⟨rfl, rfl⟩, by rw [hL2]; exact e⟩)
     have hSj : S0 w12 := (hS0 _).2 (by have := hb12.c2; rw [hL2, hwl] at this; exact this)
     have q2 := hb12.c2
     have q3 := hb12.z2
     refine hK _ _ (fun _ _ => heldS_mk hSj) ?_
     clear hK K
     simp only [Act.put, List.setIfInBounds_toArray, List.set_cons_zero, List.set_cons_succ]
     refine tL 6 rfl (heldS_mk hSj) ?_
     go_big_quiet_op
     refine actL 7 rfl (by kernel_rfl) ?_
     intro K hK
     go_simp
     refine hK _ _ (fun h => absurd h (by decide +kernel)) ?_
     clear hK K
     have hM12 := hM11.addRow (a' := ra') (c' := rc') (w' := w12) (x := List.replicate nodes []) hS12 ((OwnLL.made (α := Mg) (sz := 5) (enc := flat) rfl w11.heap.size w11 nodes 39 (Nat.le_refl _) (by unfold maxLen; omega)).since (Since.drew ((Since.refl _).alloc _))) hS11.size
      ⟨by simp; omega, fun i r hr => by have := List.getElem?_eq_some_iff.1 hr; obtain ⟨h1, h2⟩ := this; simp at h2; first | (rw [h2]; simp) | (rw [← h2]; simp)⟩ (by omega) (by rw [hwl, List.length_replicate]; exact hR12) (by rw [hL2]; exact hF12) (by rw [hL2]; exact hB12)
     rw [hwl] at hM12
     have hdE : ({ d11 with wires := d11.wires ++ [List.replicate nodes []] } : Wd) = partD nodes l (k + 1) := by
      rw [← hd11, hx]; simp [partD, List.replicate_succ']
     rw [hdE] at hM12
     have hS13 : Since w1 (w12.setCell ⟨w3.heap.size, 2, none⟩ (.slice ra' (k + 1) rc')) := by
      refine Fr.sinceBase (B := fun i => ¬ i < w1.heap.size) ((hF12.mono (fun i _ e => ?_)).setCell _ _ ?_) (hS11.trans hS12) (fun i hi h => h hi)
      ·have := (hM11.own.blk ⟨(2, 0, 0), ⟨rfl, rfl⟩, by rw [hL2]; exact e⟩).1; omega
      ·intro _; show ¬ w3.heap.size < _; omega
     refine doneK (by kernel_rfl) ?_
     go_wp2
     exact ⟨⟨k + 1, by omega, by go_num, ⟨_, hM12⟩, hS13⟩, by simp [intOf]; omega⟩
  ·obtain rfl : k = nodes := by omega
   obtain ⟨r0, r1, r2, r3, r4, r5⟩ := RB.out _ hSr
   have b0 := hM.box.c0
   have b1 := hM.box.c1
   have b2 := hM.box.c2
   go_wp2
   have hrl : w.heap.size < w1.heap.size := hrl0
   have hoff : ¬ blkW (partD k l k) L w.heap.size := fun hb => by have := (hM.own.blk hb).1; omega
   have hO := ((hM.own.setOff (p := ⟨w.heap.size, 0, none⟩) hoff (.slice (L (0, 0, 0)).a (partD k l k).groups.length (L (0, 0, 0)).cap)).setOff (p := ⟨w.heap.size, 1, none⟩) hoff (.slice (L (1, 0, 0)).a (partD k l k).nodes.length (L (1, 0, 0)).cap)).setOff (p := ⟨w.heap.size, 2, none⟩) hoff (.slice (L (2, 0, 0)).a (partD k l k).wires.length (L (2, 0, 0)).cap)
   refine bodyPost_ret (v := wval L (partD k l k)) ?_ rfl ⟨L, rfl, hO.mono hS1.size, ?_⟩
   ·simp [results, Tryz.results129, go_sem, r0, r1, r2, wval]
   ·have hF : Fr (fun i => i = w.heap.size) wo wo := Fr.refl _ _
    exact (((hF.setCell ⟨w.heap.size, 0, none⟩ _ (fun _ => rfl)).setCell ⟨w.heap.size, 1, none⟩ _ (fun _ => rfl)).setCell ⟨w.heap.size, 2, none⟩ _ (fun _ => rfl)).sinceBase (hS1.trans hSr) (fun i hi e => by omega)
end Go.Proofs.YtiiifecfdkjmbaaGreat
