/- Stores into a box of three cells; no condition but that the cells are there. Contracts of slices.Clone at ints, at messages and at nodes: the copy lies in new memory; conditions: the lists are short. Contracts of sea.ownAll at ints and at messages: each list in new memory; conditions: the lists are short. Nodes that are made one's own in their place, one by one: what each step makes of the memory; conditions: short lists. -/
import Derived.Test.YtiiifecfdkjmbaaGreatDOwnX
import Derived.Test.YtiiifecfdkjmbaaGreatDRegK
namespace Go.Proofs.YtiiifecfdkjmbaaGreat
set_option maxRecDepth 8000
open Go.RowKit Go.Shelf
theorem addr_ne {p o q : Nat} (h : o ≠ q) : (⟨p, o, none⟩ : Addr) ≠ ⟨p, q, none⟩ := fun e => h (by injection e)
theorem set_ne (w : World) (p : Nat) {o q : Nat} (v : Value) (h : o ≠ q) : (w.setCell ⟨p, o, none⟩ v).cell? ⟨p, q, none⟩ = w.cell? ⟨p, q, none⟩ := World.cell?_setCell_other _ _ _ _ (addr_ne h)
theorem set_eq (w : World) (p o : Nat) (v : Value) {u : Value} (h : w.cell? ⟨p, o, none⟩ = some u) : (w.setCell ⟨p, o, none⟩ v).cell? ⟨p, o, none⟩ = some v := World.cell?_setCell_same' _ _ _ (by rw [h]; rfl)
def put3 (w : World) (p : Nat) (a b c : Value) : World := ((w.setCell ⟨p, 0, none⟩ a).setCell ⟨p, 1, none⟩ b).setCell ⟨p, 2, none⟩ c
theorem put3_0 {w : World} {p : Nat} {a b c u : Value} (h : w.cell? ⟨p, 0, none⟩ = some u) : (put3 w p a b c).cell? ⟨p, 0, none⟩ = some a :=
 (set_ne _ _ _ (by decide)).trans ((set_ne _ _ _ (by decide)).trans (set_eq _ _ _ _ h))
theorem put3_1 {w : World} {p : Nat} {a b c u : Value} (h : w.cell? ⟨p, 1, none⟩ = some u) : (put3 w p a b c).cell? ⟨p, 1, none⟩ = some b :=
 (set_ne _ _ _ (by decide)).trans (set_eq _ _ _ _ ((set_ne _ _ _ (by decide)).trans h))
theorem put3_2 {w : World} {p : Nat} {a b c u : Value} (h : w.cell? ⟨p, 2, none⟩ = some u) : (put3 w p a b c).cell? ⟨p, 2, none⟩ = some c :=
 set_eq _ _ _ _ ((set_ne _ _ _ (by decide)).trans ((set_ne _ _ _ (by decide)).trans h))
theorem put3_z (w : World) (p : Nat) (a b c : Value) (x : Addr) : (put3 w p a b c).frozen? x = w.frozen? x := by
 unfold put3; rw [World.frozen?_setCell, World.frozen?_setCell, World.frozen?_setCell]
theorem put3_fr (w : World) (p : Nat) (a b c : Value) : Fr (fun i => i = p) w (put3 w p a b c) := by
 have h0 : Fr (fun i => i = p) w w := Fr.refl _ _
 exact ((h0.setCell ⟨p, 0, none⟩ a (fun _ => rfl)).setCell ⟨p, 1, none⟩ b (fun _ => rfl)).setCell ⟨p, 2, none⟩ c (fun _ => rfl)
def put4 (w : World) (p : Nat) (a b c d : Value) : World := (((w.setCell ⟨p, 0, none⟩ a).setCell ⟨p, 1, none⟩ b).setCell ⟨p, 2, none⟩ c).setCell ⟨p, 3, none⟩ d
theorem put4_fr (w : World) (p : Nat) (a b c d : Value) : Fr (fun i => i = p) w (put4 w p a b c d) := by
 have h0 : Fr (fun i => i = p) w w := Fr.refl _ _
 exact (((h0.setCell ⟨p, 0, none⟩ a (fun _ => rfl)).setCell ⟨p, 1, none⟩ b (fun _ => rfl)).setCell ⟨p, 2, none⟩ c (fun _ => rfl)).setCell ⟨p, 3, none⟩ d (fun _ => rfl)
structure NdBox (w : World) (p : Nat) (v l h t : Value) : Prop where
 lt : p < w.heap.size
 c0 : w.cell? ⟨p, 0, none⟩ = some v
 c1 : w.cell? ⟨p, 1, none⟩ = some l
 c2 : w.cell? ⟨p, 2, none⟩ = some h
 c3 : w.cell? ⟨p, 3, none⟩ = some t
 z0 : w.frozen? ⟨p, 0, none⟩ = false
 z1 : w.frozen? ⟨p, 1, none⟩ = false
 z2 : w.frozen? ⟨p, 2, none⟩ = false
 z3 : w.frozen? ⟨p, 3, none⟩ = false
theorem NdBox.fr {B : Nat → Prop} {w w' : World} {p : Nat} {v l h t : Value} (b : NdBox w p v l h t) (k : Fr B w w') (hB : ¬ B p) : NdBox w' p v l h t :=
 ⟨Nat.lt_of_lt_of_le b.lt k.size, (k.cell (p := ⟨p, 0, none⟩) b.lt hB).trans b.c0, (k.cell (p := ⟨p, 1, none⟩) b.lt hB).trans b.c1, (k.cell (p := ⟨p, 2, none⟩) b.lt hB).trans b.c2, (k.cell (p := ⟨p, 3, none⟩) b.lt hB).trans b.c3,
  (k.frozen (p := ⟨p, 0, none⟩) b.lt hB).trans b.z0, (k.frozen (p := ⟨p, 1, none⟩) b.lt hB).trans b.z1, (k.frozen (p := ⟨p, 2, none⟩) b.lt hB).trans b.z2, (k.frozen (p := ⟨p, 3, none⟩) b.lt hB).trans b.z3⟩
theorem NdBox.since {w w' : World} {p : Nat} {v l h t : Value} (b : NdBox w p v l h t) (k : Since w w') : NdBox w' p v l h t := b.fr (k.fr fun _ => False) (fun x => x)
theorem NdBox.new (w : World) (T : TypeId) (v l h t : Value) : NdBox (w.alloc (.cells #[v, l, h, t] T)) w.heap.size v l h t := by
 constructor <;> simp [go_sem]
theorem NdBox.put {w : World} {p : Nat} {v l h t : Value} (b : NdBox w p v l h t) (v' l' h' t' : Value) : NdBox (put4 w p v' l' h' t') p v' l' h' t' := by
 have z : ∀ o, (put4 w p v' l' h' t').frozen? ⟨p, o, none⟩ = w.frozen? ⟨p, o, none⟩ := fun o => by
  unfold put4; rw [World.frozen?_setCell, World.frozen?_setCell, World.frozen?_setCell, World.frozen?_setCell]
 exact ⟨Nat.lt_of_lt_of_le b.lt (put4_fr w p v' l' h' t').size,
  (set_ne _ _ _ (by decide)).trans ((set_ne _ _ _ (by decide)).trans ((set_ne _ _ _ (by decide)).trans (set_eq _ _ _ _ b.c0))),
  (set_ne _ _ _ (by decide)).trans ((set_ne _ _ _ (by decide)).trans (set_eq _ _ _ _ ((set_ne _ _ _ (by decide)).trans b.c1))),
  (set_ne _ _ _ (by decide)).trans (set_eq _ _ _ _ ((set_ne _ _ _ (by decide)).trans ((set_ne _ _ _ (by decide)).trans b.c2))),
  set_eq _ _ _ _ ((set_ne _ _ _ (by decide)).trans ((set_ne _ _ _ (by decide)).trans ((set_ne _ _ _ (by decide)).trans b.c3))),
  (z 0).trans b.z0, (z 1).trans b.z1, (z 2).trans b.z2, (z 3).trans b.z3⟩
end Go.Proofs.YtiiifecfdkjmbaaGreat
namespace Go.Proofs.YtiiifecfdkjmbaaGreat
set_option maxRecDepth 8000
open Go.RowKit Go.Shelf
open _root_.Go.Proofs.YtiiifecfdkjmbaaGreat.Pure
set_option linter.unusedVariables false
set_option linter.unusedSimpArgs false
abbrev Hd := Value × Value × Value
def hdCells (ns : List Nd) (H : Nat → Hd) (i : Nat) : List Value := [intV (ns[i]?.getD ⟨0, [], [], []⟩).clock, (H i).1, (H i).2.1, (H i).2.2]
def rawNodes (ns : List Nd) (H : Nat → Hd) : List Value := (List.range ns.length).flatMap (hdCells ns H)
def HdOk (w : World) (ns : List Nd) (H : Nat → Hd) : Prop := ∀ i x, ns[i]? = some x → VSlices VInts w (H i).1 x.last ∧ VMsgs w (H i).2.1 x.held ∧ VMsgs w (H i).2.2 x.told
theorem HdOk.since {w w' : World} {ns : List Nd} {H : Nat → Hd} (h : HdOk w ns H) (k : Since w w') : HdOk w' ns H := fun i x hx =>
 ⟨vslices_stable vints_stable _ _ _ _ k (h i x hx).1, vmsgs_stable _ _ _ _ k (h i x hx).2.1, vmsgs_stable _ _ _ _ k (h i x hx).2.2⟩
theorem raw_get {ns : List Nd} {H : Nat → Hd} {i j : Nat} (hi : i < ns.length) (hj : j < 4) : (rawNodes ns H)[i * 4 + j]? = (hdCells ns H i)[j]? := range_flat_get (f := hdCells ns H) (sz := 4) (fun _ => rfl) i j hi hj
end Go.Proofs.YtiiifecfdkjmbaaGreat
namespace Go.Proofs.YtiiifecfdkjmbaaGreat
set_option maxRecDepth 8000
open Go.RowKit Go.Shelf
open _root_.Go.Proofs.YtiiifecfdkjmbaaGreat.Pure
set_option linter.unusedVariables false
set_option linter.unusedSimpArgs false
end Go.Proofs.YtiiifecfdkjmbaaGreat
namespace Go.Proofs.YtiiifecfdkjmbaaGreat
set_option maxRecDepth 8000
open Go.RowKit Go.Shelf
open _root_.Go.Proofs.YtiiifecfdkjmbaaGreat.Pure
set_option linter.unusedVariables false
theorem Row.uniq {w : World} {lo lo' sz : Nat} {s : Sl} {n : Nat} {xs ys : List Value} (h : Row w lo sz s n xs) (k : Row w lo' sz s n ys) : xs = ys := by
 have h1 := h.len
 have h2 := k.len
 by_cases hc : 0 < s.cap
 ·obtain ⟨b, off, e, _, _, _, hx⟩ := h.body hc
  obtain ⟨b', off', e', _, _, _, hy⟩ := k.body hc
  rw [e] at e'
  cases e'
  refine List.ext_getElem? fun j => ?_
  by_cases hj : j < n * sz
  ·have a1 := hx j _ (List.getElem?_eq_getElem (by omega))
   have a2 := hy j _ (List.getElem?_eq_getElem (by omega))
   rw [a1] at a2
   rw [List.getElem?_eq_getElem (by omega), List.getElem?_eq_getElem (by omega)]
   exact a2
  ·rw [List.getElem?_eq_none (by omega), List.getElem?_eq_none (by omega)]
 ·have : n = 0 := by have := h.cap; omega
  subst this
  have e1 : xs = [] := List.eq_nil_of_length_eq_zero (by simpa using h1)
  have e2 : ys = [] := List.eq_nil_of_length_eq_zero (by simpa using h2)
  rw [e1, e2]
theorem set3 {A R : List Value} {c0 h1 h2 h3 v1 v2 v3 : Value} {n : Nat} (hA : A.length = n) :
  (((A ++ ([c0, h1, h2, h3] ++ R)).set (n + 1) v1).set (n + 2) v2).set (n + 3) v3 = A ++ ([c0, v1, v2, v3] ++ R) := by
 subst hA
 simp [List.set_append_right]
theorem raw_drop {ns : List Nd} {H : Nat → Hd} {k : Nat} (hk : k < ns.length) : (rawNodes ns H).drop (k * 4) = hdCells ns H k ++ (rawNodes ns H).drop ((k + 1) * 4) := by
 refine List.ext_getElem? fun j => ?_
 rw [List.getElem?_drop]
 by_cases hj : j < 4
 ·rw [raw_get hk hj, List.getElem?_append_left (by simpa [hdCells] using hj)]
 ·rw [List.getElem?_append_right (by simp [hdCells]; omega), List.getElem?_drop]
  congr 1
  simp [hdCells]; omega
structure PartN (lo : Nat) (w : World) (p : Nat) (gs : List Int) (ns : List Nd) (H : Nat → Hd) (nsl : Sl) (k : Nat) (L : Lay) : Prop where
 own : OwnW lo w ⟨gs, ns.take k, []⟩ L
 l1 : L (1, 0, 0) = nsl
 l2 : L (2, 0, 0) = ⟨none, 0⟩
 full : Row w lo 4 nsl ns.length (cellsI ⟨gs, ns.take k, []⟩ L (1, 0, 0) ++ (rawNodes ns H).drop (k * 4))
 lt : p < w.heap.size
 c0 : w.cell? ⟨p, 0, none⟩ = some (.slice (L (0, 0, 0)).a gs.length (L (0, 0, 0)).cap)
 c1 : w.cell? ⟨p, 1, none⟩ = some (.slice nsl.a ns.length nsl.cap)
 c2 : w.cell? ⟨p, 2, none⟩ = some (.slice none 0 0)
 z0 : w.frozen? ⟨p, 0, none⟩ = false
 z1 : w.frozen? ⟨p, 1, none⟩ = false
 z2 : w.frozen? ⟨p, 2, none⟩ = false
 off : ¬ blkW ⟨gs, ns.take k, []⟩ L p
theorem PartN.step {lo : Nat} {w wB : World} {p : Nat} {gs : List Int} {ns : List Nd} {H : Nat → Hd} {nsl : Sl} {k : Nat} {L : Lay} (h : PartN lo w p gs ns H nsl k L) {x : Nd} (hx : ns[k]? = some x) (hS : Since w wB) {ls : Sl} {rs : Nat → Sl} {hs ts : Sl}
  (hn : OwnNd w.heap.size wB x ls rs hs ts) (hlo : lo ≤ w.heap.size) (hsm : smallNd x) (hN : ns.length ≤ 1000) {b off cap : Nat} (he : nsl = ⟨some ⟨b, off, none⟩, cap⟩) :
  PartN lo (((wB.setCell ⟨b, off + k * 4 + 1, none⟩ (ls.v x.last.length)).setCell ⟨b, off + k * 4 + 2, none⟩ (hs.v x.held.length)).setCell ⟨b, off + k * 4 + 3, none⟩ (ts.v x.told.length)) p gs ns H nsl (k + 1) (layNode L k nsl ls rs hs ts) := by
 have hk := (List.getElem?_eq_some_iff.1 hx).1
 have hlen : (ns.take k).length = k := by rw [List.length_take]; omega
 obtain ⟨A, hA⟩ : ∃ A, cellsI ⟨gs, ns.take k, []⟩ L (1, 0, 0) = A := ⟨_, rfl⟩
 have hAl : A.length = k * 4 := by
  have : Row w lo 4 (L (1, 0, 0)) (ns.take k).length (cellsI ⟨gs, ns.take k, []⟩ L (1, 0, 0)) := h.own.row (1, 0, 0) ⟨rfl, rfl⟩
  have := this.len
  rw [hA, hlen] at this; exact this
 have hcapN : ns.length ≤ cap := by have := h.full.cap; rw [he] at this; exact this
 have hnb : nsl.blk = some b := by rw [he]; unfold Sl.blk; rw [if_neg (by dsimp only; omega)]; rfl
 have hbW : blkW ⟨gs, ns.take k, []⟩ L b := ⟨(1, 0, 0), ⟨rfl, rfl⟩, by rw [h.l1]; exact hnb⟩
 have hbl := h.own.blk hbW
 have hpb : p ≠ b := fun e => h.off (e ▸ hbW)
 obtain ⟨W', hW'⟩ : ∃ W', ((wB.setCell ⟨b, off + k * 4 + 1, none⟩ (ls.v x.last.length)).setCell ⟨b, off + k * 4 + 2, none⟩ (hs.v x.held.length)).setCell ⟨b, off + k * 4 + 3, none⟩ (ts.v x.told.length) = W' := ⟨_, rfl⟩
 have hF : Fr (fun i => i = b) wB W' := by
  rw [← hW']
  exact (((Fr.refl (fun i => i = b) wB).setCell ⟨b, off + k * 4 + 1, none⟩ _ (fun _ => rfl)).setCell ⟨b, off + k * 4 + 2, none⟩ _ (fun _ => rfl)).setCell ⟨b, off + k * 4 + 3, none⟩ _ (fun _ => rfl)
 have hF2 : Fr (fun i => i = b) w W' := (hS.fr _).trans hF (fun _ _ e => e) (fun _ _ e => e)
 have hfull : Row W' lo 4 nsl ns.length (A ++ ([.int .i64 x.clock, ls.v x.last.length, hs.v x.held.length, ts.v x.told.length] ++ (rawNodes ns H).drop ((k + 1) * 4))) := by
  have h0 := h.full.since hS
  rw [hA, raw_drop hk, he] at h0
  unfold hdCells at h0
  rw [hx] at h0
  dsimp only [Option.getD_some] at h0
  have h1 := ((h0.set (k * 4 + 1) (by omega) (ls.v x.last.length)).set (k * 4 + 2) (by omega) (hs.v x.held.length)).set (k * 4 + 3) (by omega) (ts.v x.told.length)
  rw [set3 hAl] at h1
  rw [he, ← hW']
  rw [Nat.add_assoc off (k * 4) 1, Nat.add_assoc off (k * 4) 2, Nat.add_assoc off (k * 4) 3]
  exact h1
 have htk : Row W' lo 4 nsl (k + 1) (A ++ [.int .i64 x.clock, ls.v x.last.length, hs.v x.held.length, ts.v x.told.length]) := by
  have := hfull.take (k + 1) (by omega)
  rw [← List.append_assoc, List.take_left' (by simp [hAl]; omega)] at this
  exact this
 have hnew : ∀ c, blkNd x ls rs hs ts c → w.heap.size ≤ c := by
  rintro c (hc | hc | hc)
  ·exact (hn.last.blk hc).1
  ·exact hn.held.blk_ge c hc
  ·exact hn.told.blk_ge c hc
 have hn' : OwnNd lo W' x ls rs hs ts := by
  have := hn.fr hF (fun c hc e => by have := hnew c hc; omega)
  exact ⟨this.last.mono hlo, this.held.mono hlo, this.told.mono hlo, this.d1, this.d2⟩
 have hown := h.own.addNode (w' := W') (by exact hF2.size) (s := nsl) hn' hsm (by show (ns.take k).length + 1 ≤ 1000; omega)
  (fun c hc => by
   have h1 := hnew c hc
   refine ⟨fun hb => ?_, fun e => ?_⟩
   ·have := (h.own.blk hb).2; omega
   ·rw [hnb] at e; cases e; omega)
  (by show Row W' lo 4 nsl ((ns.take k).length + 1) _; rw [hA, hlen]; exact htk)
  (fun c hc hne => hF2.block c (h.own.blk hc).2 (fun e => hne (by rw [h.l1, hnb, e])))
  (fun c hc => .inl (by rw [h.l1]; exact hc))
 have hd' : (⟨gs, ns.take k ++ [x], []⟩ : Wd) = ⟨gs, ns.take (k + 1), []⟩ := by rw [List.take_add_one, hx]; rfl
 have hown2 : OwnW lo W' ⟨gs, ns.take (k + 1), []⟩ (layNode L k nsl ls rs hs ts) := by
  have h1 : OwnW lo W' ⟨gs, ns.take k ++ [x], []⟩ (layNode L (ns.take k).length nsl ls rs hs ts) := hown
  rw [hd', hlen] at h1; exact h1
 have e0 : layNode L k nsl ls rs hs ts (0, 0, 0) = L (0, 0, 0) := by unfold layNode; simp
 have e1 : layNode L k nsl ls rs hs ts (1, 0, 0) = nsl := by unfold layNode; simp
 have e2 : layNode L k nsl ls rs hs ts (2, 0, 0) = L (2, 0, 0) := by unfold layNode; simp
 have hcells : cellsI ⟨gs, ns.take (k + 1), []⟩ (layNode L k nsl ls rs hs ts) (1, 0, 0) = A ++ [.int .i64 x.clock, ls.v x.last.length, hs.v x.held.length, ts.v x.told.length] := by
  have h1 : Row W' lo 4 (layNode L k nsl ls rs hs ts (1, 0, 0)) (ns.take (k + 1)).length (cellsI ⟨gs, ns.take (k + 1), []⟩ (layNode L k nsl ls rs hs ts) (1, 0, 0)) := hown2.row (1, 0, 0) ⟨rfl, rfl⟩
  rw [e1, show (ns.take (k + 1)).length = k + 1 from by rw [List.length_take]; omega] at h1
  exact h1.uniq htk
 have hpl : p < W'.heap.size := Nat.lt_of_lt_of_le h.lt hF2.size
 rw [hW']
 refine ⟨hown2, e1, e2.trans h.l2, ?_, hpl, ?_, ?_, ?_, ?_, ?_, ?_, ?_⟩
 ·rw [hcells, List.append_assoc]; exact hfull
 ·rw [e0]; exact (hF2.cell (p := ⟨p, 0, none⟩) h.lt hpb).trans h.c0
 ·exact (hF2.cell (p := ⟨p, 1, none⟩) h.lt hpb).trans h.c1
 ·exact (hF2.cell (p := ⟨p, 2, none⟩) h.lt hpb).trans h.c2
 ·exact (hF2.frozen (p := ⟨p, 0, none⟩) h.lt hpb).trans h.z0
 ·exact (hF2.frozen (p := ⟨p, 1, none⟩) h.lt hpb).trans h.z1
 ·exact (hF2.frozen (p := ⟨p, 2, none⟩) h.lt hpb).trans h.z2
 ·rintro ⟨⟨t, i, j⟩, hok, hb⟩
  have hsz := h.lt
  by_cases h1 : (t, i, j) = (1, 0, 0)
  ·rw [h1, e1, hnb] at hb; cases hb; exact hpb rfl
  ·unfold layNode at hb
   rw [if_neg h1] at hb
   have old : okI ⟨gs, ns.take (k + 1), []⟩ (t, i, j) → i ≠ k ∨ t ≤ 2 ∨ 7 ≤ t → (L (t, i, j)).blk = some p → False := by
    intro hok hik hL
    refine h.off ⟨(t, i, j), ?_, hL⟩
    have hndx : ∀ i, i ≠ k → ndAt ⟨gs, ns.take (k + 1), []⟩ i = ndAt ⟨gs, ns.take k, []⟩ i := by
     intro i hi
     have := nd_push (d := ⟨gs, ns.take k, []⟩) (x := x) i
     rw [show ({ (⟨gs, ns.take k, []⟩ : Wd) with nodes := (⟨gs, ns.take k, []⟩ : Wd).nodes ++ [x] } : Wd) = ⟨gs, ns.take (k + 1), []⟩ from hd'] at this
     rw [this, if_neg]; rw [show (⟨gs, ns.take k, []⟩ : Wd).nodes.length = k from hlen]; exact hi
    have hl1 : (ns.take (k + 1)).length = k + 1 := by rw [List.length_take]; omega
    match t, hok, hik with
    | 0, hok, _ => exact hok
    | 1, hok, _ => exact hok
    | 2, hok, _ => exact hok
    | 3, hok, hik => have hik : i ≠ k := by omega
                     exact ⟨by have : i < (ns.take (k + 1)).length := hok.1; show i < (ns.take k).length; omega, hok.2⟩
    | 4, hok, hik => have hik : i ≠ k := by omega
                     refine ⟨by have : i < (ns.take (k + 1)).length := hok.1; show i < (ns.take k).length; omega, ?_⟩
                     have := hok.2
                     rw [hndx i hik] at this; exact this
    | 5, hok, hik => have hik : i ≠ k := by omega
                     exact ⟨by have : i < (ns.take (k + 1)).length := hok.1; show i < (ns.take k).length; omega, hok.2⟩
    | 6, hok, hik => have hik : i ≠ k := by omega
                     exact ⟨by have : i < (ns.take (k + 1)).length := hok.1; show i < (ns.take k).length; omega, hok.2⟩
    | 7, hok, _ => exact absurd hok.1 (by simp)
    | 8, hok, _ => exact absurd hok.1 (by simp)
    | t + 9, hok, _ => exact hok.elim
   dsimp only at hb
   by_cases hik : i = k
   ·rw [if_pos hik] at hb
    by_cases t3 : t = 3
    ·rw [if_pos t3] at hb; have := hnew p (.inl (.inl hb)); omega
    ·rw [if_neg t3] at hb
     by_cases t4 : t = 4
     ·rw [if_pos t4] at hb
      subst t4
      have hj : j < (ndAt ⟨gs, ns.take (k + 1), []⟩ i).last.length := hok.2
      have : ndAt ⟨gs, ns.take (k + 1), []⟩ i = x := ndAt_of (by show (ns.take (k + 1))[i]? = some x; rw [hik, List.getElem?_take_of_lt (by omega)]; exact hx)
      rw [this] at hj
      have := hnew p (.inl (.inr ⟨j, hj, hb⟩)); omega
     ·rw [if_neg t4] at hb
      by_cases t5 : t = 5
      ·rw [if_pos t5] at hb; have := hnew p (.inr (.inl hb)); omega
      ·rw [if_neg t5] at hb
       by_cases t6 : t = 6
       ·rw [if_pos t6] at hb; have := hnew p (.inr (.inr hb)); omega
       ·rw [if_neg t6] at hb; exact old hok (.inr (by omega)) hb
   ·rw [if_neg hik] at hb; exact old hok (.inl hik) hb
end Go.Proofs.YtiiifecfdkjmbaaGreat
