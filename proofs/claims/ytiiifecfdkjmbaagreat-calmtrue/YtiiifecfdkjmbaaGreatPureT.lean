/- Worlds as plain data: what the laws of casting, moving, calm and acts ask, ready for their walks. -/
import Derived.Test.YtiiifecfdkjmbaaGreatPureW
namespace Go.Proofs.YtiiifecfdkjmbaaGreat.Pure
set_option maxRecDepth 8000
theorem node_of_lt {d : Wd} {k : Nat} (h : k < d.nodes.length) : ∃ x, d.nodes[k]? = some x := ⟨_, List.getElem?_eq_getElem h⟩
theorem clkAt_of {d : Wd} {k : Nat} {x : Nd} (h : d.nodes[k]? = some x) : clkAt d k = x.clock := by unfold clkAt; rw [h]
theorem heldAt_of {d : Wd} {k : Nat} {x : Nd} (h : d.nodes[k]? = some x) : heldAt d k = x.held := by unfold heldAt; rw [h]
theorem toldAt_of {d : Wd} {k : Nat} {x : Nd} (h : d.nodes[k]? = some x) : toldAt d k = x.told := by unfold toldAt; rw [h]
theorem lstAt_of {d : Wd} {k g i : Nat} {x : Nd} (h : d.nodes[k]? = some x) : lstAt d k g i = lastAt x.last g i := by unfold lstAt; rw [h]
theorem filter_parts (l : List Mg) (b : Int) : (l.filter fun m => decide (m.st ≤ b)).length + (l.filter fun m => decide (b < m.st)).length = l.length := by
 induction l with
 | nil => rfl
 | cons a r ih =>
  by_cases h : a.st ≤ b
  ·have h' : ¬ b < a.st := by omega
   simp only [List.filter_cons, h, h', decide_true, decide_false, if_true, List.length_cons]
   simp; omega
  ·have h' : b < a.st := by omega
   simp only [List.filter_cons, h, h', decide_true, decide_false, if_true, List.length_cons]
   simp; omega
theorem tell_count {d d' : Wd} {n : Nat} (S : TellStep d d' n) : (heldAt d' n).length + (toldAt d' n).length = (heldAt d n).length + (toldAt d n).length := by
 rw [S.told, S.held, List.length_append]
 have := filter_parts (heldAt d n) (farAt d n)
 omega
structure CastTrueD (d d' : Wd) (n : Nat) (g : Int) (body : ByteArray) (x x' : Nd) : Prop where
 hx : d.nodes[n]? = some x
 hx' : d'.nodes[n]? = some x'
 len : d'.nodes.length = d.nodes.length
 wlen : d'.wires.length = d.wires.length
 dlen : d.wires.length = d.nodes.length
 right : Right d'
 was : Right d
 clk : x'.clock = x.clock + 1
 top : x.clock + 1 ≤ 1048576
 wire : ∀ a b, wireAt d' a b = if a = n ∧ b ≠ n ∧ b < d.nodes.length ∧ hasB d.groups g b = true then wireAt d a b ++ [⟨n, g, x'.clock, false, body⟩] else wireAt d a b
 count : x'.held.length + x'.told.length = x.held.length + x.told.length + 1
theorem setNode_id {d : Wd} {n : Nat} {x : Nd} (h : d.nodes[n]? = some x) : setNode d n x = d := by
 obtain ⟨gs, ns, ws⟩ := d
 unfold setNode
 dsimp only at h ⊢
 congr 1
 apply List.ext_getElem?
 intro i
 rw [List.getElem?_set]
 by_cases e : n = i
 ·subst e
  rw [if_pos rfl, h, if_pos (List.getElem?_eq_some_iff.1 h).1]
 ·rw [if_neg e]
theorem setNode_set (d : Wd) (n : Nat) (x y : Nd) : setNode (setNode d n x) n y = setNode d n y := by unfold setNode; simp
theorem holdIf_set {d d' : Wd} {n : Nat} {m : Mg} {x : Nd} (hx : d.nodes[n]? = some x) (h : holdIf d n m = .ok d') : ∃ y, d' = setNode d n y := by
 unfold holdIf at h
 split at h
 ·cases h; exact ⟨x, (setNode_id hx).symm⟩
 ·unfold holdD at h
  rw [hx] at h
  dsimp only at h
  split at h
  ·cases h; exact ⟨_, rfl⟩
  ·cases h
theorem tellD_set {d : Wd} {n : Nat} {p : Wd × Nat} (h : tellD d n = .ok p) : ∃ y, p.1 = setNode d n y := by
 unfold tellD at h
 split at h
 ·cases h
 ·split at h
  ·cases h
  ·split at h
   ·cases h
   ·cases h; exact ⟨_, rfl⟩
theorem moveD_set {d d' : Wd} {f t : Nat} {x : Nd} (hx : d.nodes[t]? = some x) (h : moveD d f t = .ok d') : ∃ m rest y, wireAt d f t = m :: rest ∧ d' = setNode (setWire d f t rest) t y := by
 unfold moveD at h
 split at h
 ·cases h
 ·next m rest hw =>
  obtain ⟨d3, h1, h2⟩ := bind_ok h
  obtain ⟨p, h3, h4⟩ := bind_ok h2
  cases h4
  have hc : comeD d f t m rest = setNode (setWire d f t rest) t (comeNd x m f) := by unfold comeD; rw [hx]
  rw [hc] at h1
  obtain ⟨y, rfl⟩ := holdIf_set (x := comeNd x m f) (by unfold setNode; dsimp only; rw [List.getElem?_set, if_pos rfl, if_pos]; exact (List.getElem?_eq_some_iff.1 hx).1) h1
  obtain ⟨z, hz⟩ := tellD_set h3
  exact ⟨m, rest, z, hw, by rw [hz, setNode_set, setNode_set]⟩
structure MoveTrueD (d d' : Wd) (f t : Nat) (x x' : Nd) (m : Mg) (rest : List Mg) (row row' : List (List Mg)) : Prop where
 hx : d.nodes[t]? = some x
 hx' : d'.nodes[t]? = some x'
 hr : d.wires[f]? = some row
 hr' : d'.wires[f]? = some row'
 hl : row[t]? = some (m :: rest)
 hl' : row'[t]? = some rest
 groups : d'.groups = d.groups
 len : d'.nodes.length = d.nodes.length
 wlen : d'.wires.length = d.wires.length
 rlen : row'.length = row.length
 node : ∀ i, i ≠ t → d'.nodes[i]? = d.nodes[i]?
 wire : ∀ i, i ≠ f → d'.wires[i]? = d.wires[i]?
 rows : ∀ i, i ≠ t → row'[i]? = row[i]?
 right : Right d'
 was : Right d
 flt : f < d.nodes.length
 tlt : t < d.nodes.length
 clk : x.clock ≤ x'.clock
 clm : m.st ≤ x'.clock
 count : x'.held.length + x'.told.length = x.held.length + x.told.length + (if m.nul then 0 else 1)
theorem moveTrueD {d d' : Wd} {f t : Int} (h : moveOfD d f t = .ok d') : ∃ (a b : Nat) (x x' : Nd) (m : Mg) (rest : List Mg) (row row' : List (List Mg)), f = (a : Int) ∧ t = (b : Int) ∧ MoveTrueD d d' a b x x' m rest row row' := by
 obtain ⟨R, hf, ht, h⟩ := moveOf_ok h
 obtain ⟨a, rfl⟩ : ∃ a : Nat, f = (a : Int) := ⟨f.toNat, by omega⟩
 obtain ⟨b, rfl⟩ : ∃ b : Nat, t = (b : Int) := ⟨t.toNat, by omega⟩
 rw [Int.toNat_natCast, Int.toNat_natCast] at h
 have ha : a < d.nodes.length := by omega
 have hb : b < d.nodes.length := by omega
 obtain ⟨x, hx⟩ := node_of_lt hb
 obtain ⟨m, rest, y, hw, hd⟩ := moveD_set hx h
 obtain ⟨R', G⟩ := move_right R ha hb h
 obtain ⟨d3, m', S, R3, T⟩ := move_split R ha hb h
 have hm : m' = m := by have := S.first; rw [hw] at this; cases this; rfl
 subst hm
 rcases wireAt_cases d a b with e | ⟨row, l, hr, hl, e⟩
 ·rw [hw] at e; cases e
 rw [hw] at e
 subst e
 have hx' : d'.nodes[b]? = some y := by rw [hd]; unfold setNode setWire; dsimp only; rw [List.getElem?_set, if_pos rfl, if_pos hb]
 have hrl := (List.getElem?_eq_some_iff.1 hr).1
 have hr' : d'.wires[a]? = some (row.set b rest) := by
  rw [hd]; unfold setNode setWire; dsimp only
  rw [List.getElem?_set, if_pos rfl, if_pos hrl, hr]; rfl
 refine ⟨a, b, x, y, m', rest, row, row.set b rest, rfl, rfl, hx, hx', hr, hr', hl, ?_, G.alike.g, G.alike.n, G.alike.w, by simp, fun i hi => ?_, fun i hi => ?_, fun i hi => ?_, R', R, ha, hb, ?_, ?_, ?_⟩
 ·rw [List.getElem?_set, if_pos rfl, if_pos (List.getElem?_eq_some_iff.1 hl).1]
 ·rw [hd]; unfold setNode setWire; dsimp only; rw [List.getElem?_set, if_neg (Ne.symm hi)]
 ·rw [hd]; unfold setNode setWire; dsimp only; rw [List.getElem?_set, if_neg (Ne.symm hi)]
 ·rw [List.getElem?_set, if_neg (Ne.symm hi)]
 ·have := G.clk b; rw [clkAt_of hx, clkAt_of hx'] at this; exact this
 ·have h1 := T.clk b; rw [S.clk, if_pos rfl, clkAt_of hx'] at h1; omega
 ·have h1 := tell_count T
  rw [heldAt_of hx', toldAt_of hx', S.told, toldAt_of hx] at h1
  rcases S.held with ⟨e1, e2⟩ | ⟨e1, hp, e2⟩
  ·rw [e2, heldAt_of hx] at h1; rw [e1, if_pos rfl]; omega
  ·rw [e2, heldAt_of hx] at h1
   have := putL_len _ x.held (by rw [heldAt_of hx] at hp; exact hp)
   rw [e1]; simp; omega
theorem moveOf_err {d : Wd} {f t : Nat} {e : Int} (I : Inv d) (hf : f < d.nodes.length) (ht : t < d.nodes.length) (h : moveOfD d f t = .error e) : e = 7 ∨ e = 2 := by
 unfold moveOfD at h
 rw [if_pos ((right_iff d).2 I.right), if_pos (by simp [inB]; omega), Int.toNat_natCast, Int.toNat_natCast] at h
 rcases move_err I hf ht h with ⟨h, _⟩ | h
 ·exact .inl h
 ·exact .inr h
theorem doneD_len {n : Nat} {l : List Int} (hc : chkE n l = 0) (acts : List Ac) : (doneD n l acts).nodes.length = n ∧ (doneD n l acts).groups = l := by
 have A := (done_inv hc acts).2.2
 refine ⟨by rw [A.n]; simp [beginD], by rw [A.g]; rfl⟩
theorem done_calm {n : Nat} {l : List Int} (hc : chkE n l = 0) (acts : List Ac) (ha : acts.length ≤ 80) {e : Int} (h : calmD (doneD n l acts) = .error e) : e = 2 := by
 obtain ⟨I, hk, A⟩ := done_inv hc acts
 have hs := (small I.right).2.2.2
 refine calm_err I hk ?_ h
 rw [← Int.natCast_mul]
 omega
end Go.Proofs.YtiiifecfdkjmbaaGreat.Pure
