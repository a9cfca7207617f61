/- Plain data of the document's AllOf: messages added one by one. -/
import Derived.Test.YtiiifecfdkjmbaaGreatDRCommon
namespace Go.Proofs.YtiiifecfdkjmbaaGreat
set_option maxRecDepth 8000
open Go.RowKit Go.Shelf
open _root_.Go.Proofs.YtiiifecfdkjmbaaGreat.Pure
set_option linter.unusedVariables false
set_option linter.unusedSimpArgs false
theorem add_same {out : List Mg} {m : Mg} (h : out.any (sameM m) = true) : addL out m = .ok out := by
 have e : (out.any fun x => sameM x m) = true := by
  rw [← h]; congr 1; funext x; exact sameM_comm x m
 unfold addL; rw [if_pos e]
theorem add_some {out : List Mg} {m x : Mg} (h : out.any (sameM m) = false) (hx : out[placeM m out]? = some x) : addL out m = if lessM m x then .ok (out.take (placeM m out) ++ [m] ++ out.drop (placeM m out)) else .error 1 := by
 have e : ¬ (out.any fun x => sameM x m) = true := by
  rw [show (fun x => sameM x m) = sameM m from funext fun x => sameM_comm x m, h]; decide
 unfold addL; rw [if_neg e, hx]
theorem add_none {out : List Mg} {m : Mg} (h : out.any (sameM m) = false) (hx : placeM m out = out.length) : addL out m = .ok (out.take (placeM m out) ++ [m] ++ out.drop (placeM m out)) := by
 have e : ¬ (out.any fun x => sameM x m) = true := by
  rw [show (fun x => sameM x m) = sameM m from funext fun x => sameM_comm x m, h]; decide
 unfold addL; rw [if_neg e, hx, List.getElem?_eq_none (Nat.le_refl _)]
theorem fold_snoc {l out : List Mg} {m : Mg} (h : l.foldlM addL [] = .ok out) : (l ++ [m]).foldlM addL [] = addL out m := by
 rw [List.foldlM_append, h]
 show ([m].foldlM addL out : Except Int (List Mg)) = addL out m
 rw [List.foldlM_cons]
 cases addL out m <;> rfl
theorem add_len {out out' : List Mg} {m : Mg} (h : addL out m = .ok out') : out'.length ≤ out.length + 1 := by
 have e : ∀ p, (out.take p ++ [m] ++ out.drop p).length ≤ out.length + 1 := fun p => by
  simp only [List.length_append, List.length_take, List.length_drop, List.length_singleton]; omega
 unfold addL at h
 split at h
 ·cases h; omega
 ·split at h
  ·split at h
   ·cases h; exact e _
   ·cases h
  ·cases h; exact e _
theorem adds_len : ∀ (l out out' : List Mg), l.foldlM addL out = .ok out' → out'.length ≤ out.length + l.length
 | [], out, out', h => by cases h; simp
 | x :: l, out, out', h => by
  rw [List.foldlM_cons] at h
  cases ha : addL out x with
  | error e => rw [ha] at h; cases h
  | ok o =>
   rw [ha] at h
   have h1 := adds_len l o out' h
   have h2 := add_len ha
   rw [List.length_cons]; omega
def preL (d : Wd) (n k : Nat) : List Mg := (d.nodes.take n).flatMap Nd.told ++ (toldAt d n).take k
theorem pre_zero (d : Wd) (n : Nat) : preL d n 0 = (d.nodes.take n).flatMap Nd.told := by unfold preL; simp
theorem pre_next {d : Wd} {n k : Nat} {x : Nd} {m : Mg} (hx : d.nodes[n]? = some x) (hm : x.told[k]? = some m) : preL d n (k + 1) = preL d n k ++ [m] := by
 unfold preL; rw [toldAt_eq hx, List.take_add_one, hm, ← List.append_assoc]; rfl
theorem pre_node {d : Wd} {n : Nat} {x : Nd} (hx : d.nodes[n]? = some x) : preL d n x.told.length = preL d (n + 1) 0 := by
 rw [pre_zero]
 unfold preL; rw [toldAt_eq hx, List.take_length, List.take_add_one, hx, List.flatMap_append]; simp
theorem pre_all (d : Wd) : preL d d.nodes.length 0 = toldL d := by
 rw [pre_zero, List.take_length]; rfl
theorem pre_split {d : Wd} {n k : Nat} {x : Nd} {m : Mg} (hx : d.nodes[n]? = some x) (hm : x.told[k]? = some m) : ∃ rest, toldL d = preL d n k ++ m :: rest := by
 refine ⟨x.told.drop (k + 1) ++ (d.nodes.drop (n + 1)).flatMap Nd.told, ?_⟩
 have hn := (List.getElem?_eq_some_iff.1 hx).1
 have hk := (List.getElem?_eq_some_iff.1 hm).1
 have e1 : d.nodes = d.nodes.take n ++ x :: d.nodes.drop (n + 1) := by
  have := List.take_append_drop n d.nodes
  rw [List.drop_eq_getElem_cons hn, (List.getElem?_eq_some_iff.1 hx).2] at this
  exact this.symm
 have e2 : x.told = x.told.take k ++ m :: x.told.drop (k + 1) := by
  have := List.take_append_drop k x.told
  rw [List.drop_eq_getElem_cons hk, (List.getElem?_eq_some_iff.1 hm).2] at this
  exact this.symm
 unfold preL toldL
 rw [toldAt_eq hx]
 conv => lhs; rw [e1]
 rw [List.flatMap_append, List.flatMap_cons]
 conv => lhs; rw [e2]
 simp
theorem all_stop {d : Wd} {n k : Nat} {x : Nd} {m : Mg} {out : List Mg} {e : Int} (hx : d.nodes[n]? = some x) (hm : x.told[k]? = some m) (hf : (preL d n k).foldlM addL [] = .ok out) (ha : addL out m = .error e) : allD d = .error e := by
 obtain ⟨rest, hr⟩ := pre_split hx hm
 unfold allD
 rw [hr, List.foldlM_append, hf]
 show ((m :: rest).foldlM addL out : Except Int (List Mg)) = .error e
 rw [List.foldlM_cons, ha]; rfl
theorem pre_len {d : Wd} (hr : Right d) {n k : Nat} {x : Nd} (hx : d.nodes[n]? = some x) (hk : k ≤ x.told.length) {out : List Mg} (hf : (preL d n k).foldlM addL [] = .ok out) : out.length ≤ 200 := by
 have h1 := adds_len _ _ _ hf
 obtain ⟨_, h2, _, _⟩ := chkE_zero hr.chk
 have h3 := hr.toldN n
 have hn := (List.getElem?_eq_some_iff.1 hx).1
 have h4 : ∀ (l : List Nd), (∀ y ∈ l, y.told.length ≤ 40) → (l.flatMap Nd.told).length ≤ 40 * l.length := by
  intro l; induction l with
  | nil => intro _; simp
  | cons y l ih =>
   intro h
   have := ih (fun z hz => h z (by simp [hz]))
   have h5 := h y (by simp)
   rw [List.flatMap_cons, List.length_append, List.length_cons]; omega
 have h6 := h4 (d.nodes.take n) (fun y hy => by
  obtain ⟨i, hi⟩ := List.mem_iff_getElem?.1 (List.mem_of_mem_take hy)
  have := hr.toldN i
  rwa [toldAt_eq hi] at this)
 unfold preL at h1
 simp only [List.length_append, List.length_take, List.length_nil] at h1 h6
 omega
end Go.Proofs.YtiiifecfdkjmbaaGreat
