/- A fold that may fail, step by step, and what draining a wire keeps; no condition. A node's Nulls to its groups, group by group; no condition. What calm.Drain does in a sea; conditions: the world lies in a sea, and is right. Contracts of what calm.Drain does in a sea, and of calm.Drain; conditions: the world reads as one. What calm.Round does in a sea, and calm.Round; conditions: the world reads as one. What calm.Calm does in a sea, and calm.Calm; conditions: the world reads as one. -/
import Derived.Test.YtiiifecfdkjmbaaGreatDSMoveX
namespace Go.Proofs.YtiiifecfdkjmbaaGreat.Pure
set_option maxRecDepth 8000
theorem fold_succ {α β : Type} (f : β → α → Except Int β) (l : List α) (b : β) {k : Nat} {x : α} (h : l[k]? = some x) : (l.take (k + 1)).foldlM f b = ((l.take k).foldlM f b).bind fun b' => f b' x := by
 rw [List.take_add_one, h, List.foldlM_append]
 show ((l.take k).foldlM f b).bind _ = _
 cases (l.take k).foldlM f b with
 | error e => rfl
 | ok b' =>
  show [x].foldlM f b' = f b' x
  rw [List.foldlM_cons]
  show (f b' x).bind _ = _
  cases f b' x <;> rfl
theorem fold_fail {α β : Type} (f : β → α → Except Int β) (l : List α) (b : β) {k : Nat} {e : Int} (h : (l.take k).foldlM f b = .error e) : l.foldlM f b = .error e := by
 conv => lhs; rw [← List.take_append_drop k l]
 rw [List.foldlM_append, h]
 rfl
theorem wire_right {d d' : Wd} {f t q : Nat} (R : Right d) (hf : f < d.nodes.length) (ht : t < d.nodes.length) (h : wireD d f t = .ok (d', q)) : Right d' ∧ d'.nodes.length = d.nodes.length ∧ q ≤ 40 := by
 unfold wireD at h
 obtain ⟨d1, h1, h2⟩ := bind_ok h
 cases h2
 have M := moves_ok _ d d' R hf ht (Nat.le_refl _) h1
 exact ⟨M.right, M.grow.alike.n, R.wireN f t⟩
end Go.Proofs.YtiiifecfdkjmbaaGreat.Pure
namespace Go.Proofs.YtiiifecfdkjmbaaGreat.Pure
set_option maxRecDepth 8000
open _root_.Go.Proofs.YtiiifecfdkjmbaaGreat
def nullTo (a : Nat) (x : Wd) (g : Nat) : Except Int Wd := castD x a g true ByteArray.empty
theorem null_right {a g : Nat} {x y : Wd} (R : Right x) (h : nullTo a x g = .ok y) : Right y ∧ y.groups = x.groups ∧ y.nodes.length = x.nodes.length := by
 obtain ⟨R', G⟩ := cast_right R (fun _ => rfl) h
 exact ⟨R', G.alike.g, G.alike.n⟩
end Go.Proofs.YtiiifecfdkjmbaaGreat.Pure
namespace Go.Proofs.YtiiifecfdkjmbaaGreat
set_option maxRecDepth 8000
open Go.RowKit Go.Shelf
open _root_.Go.Proofs.YtiiifecfdkjmbaaGreat.Pure
set_option linter.unusedVariables false
set_option linter.unusedSimpArgs false
theorem moves_nz {f t : Nat} {e : Int} : ∀ (k : Nat) (d : Wd), movesD f t k d = .error e → e ≠ 0
 | 0, d, h => by cases h
 | k + 1, d, h => by
  unfold movesD at h
  rcases bind_err h with h | ⟨d1, _, h⟩
  ·exact moveD_nz h
  ·exact moves_nz k d1 h
theorem wireD_nz {d : Wd} {f t : Nat} {e : Int} (h : wireD d f t = .error e) : e ≠ 0 := by
 unfold wireD at h
 rcases bind_err h with h | ⟨_, _, h⟩
 ·exact moves_nz _ _ h
 ·cases h
end Go.Proofs.YtiiifecfdkjmbaaGreat
namespace Go.Proofs.YtiiifecfdkjmbaaGreat
set_option maxRecDepth 8000
open Go.RowKit Go.Shelf
open _root_.Go.Proofs.YtiiifecfdkjmbaaGreat.Pure
set_option linter.unusedVariables false
set_option linter.unusedSimpArgs false
def drainSD (d : Wd) : Except Int (Wd × Int) := (drainD d).bind fun r => .ok (r.1, (r.2 : Int))
end Go.Proofs.YtiiifecfdkjmbaaGreat
namespace Go.Proofs.YtiiifecfdkjmbaaGreat
set_option maxRecDepth 8000
open Go.RowKit Go.Shelf
open _root_.Go.Proofs.YtiiifecfdkjmbaaGreat.Pure
set_option linter.unusedVariables false
set_option linter.unusedSimpArgs false
theorem drain_to {d : Wd} (R : Right d) : ∀ (k : Nat) (s : Wd × Nat), ((pairs d.nodes.length d.nodes.length).take k).foldlM drainOne (d, 0) = .ok s → Right s.1 ∧ s.1.nodes.length = d.nodes.length ∧ s.2 ≤ 40 * k
 | 0, s, h => by
  cases h
  exact ⟨R, rfl, Nat.zero_le _⟩
 | k + 1, s, h => by
  cases hx : (pairs d.nodes.length d.nodes.length)[k]? with
  | none =>
   have hl := List.getElem?_eq_none_iff.1 hx
   rw [List.take_of_length_le (by omega)] at h
   have ih := drain_to R k s (by rw [List.take_of_length_le hl]; exact h)
   exact ⟨ih.1, ih.2.1, by have := ih.2.2; omega⟩
  | some x =>
   rw [fold_succ drainOne _ _ hx] at h
   obtain ⟨s1, h1, h2⟩ := bind_ok h
   obtain ⟨R1, n1, b1⟩ := drain_to R k s1 h1
   obtain ⟨p1, p2⟩ := pairs_lt x (List.mem_of_getElem? hx)
   unfold drainOne at h2
   obtain ⟨⟨d2, q⟩, h3, h4⟩ := bind_ok h2
   cases h4
   obtain ⟨R2, n2, q2⟩ := wire_right R1 (by omega) (by omega) h3
   exact ⟨R2, n2.trans n1, by show s1.2 + q ≤ _; omega⟩
theorem drain_small {d d' : Wd} {m : Nat} (R : Right d) (h : drainD d = .ok (d', m)) : Right d' ∧ d'.nodes.length = d.nodes.length ∧ m ≤ 640 := by
 have h2 : ((pairs d.nodes.length d.nodes.length).take (d.nodes.length * d.nodes.length)).foldlM drainOne (d, 0) = .ok (d', m) := by rw [← pairs_length, List.take_length]; exact h
 obtain ⟨a, b, c⟩ := drain_to R _ _ h2
 refine ⟨a, b, Nat.le_trans c ?_⟩
 have h4 := (small R).1
 have := Nat.mul_le_mul h4 h4
 omega
theorem drainD_nz {d : Wd} {e : Int} (h : drainD d = .error e) : e ≠ 0 := by
 obtain ⟨_, a, b', _, _, h3⟩ := foldlM_err drainOne (fun _ _ => True) (fun _ _ _ _ _ _ => trivial) _ [] (d, 0) e trivial h
 unfold drainOne at h3
 rcases bind_err h3 with h | ⟨_, _, h⟩
 ·exact wireD_nz h
 ·cases h
def roundSD (d : Wd) : Except Int (Wd × Int) := (roundD d).bind fun r => .ok (r.1, (r.2 : Int))
end Go.Proofs.YtiiifecfdkjmbaaGreat
namespace Go.Proofs.YtiiifecfdkjmbaaGreat
set_option maxRecDepth 8000
open Go.RowKit Go.Shelf
open _root_.Go.Proofs.YtiiifecfdkjmbaaGreat.Pure
set_option linter.unusedVariables false
set_option linter.unusedSimpArgs false
theorem round_small {d d' : Wd} {m : Nat} (R : Right d) (h : roundD d = .ok (d', m)) : Right d' ∧ d'.nodes.length = d.nodes.length ∧ m ≤ 640 := by
 unfold roundD at h
 obtain ⟨d1, h1, h2⟩ := bind_ok h
 have Nn := nulls_ok R h1
 obtain ⟨a, b, c⟩ := drain_small Nn.right h2
 exact ⟨a, b.trans Nn.grow.alike.n, c⟩
theorem nullsD_nz {d : Wd} {e : Int} (h : nullsD d = .error e) : e ≠ 0 := by
 obtain ⟨_, a, b', _, _, h3⟩ := foldlM_err nullOne (fun _ _ => True) (fun _ _ _ _ _ _ => trivial) _ [] d e trivial h
 unfold nullOne at h3
 split at h3
 ·exact castD_nz h3
 ·cases h3
theorem roundD_nz {d : Wd} {e : Int} (h : roundD d = .error e) : e ≠ 0 := by
 unfold roundD at h
 rcases bind_err h with h | ⟨_, _, h⟩
 ·exact nullsD_nz h
 ·exact drainD_nz h
end Go.Proofs.YtiiifecfdkjmbaaGreat
