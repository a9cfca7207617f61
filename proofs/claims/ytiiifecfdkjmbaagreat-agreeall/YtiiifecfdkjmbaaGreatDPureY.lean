/- What was told to whom, as plain data: in one order; no condition but what each row says. What comes of what, as plain data: nothing comes ahead of itself, what comes ahead has the lesser Stamp; no condition but that the groups are right. The document's own way to what comes of what, as plain data: it comes to the same. What comes ahead by way of others, as the document works it out at the end. What the whole promises, of worlds as plain data: told to all members once, and in the order in which it came. -/
import Derived.Test.YtiiifecfdkjmbaaGreatDPureW
namespace Go.Proofs.YtiiifecfdkjmbaaGreat.Pure
set_option maxRecDepth 8000
theorem lessM_ne {a b : Mg} (h : lessM a b = true) : a ≠ b := by
 rintro rfl; rw [lessM_irrefl] at h; cases h
theorem rises_ext : ∀ (l1 l2 : List Mg), risesM l1 = true → risesM l2 = true → (∀ x, x ∈ l1 ↔ x ∈ l2) → l1 = l2
 | [], [], _, _, _ => rfl
 | [], b :: r, _, _, h => by have := (h b).2 (by simp); cases this
 | a :: r, [], _, _, h => by have := (h a).1 (by simp); cases this
 | a :: r, b :: s, h1, h2, h => by
  obtain ⟨p1, p2⟩ := List.pairwise_cons.1 ((risesM_pair _).1 h1)
  obtain ⟨q1, q2⟩ := List.pairwise_cons.1 ((risesM_pair _).1 h2)
  have e : a = b := by
   rcases List.mem_cons.1 ((h a).1 (by simp)) with e | h3
   ·exact e
   ·rcases List.mem_cons.1 ((h b).2 (by simp)) with e | h4
    ·exact e.symm
    ·have := lessM_trans (q1 a h3) (p1 b h4)
     rw [lessM_irrefl] at this; cases this
  subst e
  congr 1
  refine rises_ext r s ((risesM_pair _).2 p2) ((risesM_pair _).2 q2) fun x => ?_
  constructor
  ·intro hx
   rcases List.mem_cons.1 ((h x).1 (List.mem_cons_of_mem _ hx)) with e | h3
   ·exact absurd e.symm (lessM_ne (p1 x hx))
   ·exact h3
  ·intro hx
   rcases List.mem_cons.1 ((h x).2 (List.mem_cons_of_mem _ hx)) with e | h3
   ·exact absurd e.symm (lessM_ne (q1 x hx))
   ·exact h3
def bothL (a b : List Mg) : List Mg := a.filter fun m => b.any (sameM m)
def aheadL (m : Mg) (l : List Mg) : Option Nat := l.findIdx? (fun x => sameM x m)
def addL (out : List Mg) (m : Mg) : Except Int (List Mg) :=
 if out.any (fun x => sameM x m) then .ok out
 else match out[placeM m out]? with
  | some x => if lessM m x then .ok (out.take (placeM m out) ++ [m] ++ out.drop (placeM m out)) else .error 1
  | none => .ok (out.take (placeM m out) ++ [m] ++ out.drop (placeM m out))
def toldL (d : Wd) : List Mg := d.nodes.flatMap Nd.told
def allD (d : Wd) : Except Int (List Mg) := (toldL d).foldlM addL []
theorem mem_toldL (d : Wd) (x : Mg) : x ∈ toldL d ↔ ∃ k, x ∈ toldAt d k := by
 unfold toldL toldAt
 rw [List.mem_flatMap]
 constructor
 ·rintro ⟨nd, h1, h2⟩
  obtain ⟨k, hk⟩ := List.getElem?_of_mem h1
  exact ⟨k, by rw [hk]; exact h2⟩
 ·rintro ⟨k, hk⟩
  cases h : d.nodes[k]? with
  | none => rw [h] at hk; cases hk
  | some nd => rw [h] at hk; exact ⟨nd, List.mem_of_getElem? h, hk⟩
theorem any_same {l : List Mg} {m : Mg} : l.any (fun x => sameM x m) = true ↔ m ∈ l := by
 rw [List.any_eq_true]
 exact ⟨fun ⟨y, hy, e⟩ => by rw [sameM_iff] at e; subst e; exact hy, fun h => ⟨m, h, (sameM_iff m m).2 rfl⟩⟩
theorem put_mem {m : Mg} {ms : List Mg} (x : Mg) : x ∈ ms.take (placeM m ms) ++ [m] ++ ms.drop (placeM m ms) ↔ x = m ∨ x ∈ ms := by
 have : x ∈ ms ↔ x ∈ ms.take (placeM m ms) ∨ x ∈ ms.drop (placeM m ms) := by
  rw [← List.mem_append, List.take_append_drop]
 rw [this]
 simp only [List.mem_append, List.mem_singleton]
 constructor
 ·rintro ((h | h) | h)
  ·exact .inr (.inl h)
  ·exact .inl h
  ·exact .inr (.inr h)
 ·rintro (h | h | h)
  ·exact .inl (.inr h)
  ·exact .inl (.inl h)
  ·exact .inr h
theorem put_rises {m : Mg} {ms : List Mg} (h1 : risesM ms = true) (h3 : ∀ x, ms[placeM m ms]? = some x → lessM m x = true) : risesM (ms.take (placeM m ms) ++ [m] ++ ms.drop (placeM m ms)) = true := by
 have hp := (risesM_pair _).1 h1
 rw [risesM_pair, List.append_assoc]
 have ht := List.take_append_drop (placeM m ms) ms
 rw [← ht] at hp
 obtain ⟨p1, p2, p3⟩ := List.pairwise_append.1 hp
 have hd : ∀ x ∈ ms.drop (placeM m ms), lessM m x = true := by
  intro x hx
  cases hdd : ms.drop (placeM m ms) with
  | nil => rw [hdd] at hx; simp at hx
  | cons y r =>
   have hy : ms[placeM m ms]? = some y := by
    have := congrArg (·[0]?) hdd
    simpa using this
   have hmy := h3 y hy
   rw [hdd] at hx p2
   rcases List.mem_cons.1 hx with rfl | hx
   ·exact hmy
   ·exact lessM_trans hmy ((List.pairwise_cons.1 p2).1 x hx)
 refine List.pairwise_append.2 ⟨p1, List.pairwise_append.2 ⟨by simp, p2, fun a ha b hb => ?_⟩, fun a ha b hb => ?_⟩
 ·simp at ha; subst ha; exact hd b hb
 ·rcases List.mem_append.1 hb with hb | hb
  ·simp at hb; subst hb; exact placeM_take _ _ a ha
  ·exact p3 a ha b hb
theorem place_no {m : Mg} : ∀ (ms : List Mg) (x : Mg), ms[placeM m ms]? = some x → lessM x m = false
 | [], x, h => by simp at h
 | y :: r, x, h => by
  unfold placeM at h
  cases hl : lessM y m
  ·simp [hl] at h; subst h; exact hl
  ·simp [hl] at h; exact place_no r x h
theorem add_ok {out out' : List Mg} {m : Mg} (hr : risesM out = true) (h : addL out m = .ok out') : risesM out' = true ∧ ∀ x, x ∈ out' ↔ x ∈ out ∨ x = m := by
 unfold addL at h
 by_cases ha : out.any (fun x => sameM x m) = true
 ·rw [if_pos ha] at h
  have := Except.ok.inj h; subst this
  have hm := any_same.1 ha
  exact ⟨hr, fun x => ⟨fun h => .inl h, fun h => h.elim id fun e => by rw [e]; exact hm⟩⟩
 ·rw [if_neg ha] at h
  cases hx : out[placeM m out]? with
  | none =>
   rw [hx] at h
   have := Except.ok.inj h; subst this
   exact ⟨put_rises hr fun x h => (by rw [hx] at h; cases h), fun x => by rw [put_mem]; exact Or.comm⟩
  | some y =>
   rw [hx] at h
   cases hl : lessM m y
   ·simp [hl] at h
   ·simp only [hl, if_true] at h
    have := Except.ok.inj h; subst this
    exact ⟨put_rises hr fun x h => (by rw [hx] at h; cases h; exact hl), fun x => by rw [put_mem]; exact Or.comm⟩
theorem add_err {out : List Mg} {m : Mg} {e : Int} (h : addL out m = .error e) : e = 1 ∧ ∃ y ∈ out, y ≠ m ∧ y.st = m.st ∧ y.fr = m.fr := by
 unfold addL at h
 by_cases ha : out.any (fun x => sameM x m) = true
 ·rw [if_pos ha] at h; cases h
 ·rw [if_neg ha] at h
  cases hx : out[placeM m out]? with
  | none => rw [hx] at h; cases h
  | some y =>
   rw [hx] at h
   cases hl : lessM m y
   ·simp only [hl] at h
    have hy := List.mem_of_getElem? hx
    refine ⟨by simpa using (Except.error.inj h).symm, y, hy, ?_, ?_⟩
    ·rintro rfl; exact ha (any_same.2 hy)
    ·have h1 := place_no out y hx
     have n1 : ¬ lessM m y = true := by simp [hl]
     have n2 : ¬ lessM y m = true := by simp [h1]
     rw [lessM_iff] at n1 n2
     omega
   ·simp [hl] at h
theorem adds {l : List Mg} : ∀ (l0 out : List Mg), risesM out = true → (∀ x, x ∈ out ↔ x ∈ l0) → (∀ out', l.foldlM addL out = .ok out' → risesM out' = true ∧ ∀ x, x ∈ out' ↔ x ∈ l0 ∨ x ∈ l) ∧ (∀ e, l.foldlM addL out = .error e → e = 1 ∧ ∃ a b, (a ∈ l0 ∨ a ∈ l) ∧ (b ∈ l0 ∨ b ∈ l) ∧ a ≠ b ∧ a.st = b.st ∧ a.fr = b.fr) := by
 induction l with
 | nil =>
  intro l0 out hr hm
  refine ⟨fun out' h => ?_, fun e h => by cases h⟩
  have := Except.ok.inj h; subst this
  exact ⟨hr, fun x => by simp [hm]⟩
 | cons m l ih =>
  intro l0 out hr hm
  simp only [List.foldlM_cons]
  refine ⟨fun out' h => ?_, fun e h => ?_⟩
  ·obtain ⟨o1, h1, h2⟩ := bind_ok h
   obtain ⟨r1, m1⟩ := add_ok hr h1
   obtain ⟨a, b⟩ := (ih (l0 ++ [m]) o1 r1 (fun x => by rw [m1, hm]; simp)).1 out' h2
   exact ⟨a, fun x => by rw [b]; simp [or_assoc]⟩
  ·rcases bind_err h with h | ⟨o1, h1, h2⟩
   ·obtain ⟨e1, y, hy, h3, h4, h5⟩ := add_err h
    exact ⟨e1, y, m, .inl ((hm y).1 hy), .inr (by simp), h3, h4, h5⟩
   ·obtain ⟨r1, m1⟩ := add_ok hr h1
    obtain ⟨e1, a, b, ha, hb, h3⟩ := (ih (l0 ++ [m]) o1 r1 (fun x => by rw [m1, hm]; simp)).2 e h2
    refine ⟨e1, a, b, ?_, ?_, h3⟩
    ·simpa [or_assoc] using ha
    ·simpa [or_assoc] using hb
theorem all_ok {d : Wd} {l : List Mg} (h : allD d = .ok l) : risesM l = true ∧ ∀ x, x ∈ l ↔ ∃ k, x ∈ toldAt d k := by
 obtain ⟨a, b⟩ := (adds (l := toldL d) [] [] rfl (fun x => Iff.rfl)).1 l h
 exact ⟨a, fun x => by rw [b, ← mem_toldL]; simp⟩
theorem all_err {d : Wd} {e : Int} (h : allD d = .error e) : e = 1 ∧ ∃ a b, (∃ k, a ∈ toldAt d k) ∧ (∃ k, b ∈ toldAt d k) ∧ a ≠ b ∧ a.st = b.st ∧ a.fr = b.fr := by
 obtain ⟨a, x, y, hx, hy, h3⟩ := (adds (l := toldL d) [] [] rfl (fun x => Iff.rfl)).2 e h
 refine ⟨a, x, y, (mem_toldL d x).1 ?_, (mem_toldL d y).1 ?_, h3⟩
 ·simpa using hx
 ·simpa using hy
theorem all_iff (d : Wd) (l : List Mg) : allD d = .ok l ↔ risesM l = true ∧ ∀ x, x ∈ l ↔ ∃ k, x ∈ toldAt d k := by
 refine ⟨all_ok, fun ⟨h1, h2⟩ => ?_⟩
 cases h : allD d with
 | ok l' =>
  obtain ⟨h3, h4⟩ := all_ok h
  rw [rises_ext l' l h3 h1 fun x => by rw [h2, h4]]
 | error e =>
  obtain ⟨_, a, b, ha, hb, hne, e1, e2⟩ := all_err h
  have ma := (h2 a).2 ha
  have mb := (h2 b).2 hb
  exfalso
  have hp := (risesM_pair _).1 h1
  obtain ⟨i, hi⟩ := List.getElem?_of_mem ma
  obtain ⟨j, hj⟩ := List.getElem?_of_mem mb
  obtain ⟨li, hi'⟩ := List.getElem?_eq_some_iff.1 hi
  obtain ⟨lj, hj'⟩ := List.getElem?_eq_some_iff.1 hj
  rcases Nat.lt_trichotomy i j with c | c | c
  ·have := List.pairwise_iff_getElem.1 hp i j li lj c
   rw [hi', hj', lessM_iff] at this; omega
  ·subst c; rw [hi'] at hj'; exact hne hj'
  ·have := List.pairwise_iff_getElem.1 hp j i lj li c
   rw [hi', hj', lessM_iff] at this; omega
end Go.Proofs.YtiiifecfdkjmbaaGreat.Pure
namespace Go.Proofs.YtiiifecfdkjmbaaGreat.Pure
set_option maxRecDepth 8000
structure Sc where
 d : Wd
 sent : List Mg
 ahead : Mg → Mg → Bool
 past : Nat → Mg → Bool
structure ScInv (s : Sc) : Prop where
 inv : Inv s.d
 rise : s.sent.Pairwise (fun a b => a.fr = b.fr → a.st < b.st)
 own : ∀ m, m ∈ s.sent → (0 ≤ m.fr ∧ m.fr < s.d.nodes.length) ∧ m.st ≤ clkAt s.d m.fr.toNat
 wired : ∀ f t m, m ∈ wireAt s.d f t → m ∈ s.sent
 pastS : ∀ k y, s.past k y = true → y ∈ s.sent ∧ y.st ≤ clkAt s.d k
 aheadS : ∀ a y, s.ahead a y = true → a ∈ s.sent ∧ y ∈ s.sent ∧ y.st < a.st
 trans : ∀ a b c, s.ahead a b = true → s.ahead b c = true → s.ahead a c = true
 pastT : ∀ k b c, s.past k b = true → s.ahead b c = true → s.past k c = true
 mine : ∀ m (k : Nat), m ∈ s.sent → m.fr = k → s.past k m = true
 same : ∀ (i j : Nat) a b, s.sent[i]? = some a → s.sent[j]? = some b → a.fr = b.fr → j < i → s.ahead a b = true
end Go.Proofs.YtiiifecfdkjmbaaGreat.Pure
namespace Go.Proofs.YtiiifecfdkjmbaaGreat.Pure
set_option maxRecDepth 8000
structure Rc where
 d : Wd
 all : List Mg
 ahead : List (List Bool)
 known : List (List Bool)
def bitAt (r : List Bool) (k : Nat) : Bool := r[k]?.getD false
structure Rel (r : Rc) (s : Sc) : Prop where
 d : r.d = s.d
 all : r.all = s.sent
 alen : r.ahead.length = r.all.length
 klen : r.known.length = r.d.nodes.length
 krow : ∀ (k : Nat) (row : List Bool), r.known[k]? = some row → row.length = r.all.length
 arow : ∀ (i : Nat) (row : List Bool), r.ahead[i]? = some row → row.length = i
 past : ∀ (k : Nat) (row : List Bool), r.known[k]? = some row → ∀ y, s.past k y = true ↔ ∃ (j : Nat) (b : Mg), bitAt row j = true ∧ r.all[j]? = some b ∧ (y = b ∨ s.ahead b y = true)
 ahd : ∀ (i : Nat) (row : List Bool) (a : Mg), r.ahead[i]? = some row → r.all[i]? = some a → ∀ y, s.ahead a y = true ↔ ∃ (j : Nat) (b : Mg), bitAt row j = true ∧ r.all[j]? = some b ∧ (y = b ∨ s.ahead b y = true)
end Go.Proofs.YtiiifecfdkjmbaaGreat.Pure
namespace Go.Proofs.YtiiifecfdkjmbaaGreat.Pure
set_option maxRecDepth 8000
end Go.Proofs.YtiiifecfdkjmbaaGreat.Pure
namespace Go.Proofs.YtiiifecfdkjmbaaGreat.Pure
set_option maxRecDepth 8000
end Go.Proofs.YtiiifecfdkjmbaaGreat.Pure
