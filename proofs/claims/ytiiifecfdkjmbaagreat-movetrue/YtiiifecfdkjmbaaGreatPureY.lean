/- What was told to whom, as plain data: in one order; no condition but what each row says. What comes of what, as plain data: nothing comes ahead of itself, what comes ahead has the lesser Stamp; no condition but that the groups are right. The document's own way to what comes of what, as plain data: it comes to the same. What comes ahead by way of others, as the document works it out at the end. What the whole promises, of worlds as plain data: told to all members once, and in the order in which it came. Worlds as plain data: what the laws of casting, moving, calm and acts ask, ready for their walks. -/
import Derived.Test.YtiiifecfdkjmbaaGreatPureX
namespace Go.Proofs.YtiiifecfdkjmbaaGreat.Pure
set_option maxRecDepth 8000

theorem lessM_ne {a b : Mg} (h : lessM a b = true) : a ≠ b := by
  rintro rfl; rw [lessM_irrefl] at h; cases h
/-- Two lists that rise and have the same are the same. -/
theorem rises_ext : ∀ (l1 l2 : List Mg), risesM l1 = true → risesM l2 = true → (∀ x, x ∈ l1 ↔ x ∈ l2) → l1 = l2
  | [], [], _, _, _ => rfl
  | [], b :: r, _, _, h => by have := (h b).2 (by simp); cases this
  | a :: r, [], _, _, h => by have := (h a).1 (by simp); cases this
  | a :: r, b :: s, h1, h2, h => by
    obtain ⟨p1, p2⟩ := List.pairwise_cons.1 ((risesM_pair _).1 h1)
    obtain ⟨q1, q2⟩ := List.pairwise_cons.1 ((risesM_pair _).1 h2)
    have e : a = b := by
      rcases List.mem_cons.1 ((h a).1 (by simp)) with e | h3
      · exact e
      · rcases List.mem_cons.1 ((h b).2 (by simp)) with e | h4
        · exact e.symm
        · have := lessM_trans (q1 a h3) (p1 b h4)
          rw [lessM_irrefl] at this; cases this
    subst e
    congr 1
    refine rises_ext r s ((risesM_pair _).2 p2) ((risesM_pair _).2 q2) fun x => ?_
    constructor
    · intro hx
      rcases List.mem_cons.1 ((h x).1 (List.mem_cons_of_mem _ hx)) with e | h3
      · exact absurd e.symm (lessM_ne (p1 x hx))
      · exact h3
    · intro hx
      rcases List.mem_cons.1 ((h x).2 (List.mem_cons_of_mem _ hx)) with e | h3
      · exact absurd e.symm (lessM_ne (q1 x hx))
      · exact h3
theorem rises_filter {l : List Mg} (p : Mg → Bool) (h : risesM l = true) : risesM (l.filter p) = true :=
  (risesM_pair _).2 (((risesM_pair _).1 h).sublist List.filter_sublist)

/-- What was told to both. -/
def bothL (a b : List Mg) : List Mg := a.filter fun m => b.any (sameM m)
theorem mem_bothL (a b : List Mg) (x : Mg) : x ∈ bothL a b ↔ x ∈ a ∧ x ∈ b := by
  unfold bothL
  rw [List.mem_filter, List.any_eq_true]
  refine and_congr Iff.rfl ⟨fun ⟨y, hy, e⟩ => ?_, fun h => ⟨x, h, (sameM_iff x x).2 rfl⟩⟩
  rw [sameM_iff] at e; subst e; exact hy
theorem bothL_comm {a b : List Mg} (ha : risesM a = true) (hb : risesM b = true) : bothL a b = bothL b a :=
  rises_ext _ _ (rises_filter _ ha) (rises_filter _ hb) fun x => by rw [mem_bothL, mem_bothL]; exact And.comm
theorem bothL_rises {a b : List Mg} (ha : risesM a = true) : risesM (bothL a b) = true := rises_filter _ ha

/-- How many stand ahead of m, and is it there? -/
def aheadL (m : Mg) (l : List Mg) : Option Nat := l.findIdx? (fun x => sameM x m)

/-- One more, where it belongs; none: another one has both Stamp and From. -/
def addL (out : List Mg) (m : Mg) : Except Int (List Mg) :=
  if out.any (fun x => sameM x m) then .ok out
  else match out[placeM m out]? with
    | some x => if lessM m x then .ok (out.take (placeM m out) ++ [m] ++ out.drop (placeM m out)) else .error 1
    | none => .ok (out.take (placeM m out) ++ [m] ++ out.drop (placeM m out))
def toldL (d : Wd) : List Mg := d.nodes.flatMap Nd.told
/-- All that was told, each once, rising; an error, if two have both the same, and are not the same. -/
def allD (d : Wd) : Except Int (List Mg) := (toldL d).foldlM addL []
theorem mem_toldL (d : Wd) (x : Mg) : x ∈ toldL d ↔ ∃ k, x ∈ toldAt d k := by
  unfold toldL toldAt
  rw [List.mem_flatMap]
  constructor
  · rintro ⟨nd, h1, h2⟩
    obtain ⟨k, hk⟩ := List.getElem?_of_mem h1
    exact ⟨k, by rw [hk]; exact h2⟩
  · rintro ⟨k, hk⟩
    cases h : d.nodes[k]? with
    | none => rw [h] at hk; cases hk
    | some nd => rw [h] at hk; exact ⟨nd, List.mem_of_getElem? h, hk⟩
theorem any_same {l : List Mg} {m : Mg} : l.any (fun x => sameM x m) = true ↔ m ∈ l := by
  rw [List.any_eq_true]
  exact ⟨fun ⟨y, hy, e⟩ => by rw [sameM_iff] at e; subst e; exact hy, fun h => ⟨m, h, (sameM_iff m m).2 rfl⟩⟩
theorem put_mem {m : Mg} {ms : List Mg} (x : Mg) : x ∈ ms.take (placeM m ms) ++ [m] ++ ms.drop (placeM m ms) ↔ x = m ∨ x ∈ ms := by
  have : x ∈ ms ↔ x ∈ ms.take (placeM m ms) ∨ x ∈ ms.drop (placeM m ms) := by
    rw [← List.mem_append, List.take_append_drop]
  rw [this]
  simp only [List.mem_append, List.mem_singleton]
  constructor
  · rintro ((h | h) | h)
    · exact .inr (.inl h)
    · exact .inl h
    · exact .inr (.inr h)
  · rintro (h | h | h)
    · exact .inl (.inr h)
    · exact .inl (.inl h)
    · exact .inr h
theorem put_rises {m : Mg} {ms : List Mg} (h1 : risesM ms = true) (h3 : ∀ x, ms[placeM m ms]? = some x → lessM m x = true) : risesM (ms.take (placeM m ms) ++ [m] ++ ms.drop (placeM m ms)) = true := by
  have hp := (risesM_pair _).1 h1
  rw [risesM_pair, List.append_assoc]
  have ht := List.take_append_drop (placeM m ms) ms
  rw [← ht] at hp
  obtain ⟨p1, p2, p3⟩ := List.pairwise_append.1 hp
  have hd : ∀ x ∈ ms.drop (placeM m ms), lessM m x = true := by
    intro x hx
    cases hdd : ms.drop (placeM m ms) with
    | nil => rw [hdd] at hx; simp at hx
    | cons y r =>
      have hy : ms[placeM m ms]? = some y := by
        have := congrArg (·[0]?) hdd
        simpa using this
      have hmy := h3 y hy
      rw [hdd] at hx p2
      rcases List.mem_cons.1 hx with rfl | hx
      · exact hmy
      · exact lessM_trans hmy ((List.pairwise_cons.1 p2).1 x hx)
  refine List.pairwise_append.2 ⟨p1, List.pairwise_append.2 ⟨by simp, p2, fun a ha b hb => ?_⟩, fun a ha b hb => ?_⟩
  · simp at ha; subst ha; exact hd b hb
  · rcases List.mem_append.1 hb with hb | hb
    · simp at hb; subst hb; exact placeM_take _ _ a ha
    · exact p3 a ha b hb
theorem place_no {m : Mg} : ∀ (ms : List Mg) (x : Mg), ms[placeM m ms]? = some x → lessM x m = false
  | [], x, h => by simp at h
  | y :: r, x, h => by
    unfold placeM at h
    cases hl : lessM y m
    · simp [hl] at h; subst h; exact hl
    · simp [hl] at h; exact place_no r x h
theorem add_ok {out out' : List Mg} {m : Mg} (hr : risesM out = true) (h : addL out m = .ok out') : risesM out' = true ∧ ∀ x, x ∈ out' ↔ x ∈ out ∨ x = m := by
  unfold addL at h
  by_cases ha : out.any (fun x => sameM x m) = true
  · rw [if_pos ha] at h
    have := Except.ok.inj h; subst this
    have hm := any_same.1 ha
    exact ⟨hr, fun x => ⟨fun h => .inl h, fun h => h.elim id fun e => by rw [e]; exact hm⟩⟩
  · rw [if_neg ha] at h
    cases hx : out[placeM m out]? with
    | none =>
      rw [hx] at h
      have := Except.ok.inj h; subst this
      exact ⟨put_rises hr fun x h => (by rw [hx] at h; cases h), fun x => by rw [put_mem]; exact Or.comm⟩
    | some y =>
      rw [hx] at h
      cases hl : lessM m y
      · simp [hl] at h
      · simp only [hl, if_true] at h
        have := Except.ok.inj h; subst this
        exact ⟨put_rises hr fun x h => (by rw [hx] at h; cases h; exact hl), fun x => by rw [put_mem]; exact Or.comm⟩
theorem add_err {out : List Mg} {m : Mg} {e : Int} (h : addL out m = .error e) : e = 1 ∧ ∃ y ∈ out, y ≠ m ∧ y.st = m.st ∧ y.fr = m.fr := by
  unfold addL at h
  by_cases ha : out.any (fun x => sameM x m) = true
  · rw [if_pos ha] at h; cases h
  · rw [if_neg ha] at h
    cases hx : out[placeM m out]? with
    | none => rw [hx] at h; cases h
    | some y =>
      rw [hx] at h
      cases hl : lessM m y
      · simp only [hl] at h
        have hy := List.mem_of_getElem? hx
        refine ⟨by simpa using (Except.error.inj h).symm, y, hy, ?_, ?_⟩
        · rintro rfl; exact ha (any_same.2 hy)
        · have h1 := place_no out y hx
          have n1 : ¬ lessM m y = true := by simp [hl]
          have n2 : ¬ lessM y m = true := by simp [h1]
          rw [lessM_iff] at n1 n2
          omega
      · simp [hl] at h
theorem adds {l : List Mg} : ∀ (l0 out : List Mg), risesM out = true → (∀ x, x ∈ out ↔ x ∈ l0) → (∀ out', l.foldlM addL out = .ok out' → risesM out' = true ∧ ∀ x, x ∈ out' ↔ x ∈ l0 ∨ x ∈ l) ∧ (∀ e, l.foldlM addL out = .error e → e = 1 ∧ ∃ a b, (a ∈ l0 ∨ a ∈ l) ∧ (b ∈ l0 ∨ b ∈ l) ∧ a ≠ b ∧ a.st = b.st ∧ a.fr = b.fr) := by
  induction l with
  | nil =>
    intro l0 out hr hm
    refine ⟨fun out' h => ?_, fun e h => by cases h⟩
    have := Except.ok.inj h; subst this
    exact ⟨hr, fun x => by simp [hm]⟩
  | cons m l ih =>
    intro l0 out hr hm
    simp only [List.foldlM_cons]
    refine ⟨fun out' h => ?_, fun e h => ?_⟩
    · obtain ⟨o1, h1, h2⟩ := bind_ok h
      obtain ⟨r1, m1⟩ := add_ok hr h1
      obtain ⟨a, b⟩ := (ih (l0 ++ [m]) o1 r1 (fun x => by rw [m1, hm]; simp)).1 out' h2
      exact ⟨a, fun x => by rw [b]; simp [or_assoc]⟩
    · rcases bind_err h with h | ⟨o1, h1, h2⟩
      · obtain ⟨e1, y, hy, h3, h4, h5⟩ := add_err h
        exact ⟨e1, y, m, .inl ((hm y).1 hy), .inr (by simp), h3, h4, h5⟩
      · obtain ⟨r1, m1⟩ := add_ok hr h1
        obtain ⟨e1, a, b, ha, hb, h3⟩ := (ih (l0 ++ [m]) o1 r1 (fun x => by rw [m1, hm]; simp)).2 e h2
        refine ⟨e1, a, b, ?_, ?_, h3⟩
        · simpa [or_assoc] using ha
        · simpa [or_assoc] using hb
/-- All, told by what it has. -/
theorem all_ok {d : Wd} {l : List Mg} (h : allD d = .ok l) : risesM l = true ∧ ∀ x, x ∈ l ↔ ∃ k, x ∈ toldAt d k := by
  obtain ⟨a, b⟩ := (adds (l := toldL d) [] [] rfl (fun x => Iff.rfl)).1 l h
  exact ⟨a, fun x => by rw [b, ← mem_toldL]; simp⟩
theorem all_err {d : Wd} {e : Int} (h : allD d = .error e) : e = 1 ∧ ∃ a b, (∃ k, a ∈ toldAt d k) ∧ (∃ k, b ∈ toldAt d k) ∧ a ≠ b ∧ a.st = b.st ∧ a.fr = b.fr := by
  obtain ⟨a, x, y, hx, hy, h3⟩ := (adds (l := toldL d) [] [] rfl (fun x => Iff.rfl)).2 e h
  refine ⟨a, x, y, (mem_toldL d x).1 ?_, (mem_toldL d y).1 ?_, h3⟩
  · simpa using hx
  · simpa using hy
theorem all_iff (d : Wd) (l : List Mg) : allD d = .ok l ↔ risesM l = true ∧ ∀ x, x ∈ l ↔ ∃ k, x ∈ toldAt d k := by
  refine ⟨all_ok, fun ⟨h1, h2⟩ => ?_⟩
  cases h : allD d with
  | ok l' =>
    obtain ⟨h3, h4⟩ := all_ok h
    rw [rises_ext l' l h3 h1 fun x => by rw [h2, h4]]
  | error e =>
    obtain ⟨_, a, b, ha, hb, hne, e1, e2⟩ := all_err h
    have ma := (h2 a).2 ha
    have mb := (h2 b).2 hb
    exfalso
    have hp := (risesM_pair _).1 h1
    obtain ⟨i, hi⟩ := List.getElem?_of_mem ma
    obtain ⟨j, hj⟩ := List.getElem?_of_mem mb
    obtain ⟨li, hi'⟩ := List.getElem?_eq_some_iff.1 hi
    obtain ⟨lj, hj'⟩ := List.getElem?_eq_some_iff.1 hj
    rcases Nat.lt_trichotomy i j with c | c | c
    · have := List.pairwise_iff_getElem.1 hp i j li lj c
      rw [hi', hj', lessM_iff] at this; omega
    · subst c; rw [hi'] at hj'; exact hne hj'
    · have := List.pairwise_iff_getElem.1 hp j i lj li c
      rw [hi', hj', lessM_iff] at this; omega
theorem inv_all {d : Wd} (I : Inv d) : ∃ l, allD d = .ok l := by
  cases h : allD d with
  | ok l => exact ⟨l, rfl⟩
  | error e =>
    obtain ⟨_, a, b, ⟨i, ha⟩, ⟨j, hb⟩, hne, e1, e2⟩ := all_err h
    exact absurd (I.uniq a b ⟨i, .inr (.inl ha)⟩ ⟨j, .inr (.inl hb)⟩ e1 e2) hne

/-- How many of t are met, one behind the other, by the first k of l. -/
def metTo (l t : List Mg) : Nat → Nat
  | 0 => 0
  | k + 1 => match l[k]?, t[metTo l t k]? with
    | some a, some b => if sameM a b then metTo l t k + 1 else metTo l t k
    | _, _ => metTo l t k
theorem metTo_le (l t : List Mg) : ∀ k, metTo l t k ≤ t.length
  | 0 => Nat.zero_le _
  | k + 1 => by
    have := metTo_le l t k
    unfold metTo
    split
    · next a b h1 h2 =>
      have := (List.getElem?_eq_some_iff.1 h2).1
      split <;> omega
    · exact this
theorem met_all {l t : List Mg} (hl : risesM l = true) (ht : risesM t = true) (hs : ∀ x, x ∈ t → x ∈ l) : metTo l t l.length = t.length := by
  have pl := List.pairwise_iff_getElem.1 ((risesM_pair _).1 hl)
  have pt := List.pairwise_iff_getElem.1 ((risesM_pair _).1 ht)
  have key : ∀ k, k ≤ l.length → ∀ x, x ∈ t.drop (metTo l t k) → x ∈ l.drop k := by
    intro k
    induction k with
    | zero => intro _ x hx; simpa [metTo] using hs x (by simpa [metTo] using hx)
    | succ k ih =>
      intro hk x hx
      have ih' := ih (by omega)
      have hlk : l[k]? = some l[k] := List.getElem?_eq_getElem (by omega)
      have hdk : l.drop k = l[k] :: l.drop (k + 1) := List.drop_eq_getElem_cons (by omega)
      have later : ∀ y, y ∈ l.drop (k + 1) → lessM l[k] y = true := by
        intro y hy
        obtain ⟨j, hj⟩ := List.getElem?_of_mem hy
        rw [List.getElem?_drop] at hj
        obtain ⟨lj, ej⟩ := List.getElem?_eq_some_iff.1 hj
        rw [← ej]; exact pl k (k + 1 + j) (by omega) lj (by omega)
      cases hb : t[metTo l t k]? with
      | none =>
        have hge : t.length ≤ metTo l t k := List.getElem?_eq_none_iff.1 hb
        have e : metTo l t (k + 1) = metTo l t k := by
          show (match l[k]?, t[metTo l t k]? with | some a, some b => if sameM a b then metTo l t k + 1 else metTo l t k | _, _ => metTo l t k) = _
          rw [hlk, hb]
        rw [e, List.drop_eq_nil_of_le hge] at hx; cases hx
      | some b =>
        obtain ⟨lb, eb⟩ := List.getElem?_eq_some_iff.1 hb
        have hdt : t.drop (metTo l t k) = b :: t.drop (metTo l t k + 1) := by rw [List.drop_eq_getElem_cons lb, eb]
        have laterT : ∀ y, y ∈ t.drop (metTo l t k + 1) → lessM b y = true := by
          intro y hy
          obtain ⟨j, hj⟩ := List.getElem?_of_mem hy
          rw [List.getElem?_drop] at hj
          obtain ⟨lj, ej⟩ := List.getElem?_eq_some_iff.1 hj
          rw [← ej, ← eb]; exact pt _ _ lb lj (by omega)
        by_cases hsame : sameM l[k] b = true
        · have e : metTo l t (k + 1) = metTo l t k + 1 := by
            show (match l[k]?, t[metTo l t k]? with | some a, some b => if sameM a b then metTo l t k + 1 else metTo l t k | _, _ => metTo l t k) = _
            rw [hlk, hb]; simp only [hsame, if_true]
          have eq := (sameM_iff _ _).1 hsame
          rw [e] at hx
          have h1 := ih' x (by rw [hdt]; exact List.mem_cons_of_mem _ hx)
          rw [hdk] at h1
          rcases List.mem_cons.1 h1 with h1 | h1
          · have := laterT x hx
            rw [← eq, h1] at this
            rw [lessM_irrefl] at this; cases this
          · exact h1
        · have e : metTo l t (k + 1) = metTo l t k := by
            show (match l[k]?, t[metTo l t k]? with | some a, some b => if sameM a b then metTo l t k + 1 else metTo l t k | _, _ => metTo l t k) = _
            rw [hlk, hb]; simp only [hsame]; rfl
          rw [e] at hx
          have hbl := ih' b (by rw [hdt]; simp)
          rw [hdk] at hbl
          have hbl2 : b ∈ l.drop (k + 1) := by
            rcases List.mem_cons.1 hbl with h | h
            · exact absurd ((sameM_iff _ _).2 h.symm) hsame
            · exact h
          rw [hdt] at hx
          rcases List.mem_cons.1 hx with rfl | hx
          · exact hbl2
          · have h1 := ih' x (by rw [hdt]; exact List.mem_cons_of_mem _ hx)
            rw [hdk] at h1
            rcases List.mem_cons.1 h1 with h1 | h1
            · have a1 := laterT x hx
              have a2 := later b hbl2
              rw [h1] at a1
              have := lessM_trans a1 a2
              rw [lessM_irrefl] at this; cases this
            · exact h1
  have h1 := key l.length (Nat.le_refl _)
  have h2 := metTo_le l t l.length
  by_cases e : metTo l t l.length = t.length
  · exact e
  · have hlt : metTo l t l.length < t.length := by omega
    have := h1 t[metTo l t l.length] (List.mem_of_getElem? (i := 0) (by rw [List.getElem?_drop]; exact List.getElem?_eq_getElem hlt))
    simp at this
end Go.Proofs.YtiiifecfdkjmbaaGreat.Pure

namespace Go.Proofs.YtiiifecfdkjmbaaGreat.Pure
set_option maxRecDepth 8000

/-- What was sent, what came ahead of what, and what a node has sent or got, with all ahead of that. -/
structure Sc where
  d : Wd
  sent : List Mg
  ahead : Mg → Mg → Bool
  past : Nat → Mg → Bool
/-- The message that the act x has sent. -/
def sentM (d' : Wd) (x : Ac) : Mg := ⟨x.one, x.two, clkAt d' x.one.toNat, decide (x.kind = 2), if x.kind = 2 then ByteArray.empty else x.body⟩
def learnS (s : Sc) (d' : Wd) (t : Nat) (m : Mg) : Sc := { s with d := d', past := fun k y => s.past k y || (decide (k = t) && (s.ahead m y || sameM y m)) }
def sendS (s : Sc) (d' : Wd) (n : Nat) (m : Mg) : Sc := ⟨d', s.sent ++ [m], fun a y => if sameM a m then s.past n y else s.ahead a y, fun k y => s.past k y || (decide (k = n) && sameM y m)⟩
def scStep (s : Sc) (x : Ac) : Sc :=
  if x.kind = 4 then s else
  match doD s.d x with
  | .error _ => s
  | .ok d' => if x.kind = 3 then (match wireAt s.d x.one.toNat x.two.toNat with | m :: _ => learnS s d' x.two.toNat m | [] => s) else sendS s d' x.one.toNat (sentM d' x)
def scBegin (n : Nat) (l : List Int) : Sc := ⟨beginD n l, [], fun _ _ => false, fun _ _ => false⟩
def scD (n : Nat) (l : List Int) (acts : List Ac) : Sc := acts.foldl scStep (scBegin n l)
def marksD (s : Sc) : List (List Bool) := s.sent.map fun m => s.sent.map fun o => s.ahead m o

structure ScInv (s : Sc) : Prop where
  inv : Inv s.d
  rise : s.sent.Pairwise (fun a b => a.fr = b.fr → a.st < b.st)
  own : ∀ m, m ∈ s.sent → (0 ≤ m.fr ∧ m.fr < s.d.nodes.length) ∧ m.st ≤ clkAt s.d m.fr.toNat
  wired : ∀ f t m, m ∈ wireAt s.d f t → m ∈ s.sent
  pastS : ∀ k y, s.past k y = true → y ∈ s.sent ∧ y.st ≤ clkAt s.d k
  aheadS : ∀ a y, s.ahead a y = true → a ∈ s.sent ∧ y ∈ s.sent ∧ y.st < a.st
  trans : ∀ a b c, s.ahead a b = true → s.ahead b c = true → s.ahead a c = true
  pastT : ∀ k b c, s.past k b = true → s.ahead b c = true → s.past k c = true
  mine : ∀ m (k : Nat), m ∈ s.sent → m.fr = k → s.past k m = true
  same : ∀ (i j : Nat) a b, s.sent[i]? = some a → s.sent[j]? = some b → a.fr = b.fr → j < i → s.ahead a b = true

theorem sc_learn {s : Sc} {d' : Wd} {f t : Nat} {m : Mg} (I : ScInv s) (hI : Inv d') (G : Grow s.d d') (M : Moved s.d d' f t m) : ScInv (learnS s d' t m) := by
  have hm : m ∈ s.sent := I.wired f t m (by rw [M.first]; simp)
  have P : ∀ k y, (learnS s d' t m).past k y = true ↔ s.past k y = true ∨ (k = t ∧ (s.ahead m y = true ∨ y = m)) := by
    intro k y
    unfold learnS
    simp only [Bool.or_eq_true, Bool.and_eq_true, decide_eq_true_eq, sameM_iff]
  refine ⟨hI, I.rise, fun x hx => ?_, fun f' t' x hx => ?_, fun k y h => ?_, I.aheadS, I.trans, fun k b c h1 h2 => ?_, fun x k hx e => (P k x).2 (.inl (I.mine x k hx e)), I.same⟩
  · obtain ⟨a, b⟩ := I.own x hx
    exact ⟨by show _ ∧ _ < ((d'.nodes.length : Nat) : Int); rw [G.alike.n]; exact a, Int.le_trans b (G.clk _)⟩
  · by_cases e : f' = f ∧ t' = t
    · obtain ⟨rfl, rfl⟩ := e
      exact I.wired f' t' x (by rw [M.first]; exact List.mem_cons_of_mem _ hx)
    · exact I.wired f' t' x (by rw [← M.wire f' t' e]; exact hx)
  · rcases (P k y).1 h with h | ⟨rfl, h | rfl⟩
    · obtain ⟨a, b⟩ := I.pastS k y h
      exact ⟨a, Int.le_trans b (G.clk _)⟩
    · obtain ⟨_, b, c⟩ := I.aheadS m y h
      have := M.clk
      exact ⟨b, by show y.st ≤ clkAt d' k; omega⟩
    · exact ⟨hm, M.clk⟩
  · have h2' : s.ahead b c = true := h2
    rw [P]
    rcases (P k b).1 h1 with h | ⟨rfl, h | rfl⟩
    · exact .inl (I.pastT k b c h h2')
    · exact .inr ⟨rfl, .inl (I.trans m b c h h2')⟩
    · exact .inr ⟨rfl, .inl h2'⟩

theorem sc_send {s : Sc} {d' : Wd} {n : Nat} {m : Mg} (I : ScInv s) (hI : Inv d') (G : Grow s.d d') (C : Casted s.d d' n m) : ScInv (sendS s d' n m) := by
  have hmfr : m.fr.toNat = n := by have := C.mfr; omega
  have hst := C.mst
  have fresh : ∀ x, x ∈ s.sent → x.fr = m.fr → x.st < m.st := by
    intro x hx e
    have := (I.own x hx).2
    rw [e, hmfr] at this; omega
  have hno : m ∉ s.sent := fun h => by have := fresh m h rfl; omega
  have A : ∀ a y, (sendS s d' n m).ahead a y = true ↔ (a = m ∧ s.past n y = true) ∨ (a ≠ m ∧ s.ahead a y = true) := by
    intro a y
    unfold sendS
    by_cases e : a = m
    · subst e
      have : sameM a a = true := (sameM_iff a a).2 rfl
      simp [this]
    · have : ¬ sameM a m = true := fun h => e ((sameM_iff a m).1 h)
      simp [this, e]
  have P : ∀ k y, (sendS s d' n m).past k y = true ↔ s.past k y = true ∨ (k = n ∧ y = m) := by
    intro k y
    unfold sendS
    simp only [Bool.or_eq_true, Bool.and_eq_true, decide_eq_true_eq, sameM_iff]
  have mem : ∀ x, x ∈ (sendS s d' n m).sent ↔ x ∈ s.sent ∨ x = m := by intro x; unfold sendS; simp
  have hclk : clkAt d' n = m.st := by rw [C.clk, if_pos rfl]
  refine ⟨hI, ?_, fun x hx => ?_, fun f t x hx => ?_, fun k y h => ?_, fun a y h => ?_, fun a b c h1 h2 => ?_, fun k b c h1 h2 => ?_, fun x k hx e => ?_, fun i j a b ha hb e hlt => ?_⟩
  · show (s.sent ++ [m]).Pairwise _
    refine List.pairwise_append.2 ⟨I.rise, by simp, fun a ha b hb e => ?_⟩
    simp at hb; subst hb; exact fresh a ha e
  · show (_ ∧ _ < ((d'.nodes.length : Nat) : Int)) ∧ x.st ≤ clkAt d' _
    rw [G.alike.n]
    rcases (mem x).1 hx with hx | rfl
    · obtain ⟨a, b⟩ := I.own x hx
      exact ⟨a, Int.le_trans b (G.clk _)⟩
    · have := C.lt
      rw [hmfr, hclk]; have := C.mfr
      exact ⟨by omega, Int.le_refl _⟩
  · rw [mem]
    have hx' : x ∈ wireAt d' f t := hx
    rw [C.wire] at hx'
    split at hx'
    · rcases List.mem_append.1 hx' with h | h
      · exact .inl (I.wired f t x h)
      · simp at h; exact .inr h
    · exact .inl (I.wired f t x hx')
  · rw [mem]
    rcases (P k y).1 h with h | ⟨rfl, rfl⟩
    · obtain ⟨a, b⟩ := I.pastS k y h
      exact ⟨.inl a, Int.le_trans b (G.clk _)⟩
    · exact ⟨.inr rfl, by show y.st ≤ clkAt d' k; omega⟩
  · rw [mem, mem]
    rcases (A a y).1 h with ⟨rfl, h'⟩ | ⟨_, h⟩
    · obtain ⟨b, c⟩ := I.pastS n y h'
      exact ⟨.inr rfl, .inl b, by omega⟩
    · obtain ⟨b, c, e⟩ := I.aheadS a y h
      exact ⟨.inl b, .inl c, e⟩
  · rw [A]
    have hb : b ≠ m := by
      rintro rfl
      rcases (A a b).1 h1 with ⟨_, h⟩ | ⟨_, h⟩
      · exact hno (I.pastS n b h).1
      · exact hno (I.aheadS a b h).2.1
    have h2' : s.ahead b c = true := by
      rcases (A b c).1 h2 with ⟨h, _⟩ | ⟨_, h⟩
      · exact absurd h hb
      · exact h
    rcases (A a b).1 h1 with ⟨rfl, h⟩ | ⟨e, h⟩
    · exact .inl ⟨rfl, I.pastT n b c h h2'⟩
    · exact .inr ⟨e, I.trans a b c h h2'⟩
  · rw [P]
    rcases (P k b).1 h1 with h | ⟨rfl, rfl⟩
    · have hb : b ≠ m := by rintro rfl; exact hno (I.pastS k b h).1
      rcases (A b c).1 h2 with ⟨e, _⟩ | ⟨_, h3⟩
      · exact absurd e hb
      · exact .inl (I.pastT k b c h h3)
    · rcases (A b c).1 h2 with ⟨_, h⟩ | ⟨e, _⟩
      · exact .inl h
      · exact absurd rfl e
  · rw [P]
    rcases (mem x).1 hx with h | rfl
    · exact .inl (I.mine x k h e)
    · exact .inr ⟨by have := C.mfr; omega, rfl⟩
  · rw [A]
    have ha' : (s.sent ++ [m])[i]? = some a := ha
    have hb' : (s.sent ++ [m])[j]? = some b := hb
    have hi : i < (s.sent ++ [m]).length := (List.getElem?_eq_some_iff.1 ha').1
    simp at hi
    have hj : j < s.sent.length := by omega
    rw [List.getElem?_append_left hj] at hb'
    have mb := List.mem_of_getElem? hb'
    by_cases c : i < s.sent.length
    · rw [List.getElem?_append_left c] at ha'
      have ma := List.mem_of_getElem? ha'
      exact .inr ⟨fun h => hno (h ▸ ma), I.same i j a b ha' hb' e hlt⟩
    · have : i = s.sent.length := by omega
      subst this
      rw [List.getElem?_append_right (Nat.le_refl _)] at ha'
      simp at ha'
      subst ha'
      exact .inl ⟨rfl, I.mine b n mb (by rw [← e, C.mfr])⟩

theorem sc_step {s : Sc} (x : Ac) (I : ScInv s) : ScInv (scStep s x) := by
  unfold scStep
  by_cases h4 : x.kind = 4
  · rw [if_pos h4]; exact I
  · rw [if_neg h4]
    cases h : doD s.d x with
    | error e => exact I
    | ok d' =>
      have D := do_ok h
      have hI := D.inv I.inv
      simp only
      by_cases h3 : x.kind = 3
      · rw [if_pos h3]
        unfold doD at h
        rw [if_neg (by omega), if_neg (by omega), if_pos h3] at h
        obtain ⟨R, hf, ht, h⟩ := moveOf_ok h
        obtain ⟨m, M⟩ := moved R (f := x.one.toNat) (t := x.two.toNat) (by omega) (by omega) h
        rw [M.first]
        exact sc_learn I hI D.grow M
      · rw [if_neg h3]
        have key : ∃ nul body, (nul = true → body.size = 0) ∧ castD s.d x.one x.two nul body = .ok d' ∧ (sentM d' x).nul = nul ∧ (sentM d' x).body = body := by
          unfold doD at h
          unfold sentM
          by_cases h1 : x.kind = 1
          · rw [if_pos h1] at h
            obtain ⟨R, h⟩ := checked_ok h
            exact ⟨false, x.body, fun h => (by cases h), h, by simp; omega, by simp; intro h; omega⟩
          · rw [if_neg h1] at h
            by_cases h2 : x.kind = 2
            · rw [if_pos h2] at h
              obtain ⟨R, h⟩ := checked_ok h
              exact ⟨true, ByteArray.empty, fun _ => rfl, h, by simp [h2], by simp [h2]⟩
            · rw [if_neg h2, if_neg h3, if_neg h4] at h; cases h
        obtain ⟨nul, body, hb, hc, e1, e2⟩ := key
        have C := casted D.was hb hc
        have em : sentM d' x = msgD s.d x.one x.two nul body := by
          have h1 := C.clk x.one.toNat
          rw [if_pos rfl] at h1
          unfold sentM at e1 e2 ⊢
          unfold msgD at h1 ⊢
          simp only at e1 e2 h1
          rw [e1, e2, h1]
        rw [em]
        exact sc_send I hI D.grow C
theorem sc_inv {n : Nat} {l : List Int} (hc : chkE n l = 0) (acts : List Ac) : ScInv (scD n l acts) := by
  obtain ⟨I0, c0⟩ := begin_inv hc
  have h0 : ScInv (scBegin n l) := by
    refine ⟨I0, by simp [scBegin], fun m hm => (by cases hm), fun f t m hm => ?_, fun k y h => (by cases h), fun a y h => (by cases h), fun a b c h => (by cases h), fun k b c h => (by cases h), fun m k h => (by cases h), fun i j a b h => ?_⟩
    · have : wireAt (beginD n l) f t = [] := by
        cases hw : wireAt (beginD n l) f t with
        | nil => rfl
        | cons x r =>
          have := (I0.wire f t x (by rw [hw]; simp))
          have h1 := I0.right.wireF f t x (by rw [hw]; simp)
          have h2 := (chkM_zero (fine_iff.1 h1.1).1).2.2.1
          rw [c0] at this; omega
      have hm' : m ∈ wireAt (beginD n l) f t := hm
      rw [this] at hm'; cases hm'
    · simp [scBegin] at h
  unfold scD
  have : ∀ (acts : List Ac) (s : Sc), ScInv s → ScInv (acts.foldl scStep s) := by
    intro acts
    induction acts with
    | nil => intro s h; exact h
    | cons x r ih => intro s h; exact ih _ (sc_step x h)
  exact this acts _ h0
/-- The world is the one that came by the acts but Calm. -/
theorem sc_world (n : Nat) (l : List Int) (acts : List Ac) : (scD n l acts).d = doneD n l (acts.filter fun x => decide (x.kind ≠ 4)) := by
  unfold scD doneD
  have : ∀ (acts : List Ac) (s : Sc), (acts.foldl scStep s).d = (acts.filter fun x => decide (x.kind ≠ 4)).foldl doneOne s.d := by
    intro acts
    induction acts with
    | nil => intro s; rfl
    | cons x r ih =>
      intro s
      rw [List.foldl_cons, ih]
      by_cases h4 : x.kind = 4
      · have e : scStep s x = s := by unfold scStep; rw [if_pos h4]
        simp [e, h4]
      · rw [List.filter_cons_of_pos (by simpa using h4), List.foldl_cons]
        congr 1
        unfold scStep doneOne
        rw [if_neg h4]
        cases h : doD s.d x with
        | error e => rfl
        | ok d' =>
          simp only
          by_cases h3 : x.kind = 3
          · rw [if_pos h3]
            cases hw : wireAt s.d x.one.toNat x.two.toNat with
            | cons m r => rfl
            | nil =>
              exfalso
              unfold doD at h
              rw [if_neg (by omega), if_neg (by omega), if_pos h3] at h
              obtain ⟨R, hf, ht, h⟩ := moveOf_ok h
              unfold moveD at h
              rw [hw] at h; cases h
          · rw [if_neg h3]; rfl
  exact this acts _
theorem marks_at {s : Sc} {i j : Nat} {a b : Mg} (ha : s.sent[i]? = some a) (hb : s.sent[j]? = some b) : ((marksD s)[i]?.getD [])[j]? = some (s.ahead a b) := by
  unfold marksD
  rw [List.getElem?_map, ha]
  simp [hb]
end Go.Proofs.YtiiifecfdkjmbaaGreat.Pure

namespace Go.Proofs.YtiiifecfdkjmbaaGreat.Pure
set_option maxRecDepth 8000

structure Rc where
  d : Wd
  all : List Mg
  ahead : List (List Bool)
  known : List (List Bool)
def knowRow (all : List Mg) (m : Mg) (row : List Bool) : List Bool := List.zipWith (fun b a => b || sameM a m) row all
def rcStep (r : Rc) (x : Ac) : Rc :=
  if x.kind = 4 then r else
  match doD r.d x with
  | .error _ => r
  | .ok d' => if x.kind = 3 then (match wireAt r.d x.one.toNat x.two.toNat with | m :: _ => { r with d := d', known := r.known.set x.two.toNat (knowRow r.all m (r.known[x.two.toNat]?.getD [])) } | [] => r)
    else ⟨d', r.all ++ [sentM d' x], r.ahead ++ [r.known[x.one.toNat]?.getD []], (List.range r.known.length).map fun n => (r.known[n]?.getD []) ++ [decide (n = x.one.toNat)]⟩
def rcBegin (n : Nat) (l : List Int) : Rc := ⟨beginD n l, [], [], List.replicate n []⟩
def rcD (n : Nat) (l : List Int) (acts : List Ac) : Rc := acts.foldl rcStep (rcBegin n l)
def bitAt (r : List Bool) (k : Nat) : Bool := r[k]?.getD false
def padRow (n : Nat) (row : List Bool) : List Bool := row ++ List.replicate (n - row.length) false
def orRow (a b : List Bool) : List Bool := List.zipWith (fun x y => x || y) a b
def closeTo (rows : List (List Bool)) (row : List Bool) : Nat → List Bool
  | 0 => row
  | j + 1 => if bitAt (closeTo rows row j) j then orRow (closeTo rows row j) (rows[j]?.getD []) else closeTo rows row j
def closeOne (n : Nat) (rows : List (List Bool)) (row : List Bool) : List (List Bool) := rows ++ [closeTo rows (padRow n row) rows.length]
def closeAll (n : Nat) (rows : List (List Bool)) : List (List Bool) := rows.foldl (closeOne n) []

structure Rel (r : Rc) (s : Sc) : Prop where
  d : r.d = s.d
  all : r.all = s.sent
  alen : r.ahead.length = r.all.length
  klen : r.known.length = r.d.nodes.length
  krow : ∀ (k : Nat) (row : List Bool), r.known[k]? = some row → row.length = r.all.length
  arow : ∀ (i : Nat) (row : List Bool), r.ahead[i]? = some row → row.length = i
  past : ∀ (k : Nat) (row : List Bool), r.known[k]? = some row → ∀ y, s.past k y = true ↔ ∃ (j : Nat) (b : Mg), bitAt row j = true ∧ r.all[j]? = some b ∧ (y = b ∨ s.ahead b y = true)
  ahd : ∀ (i : Nat) (row : List Bool) (a : Mg), r.ahead[i]? = some row → r.all[i]? = some a → ∀ y, s.ahead a y = true ↔ ∃ (j : Nat) (b : Mg), bitAt row j = true ∧ r.all[j]? = some b ∧ (y = b ∨ s.ahead b y = true)

theorem bit_lt {r : List Bool} {k : Nat} (h : bitAt r k = true) : k < r.length := by
  unfold bitAt at h
  cases e : r[k]? with
  | none => rw [e] at h; cases h
  | some b => exact (List.getElem?_eq_some_iff.1 e).1
theorem bit_append (a b : List Bool) (k : Nat) : bitAt (a ++ b) k = if k < a.length then bitAt a k else bitAt b (k - a.length) := by
  unfold bitAt
  split
  · next h => rw [List.getElem?_append_left h]
  · next h => rw [List.getElem?_append_right (by omega)]
theorem bit_pad (n : Nat) (row : List Bool) (k : Nat) : bitAt (padRow n row) k = bitAt row k := by
  unfold padRow
  rw [bit_append]
  split
  · rfl
  · next h =>
    have e1 : bitAt row k = false := by
      cases e : bitAt row k
      · rfl
      · exact absurd (bit_lt e) h
    rw [e1]
    unfold bitAt
    cases e : (List.replicate (n - row.length) false)[k - row.length]? with
    | none => rfl
    | some b => exact (List.mem_replicate.1 (List.mem_of_getElem? e)).2
theorem pad_length {n : Nat} {row : List Bool} (h : row.length ≤ n) : (padRow n row).length = n := by
  unfold padRow; simp; omega
theorem bit_or {a b : List Bool} (h : a.length = b.length) (k : Nat) : bitAt (orRow a b) k = (bitAt a k || bitAt b k) := by
  unfold bitAt orRow
  rw [List.getElem?_zipWith]
  by_cases hk : k < a.length
  · have e1 := List.getElem?_eq_getElem hk
    have e2 : b[k]? = some b[k] := List.getElem?_eq_getElem (by omega)
    rw [e1, e2]; rfl
  · have e1 : a[k]? = none := List.getElem?_eq_none_iff.2 (by omega)
    have e2 : b[k]? = none := List.getElem?_eq_none_iff.2 (by omega)
    rw [e1, e2]; rfl
theorem bit_know {all : List Mg} {m : Mg} {row : List Bool} (h : row.length = all.length) (k : Nat) : bitAt (knowRow all m row) k = true ↔ bitAt row k = true ∨ all[k]? = some m := by
  unfold bitAt knowRow
  rw [List.getElem?_zipWith]
  by_cases hk : k < row.length
  · have e1 := List.getElem?_eq_getElem hk
    have e2 : all[k]? = some all[k] := List.getElem?_eq_getElem (by omega)
    rw [e1, e2]
    simp [sameM_iff]
  · have e1 : row[k]? = none := List.getElem?_eq_none_iff.2 (by omega)
    have e2 : all[k]? = none := List.getElem?_eq_none_iff.2 (by omega)
    rw [e1, e2]; simp
theorem know_length {all : List Mg} {m : Mg} {row : List Bool} (h : row.length = all.length) : (knowRow all m row).length = all.length := by
  unfold knowRow; simp [h]

theorem rel_begin {n : Nat} {l : List Int} : Rel (rcBegin n l) (scBegin n l) := by
  refine ⟨rfl, rfl, rfl, by simp [rcBegin, beginD], fun k row h => ?_, fun i row h => ?_, fun k row h y => ?_, fun i row a h => ?_⟩
  · have := (List.mem_replicate.1 (List.mem_of_getElem? (by unfold rcBegin at h; exact h))).2
    rw [this]; rfl
  · simp [rcBegin] at h
  · constructor
    · intro h; cases h
    · rintro ⟨j, b, _, h2, _⟩; simp [rcBegin] at h2
  · simp [rcBegin] at h

theorem rel_step {r : Rc} {s : Sc} (x : Ac) (I : ScInv s) (I' : ScInv (scStep s x)) (R : Rel r s) : Rel (rcStep r x) (scStep s x) := by
  unfold rcStep scStep at *
  by_cases h4 : x.kind = 4
  · rw [if_pos h4, if_pos h4]; exact R
  · rw [if_neg h4] at *
    rw [if_neg h4]
    rw [R.d]
    cases h : doD s.d x with
    | error e => exact R
    | ok d' =>
      rw [h] at I'
      simp only at I' ⊢
      have D := do_ok h
      have hN : d'.nodes.length = s.d.nodes.length := D.grow.alike.n
      by_cases h3 : x.kind = 3
      · rw [if_pos h3] at *
        rw [if_pos h3]
        cases hw : wireAt s.d x.one.toNat x.two.toNat with
        | nil => simp only; exact R
        | cons m rest =>
          simp only
          have row0 : ∀ (k : Nat) (row : List Bool), (r.known.set x.two.toNat (knowRow r.all m (r.known[x.two.toNat]?.getD [])))[k]? = some row → (k = x.two.toNat ∧ ∃ r0, r.known[k]? = some r0 ∧ row = knowRow r.all m r0) ∨ (k ≠ x.two.toNat ∧ r.known[k]? = some row) := by
            intro k row hk
            rw [List.getElem?_set] at hk
            by_cases e : x.two.toNat = k
            · subst e
              simp only [if_true] at hk
              split at hk
              · next hl =>
                have e0 := List.getElem?_eq_getElem hl
                rw [e0] at hk
                exact .inl ⟨rfl, _, e0, by simpa using hk.symm⟩
              · cases hk
            · rw [if_neg e] at hk; exact .inr ⟨fun h => e h.symm, hk⟩
          refine ⟨rfl, R.all, R.alen, by simp; rw [R.klen, R.d]; exact hN.symm, fun k row hk => ?_, R.arow, fun k row hk y => ?_, R.ahd⟩
          · rcases row0 k row hk with ⟨_, r0, e1, e2⟩ | ⟨_, e1⟩
            · rw [e2]; exact know_length (R.krow k r0 e1)
            · exact R.krow k row e1
          · show (s.past k y || (decide (k = x.two.toNat) && (s.ahead m y || sameM y m))) = true ↔ _
            simp only [Bool.or_eq_true, Bool.and_eq_true, decide_eq_true_eq, sameM_iff]
            have hm : m ∈ s.sent := I.wired x.one.toNat x.two.toNat m (by rw [hw]; simp)
            rw [← R.all] at hm
            obtain ⟨i, hi⟩ := List.getElem?_of_mem hm
            rcases row0 k row hk with ⟨e0, r0, e1, e2⟩ | ⟨e0, e1⟩
            · rw [R.past k r0 e1 y, e2]
              constructor
              · rintro (⟨j, b, h1, h2, h3⟩ | ⟨_, h3⟩)
                · exact ⟨j, b, (bit_know (R.krow k r0 e1) j).2 (.inl h1), h2, h3⟩
                · exact ⟨i, m, (bit_know (R.krow k r0 e1) i).2 (.inr hi), hi, h3.symm⟩
              · rintro ⟨j, b, h1, h2, h3⟩
                rcases (bit_know (R.krow k r0 e1) j).1 h1 with h1 | h1
                · exact .inl ⟨j, b, h1, h2, h3⟩
                · have : b = m := by
                    have h2' : r.all[j]? = some b := h2
                    rw [h1] at h2'; exact (Option.some.inj h2').symm
                  subst this
                  exact .inr ⟨e0, h3.symm⟩
            · rw [R.past k row e1 y]
              constructor
              · rintro (h | ⟨h, _⟩)
                · exact h
                · exact absurd h e0
              · exact .inl
      · rw [if_neg h3] at *
        rw [if_neg h3]
        have hno : ∀ (j : Nat) (b : Mg), r.all[j]? = some b → b ≠ sentM d' x := by
          intro j b hb e
          have hp := I'.rise
          have hp' : (s.sent ++ [sentM d' x]).Pairwise (fun a b => a.fr = b.fr → a.st < b.st) := hp
          have := (List.pairwise_append.1 hp').2.2 b (by rw [← R.all]; exact List.mem_of_getElem? hb) (sentM d' x) (by simp) (by rw [e])
          rw [e] at this; omega
        have A : ∀ a y, (sendS s d' x.one.toNat (sentM d' x)).ahead a y = true ↔ (a = sentM d' x ∧ s.past x.one.toNat y = true) ∨ (a ≠ sentM d' x ∧ s.ahead a y = true) := by
          intro a y
          unfold sendS
          by_cases e : a = sentM d' x
          · subst e
            have : sameM (sentM d' x) (sentM d' x) = true := (sameM_iff _ _).2 rfl
            simp [this]
          · have : ¬ sameM a (sentM d' x) = true := fun h => e ((sameM_iff _ _).1 h)
            simp [this, e]
        have P : ∀ k y, (sendS s d' x.one.toNat (sentM d' x)).past k y = true ↔ s.past k y = true ∨ (k = x.one.toNat ∧ y = sentM d' x) := by
          intro k y
          unfold sendS
          simp only [Bool.or_eq_true, Bool.and_eq_true, decide_eq_true_eq, sameM_iff]
        have hold : ∀ b y, b ≠ sentM d' x → ((sendS s d' x.one.toNat (sentM d' x)).ahead b y = true ↔ s.ahead b y = true) := by
          intro b y hb; rw [A]; simp [hb]
        have left : ∀ (j : Nat) (b : Mg), (r.all ++ [sentM d' x])[j]? = some b → (j < r.all.length ∧ r.all[j]? = some b) ∨ (j = r.all.length ∧ b = sentM d' x) := by
          intro j b hb
          by_cases c : j < r.all.length
          · rw [List.getElem?_append_left c] at hb; exact .inl ⟨c, hb⟩
          · have hlt := (List.getElem?_eq_some_iff.1 hb).1
            simp at hlt
            have e : j = r.all.length := by omega
            rw [e, List.getElem?_append_right (Nat.le_refl _)] at hb
            simp at hb
            exact .inr ⟨e, hb.symm⟩
        have krow : ∀ (k : Nat) (row : List Bool), ((List.range r.known.length).map fun n => (r.known[n]?.getD []) ++ [decide (n = x.one.toNat)])[k]? = some row → ∃ r0, r.known[k]? = some r0 ∧ row = r0 ++ [decide (k = x.one.toNat)] := by
          intro k row hk
          rw [List.getElem?_map] at hk
          cases e : (List.range r.known.length)[k]? with
          | none => rw [e] at hk; cases hk
          | some k' =>
            obtain ⟨hl, e2⟩ := List.getElem?_eq_some_iff.1 e
            simp at e2 hl
            subst e2
            rw [e] at hk
            have e0 := List.getElem?_eq_getElem hl
            refine ⟨_, e0, ?_⟩
            simp only [Option.map_some, e0, Option.getD_some] at hk
            exact (Option.some.inj hk).symm
        refine ⟨rfl, by show r.all ++ _ = s.sent ++ _; rw [R.all], by simp [R.alen], by simp; rw [R.klen, R.d]; exact hN.symm, fun k row hk => ?_, fun i row hi => ?_, fun k row hk y => ?_, fun i row a hi ha y => ?_⟩
        · obtain ⟨r0, e1, e2⟩ := krow k row hk
          rw [e2]; simp [R.krow k r0 e1]
        · by_cases c : i < r.ahead.length
          · rw [List.getElem?_append_left c] at hi; exact R.arow i row hi
          · have hlt := (List.getElem?_eq_some_iff.1 hi).1
            simp at hlt
            have e : i = r.ahead.length := by omega
            rw [e, List.getElem?_append_right (Nat.le_refl _)] at hi
            simp at hi
            rw [e, R.alen]
            have hn0 : x.one.toNat < r.known.length := by
              have hm := I'.own (sentM d' x) (by show _ ∈ s.sent ++ _; simp)
              have : (0 ≤ x.one ∧ x.one < (d'.nodes.length : Nat)) := hm.1
              rw [R.klen, R.d]; omega
            have e0 := List.getElem?_eq_getElem hn0
            rw [e0] at hi
            simp at hi
            rw [← hi]
            exact R.krow _ _ e0
        · obtain ⟨r0, e1, e2⟩ := krow k row hk
          have hr0 := R.krow k r0 e1
          rw [P, R.past k r0 e1 y, e2]
          constructor
          · rintro (⟨j, b, h1, h2, h3⟩ | ⟨h1, h2⟩)
            · refine ⟨j, b, ?_, ?_, ?_⟩
              · rw [bit_append, if_pos (bit_lt h1)]; exact h1
              · show (r.all ++ _)[j]? = _
                rw [List.getElem?_append_left (List.getElem?_eq_some_iff.1 h2).1]; exact h2
              · rcases h3 with h3 | h3
                · exact .inl h3
                · exact .inr ((hold b y (hno j b h2)).2 h3)
            · refine ⟨r.all.length, sentM d' x, ?_, ?_, .inl h2⟩
              · rw [bit_append, if_neg (by omega), hr0]; simp [bitAt, h1]
              · show (r.all ++ _)[_]? = _
                rw [List.getElem?_append_right (Nat.le_refl _)]; simp
          · rintro ⟨j, b, h1, h2, h3⟩
            rcases left j b h2 with ⟨c, h2⟩ | ⟨c, h5⟩
            · refine .inl ⟨j, b, ?_, h2, ?_⟩
              · rw [bit_append, if_pos (by omega)] at h1; exact h1
              · rcases h3 with h3 | h3
                · exact .inl h3
                · exact .inr ((hold b y (hno j b h2)).1 h3)
            · subst c h5
              rw [bit_append, if_neg (by omega), hr0] at h1
              simp [bitAt] at h1
              rcases h3 with h3 | h3
              · exact .inr ⟨h1, h3⟩
              · rcases (A _ _).1 h3 with ⟨_, h4⟩ | ⟨h4, _⟩
                · left
                  rw [h1] at e1
                  exact (R.past _ r0 e1 y).1 h4
                · exact absurd rfl h4
        · have ha' : (r.all ++ [sentM d' x])[i]? = some a := ha
          rcases left i a ha' with ⟨c, h2⟩ | ⟨c, h2⟩
          · have hi' : r.ahead[i]? = some row := by
              have hi0 : (r.ahead ++ _)[i]? = some row := hi
              rwa [List.getElem?_append_left (by rw [R.alen]; exact c)] at hi0
            rw [hold a y (hno i a h2), R.ahd i row a hi' h2 y]
            constructor
            · rintro ⟨j, b, h1, h2, h3⟩
              refine ⟨j, b, h1, ?_, ?_⟩
              · show (r.all ++ _)[j]? = _
                rw [List.getElem?_append_left (List.getElem?_eq_some_iff.1 h2).1]; exact h2
              · rcases h3 with h3 | h3
                · exact .inl h3
                · exact .inr ((hold b y (hno j b h2)).2 h3)
            · rintro ⟨j, b, h1, h2, h3⟩
              have hjl := bit_lt h1
              rw [R.arow i row hi'] at hjl
              rcases left j b h2 with ⟨_, h2⟩ | ⟨c2, _⟩
              · refine ⟨j, b, h1, h2, ?_⟩
                rcases h3 with h3 | h3
                · exact .inl h3
                · exact .inr ((hold b y (hno j b h2)).1 h3)
              · omega
          · subst c h2
            have hi0 : (r.ahead ++ [r.known[x.one.toNat]?.getD []])[r.all.length]? = some row := hi
            rw [List.getElem?_append_right (by rw [R.alen]; exact Nat.le_refl _), R.alen] at hi0
            simp at hi0
            have hn0 : x.one.toNat < r.known.length := by
              have hm := I'.own (sentM d' x) (by show _ ∈ s.sent ++ _; simp)
              have : (0 ≤ x.one ∧ x.one < (d'.nodes.length : Nat)) := hm.1
              rw [R.klen, R.d]; omega
            have e0 := List.getElem?_eq_getElem hn0
            rw [e0] at hi0
            simp at hi0
            rw [hi0] at e0
            have : (sendS s d' x.one.toNat (sentM d' x)).ahead (sentM d' x) y = true ↔ s.past x.one.toNat y = true := by rw [A]; simp
            rw [this, R.past _ row e0 y]
            constructor
            · rintro ⟨j, b, h1, h2, h3⟩
              refine ⟨j, b, h1, ?_, ?_⟩
              · show (r.all ++ _)[j]? = _
                rw [List.getElem?_append_left (List.getElem?_eq_some_iff.1 h2).1]; exact h2
              · rcases h3 with h3 | h3
                · exact .inl h3
                · exact .inr ((hold b y (hno j b h2)).2 h3)
            · rintro ⟨j, b, h1, h2, h3⟩
              have hjl := bit_lt h1
              rw [R.krow _ row e0] at hjl
              rcases left j b h2 with ⟨_, h2⟩ | ⟨c2, _⟩
              · refine ⟨j, b, h1, h2, ?_⟩
                rcases h3 with h3 | h3
                · exact .inl h3
                · exact .inr ((hold b y (hno j b h2)).1 h3)
              · omega
theorem rel_done {n : Nat} {l : List Int} (hc : chkE n l = 0) (acts : List Ac) : Rel (rcD n l acts) (scD n l acts) := by
  unfold rcD scD
  have : ∀ (acts : List Ac) (r : Rc) (s : Sc), ScInv s → Rel r s → Rel (acts.foldl rcStep r) (acts.foldl scStep s) := by
    intro acts
    induction acts with
    | nil => intro r s _ h; exact h
    | cons x t ih => intro r s I h; exact ih _ _ (sc_step x I) (rel_step x I (sc_step x I) h)
  exact this acts _ _ (sc_inv hc []) rel_begin
end Go.Proofs.YtiiifecfdkjmbaaGreat.Pure

namespace Go.Proofs.YtiiifecfdkjmbaaGreat.Pure
set_option maxRecDepth 8000

/-- What comes ahead was sent before. -/
theorem ahead_order {r : Rc} {s : Sc} (I : ScInv s) (R : Rel r s) : ∀ (i : Nat) (a : Mg), r.all[i]? = some a → ∀ (j : Nat) (b : Mg), r.all[j]? = some b → s.ahead a b = true → j < i := by
  intro i
  induction i using Nat.strongRecOn with
  | _ i ih =>
    intro a ha j b hb hab
    have hil := (List.getElem?_eq_some_iff.1 ha).1
    obtain ⟨row, hrow⟩ : ∃ row, r.ahead[i]? = some row := ⟨_, List.getElem?_eq_getElem (by rw [R.alen]; exact hil)⟩
    obtain ⟨k, c, h1, h2, h3⟩ := (R.ahd i row a hrow ha b).1 hab
    have hk := bit_lt h1
    rw [R.arow i row hrow] at hk
    rcases h3 with rfl | h3
    · have : j = k := by
        have hp := I.rise
        rw [← R.all] at hp
        have hp' := List.pairwise_iff_getElem.1 hp
        obtain ⟨lj, ej⟩ := List.getElem?_eq_some_iff.1 hb
        obtain ⟨lk, ek⟩ := List.getElem?_eq_some_iff.1 h2
        rcases Nat.lt_trichotomy j k with c | c | c
        · have := hp' j k lj lk c (by rw [ej, ek]); rw [ej, ek] at this; omega
        · exact c
        · have := hp' k j lk lj c (by rw [ej, ek]); rw [ej, ek] at this; omega
      omega
    · have := ih k hk c h2 j b hb h3
      omega
theorem closeTo_length {rows : List (List Bool)} {row : List Bool} (h : ∀ (j : Nat) (r : List Bool), rows[j]? = some r → r.length = row.length) : ∀ j, j ≤ rows.length → (closeTo rows row j).length = row.length
  | 0, _ => rfl
  | j + 1, hj => by
    have ih := closeTo_length h j (by omega)
    unfold closeTo
    split
    · have e := List.getElem?_eq_getElem (show j < rows.length by omega)
      unfold orRow
      rw [e]
      simp [ih, h j _ e]
    · exact ih
theorem close_bits {r : Rc} {s : Sc} (I : ScInv s) (R : Rel r s) {i : Nat} {a : Mg} {row : List Bool} {rows : List (List Bool)} (hrow : r.ahead[i]? = some row)
    (hlen : rows.length = i) (hrl : ∀ (j : Nat) (x : List Bool), rows[j]? = some x → x.length = r.all.length) (hr : ∀ (j : Nat) (x : List Bool) (b : Mg), rows[j]? = some x → r.all[j]? = some b → ∀ (k : Nat) (c : Mg), r.all[k]? = some c → bitAt x k = s.ahead b c) (ha : r.all[i]? = some a) :
    ∀ J, J ≤ i → ∀ (k : Nat) (c : Mg), r.all[k]? = some c → (bitAt (closeTo rows (padRow r.all.length row) J) k = true ↔ bitAt row k = true ∨ ∃ (j : Nat) (b : Mg), j < J ∧ bitAt row j = true ∧ r.all[j]? = some b ∧ s.ahead b c = true) := by
  have hil := (List.getElem?_eq_some_iff.1 ha).1
  have hpl : (padRow r.all.length row).length = r.all.length := pad_length (by rw [R.arow i row hrow]; omega)
  intro J
  induction J with
  | zero =>
    intro _ k c hc
    show bitAt (padRow _ row) k = true ↔ _
    rw [bit_pad]
    constructor
    · exact .inl
    · rintro (h | ⟨j, b, h, _⟩)
      · exact h
      · omega
  | succ J ih =>
    intro hJ k c hc
    have ih' := ih (by omega)
    obtain ⟨cJ, hcJ⟩ : ∃ cJ, r.all[J]? = some cJ := ⟨_, List.getElem?_eq_getElem (by omega)⟩
    have eJ : bitAt (closeTo rows (padRow r.all.length row) J) J = true ↔ bitAt row J = true := by
      rw [ih' J cJ hcJ]
      constructor
      · rintro (h | ⟨j, b, hj, _, h2, h3⟩)
        · exact h
        · have := ahead_order I R j b h2 J cJ hcJ h3; omega
      · exact .inl
    obtain ⟨x, hx⟩ : ∃ x, rows[J]? = some x := ⟨_, List.getElem?_eq_getElem (by omega)⟩
    have hcl : (closeTo rows (padRow r.all.length row) J).length = x.length := by
      rw [closeTo_length (fun j y hy => by rw [hpl]; exact hrl j y hy) J (by omega), hpl, hrl J x hx]
    have step : bitAt (closeTo rows (padRow r.all.length row) (J + 1)) k = true ↔ bitAt (closeTo rows (padRow r.all.length row) J) k = true ∨ (bitAt row J = true ∧ s.ahead cJ c = true) := by
      conv => lhs; unfold closeTo
      by_cases hb : bitAt (closeTo rows (padRow r.all.length row) J) J = true
      · rw [if_pos hb, hx]
        show bitAt (orRow _ x) k = true ↔ _
        rw [bit_or hcl, Bool.or_eq_true, hr J x cJ hx hcJ k c hc]
        have := eJ.1 hb
        simp [this]
      · rw [if_neg hb]
        have : ¬ bitAt row J = true := fun h => hb (eJ.2 h)
        simp [this]
    rw [step, ih' k c hc]
    constructor
    · rintro ((h | ⟨j, b, h1, h2⟩) | ⟨h1, h2⟩)
      · exact .inl h
      · exact .inr ⟨j, b, by omega, h2⟩
      · exact .inr ⟨J, cJ, by omega, h1, hcJ, h2⟩
    · rintro (h | ⟨j, b, h1, h2, h3, h4⟩)
      · exact .inl (.inl h)
      · by_cases e : j = J
        · subst e
          rw [hcJ] at h3
          cases h3
          exact .inr ⟨h2, h4⟩
        · exact .inl (.inr ⟨j, b, by omega, h2, h3, h4⟩)
theorem close_all {r : Rc} {s : Sc} (I : ScInv s) (R : Rel r s) : closeAll r.all.length r.ahead = marksD s := by
  have key : ∀ (l1 l2 : List (List Bool)), r.ahead = l1 ++ l2 → ∀ rows, rows.length = l1.length → (∀ (j : Nat) (x : List Bool), rows[j]? = some x → x.length = r.all.length) → (∀ (j : Nat) (x : List Bool) (b : Mg), rows[j]? = some x → r.all[j]? = some b → ∀ (k : Nat) (c : Mg), r.all[k]? = some c → bitAt x k = s.ahead b c) →
      (l2.foldl (closeOne r.all.length) rows).length = r.all.length ∧ (∀ (j : Nat) (x : List Bool), (l2.foldl (closeOne r.all.length) rows)[j]? = some x → x.length = r.all.length) ∧ (∀ (j : Nat) (x : List Bool) (b : Mg), (l2.foldl (closeOne r.all.length) rows)[j]? = some x → r.all[j]? = some b → ∀ (k : Nat) (c : Mg), r.all[k]? = some c → bitAt x k = s.ahead b c) := by
    intro l1 l2
    induction l2 generalizing l1 with
    | nil =>
      intro h rows h1 h2 h3
      refine ⟨?_, h2, h3⟩
      rw [← R.alen, h]; simpa using h1
    | cons row l2 ih =>
      intro h rows h1 h2 h3
      rw [List.foldl_cons]
      have hrow : r.ahead[l1.length]? = some row := by rw [h, List.getElem?_append_right (Nat.le_refl _)]; simp
      have hil : l1.length < r.all.length := by rw [← R.alen, h]; simp
      obtain ⟨a, ha⟩ : ∃ a, r.all[l1.length]? = some a := ⟨_, List.getElem?_eq_getElem hil⟩
      have hpl : (padRow r.all.length row).length = r.all.length := pad_length (by rw [R.arow _ row hrow]; omega)
      have hcl := closeTo_length (rows := rows) (row := padRow r.all.length row) (fun j y hy => by rw [hpl]; exact h2 j y hy) rows.length (Nat.le_refl _)
      have bits := close_bits I R hrow h1 h2 h3 ha rows.length (by omega)
      have get : ∀ (j : Nat) (x : List Bool), (closeOne r.all.length rows row)[j]? = some x → (rows[j]? = some x) ∨ (j = rows.length ∧ x = closeTo rows (padRow r.all.length row) rows.length) := by
        intro j x hx
        unfold closeOne at hx
        by_cases c : j < rows.length
        · rw [List.getElem?_append_left c] at hx; exact .inl hx
        · have hlt := (List.getElem?_eq_some_iff.1 hx).1
          simp at hlt
          have e : j = rows.length := by omega
          rw [e, List.getElem?_append_right (Nat.le_refl _)] at hx
          simp at hx
          exact .inr ⟨e, hx.symm⟩
      refine ih (l1 ++ [row]) (by rw [h]; simp) (closeOne r.all.length rows row) (by unfold closeOne; simp [h1]) (fun j x hx => ?_) (fun j x b hx hb k c hc => ?_)
      · rcases get j x hx with h | ⟨_, h⟩
        · exact h2 j x h
        · rw [h, hcl, hpl]
      · rcases get j x hx with h | ⟨e, h⟩
        · exact h3 j x b h hb k c hc
        · rw [e, h1, ha] at hb
          cases hb
          rw [h, Bool.eq_iff_iff, bits k c hc, R.ahd _ row a hrow ha c]
          constructor
          · rintro (h | ⟨j, b, h1, h2, h3, h4⟩)
            · exact ⟨k, c, h, hc, .inl rfl⟩
            · exact ⟨j, b, h2, h3, .inr h4⟩
          · rintro ⟨j, b, h4, h5, h6 | h6⟩
            · subst h6
              left
              have : k = j := by
                have hp := I.rise
                rw [← R.all] at hp
                have hp' := List.pairwise_iff_getElem.1 hp
                obtain ⟨lj, ej⟩ := List.getElem?_eq_some_iff.1 hc
                obtain ⟨lk, ek⟩ := List.getElem?_eq_some_iff.1 h5
                rcases Nat.lt_trichotomy k j with c | c | c
                · have := hp' k j lj lk c (by rw [ej, ek]); rw [ej, ek] at this; omega
                · exact c
                · have := hp' j k lk lj c (by rw [ej, ek]); rw [ej, ek] at this; omega
              rw [this]; exact h4
            · have hjl := bit_lt h4
              rw [R.arow _ row hrow] at hjl
              exact .inr ⟨j, b, by omega, h4, h5, h6⟩
  obtain ⟨k1, k2, k3⟩ := key [] r.ahead rfl [] rfl (fun j x h => by simp at h) (fun j x b h => by simp at h)
  unfold closeAll
  have hlen : (marksD s).length = r.all.length := by unfold marksD; simp [R.all]
  refine List.ext_getElem? fun i => ?_
  by_cases hi : i < r.all.length
  · have e1 := List.getElem?_eq_getElem (show i < (r.ahead.foldl (closeOne r.all.length) []).length by rw [k1]; exact hi)
    obtain ⟨a, ha⟩ : ∃ a, r.all[i]? = some a := ⟨_, List.getElem?_eq_getElem hi⟩
    have ha' : s.sent[i]? = some a := by rw [← R.all]; exact ha
    rw [e1]
    have e2 : (marksD s)[i]? = some (s.sent.map fun o => s.ahead a o) := by unfold marksD; rw [List.getElem?_map, ha']; rfl
    rw [e2]
    congr 1
    refine List.ext_getElem? fun k => ?_
    have l1 := k2 i _ e1
    by_cases hk : k < r.all.length
    · obtain ⟨c, hc⟩ : ∃ c, r.all[k]? = some c := ⟨_, List.getElem?_eq_getElem hk⟩
      have hb := k3 i _ a e1 ha k c hc
      have e3 := List.getElem?_eq_getElem (show k < ((r.ahead.foldl (closeOne r.all.length) [])[i]'(by rw [k1]; exact hi)).length by rw [l1]; exact hk)
      unfold bitAt at hb
      rw [e3] at hb
      rw [e3]
      have hc' : s.sent[k]? = some c := by rw [← R.all]; exact hc
      rw [List.getElem?_map, hc']
      simpa using hb
    · rw [List.getElem?_eq_none_iff.2 (by rw [l1]; omega), List.getElem?_eq_none_iff.2 (by rw [List.length_map, ← R.all]; omega)]
  · rw [List.getElem?_eq_none_iff.2 (by rw [k1]; omega), List.getElem?_eq_none_iff.2 (by rw [hlen]; omega)]
end Go.Proofs.YtiiifecfdkjmbaaGreat.Pure

namespace Go.Proofs.YtiiifecfdkjmbaaGreat.Pure
set_option maxRecDepth 8000

/-- How often m stands there. -/
def countM (m : Mg) (l : List Mg) : Nat := l.countP fun y => sameM y m
theorem count_mem {l : List Mg} {m : Mg} (h : risesM l = true) : countM m l ≤ 1 ∧ (countM m l = 1 ↔ m ∈ l) := by
  induction l with
  | nil => simp [countM]
  | cons a r ih =>
    obtain ⟨p1, p2⟩ := List.pairwise_cons.1 ((risesM_pair _).1 h)
    obtain ⟨i1, i2⟩ := ih ((risesM_pair _).2 p2)
    unfold countM at i1 i2 ⊢
    rw [List.countP_cons]
    by_cases e : sameM a m = true
    · have e' := (sameM_iff a m).1 e
      subst e'
      have hz : List.countP (fun y => sameM y a) r = 0 := by
        rw [List.countP_eq_zero]
        intro y hy hs
        rw [sameM_iff] at hs
        subst hs
        have := p1 y hy
        rw [lessM_irrefl] at this; cases this
      simp [hz, e]
    · have e' : a ≠ m := fun h => e ((sameM_iff a m).2 h)
      simp only [e]
      refine ⟨by simpa using i1, ?_⟩
      simp only [Bool.false_eq_true, if_false, Nat.add_zero, List.mem_cons]
      rw [i2]
      constructor
      · exact .inr
      · rintro (h | h)
        · exact absurd h.symm e'
        · exact h
/-- In a calm world each message was told to all members of its group, once, and to nobody else. -/
theorem calm_all {d x : Wd} {all : List Mg} (I : Inv d) (h : calmD d = .ok x) (ha : allD x = .ok all) {m : Mg} (hm : m ∈ all) {n : Nat} (hn : n < d.nodes.length) : countM m (toldAt x n) ≤ 1 ∧ (countM m (toldAt x n) = 1 ↔ hasB d.groups m.gr n = true) := by
  have C := calm_ok I.right h
  have Ix := C.inv I
  obtain ⟨c1, c2⟩ := count_mem (m := m) (C.right.toldR n)
  refine ⟨c1, c2.trans ?_⟩
  obtain ⟨k, hk⟩ := ((all_ok ha).2 m).1 hm
  constructor
  · intro h
    have := (fine_iff.1 (C.right.toldF n m h).1).2
    rw [C.grow.alike.g] at this; exact this
  · intro hb
    rcases Ix.all m n ⟨k, .inr (.inl hk)⟩ (C.right.toldF k m hk).2 (by rw [C.grow.alike.n]; exact hn) (by rw [C.grow.alike.g]; exact hb) with h | h | ⟨_, h⟩
    · exact h
    · rw [C.held I n] at h; cases h
    · rw [C.none] at h; cases h
theorem idx_some {l : List Mg} {m : Mg} {i : Nat} (h : aheadL m l = some i) : l[i]? = some m := by
  unfold aheadL at h
  obtain ⟨hl, h1, _⟩ := List.findIdx?_eq_some_iff_getElem.1 h
  rw [List.getElem?_eq_getElem hl]
  congr 1
  exact (sameM_iff _ _).1 h1
/-- Of two that were told to one, the one that has the lesser Stamp was told first. -/
theorem told_first {l : List Mg} {a b : Mg} {i k : Nat} (hr : risesM l = true) (ha : aheadL a l = some i) (hb : aheadL b l = some k) (h : b.st < a.st) : k < i := by
  have ha := idx_some ha
  have hb := idx_some hb
  have hp := List.pairwise_iff_getElem.1 ((risesM_pair _).1 hr)
  obtain ⟨li, ei⟩ := List.getElem?_eq_some_iff.1 ha
  obtain ⟨lk, ek⟩ := List.getElem?_eq_some_iff.1 hb
  rcases Nat.lt_trichotomy k i with c | c | c
  · exact c
  · subst c; rw [ei] at ek; subst ek; omega
  · have := hp i k li lk c
    rw [ei, ek, lessM_iff] at this; omega
/-- What is on its way to a node is beyond how far it is. -/
theorem wire_far {d : Wd} (I : Inv d) {f t : Nat} {m : Mg} (hm : m ∈ wireAt d f t) : farAt d t < m.st := by
  obtain ⟨hf, ht⟩ := wire_lt I.right.rows hm
  obtain ⟨h1, h2⟩ := I.right.wireF f t m hm
  obtain ⟨h3, h4⟩ := fine_iff.1 h1
  obtain ⟨z1, z2, z3, z4⟩ := chkM_zero h3
  have hft : f ≠ t := by rintro rfl; rw [I.right.wire0 f] at hm; cases hm
  have hgr : ((m.gr.toNat : Nat) : Int) = m.gr := by omega
  have := far_le_lst (g := m.gr.toNat) ht hf hft (by rw [hgr]; exact h4) (by rw [hgr, ← h2]; exact z4)
  have := (I.wire f t m hm).2 m.gr.toNat
  omega
/-- No node is less far than it was. -/
theorem far_grows {d d' : Wd} (G : Grow d d') {k : Nat} (hk : k < d.nodes.length) : farAt d k ≤ farAt d' k := far_mono G.alike.g G.alike.n hk (G.clk k) (G.lst k)
/-- What is told again: nothing. -/
theorem tell_again {d d' : Wd} {n : Nat} (hn : n < d.nodes.length) (S : TellStep d d' n) : (heldAt d' n).filter (fun m => decide (m.st ≤ farAt d' n)) = [] ∧ farAt d' n = farAt d n ∧ ∀ m, m ∈ heldAt d' n → farAt d' n < m.st := by
  have F := far_congr S.alike.g S.alike.n hn (S.clk n) (S.lst n)
  have H : ∀ m, m ∈ heldAt d' n → farAt d' n < m.st := by
    intro m hm
    rw [S.held] at hm
    rw [F]
    simpa using (List.mem_filter.1 hm).2
  refine ⟨?_, F, H⟩
  rw [List.filter_eq_nil_iff]
  intro m hm
  have := H m hm
  simp; omega
/-- What comes ahead: of one sender all that was sent before, and nothing of itself. -/
theorem mark_from {s : Sc} (I : ScInv s) {i j : Nat} {a b : Mg} (ha : s.sent[i]? = some a) (hb : s.sent[j]? = some b) (hf : a.fr = b.fr) : s.ahead a b = decide (j < i) := by
  by_cases c : j < i
  · rw [I.same i j a b ha hb hf c]; simp [c]
  · have : ¬ s.ahead a b = true := by
      intro h
      have h1 := (I.aheadS a b h).2.2
      have hp := List.pairwise_iff_getElem.1 I.rise
      obtain ⟨li, ei⟩ := List.getElem?_eq_some_iff.1 ha
      obtain ⟨lj, ej⟩ := List.getElem?_eq_some_iff.1 hb
      rcases Nat.lt_trichotomy i j with c2 | c2 | c2
      · have := hp i j li lj c2 (by rw [ei, ej]; exact hf); rw [ei, ej] at this; omega
      · subst c2; rw [ei] at ej; subst ej; omega
      · omega
    simp [c]
    simpa using this
theorem mark_self {s : Sc} (I : ScInv s) (a : Mg) : s.ahead a a = false := by
  cases h : s.ahead a a
  · rfl
  · have := (I.aheadS a a h).2.2; omega
end Go.Proofs.YtiiifecfdkjmbaaGreat.Pure

namespace Go.Proofs.YtiiifecfdkjmbaaGreat.Pure
set_option maxRecDepth 8000

theorem node_of_lt {d : Wd} {k : Nat} (h : k < d.nodes.length) : ∃ x, d.nodes[k]? = some x := ⟨_, List.getElem?_eq_getElem h⟩
theorem clkAt_of {d : Wd} {k : Nat} {x : Nd} (h : d.nodes[k]? = some x) : clkAt d k = x.clock := by unfold clkAt; rw [h]
theorem heldAt_of {d : Wd} {k : Nat} {x : Nd} (h : d.nodes[k]? = some x) : heldAt d k = x.held := by unfold heldAt; rw [h]
theorem toldAt_of {d : Wd} {k : Nat} {x : Nd} (h : d.nodes[k]? = some x) : toldAt d k = x.told := by unfold toldAt; rw [h]
theorem lstAt_of {d : Wd} {k g i : Nat} {x : Nd} (h : d.nodes[k]? = some x) : lstAt d k g i = lastAt x.last g i := by unfold lstAt; rw [h]
theorem filter_parts (l : List Mg) (b : Int) : (l.filter fun m => decide (m.st ≤ b)).length + (l.filter fun m => decide (b < m.st)).length = l.length := by
  induction l with
  | nil => rfl
  | cons a r ih =>
    by_cases h : a.st ≤ b
    · have h' : ¬ b < a.st := by omega
      simp only [List.filter_cons, h, h', decide_true, decide_false, if_true, List.length_cons]
      simp; omega
    · have h' : b < a.st := by omega
      simp only [List.filter_cons, h, h', decide_true, decide_false, if_true, List.length_cons]
      simp; omega
theorem tell_count {d d' : Wd} {n : Nat} (S : TellStep d d' n) : (heldAt d' n).length + (toldAt d' n).length = (heldAt d n).length + (toldAt d n).length := by
  rw [S.told, S.held, List.length_append]
  have := filter_parts (heldAt d n) (farAt d n)
  omega

/-- What CastTrue asks of a world in which a message was sent. -/
structure CastTrueD (d d' : Wd) (n : Nat) (g : Int) (body : ByteArray) (x x' : Nd) : Prop where
  hx : d.nodes[n]? = some x
  hx' : d'.nodes[n]? = some x'
  len : d'.nodes.length = d.nodes.length
  wlen : d'.wires.length = d.wires.length
  dlen : d.wires.length = d.nodes.length
  right : Right d'
  was : Right d
  clk : x'.clock = x.clock + 1
  top : x.clock + 1 ≤ 1048576
  wire : ∀ a b, wireAt d' a b = if a = n ∧ b ≠ n ∧ b < d.nodes.length ∧ hasB d.groups g b = true then wireAt d a b ++ [⟨n, g, x'.clock, false, body⟩] else wireAt d a b
  count : x'.held.length + x'.told.length = x.held.length + x.told.length + 1
theorem castTrueD {d d' : Wd} {n g : Int} {body : ByteArray} (R : Right d) (h : castD d n g false body = .ok d') : ∃ (k : Nat) (x x' : Nd), n = (k : Int) ∧ CastTrueD d d' k g body x x' := by
  obtain ⟨hE, d3, S, R3, T⟩ := cast_split R (fun h => by cases h) h
  obtain ⟨R', G⟩ := cast_right R (fun h => by cases h) h
  have hn0 : 0 ≤ n := by
    unfold castE at hE
    split at hE
    · cases hE
    · next c => 
      have : inB n 0 ((d.nodes.length : Int) - 1) = true := by
        cases hh : inB n 0 ((d.nodes.length : Int) - 1)
        · exact absurd (Or.inl hh) c
        · rfl
      simp [inB] at this; omega
  obtain ⟨k, rfl⟩ : ∃ k : Nat, n = (k : Int) := ⟨n.toNat, by omega⟩
  rw [Int.toNat_natCast] at S T
  have hk := S.lt
  obtain ⟨x, hx⟩ := node_of_lt hk
  obtain ⟨x', hx'⟩ := node_of_lt (d := d') (k := k) (by rw [G.alike.n]; exact hk)
  have hc : x'.clock = x.clock + 1 := by rw [← clkAt_of hx', ← clkAt_of hx, T.clk, S.clk, if_pos rfl, S.mst]
  refine ⟨k, x, x', rfl, hx, hx', G.alike.n, G.alike.w, R.wlen, R', R, hc, by have := S.top; rw [S.mst, clkAt_of hx] at this; exact this, fun a b => ?_, ?_⟩
  · have hm : (⟨(k : Int), g, x'.clock, false, body⟩ : Mg) = msgD d (k : Int) g false body := by unfold msgD; rw [Int.toNat_natCast, clkAt_of hx, hc]
    rw [T.wire, S.wire, hm]
    unfold goesTo
    show (if _ then _ else _) = _
    by_cases c : a = k ∧ b ≠ k ∧ b < d.nodes.length ∧ hasB d.groups g b = true
    · rw [if_pos c, if_pos (by simpa [msgD, and_assoc, and_comm, and_left_comm] using c)]
    · rw [if_neg c, if_neg (by simpa [msgD, and_assoc, and_comm, and_left_comm] using c)]
  · have h1 := tell_count T
    rw [heldAt_of hx', toldAt_of hx'] at h1
    rcases S.held with ⟨e, _⟩ | ⟨_, hp, e⟩
    · cases e
    · rw [e, S.told, heldAt_of hx, toldAt_of hx] at h1
      have := putL_len _ x.held (by rw [heldAt_of hx] at hp; exact hp)
      omega

theorem setNode_id {d : Wd} {n : Nat} {x : Nd} (h : d.nodes[n]? = some x) : setNode d n x = d := by
  obtain ⟨gs, ns, ws⟩ := d
  unfold setNode
  dsimp only at h ⊢
  congr 1
  apply List.ext_getElem?
  intro i
  rw [List.getElem?_set]
  by_cases e : n = i
  · subst e
    rw [if_pos rfl, h, if_pos (List.getElem?_eq_some_iff.1 h).1]
  · rw [if_neg e]
theorem setNode_set (d : Wd) (n : Nat) (x y : Nd) : setNode (setNode d n x) n y = setNode d n y := by unfold setNode; simp
theorem holdIf_set {d d' : Wd} {n : Nat} {m : Mg} {x : Nd} (hx : d.nodes[n]? = some x) (h : holdIf d n m = .ok d') : ∃ y, d' = setNode d n y := by
  unfold holdIf at h
  split at h
  · cases h; exact ⟨x, (setNode_id hx).symm⟩
  · unfold holdD at h
    rw [hx] at h
    dsimp only at h
    split at h
    · cases h; exact ⟨_, rfl⟩
    · cases h
theorem tellD_set {d : Wd} {n : Nat} {p : Wd × Nat} (h : tellD d n = .ok p) : ∃ y, p.1 = setNode d n y := by
  unfold tellD at h
  split at h
  · cases h
  · split at h
    · cases h
    · split at h
      · cases h
      · cases h; exact ⟨_, rfl⟩
theorem moveD_set {d d' : Wd} {f t : Nat} {x : Nd} (hx : d.nodes[t]? = some x) (h : moveD d f t = .ok d') : ∃ m rest y, wireAt d f t = m :: rest ∧ d' = setNode (setWire d f t rest) t y := by
  unfold moveD at h
  split at h
  · cases h
  · next m rest hw =>
    obtain ⟨d3, h1, h2⟩ := bind_ok h
    obtain ⟨p, h3, h4⟩ := bind_ok h2
    cases h4
    have hc : comeD d f t m rest = setNode (setWire d f t rest) t (comeNd x m f) := by unfold comeD; rw [hx]
    rw [hc] at h1
    obtain ⟨y, rfl⟩ := holdIf_set (x := comeNd x m f) (by unfold setNode; dsimp only; rw [List.getElem?_set, if_pos rfl, if_pos]; exact (List.getElem?_eq_some_iff.1 hx).1) h1
    obtain ⟨z, hz⟩ := tellD_set h3
    exact ⟨m, rest, z, hw, by rw [hz, setNode_set, setNode_set]⟩

/-- What MoveTrue asks of a world in which a message came. -/
structure MoveTrueD (d d' : Wd) (f t : Nat) (x x' : Nd) (m : Mg) (rest : List Mg) (row row' : List (List Mg)) : Prop where
  hx : d.nodes[t]? = some x
  hx' : d'.nodes[t]? = some x'
  hr : d.wires[f]? = some row
  hr' : d'.wires[f]? = some row'
  hl : row[t]? = some (m :: rest)
  hl' : row'[t]? = some rest
  groups : d'.groups = d.groups
  len : d'.nodes.length = d.nodes.length
  wlen : d'.wires.length = d.wires.length
  rlen : row'.length = row.length
  node : ∀ i, i ≠ t → d'.nodes[i]? = d.nodes[i]?
  wire : ∀ i, i ≠ f → d'.wires[i]? = d.wires[i]?
  rows : ∀ i, i ≠ t → row'[i]? = row[i]?
  right : Right d'
  was : Right d
  flt : f < d.nodes.length
  tlt : t < d.nodes.length
  clk : x.clock ≤ x'.clock
  clm : m.st ≤ x'.clock
  count : x'.held.length + x'.told.length = x.held.length + x.told.length + (if m.nul then 0 else 1)
theorem moveTrueD {d d' : Wd} {f t : Int} (h : moveOfD d f t = .ok d') : ∃ (a b : Nat) (x x' : Nd) (m : Mg) (rest : List Mg) (row row' : List (List Mg)), f = (a : Int) ∧ t = (b : Int) ∧ MoveTrueD d d' a b x x' m rest row row' := by
  obtain ⟨R, hf, ht, h⟩ := moveOf_ok h
  obtain ⟨a, rfl⟩ : ∃ a : Nat, f = (a : Int) := ⟨f.toNat, by omega⟩
  obtain ⟨b, rfl⟩ : ∃ b : Nat, t = (b : Int) := ⟨t.toNat, by omega⟩
  rw [Int.toNat_natCast, Int.toNat_natCast] at h
  have ha : a < d.nodes.length := by omega
  have hb : b < d.nodes.length := by omega
  obtain ⟨x, hx⟩ := node_of_lt hb
  obtain ⟨m, rest, y, hw, hd⟩ := moveD_set hx h
  obtain ⟨R', G⟩ := move_right R ha hb h
  obtain ⟨d3, m', S, R3, T⟩ := move_split R ha hb h
  have hm : m' = m := by have := S.first; rw [hw] at this; cases this; rfl
  subst hm
  rcases wireAt_cases d a b with e | ⟨row, l, hr, hl, e⟩
  · rw [hw] at e; cases e
  rw [hw] at e
  subst e
  have hx' : d'.nodes[b]? = some y := by rw [hd]; unfold setNode setWire; dsimp only; rw [List.getElem?_set, if_pos rfl, if_pos hb]
  have hrl := (List.getElem?_eq_some_iff.1 hr).1
  have hr' : d'.wires[a]? = some (row.set b rest) := by
    rw [hd]; unfold setNode setWire; dsimp only
    rw [List.getElem?_set, if_pos rfl, if_pos hrl, hr]; rfl
  refine ⟨a, b, x, y, m', rest, row, row.set b rest, rfl, rfl, hx, hx', hr, hr', hl, ?_, G.alike.g, G.alike.n, G.alike.w, by simp, fun i hi => ?_, fun i hi => ?_, fun i hi => ?_, R', R, ha, hb, ?_, ?_, ?_⟩
  · rw [List.getElem?_set, if_pos rfl, if_pos (List.getElem?_eq_some_iff.1 hl).1]
  · rw [hd]; unfold setNode setWire; dsimp only; rw [List.getElem?_set, if_neg (Ne.symm hi)]
  · rw [hd]; unfold setNode setWire; dsimp only; rw [List.getElem?_set, if_neg (Ne.symm hi)]
  · rw [List.getElem?_set, if_neg (Ne.symm hi)]
  · have := G.clk b; rw [clkAt_of hx, clkAt_of hx'] at this; exact this
  · have h1 := T.clk b; rw [S.clk, if_pos rfl, clkAt_of hx'] at h1; omega
  · have h1 := tell_count T
    rw [heldAt_of hx', toldAt_of hx', S.told, toldAt_of hx] at h1
    rcases S.held with ⟨e1, e2⟩ | ⟨e1, hp, e2⟩
    · rw [e2, heldAt_of hx] at h1; rw [e1, if_pos rfl]; omega
    · rw [e2, heldAt_of hx] at h1
      have := putL_len _ x.held (by rw [heldAt_of hx] at hp; exact hp)
      rw [e1]; simp; omega
theorem moveOf_err {d : Wd} {f t : Nat} {e : Int} (I : Inv d) (hf : f < d.nodes.length) (ht : t < d.nodes.length) (h : moveOfD d f t = .error e) : e = 7 ∨ e = 2 := by
  unfold moveOfD at h
  rw [if_pos ((right_iff d).2 I.right), if_pos (by simp [inB]; omega), Int.toNat_natCast, Int.toNat_natCast] at h
  rcases move_err I hf ht h with ⟨h, _⟩ | h
  · exact .inl h
  · exact .inr h

/-- Acts whose unnamed parts differ do the same. -/
theorem doD_body {d : Wd} {k o t : Int} {b b' : ByteArray} (h : k ≠ 1) : doD d ⟨k, o, t, b⟩ = doD d ⟨k, o, t, b'⟩ := by
  unfold doD; dsimp only; rw [if_neg h, if_neg h]
theorem doD_calm {d : Wd} {o t o' t' : Int} {b b' : ByteArray} : doD d ⟨4, o, t, b⟩ = doD d ⟨4, o', t', b'⟩ := by
  unfold doD; dsimp only; rw [if_neg (by decide), if_neg (by decide), if_neg (by decide), if_pos rfl]; try rfl

theorem doneD_len {n : Nat} {l : List Int} (hc : chkE n l = 0) (acts : List Ac) : (doneD n l acts).nodes.length = n ∧ (doneD n l acts).groups = l := by
  have A := (done_inv hc acts).2.2
  refine ⟨by rw [A.n]; simp [beginD], by rw [A.g]; rfl⟩
theorem done_calm {n : Nat} {l : List Int} (hc : chkE n l = 0) (acts : List Ac) (ha : acts.length ≤ 80) {e : Int} (h : calmD (doneD n l acts) = .error e) : e = 2 := by
  obtain ⟨I, hk, A⟩ := done_inv hc acts
  have hs := (small I.right).2.2.2
  refine calm_err I hk ?_ h
  rw [← Int.natCast_mul]
  omega
end Go.Proofs.YtiiifecfdkjmbaaGreat.Pure
