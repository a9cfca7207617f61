/- Worlds as plain data: what telling, casting, moving, calm and acts come to, as the document says them. A world is right just if all of its parts are; no condition. Lists that rise, and how far a node is; no condition but what each row says. What telling does to a world, part by part. What holding and laying on wires does to a world, part by part. What a cast and a move do, up to the telling; telling keeps a world right. Casting and moving keep a world right; what holds of worlds that came by acts. -/
import Derived.Test.YtiiifecfdkjmbaaGreatDBoundS
namespace Go.Proofs.YtiiifecfdkjmbaaGreat.Pure
set_option maxRecDepth 8000
def wireAt (d : Wd) (f t : Nat) : List Mg := (d.wires[f]?.getD [])[t]?.getD []
def setWire (d : Wd) (f t : Nat) (l : List Mg) : Wd := { d with wires := d.wires.set f ((d.wires[f]?.getD []).set t l) }
def clkAt (d : Wd) (k : Nat) : Int := match d.nodes[k]? with | some x => x.clock | none => 0
def lstAt (d : Wd) (k g i : Nat) : Int := match d.nodes[k]? with | some x => lastAt x.last g i | none => 0
def heldAt (d : Wd) (k : Nat) : List Mg := match d.nodes[k]? with | some x => x.held | none => []
def toldAt (d : Wd) (k : Nat) : List Mg := match d.nodes[k]? with | some x => x.told | none => []
def farAt (d : Wd) (k : Nat) : Int := match d.nodes[k]? with | some x => farZ d k x | none => 0
def setNode (d : Wd) (n : Nat) (x : Nd) : Wd := { d with nodes := d.nodes.set n x }
def tellD (d : Wd) (n : Nat) : Except Int (Wd × Nat) :=
 match d.nodes[n]? with
 | none => .error 4
 | some x =>
  if 40 < (x.told ++ readyL d n x).length then .error 2
  else if risesM (x.told ++ readyL d n x) = false then .error 1
  else .ok (setNode d n { x with held := x.held.drop (readyL d n x).length, told := x.told ++ readyL d n x }, (readyL d n x).length)
def holdD (d : Wd) (n : Nat) (m : Mg) : Except Int Wd :=
 match d.nodes[n]? with
 | none => .error 4
 | some x => if putE m x.held = 0 then .ok (setNode d n { x with held := putL m x.held }) else .error (putE m x.held)
def holdIf (d : Wd) (n : Nat) (m : Mg) : Except Int Wd := if m.nul then .ok d else holdD d n m
def lateB (m : Mg) (l : List Mg) : Bool := match l.getLast? with | some x => decide (m.st ≤ x.st) | none => false
def layOne (m : Mg) (n : Nat) (d : Wd) (k : Nat) : Except Int Wd :=
 if k = n ∨ hasB d.groups m.gr k = false then .ok d
 else if (wireAt d n k).length = 40 then .error 2
 else if lateB m (wireAt d n k) then .error 1
 else .ok (setWire d n k (wireAt d n k ++ [m]))
def layTo (m : Mg) (n : Nat) (d : Wd) (i : Nat) : Except Int Wd := (List.range i).foldlM (layOne m n) d
def castE (d : Wd) (n g : Int) (size : Nat) : Int :=
 if inB n 0 ((d.nodes.length : Int) - 1) = false ∨ inB g 0 ((d.groups.length : Int) - 1) = false then 4
 else if hasB d.groups g n = false then 5
 else if 8 < size then 1
 else if clkAt d n.toNat = 1048576 then 3 else 0
def setClock (d : Wd) (n : Nat) (c : Int) : Wd := match d.nodes[n]? with | some x => setNode d n { x with clock := c } | none => d
def castD (d : Wd) (n g : Int) (nul : Bool) (body : ByteArray) : Except Int Wd :=
 if castE d n g body.size = 0 then
  (layTo ⟨n, g, clkAt d n.toNat + 1, nul, body⟩ n.toNat (setClock d n.toNat (clkAt d n.toNat + 1)) d.nodes.length).bind fun d2 =>
  (holdIf d2 n.toNat ⟨n, g, clkAt d n.toNat + 1, nul, body⟩).bind fun d3 =>
  (tellD d3 n.toNat).bind fun p => .ok p.1
 else .error (castE d n g body.size)
def comeNd (x : Nd) (m : Mg) (f : Nat) : Nd :=
 { x with clock := max x.clock m.st, last := x.last.set m.gr.toNat ((x.last[m.gr.toNat]?.getD []).set f (max (lastAt x.last m.gr.toNat f) m.st)) }
def comeD (d : Wd) (f t : Nat) (m : Mg) (rest : List Mg) : Wd :=
 match d.nodes[t]? with
 | some x => setNode (setWire d f t rest) t (comeNd x m f)
 | none => d
def moveD (d : Wd) (f t : Nat) : Except Int Wd :=
 match wireAt d f t with
 | [] => .error 7
 | m :: rest => (holdIf (comeD d f t m rest) t m).bind fun d3 => (tellD d3 t).bind fun p => .ok p.1
def movesD (f t : Nat) : Nat → Wd → Except Int Wd
 | 0, d => .ok d
 | k + 1, d => (moveD d f t).bind (movesD f t k)
def wireD (d : Wd) (f t : Nat) : Except Int (Wd × Nat) := (movesD f t (wireAt d f t).length d).bind fun d' => .ok (d', (wireAt d f t).length)
def drainOne (s : Wd × Nat) (p : Nat × Nat) : Except Int (Wd × Nat) := (wireD s.1 p.1 p.2).bind fun r => .ok (r.1, s.2 + r.2)
def drainD (d : Wd) : Except Int (Wd × Nat) := (pairs d.nodes.length d.nodes.length).foldlM drainOne (d, 0)
def nullOne (d : Wd) (p : Nat × Nat) : Except Int Wd := if hasB d.groups p.2 p.1 then castD d p.1 p.2 true ByteArray.empty else .ok d
def nullsD (d : Wd) : Except Int Wd := (pairs d.nodes.length d.groups.length).foldlM nullOne d
def roundD (d : Wd) : Except Int (Wd × Nat) := (nullsD d).bind drainD
def roundsD : Nat → Wd → Except Int Wd
 | 0, d => .ok d
 | k + 1, d => (roundD d).bind fun r => roundsD k r.1
def calmD (d : Wd) : Except Int Wd := (drainD d).bind fun r => roundsD 4 r.1
structure Ac where
 kind : Int
 one : Int
 two : Int
 body : ByteArray
def checked {α : Type} (d : Wd) (r : Except Int α) : Except Int α := if worldE d = 0 then r else .error (worldE d)
def moveOfD (d : Wd) (f t : Int) : Except Int Wd :=
 if worldE d = 0 then (if inB f 0 ((d.nodes.length : Int) - 1) && inB t 0 ((d.nodes.length : Int) - 1) then moveD d f.toNat t.toNat else .error 4) else .error (worldE d)
def doD (d : Wd) (x : Ac) : Except Int Wd :=
 if x.kind = 1 then checked d (castD d x.one x.two false x.body)
 else if x.kind = 2 then checked d (castD d x.one x.two true ByteArray.empty)
 else if x.kind = 3 then moveOfD d x.one x.two
 else if x.kind = 4 then checked d (calmD d)
 else .error 6
def beginD (n : Nat) (l : List Int) : Wd := ⟨l, List.replicate n ⟨0, List.replicate l.length (List.replicate n 0), [], []⟩, List.replicate n (List.replicate n [])⟩
def doneOne (d : Wd) (x : Ac) : Wd := match doD d x with | .ok d' => d' | .error _ => d
def doneD (n : Nat) (l : List Int) (acts : List Ac) : Wd := acts.foldl doneOne (beginD n l)
end Go.Proofs.YtiiifecfdkjmbaaGreat.Pure
namespace Go.Proofs.YtiiifecfdkjmbaaGreat.Pure
set_option maxRecDepth 8000
structure Right (d : Wd) : Prop where
 chk : chkE d.nodes.length d.groups = 0
 wlen : d.wires.length = d.nodes.length
 rlen : ∀ (f : Nat) (row : List (List Mg)), d.wires[f]? = some row → row.length = d.nodes.length
 llen : ∀ (k : Nat) (x : Nd), d.nodes[k]? = some x → x.last.length = d.groups.length
 lrow : ∀ (k : Nat) (x : Nd) (g : Nat) (row : List Int), d.nodes[k]? = some x → x.last[g]? = some row → row.length = d.nodes.length
 clk : ∀ k, 0 ≤ clkAt d k ∧ clkAt d k ≤ 1048576
 lst : ∀ k g i, 0 ≤ lstAt d k g i ∧ lstAt d k g i ≤ 1048576
 lst0 : ∀ k g i, bothB d k g i = false → lstAt d k g i = 0
 heldN : ∀ k, (heldAt d k).length ≤ 40
 toldN : ∀ k, (toldAt d k).length ≤ 40
 wireN : ∀ f t, (wireAt d f t).length ≤ 40
 heldR : ∀ k, risesM (heldAt d k) = true
 toldR : ∀ k, risesM (toldAt d k) = true
 heldF : ∀ k m, m ∈ heldAt d k → fineB d k m = true ∧ m.nul = false
 toldF : ∀ k m, m ∈ toldAt d k → fineB d k m = true ∧ m.nul = false
 wireF : ∀ f t m, m ∈ wireAt d f t → fineB d t m = true ∧ m.fr = f
 wireR : ∀ f t, stRises (wireAt d f t) = true
 wire0 : ∀ f, wireAt d f f = []
theorem getD_at {α : Type} {l : List α} {i : Nat} {a x : α} (h : l[i]? = some x) : l[i]?.getD a = x := by rw [h]; rfl
theorem shortB_iff (d : Wd) : shortB d = true ↔ (∀ (k : Nat) (x : Nd), d.nodes[k]? = some x → x.held.length ≤ 40 ∧ x.told.length ≤ 40) ∧ ∀ (f : Nat) (row : List (List Mg)) (t : Nat) (l : List Mg), d.wires[f]? = some row → row[t]? = some l → l.length ≤ 40 := by
 unfold shortB allLens nodeLens wireLens
 rw [List.all_append, Bool.and_eq_true, List.all_eq_true, List.all_eq_true]
 simp only [List.mem_flatMap, decide_eq_true_eq]
 constructor
 ·rintro ⟨h1, h2⟩
  refine ⟨fun k x hx => ?_, fun f row t l hr hl => ?_⟩
  ·have hm := List.mem_of_getElem? hx
   exact ⟨h1 _ ⟨x, hm, by simp⟩, h1 _ ⟨x, hm, by simp⟩⟩
  ·exact h2 _ ⟨row, List.mem_of_getElem? hr, List.mem_map.2 ⟨l, List.mem_of_getElem? hl, rfl⟩⟩
 ·rintro ⟨h1, h2⟩
  refine ⟨fun n ⟨x, hx, hn⟩ => ?_, fun n ⟨row, hr, hn⟩ => ?_⟩
  ·obtain ⟨k, hk⟩ := List.getElem?_of_mem hx
   obtain ⟨a, b⟩ := h1 k x hk
   simp at hn
   rcases hn with rfl | rfl <;> assumption
  ·obtain ⟨l, hl, rfl⟩ := List.mem_map.1 hn
   obtain ⟨f, hf⟩ := List.getElem?_of_mem hr
   obtain ⟨t, ht⟩ := List.getElem?_of_mem hl
   exact h2 f row t l hf ht
theorem lastOkB_iff (d : Wd) (n : Nat) (last : List (List Int)) : lastOkB d n last = true ↔ ∀ (g : Nat) (row : List Int), last[g]? = some row → row.length = d.nodes.length ∧ ∀ (k : Nat) (v : Int), row[k]? = some v → cellOkB d n g k v = true := by
 unfold lastOkB
 rw [List.all_eq_true]
 simp only [List.mem_range]
 constructor
 ·intro h g row hg
  have hl := (List.getElem?_eq_some_iff.1 hg).1
  have := h g hl
  rw [getD_at hg] at this
  unfold rowOkB at this
  rw [Bool.and_eq_true, List.all_eq_true, decide_eq_true_eq] at this
  refine ⟨this.1, fun k v hk => ?_⟩
  have h2 := this.2 k (List.mem_range.2 (List.getElem?_eq_some_iff.1 hk).1)
  rwa [getD_at hk] at h2
 ·intro h g hg
  obtain ⟨row, hr⟩ : ∃ row, last[g]? = some row := ⟨_, List.getElem?_eq_getElem hg⟩
  obtain ⟨h1, h2⟩ := h g row hr
  rw [getD_at hr]
  unfold rowOkB
  rw [Bool.and_eq_true, List.all_eq_true, decide_eq_true_eq]
  refine ⟨h1, fun k hk => ?_⟩
  have hk' := List.mem_range.1 hk
  obtain ⟨v, hv⟩ : ∃ v, row[k]? = some v := ⟨_, List.getElem?_eq_getElem hk'⟩
  rw [getD_at hv]
  exact h2 k v hv
theorem nodesB_iff (d : Wd) : nodesB d = true ↔ ∀ (k : Nat) (x : Nd), d.nodes[k]? = some x → nodeFineB d k x = true := by
 unfold nodesB
 rw [List.all_eq_true]
 simp only [List.mem_range]
 constructor
 ·intro h k x hx
  have := h k (List.getElem?_eq_some_iff.1 hx).1
  rw [hx] at this
  exact this
 ·intro h k hk
  cases hx : d.nodes[k]? with
  | none => rfl
  | some x => exact h k x hx
theorem wiresB_iff (d : Wd) : wiresB d = true ↔ d.wires.length = d.nodes.length ∧ ∀ (f : Nat) (row : List (List Mg)), d.wires[f]? = some row → row.length = d.nodes.length ∧ ∀ (t : Nat) (l : List Mg), row[t]? = some l → wireFineB d f t l = true := by
 unfold wiresB
 rw [Bool.and_eq_true, decide_eq_true_eq, List.all_eq_true]
 simp only [List.mem_range]
 refine and_congr Iff.rfl ?_
 constructor
 ·intro h f row hf
  have := h f (List.getElem?_eq_some_iff.1 hf).1
  rw [getD_at hf] at this
  unfold wrowB at this
  rw [Bool.and_eq_true, decide_eq_true_eq, List.all_eq_true] at this
  refine ⟨this.1, fun t l hl => ?_⟩
  have h2 := this.2 t (List.mem_range.2 (List.getElem?_eq_some_iff.1 hl).1)
  rwa [getD_at hl] at h2
 ·intro h f hf
  obtain ⟨row, hr⟩ : ∃ row, d.wires[f]? = some row := ⟨_, List.getElem?_eq_getElem hf⟩
  obtain ⟨h1, h2⟩ := h f row hr
  rw [getD_at hr]
  unfold wrowB
  rw [Bool.and_eq_true, decide_eq_true_eq, List.all_eq_true]
  refine ⟨h1, fun t ht => ?_⟩
  obtain ⟨l, hl⟩ : ∃ l, row[t]? = some l := ⟨_, List.getElem?_eq_getElem (List.mem_range.1 ht)⟩
  rw [getD_at hl]
  exact h2 t l hl
theorem wireAt_some {d : Wd} {f t : Nat} {row : List (List Mg)} {l : List Mg} (hr : d.wires[f]? = some row) (hl : row[t]? = some l) : wireAt d f t = l := by
 unfold wireAt; rw [hr]; simp [hl]
theorem wireAt_cases (d : Wd) (f t : Nat) : (wireAt d f t = []) ∨ ∃ row l, d.wires[f]? = some row ∧ row[t]? = some l ∧ wireAt d f t = l := by
 unfold wireAt
 cases hr : d.wires[f]? with
 | none => left; simp
 | some row =>
  cases hl : row[t]? with
  | none => left; simp [hl]
  | some l => right; exact ⟨row, l, rfl, hl, by simp [hl]⟩
theorem lastAt_cases (last : List (List Int)) (g k : Nat) : lastAt last g k = 0 ∨ ∃ row, last[g]? = some row ∧ row[k]? = some (lastAt last g k) := by
 unfold lastAt
 cases hr : last[g]? with
 | none => left; simp
 | some row =>
  cases hl : row[k]? with
  | none => left; simp [hl]
  | some l => right; exact ⟨row, rfl, by simp [hl]⟩
theorem lastAt_some {last : List (List Int)} {g k : Nat} {row : List Int} {v : Int} (hr : last[g]? = some row) (hl : row[k]? = some v) : lastAt last g k = v := by
 unfold lastAt; rw [hr]; simp [hl]
theorem right_iff (d : Wd) : worldE d = 0 ↔ Right d := by
 have hE : worldE d = 0 ↔ chkE d.nodes.length d.groups = 0 ∧ shortB d = true ∧ nodesB d = true ∧ wiresB d = true := by
  unfold worldE
  by_cases h : chkE d.nodes.length d.groups = 0
  ·rw [if_pos h]
   cases hs : shortB d <;> cases hn : nodesB d <;> cases hw : wiresB d <;> simp [h]
  ·rw [if_neg h]; simp [h]
 rw [hE, shortB_iff, nodesB_iff, wiresB_iff]
 constructor
 ·rintro ⟨hc, ⟨hs1, hs2⟩, hn, hw1, hw2⟩
  have N : ∀ (k : Nat) (x : Nd), d.nodes[k]? = some x → (0 ≤ x.clock ∧ x.clock ≤ 1048576) ∧ x.last.length = d.groups.length ∧ (∀ (g : Nat) (row : List Int), x.last[g]? = some row → row.length = d.nodes.length ∧ ∀ (i : Nat) (v : Int), row[i]? = some v → cellOkB d k g i v = true)
    ∧ risesM x.held = true ∧ risesM x.told = true ∧ noNullB x.held = true ∧ noNullB x.told = true ∧ listFineB d x.held k = true ∧ listFineB d x.told k = true := by
   intro k x hx
   have := hn k x hx
   unfold nodeFineB headOkB listsOkB at this
   simp only [Bool.and_eq_true, decide_eq_true_eq, inB, lastOkB_iff] at this
   obtain ⟨⟨a, b⟩, c, d1, d2, d3, d4, d5, d6⟩ := this
   exact ⟨a, b, c, d1, d2, d3, d4, d5, d6⟩
  have C : ∀ (k : Nat) (x : Nd) (g i : Nat), d.nodes[k]? = some x → cellOkB d k g i (lastAt x.last g i) = true ∨ lastAt x.last g i = 0 := by
   intro k x g i hx
   rcases lastAt_cases x.last g i with h0 | ⟨row, hr, hv⟩
   ·exact .inr h0
   ·exact .inl (((N k x hx).2.2.1 g row hr).2 i _ hv)
  refine ⟨hc, hw1, fun f row h => (hw2 f row h).1, fun k x h => (N k x h).2.1, fun k x g row h h2 => ((N k x h).2.2.1 g row h2).1, ?_, ?_, ?_, ?_, ?_, ?_, ?_, ?_, ?_, ?_, ?_, ?_, ?_⟩
  ·intro k; unfold clkAt
   cases h : d.nodes[k]? with
   | none => simp
   | some x => exact (N k x h).1
  ·intro k g i; unfold lstAt
   cases h : d.nodes[k]? with
   | none => simp
   | some x =>
    rcases C k x g i h with h1 | h1
    ·unfold cellOkB at h1; rw [Bool.and_eq_true] at h1; simpa [inB] using h1.1
    ·show 0 ≤ lastAt x.last g i ∧ lastAt x.last g i ≤ _
     rw [h1]; omega
  ·intro k g i hb; unfold lstAt
   cases h : d.nodes[k]? with
   | none => rfl
   | some x =>
    rcases C k x g i h with h1 | h1
    ·unfold cellOkB at h1; rw [Bool.and_eq_true, hb] at h1; simpa using h1.2
    ·exact h1
  ·intro k; unfold heldAt
   cases h : d.nodes[k]? with
   | none => simp
   | some x => exact (hs1 k x h).1
  ·intro k; unfold toldAt
   cases h : d.nodes[k]? with
   | none => simp
   | some x => exact (hs1 k x h).2
  ·intro f t
   rcases wireAt_cases d f t with h | ⟨row, l, hr, hl, h⟩
   ·rw [h]; simp
   ·rw [h]; exact hs2 f row t l hr hl
  ·intro k; unfold heldAt
   cases h : d.nodes[k]? with
   | none => rfl
   | some x => exact (N k x h).2.2.2.1
  ·intro k; unfold toldAt
   cases h : d.nodes[k]? with
   | none => rfl
   | some x => exact (N k x h).2.2.2.2.1
  ·intro k m hm; unfold heldAt at hm
   cases h : d.nodes[k]? with
   | none => rw [h] at hm; simp at hm
   | some x =>
    rw [h] at hm
    obtain ⟨_, _, _, _, _, e1, e2, e3, e4⟩ := N k x h
    unfold noNullB at e1; unfold listFineB at e3
    rw [List.all_eq_true] at e1 e3
    exact ⟨e3 m hm, by simpa using e1 m hm⟩
  ·intro k m hm; unfold toldAt at hm
   cases h : d.nodes[k]? with
   | none => rw [h] at hm; simp at hm
   | some x =>
    rw [h] at hm
    obtain ⟨_, _, _, _, _, e1, e2, e3, e4⟩ := N k x h
    unfold noNullB at e2; unfold listFineB at e4
    rw [List.all_eq_true] at e2 e4
    exact ⟨e4 m hm, by simpa using e2 m hm⟩
  ·intro f t m hm
   rcases wireAt_cases d f t with h | ⟨row, l, hr, hl, h⟩
   ·rw [h] at hm; simp at hm
   ·rw [h] at hm
    have := (hw2 f row hr).2 t l hl
    unfold wireFineB wireOkB listFineB at this
    simp only [Bool.and_eq_true, List.all_eq_true, decide_eq_true_eq] at this
    exact ⟨this.2.1 m hm, this.1.1 m hm⟩
  ·intro f t
   rcases wireAt_cases d f t with h | ⟨row, l, hr, hl, h⟩
   ·rw [h]; rfl
   ·rw [h]
    have := (hw2 f row hr).2 t l hl
    unfold wireFineB wireOkB at this
    simp only [Bool.and_eq_true] at this
    exact this.1.2
  ·intro f
   rcases wireAt_cases d f f with h | ⟨row, l, hr, hl, h⟩
   ·exact h
   ·rw [h]
    have := (hw2 f row hr).2 f l hl
    unfold wireFineB at this
    simp only [Bool.and_eq_true] at this
    exact List.eq_nil_of_length_eq_zero (by simpa using this.2.2)
 ·intro R
  have H : ∀ (k : Nat) (x : Nd), d.nodes[k]? = some x → heldAt d k = x.held ∧ toldAt d k = x.told ∧ clkAt d k = x.clock ∧ ∀ g i, lstAt d k g i = lastAt x.last g i := by
   intro k x h; unfold heldAt toldAt clkAt lstAt; rw [h]; exact ⟨rfl, rfl, rfl, fun _ _ => rfl⟩
  refine ⟨R.chk, ⟨fun k x h => ?_, fun f row t l hr hl => ?_⟩, fun k x h => ?_, R.wlen, fun f row hr => ⟨R.rlen f row hr, fun t l hl => ?_⟩⟩
  ·obtain ⟨h1, h2, _, _⟩ := H k x h; rw [← h1, ← h2]; exact ⟨R.heldN k, R.toldN k⟩
  ·rw [← wireAt_some hr hl]; exact R.wireN f t
  ·obtain ⟨h1, h2, h3, h4⟩ := H k x h
   unfold nodeFineB headOkB listsOkB
   simp only [Bool.and_eq_true, decide_eq_true_eq, inB, lastOkB_iff]
   refine ⟨⟨h3 ▸ R.clk k, R.llen k x h⟩, fun g row hr => ⟨R.lrow k x g row h hr, fun i v hv => ?_⟩, h1 ▸ R.heldR k, h2 ▸ R.toldR k, ?_, ?_, ?_, ?_⟩
   ·have e := lastAt_some hr hv
    have l1 := R.lst k g i
    have l2 := R.lst0 k g i
    rw [h4, e] at l1 l2
    unfold cellOkB
    rw [Bool.and_eq_true]
    refine ⟨by simpa [inB] using l1, ?_⟩
    cases hb : bothB d k g i
    ·simp [l2 hb]
    ·rfl
   ·unfold noNullB; rw [List.all_eq_true]; intro m hm; have := (R.heldF k m (h1 ▸ hm)).2; simp [this]
   ·unfold noNullB; rw [List.all_eq_true]; intro m hm; have := (R.toldF k m (h2 ▸ hm)).2; simp [this]
   ·unfold listFineB; rw [List.all_eq_true]; intro m hm; exact (R.heldF k m (h1 ▸ hm)).1
   ·unfold listFineB; rw [List.all_eq_true]; intro m hm; exact (R.toldF k m (h2 ▸ hm)).1
  ·have e := wireAt_some hr hl
   unfold wireFineB wireOkB listFineB
   simp only [Bool.and_eq_true, List.all_eq_true, decide_eq_true_eq]
   refine ⟨⟨fun m hm => (R.wireF f t m (e ▸ hm)).2, e ▸ R.wireR f t⟩, fun m hm => (R.wireF f t m (e ▸ hm)).1, ?_⟩
   by_cases hft : f = t
   ·subst hft; rw [R.wire0 f] at e; subst e; simp
   ·simp [hft]
end Go.Proofs.YtiiifecfdkjmbaaGreat.Pure
namespace Go.Proofs.YtiiifecfdkjmbaaGreat.Pure
set_option maxRecDepth 8000
/-! Lists of messages that rise. -/
theorem lessM_iff (a b : Mg) : lessM a b = true ↔ a.st < b.st ∨ (a.st = b.st ∧ a.fr < b.fr) := by
 unfold lessM; simp
theorem lessM_trans {a b c : Mg} (h1 : lessM a b = true) (h2 : lessM b c = true) : lessM a c = true := by
 rw [lessM_iff] at *; omega
theorem lessM_irrefl (a : Mg) : lessM a a = false := by
 cases h : lessM a a
 ·rfl
 ·rw [lessM_iff] at h; omega
theorem risesM_pair : ∀ l : List Mg, risesM l = true ↔ l.Pairwise (fun a b => lessM a b = true)
 | [] => by simp [risesM]
 | [a] => by simp [risesM]
 | a :: b :: r => by
  rw [risesM, Bool.and_eq_true, risesM_pair (b :: r), List.pairwise_cons (a := a)]
  constructor
  ·rintro ⟨h1, h2⟩
   refine ⟨fun x hx => ?_, h2⟩
   rcases List.mem_cons.1 hx with rfl | hx
   ·exact h1
   ·exact lessM_trans h1 ((List.pairwise_cons.1 h2).1 x hx)
  ·rintro ⟨h1, h2⟩
   exact ⟨h1 b (by simp), h2⟩
theorem stRises_pair : ∀ l : List Mg, stRises l = true ↔ l.Pairwise (fun a b => a.st < b.st)
 | [] => by simp [stRises]
 | [a] => by simp [stRises]
 | a :: b :: r => by
  rw [stRises, Bool.and_eq_true, stRises_pair (b :: r), List.pairwise_cons (a := a), decide_eq_true_eq]
  constructor
  ·rintro ⟨h1, h2⟩
   refine ⟨fun x hx => ?_, h2⟩
   rcases List.mem_cons.1 hx with rfl | hx
   ·exact h1
   ·have := (List.pairwise_cons.1 h2).1 x hx; omega
  ·rintro ⟨h1, h2⟩
   exact ⟨h1 b (by simp), h2⟩
theorem filter_le : ∀ (l : List Mg) (v : Int), risesM l = true →
  l.take (l.filter fun m => decide (m.st ≤ v)).length = l.filter (fun m => decide (m.st ≤ v)) ∧ l.drop (l.filter fun m => decide (m.st ≤ v)).length = l.filter (fun m => decide (v < m.st))
 | [], v, _ => by simp
 | a :: r, v, h => by
  have hp := (risesM_pair _).1 h
  obtain ⟨h1, h2⟩ := List.pairwise_cons.1 hp
  obtain ⟨e1, e2⟩ := filter_le r v ((risesM_pair _).2 h2)
  by_cases ha : a.st ≤ v
  ·have hb : ¬ v < a.st := by omega
   simp [ha, hb, e1, e2]
  ·have hb : v < a.st := by omega
   have hr : ∀ x ∈ r, v < x.st := fun x hx => by have := h1 x hx; rw [lessM_iff] at this; omega
   have e3 : r.filter (fun m => decide (m.st ≤ v)) = [] := by
    rw [List.filter_eq_nil_iff]; intro x hx; have := hr x hx; simp; omega
   have e4 : r.filter (fun m => decide (v < m.st)) = r := by
    rw [List.filter_eq_self]; intro x hx; have := hr x hx; simp; omega
   simp [ha, hb, e3, e4]
theorem mem_putL {m : Mg} {ms : List Mg} (h : putE m ms = 0) (x : Mg) : x ∈ putL m ms ↔ x = m ∨ x ∈ ms := by
 unfold putL
 rw [if_pos h]
 have : x ∈ ms ↔ x ∈ ms.take (placeM m ms) ∨ x ∈ ms.drop (placeM m ms) := by
  rw [← List.mem_append, List.take_append_drop]
 rw [this]
 simp only [List.mem_append, List.mem_singleton]
 constructor
 ·rintro ((h | h) | h)
  ·exact .inr (.inl h)
  ·exact .inl h
  ·exact .inr (.inr h)
 ·rintro (h | h | h)
  ·exact .inl (.inr h)
  ·exact .inl (.inl h)
  ·exact .inr h
theorem placeM_take (m : Mg) : ∀ ms : List Mg, ∀ x ∈ ms.take (placeM m ms), lessM x m = true
 | [], x, h => by simp at h
 | y :: r, x, h => by
  unfold placeM at h
  cases hl : lessM y m
  ·simp [hl] at h
  ·simp [hl] at h
   rcases h with rfl | h
   ·exact hl
   ·exact placeM_take m r x h
theorem putE_zero {m : Mg} {ms : List Mg} (h : putE m ms = 0) : risesM ms = true ∧ ms.length < 40 ∧ ∀ x, ms[placeM m ms]? = some x → lessM m x = true := by
 unfold putE at h
 cases hr : risesM ms
 ·simp [hr] at h
 ·simp only [hr] at h
  by_cases hl : 40 ≤ ms.length
  ·simp [hl] at h
  ·refine ⟨rfl, by omega, fun x hx => ?_⟩
   simp only [hl, hx] at h
   cases hm : lessM m x
   ·simp [hm] at h
   ·rfl
theorem putL_rises {m : Mg} {ms : List Mg} (h : putE m ms = 0) : risesM (putL m ms) = true := by
 obtain ⟨h1, h2, h3⟩ := putE_zero h
 have hp := (risesM_pair _).1 h1
 rw [risesM_pair]
 unfold putL
 rw [if_pos h, List.append_assoc]
 have ht := List.take_append_drop (placeM m ms) ms
 rw [← ht] at hp
 obtain ⟨p1, p2, p3⟩ := List.pairwise_append.1 hp
 have hd : ∀ x ∈ ms.drop (placeM m ms), lessM m x = true := by
  intro x hx
  cases hdd : ms.drop (placeM m ms) with
  | nil => rw [hdd] at hx; simp at hx
  | cons y r =>
   have hy : ms[placeM m ms]? = some y := by
    have := congrArg (·[0]?) hdd
    simpa using this
   have hmy := h3 y hy
   rw [hdd] at hx p2
   rcases List.mem_cons.1 hx with rfl | hx
   ·exact hmy
   ·exact lessM_trans hmy ((List.pairwise_cons.1 p2).1 x hx)
 refine List.pairwise_append.2 ⟨p1, List.pairwise_append.2 ⟨by simp, p2, fun a ha b hb => ?_⟩, fun a ha b hb => ?_⟩
 ·simp at ha; subst ha; exact hd b hb
 ·rcases List.mem_append.1 hb with hb | hb
  ·simp at hb; subst hb; exact placeM_take _ _ a ha
  ·exact p3 a ha b hb
/-! How far: the greatest number that is below all. -/
theorem farFold (d : Wd) (n : Nat) (x : Nd) (v : Int) : ∀ (l : List (Nat × Nat)) (acc : Int), v ≤ l.foldl (farStep d n x) acc ↔ v ≤ acc ∧ ∀ p ∈ l, otherB d n p = true → v ≤ lastAt x.last p.1 p.2
 | [], acc => by simp
 | p :: l, acc => by
  rw [List.foldl_cons, farFold d n x v l]
  unfold farStep
  simp only [List.mem_cons, forall_eq_or_imp]
  cases ho : otherB d n p
  ·simp
  ·simp only [if_true, true_implies]
   split <;> constructor <;> rintro ⟨h1, h2⟩ <;> refine ⟨?_, ?_⟩
   ·omega
   ·exact ⟨h1, h2⟩
   ·exact h2.1
   ·exact h2.2
   ·exact h1
   ·exact ⟨by omega, h2⟩
   ·omega
   ·exact h2.2
theorem mem_pairs (G N g k : Nat) : (g, k) ∈ pairs G N ↔ g < G ∧ k < N := by
 unfold pairs; simp
theorem otherB_iff (d : Wd) (n g k : Nat) : otherB d n (g, k) = true ↔ k ≠ n ∧ hasB d.groups g n = true ∧ hasB d.groups g k = true := by
 unfold otherB; simp; intro _ _; omega
theorem hasB_lt {xs : List Int} {g : Nat} {n : Int} (h : hasB xs g n = true) : g < xs.length := by
 unfold hasB at h; simp at h; omega
theorem le_farZ (d : Wd) (n : Nat) (x : Nd) (v : Int) : v ≤ farZ d n x ↔ v ≤ x.clock ∧ ∀ g k : Nat, k < d.nodes.length → k ≠ n → hasB d.groups g n = true → hasB d.groups g k = true → v ≤ lastAt x.last g k := by
 unfold farZ
 rw [farFold]
 refine and_congr Iff.rfl ⟨fun h g k hk hn h1 h2 => h (g, k) ((mem_pairs _ _ _ _).2 ⟨hasB_lt h1, hk⟩) ((otherB_iff _ _ _ _).2 ⟨hn, h1, h2⟩), fun h p hp ho => ?_⟩
 obtain ⟨g, k⟩ := p
 obtain ⟨h0, h1, h2⟩ := (otherB_iff _ _ _ _).1 ho
 exact h g k ((mem_pairs _ _ _ _).1 hp).2 h0 h1 h2
theorem le_farAt {d : Wd} {n : Nat} (hn : n < d.nodes.length) (v : Int) : v ≤ farAt d n ↔ v ≤ clkAt d n ∧ ∀ g k : Nat, k < d.nodes.length → k ≠ n → hasB d.groups g n = true → hasB d.groups g k = true → v ≤ lstAt d n g k := by
 have hx : d.nodes[n]? = some d.nodes[n] := List.getElem?_eq_getElem hn
 unfold farAt clkAt lstAt
 rw [hx]
 exact le_farZ d n _ v
end Go.Proofs.YtiiifecfdkjmbaaGreat.Pure
namespace Go.Proofs.YtiiifecfdkjmbaaGreat.Pure
set_option maxRecDepth 8000
structure Alike (d d' : Wd) : Prop where
 g : d'.groups = d.groups
 n : d'.nodes.length = d.nodes.length
 w : d'.wires.length = d.wires.length
 r : ∀ (f : Nat) (row' : List (List Mg)), d'.wires[f]? = some row' → ∃ row, d.wires[f]? = some row ∧ row'.length = row.length
 l : ∀ (k : Nat) (x' : Nd), d'.nodes[k]? = some x' → ∃ x, d.nodes[k]? = some x ∧ x'.last.length = x.last.length ∧ ∀ (g : Nat) (row' : List Int), x'.last[g]? = some row' → ∃ row, x.last[g]? = some row ∧ row'.length = row.length
theorem Alike.refl (d : Wd) : Alike d d := ⟨rfl, rfl, rfl, fun _ r h => ⟨r, h, rfl⟩, fun _ x h => ⟨x, h, rfl, fun _ r h => ⟨r, h, rfl⟩⟩⟩
theorem Alike.trans {a b c : Wd} (h : Alike a b) (k : Alike b c) : Alike a c := by
 refine ⟨k.g.trans h.g, k.n.trans h.n, k.w.trans h.w, fun f row hr => ?_, fun i x hx => ?_⟩
 ·obtain ⟨r1, e1, e2⟩ := k.r f row hr
  obtain ⟨r2, e3, e4⟩ := h.r f r1 e1
  exact ⟨r2, e3, e2.trans e4⟩
 ·obtain ⟨x1, e1, e2, e3⟩ := k.l i x hx
  obtain ⟨x2, e4, e5, e6⟩ := h.l i x1 e1
  refine ⟨x2, e4, e2.trans e5, fun g row hr => ?_⟩
  obtain ⟨r1, f1, f2⟩ := e3 g row hr
  obtain ⟨r2, f3, f4⟩ := e6 g r1 f1
  exact ⟨r2, f3, f2.trans f4⟩
theorem Alike.fine {d d' : Wd} (h : Alike d d') (n : Int) (m : Mg) : fineB d' n m = fineB d n m := by unfold fineB; rw [h.g, h.n]
theorem Alike.both {d d' : Wd} (h : Alike d d') (n g k : Nat) : bothB d' n g k = bothB d n g k := by unfold bothB; rw [h.g]
theorem node_at {d : Wd} {n : Nat} (hn : n < d.nodes.length) : ∃ x, d.nodes[n]? = some x := ⟨_, List.getElem?_eq_getElem hn⟩
theorem node_lt {d : Wd} {n : Nat} {x : Nd} (h : d.nodes[n]? = some x) : n < d.nodes.length := (List.getElem?_eq_some_iff.1 h).1
theorem set_nodes {d : Wd} {n : Nat} {x : Nd} (y : Nd) (hx : d.nodes[n]? = some x) (k : Nat) : (setNode d n y).nodes[k]? = if k = n then some y else d.nodes[k]? := by
 unfold setNode
 show (d.nodes.set n y)[k]? = _
 rw [List.getElem?_set]
 by_cases h : n = k
 ·subst h; simp [node_lt hx]
 ·have : ¬ k = n := fun e => h e.symm
  simp [h, this]
theorem alike_setNode {d : Wd} {n : Nat} {x : Nd} (y : Nd) (hx : d.nodes[n]? = some x) (hl : y.last.length = x.last.length) (hr : ∀ (g : Nat) (row' : List Int), y.last[g]? = some row' → ∃ row, x.last[g]? = some row ∧ row'.length = row.length) : Alike d (setNode d n y) := by
 refine ⟨rfl, by simp [setNode], rfl, fun _ r h => ⟨r, h, rfl⟩, fun k x' h => ?_⟩
 rw [set_nodes y hx] at h
 by_cases hk : k = n
 ·subst hk; simp at h; subst h; exact ⟨x, hx, hl, hr⟩
 ·rw [if_neg hk] at h; exact ⟨x', h, rfl, fun _ r h => ⟨r, h, rfl⟩⟩
theorem clk_setNode {d : Wd} {n : Nat} {x : Nd} (y : Nd) (hx : d.nodes[n]? = some x) (k : Nat) : clkAt (setNode d n y) k = if k = n then y.clock else clkAt d k := by
 unfold clkAt; rw [set_nodes y hx]; by_cases h : k = n <;> simp only [h, if_true, if_false]
theorem lst_setNode {d : Wd} {n : Nat} {x : Nd} (y : Nd) (hx : d.nodes[n]? = some x) (k g i : Nat) : lstAt (setNode d n y) k g i = if k = n then lastAt y.last g i else lstAt d k g i := by
 unfold lstAt; rw [set_nodes y hx]; by_cases h : k = n <;> simp only [h, if_true, if_false]
theorem held_setNode {d : Wd} {n : Nat} {x : Nd} (y : Nd) (hx : d.nodes[n]? = some x) (k : Nat) : heldAt (setNode d n y) k = if k = n then y.held else heldAt d k := by
 unfold heldAt; rw [set_nodes y hx]; by_cases h : k = n <;> simp only [h, if_true, if_false]
theorem told_setNode {d : Wd} {n : Nat} {x : Nd} (y : Nd) (hx : d.nodes[n]? = some x) (k : Nat) : toldAt (setNode d n y) k = if k = n then y.told else toldAt d k := by
 unfold toldAt; rw [set_nodes y hx]; by_cases h : k = n <;> simp only [h, if_true, if_false]
theorem wire_setNode (d : Wd) (n : Nat) (y : Nd) (f t : Nat) : wireAt (setNode d n y) f t = wireAt d f t := rfl
theorem at_node {d : Wd} {n : Nat} {x : Nd} (hx : d.nodes[n]? = some x) : clkAt d n = x.clock ∧ heldAt d n = x.held ∧ toldAt d n = x.told ∧ farAt d n = farZ d n x ∧ ∀ g i, lstAt d n g i = lastAt x.last g i := by
 unfold clkAt heldAt toldAt farAt lstAt; rw [hx]; exact ⟨rfl, rfl, rfl, rfl, fun _ _ => rfl⟩
def RowsOk (d : Wd) : Prop := d.wires.length = d.nodes.length ∧ ∀ (f : Nat) (row : List (List Mg)), d.wires[f]? = some row → row.length = d.nodes.length
theorem Right.rows {d : Wd} (h : Right d) : RowsOk d := ⟨h.wlen, h.rlen⟩
theorem Alike.rows {d d' : Wd} (h : Alike d d') (r : RowsOk d) : RowsOk d' := by
 refine ⟨h.w.trans (r.1.trans h.n.symm), fun f row hr => ?_⟩
 obtain ⟨r1, e1, e2⟩ := h.r f row hr
 rw [e2, h.n]; exact r.2 f r1 e1
theorem wires_set {d : Wd} {f t : Nat} (l : List Mg) (hr : RowsOk d) (hf : f < d.nodes.length) (ht : t < d.nodes.length) (f' t' : Nat) : wireAt (setWire d f t l) f' t' = if f' = f ∧ t' = t then l else wireAt d f' t' := by
 obtain ⟨row, hrow⟩ : ∃ row, d.wires[f]? = some row := ⟨_, List.getElem?_eq_getElem (by rw [hr.1]; exact hf)⟩
 have hlen := hr.2 f row hrow
 unfold setWire wireAt
 show ((d.wires.set f ((d.wires[f]?.getD []).set t l))[f']?.getD [])[t']?.getD [] = _
 rw [hrow, List.getElem?_set]
 by_cases h : f = f'
 ·subst h
  have : f < d.wires.length := by rw [hr.1]; exact hf
  simp only [this, Option.getD_some, if_true, true_and]
  rw [List.getElem?_set]
  by_cases h2 : t = t'
  ·subst h2; simp [hlen, ht]
  ·have : ¬ t' = t := fun e => h2 e.symm
   simp [h2, this, hrow]
 ·have : ¬ f' = f := fun e => h e.symm
  simp [h, this]
theorem alike_setWire {d : Wd} {f t : Nat} (l : List Mg) : Alike d (setWire d f t l) := by
 refine ⟨rfl, rfl, by simp [setWire], fun f' row' h => ?_, fun _ x h => ⟨x, h, rfl, fun _ r h => ⟨r, h, rfl⟩⟩⟩
 unfold setWire at h
 rw [List.getElem?_set] at h
 by_cases e : f = f'
 ·subst e
  by_cases hl : f < d.wires.length
  ·simp [hl] at h
   refine ⟨d.wires[f], List.getElem?_eq_getElem hl, ?_⟩
   rw [← h]; simp
  ·simp [hl] at h
 ·simp [e] at h; exact ⟨row', h, rfl⟩
theorem far_congr {d d' : Wd} {k : Nat} (hg : d'.groups = d.groups) (hn : d'.nodes.length = d.nodes.length) (hk : k < d.nodes.length) (hc : clkAt d' k = clkAt d k) (hl : ∀ g i, lstAt d' k g i = lstAt d k g i) : farAt d' k = farAt d k := by
 have h1 : ∀ v, v ≤ farAt d' k ↔ v ≤ farAt d k := by
  intro v
  rw [le_farAt (by rw [hn]; exact hk), le_farAt hk, hg, hn, hc]
  simp only [hl]
 have a := (h1 (farAt d' k)).1 (Int.le_refl _)
 have b := (h1 (farAt d k)).2 (Int.le_refl _)
 omega
structure TellStep (d d' : Wd) (n : Nat) : Prop where
 alike : Alike d d'
 clk : ∀ k, clkAt d' k = clkAt d k
 lst : ∀ k g i, lstAt d' k g i = lstAt d k g i
 wire : ∀ f t, wireAt d' f t = wireAt d f t
 other : ∀ k, k ≠ n → heldAt d' k = heldAt d k ∧ toldAt d' k = toldAt d k
 told : toldAt d' n = toldAt d n ++ (heldAt d n).filter fun m => decide (m.st ≤ farAt d n)
 held : heldAt d' n = (heldAt d n).filter fun m => decide (farAt d n < m.st)
 len : (toldAt d' n).length ≤ 40
 rises : risesM (toldAt d' n) = true
theorem tellD_ok {d : Wd} {n : Nat} {p : Wd × Nat} (hh : risesM (heldAt d n) = true) (h : tellD d n = .ok p) : n < d.nodes.length ∧ TellStep d p.1 n ∧ p.2 = ((heldAt d n).filter fun m => decide (m.st ≤ farAt d n)).length := by
 unfold tellD at h
 cases hx : d.nodes[n]? with
 | none => rw [hx] at h; cases h
 | some x =>
  rw [hx] at h
  obtain ⟨c1, c2, c3, c4, c5⟩ := at_node hx
  have e : readyL d n x = (heldAt d n).filter fun m => decide (m.st ≤ farAt d n) := by unfold readyL; rw [c2, c4]
  simp only at h
  by_cases h1 : 40 < (x.told ++ readyL d n x).length
  ·rw [if_pos h1] at h; cases h
  ·rw [if_neg h1] at h
   cases h2 : risesM (x.told ++ readyL d n x)
   ·rw [if_pos h2] at h; cases h
   ·rw [if_neg (by simp [h2])] at h
    have hp := Except.ok.inj h
    subst hp
    obtain ⟨f1, f2⟩ := filter_le (heldAt d n) (farAt d n) hh
    refine ⟨node_lt hx, ⟨alike_setNode _ hx rfl (fun _ r h => ⟨r, h, rfl⟩), fun k => ?_, fun k g i => ?_, fun f t => rfl, fun k hk => ⟨?_, ?_⟩, ?_, ?_, ?_, ?_⟩, by rw [← e]⟩
    ·rw [clk_setNode _ hx]; split
     ·subst k; exact c1.symm
     ·rfl
    ·rw [lst_setNode _ hx]; split
     ·subst k; exact (c5 g i).symm
     ·rfl
    ·rw [held_setNode _ hx, if_neg hk]
    ·rw [told_setNode _ hx, if_neg hk]
    ·rw [told_setNode _ hx, if_pos rfl, c3, e]
    ·rw [held_setNode _ hx, if_pos rfl]
     show x.held.drop _ = _
     rw [e, ← c2, f2]
    ·rw [told_setNode _ hx, if_pos rfl]; show (x.told ++ _).length ≤ 40; omega
    ·rw [told_setNode _ hx, if_pos rfl]; exact h2
theorem bind_ok {α β : Type} {x : Except Int α} {f : α → Except Int β} {b : β} (h : x.bind f = .ok b) : ∃ a, x = .ok a ∧ f a = .ok b := by
 cases x with
 | error e => cases h
 | ok a => exact ⟨a, rfl, h⟩
theorem bind_err {α β : Type} {x : Except Int α} {f : α → Except Int β} {e : Int} (h : x.bind f = .error e) : x = .error e ∨ ∃ a, x = .ok a ∧ f a = .error e := by
 cases x with
 | error e' => exact .inl (by cases h; rfl)
 | ok a => exact .inr ⟨a, rfl, h⟩
end Go.Proofs.YtiiifecfdkjmbaaGreat.Pure
namespace Go.Proofs.YtiiifecfdkjmbaaGreat.Pure
set_option maxRecDepth 8000
structure HoldStep (d d' : Wd) (n : Nat) (m : Mg) : Prop where
 alike : Alike d d'
 clk : ∀ k, clkAt d' k = clkAt d k
 lst : ∀ k g i, lstAt d' k g i = lstAt d k g i
 wire : ∀ f t, wireAt d' f t = wireAt d f t
 other : ∀ k, k ≠ n → heldAt d' k = heldAt d k
 told : ∀ k, toldAt d' k = toldAt d k
 held : (m.nul = true ∧ heldAt d' n = heldAt d n) ∨ (m.nul = false ∧ putE m (heldAt d n) = 0 ∧ heldAt d' n = putL m (heldAt d n))
theorem holdIf_ok {d d' : Wd} {n : Nat} {m : Mg} (hn : n < d.nodes.length) (h : holdIf d n m = .ok d') : HoldStep d d' n m := by
 unfold holdIf at h
 cases hm : m.nul
 ·rw [hm, if_neg (by simp)] at h
  unfold holdD at h
  obtain ⟨x, hx⟩ := node_at hn
  obtain ⟨c1, c2, c3, c4, c5⟩ := at_node hx
  rw [hx] at h
  simp only at h
  by_cases h1 : putE m x.held = 0
  ·rw [if_pos h1] at h
   have hp := Except.ok.inj h
   subst hp
   refine ⟨alike_setNode _ hx rfl (fun _ r h => ⟨r, h, rfl⟩), fun k => ?_, fun k g i => ?_, fun f t => rfl, fun k hk => ?_, fun k => ?_, .inr ⟨hm, by rw [c2]; exact h1, ?_⟩⟩
   ·rw [clk_setNode _ hx]; split
    ·subst k; exact c1.symm
    ·rfl
   ·rw [lst_setNode _ hx]; split
    ·subst k; exact (c5 g i).symm
    ·rfl
   ·rw [held_setNode _ hx, if_neg hk]
   ·rw [told_setNode _ hx]; split
    ·subst k; exact c3.symm
    ·rfl
   ·rw [held_setNode _ hx, if_pos rfl, c2]
  ·rw [if_neg h1] at h; cases h
 ·rw [hm, if_pos rfl] at h
  have hp := Except.ok.inj h
  subst hp
  exact ⟨Alike.refl d, fun _ => rfl, fun _ _ _ => rfl, fun _ _ => rfl, fun _ _ => rfl, fun _ => rfl, .inl ⟨hm, rfl⟩⟩
abbrev goesTo (d : Wd) (m : Mg) (n i f t : Nat) : Prop := f = n ∧ t < i ∧ t ≠ n ∧ hasB d.groups m.gr t = true
structure LayStep (d d' : Wd) (m : Mg) (n i : Nat) : Prop where
 groups : d'.groups = d.groups
 nodes : d'.nodes = d.nodes
 alike : Alike d d'
 wire : ∀ f t, wireAt d' f t = if goesTo d m n i f t then wireAt d f t ++ [m] else wireAt d f t
 room : ∀ t, t < i → t ≠ n → hasB d.groups m.gr t = true → (wireAt d n t).length ≠ 40 ∧ ∀ x, (wireAt d n t).getLast? = some x → x.st < m.st
theorem layTo_succ (m : Mg) (n : Nat) (d : Wd) (i : Nat) : layTo m n d (i + 1) = (layTo m n d i).bind fun d1 => layOne m n d1 i := by
 unfold layTo
 rw [List.range_succ, List.foldlM_append]
 cases h : List.foldlM (layOne m n) d (List.range i) with
 | error e => rfl
 | ok a =>
  show (List.foldlM (layOne m n) a [i]) = _
  simp only [List.foldlM_cons, List.foldlM_nil]
  show (layOne m n a i).bind _ = (layOne m n a i)
  cases layOne m n a i <;> rfl
theorem layTo_ok {m : Mg} {n : Nat} {d : Wd} (hr : RowsOk d) (hn : n < d.nodes.length) : ∀ (i : Nat) (d' : Wd), i ≤ d.nodes.length → layTo m n d i = .ok d' → LayStep d d' m n i
 | 0, d', _, h => by
  have := Except.ok.inj h; subst this
  exact ⟨rfl, rfl, Alike.refl d, fun f t => by rw [if_neg (by unfold goesTo; omega)], fun t ht => by omega⟩
 | i + 1, d', hi, h => by
  rw [layTo_succ] at h
  obtain ⟨d1, h1, h2⟩ := bind_ok h
  have S := layTo_ok hr hn i d1 (by omega) h1
  have R1 := S.alike.rows hr
  unfold layOne at h2
  have hw : wireAt d1 n i = wireAt d n i := by rw [S.wire, if_neg (by unfold goesTo; omega)]
  by_cases c : i = n ∨ hasB d1.groups m.gr i = false
  ·rw [if_pos c] at h2
   have := Except.ok.inj h2; subst this
   rw [S.groups] at c
   refine ⟨S.groups, S.nodes, S.alike, fun f t => ?_, fun t ht h3 h4 => ?_⟩
   ·rw [S.wire]
    by_cases g : goesTo d m n i f t
    ·rw [if_pos g, if_pos (by unfold goesTo at g ⊢; exact ⟨g.1, by omega, g.2.2⟩)]
    ·rw [if_neg g, if_neg]
     rintro ⟨a1, a2, a3, a4⟩
     by_cases e : t = i
     ·subst e; rcases c with c | c
      ·exact a3 c
      ·rw [c] at a4; cases a4
     ·exact g ⟨a1, by omega, a3, a4⟩
   ·by_cases e : t = i
    ·subst e; rcases c with c | c
     ·exact absurd c h3
     ·rw [c] at h4; cases h4
    ·exact S.room t (by omega) h3 h4
  ·rw [if_neg c] at h2
   have c' : i ≠ n ∧ hasB d.groups m.gr i = true := by
    rw [S.groups] at c
    refine ⟨fun e => c (.inl e), ?_⟩
    cases hb : hasB d.groups m.gr i
    ·exact absurd (.inr hb) c
    ·rfl
   rw [hw] at h2
   by_cases h3 : (wireAt d n i).length = 40
   ·rw [if_pos h3] at h2; cases h2
   ·rw [if_neg h3] at h2
    cases h4 : lateB m (wireAt d n i)
    ·rw [if_neg (by simp [h4])] at h2
     have := Except.ok.inj h2; subst this
     refine ⟨S.groups, S.nodes, S.alike.trans (alike_setWire _), fun f t => ?_, fun t ht h5 h6 => ?_⟩
     ·have hnn := S.alike.n
      rw [wires_set _ R1 (by omega) (by omega)]
      by_cases e : f = n ∧ t = i
      ·obtain ⟨rfl, rfl⟩ := e
       rw [if_pos ⟨rfl, rfl⟩, if_pos ⟨rfl, by omega, c'.1, c'.2⟩]
      ·rw [if_neg e, S.wire]
       by_cases g : goesTo d m n i f t
       ·rw [if_pos g, if_pos ⟨g.1, by have := g.2.1; omega, g.2.2⟩]
       ·rw [if_neg g, if_neg]
        rintro ⟨a1, a2, a3, a4⟩
        exact g ⟨a1, by have : t ≠ i := fun e2 => e ⟨a1, e2⟩
                        omega, a3, a4⟩
     ·by_cases e : t = i
      ·subst e
       refine ⟨h3, fun x hx => ?_⟩
       unfold lateB at h4
       rw [hx] at h4
       simp at h4; omega
      ·exact S.room t (by omega) h5 h6
    ·rw [if_pos h4] at h2; cases h2
end Go.Proofs.YtiiifecfdkjmbaaGreat.Pure
namespace Go.Proofs.YtiiifecfdkjmbaaGreat.Pure
set_option maxRecDepth 8000
theorem right_tell {d d' : Wd} {n : Nat} (R : Right d) (S : TellStep d d' n) : Right d' := by
 have hH : ∀ k m, m ∈ heldAt d' k → m ∈ heldAt d k := by
  intro k m hm
  by_cases h : k = n
  ·subst h; rw [S.held] at hm; exact (List.mem_filter.1 hm).1
  ·rwa [(S.other k h).1] at hm
 refine ⟨by rw [S.alike.g, S.alike.n]; exact R.chk, (S.alike.rows R.rows).1, (S.alike.rows R.rows).2, fun k x h => ?_, fun k x g row h hr => ?_, fun k => by rw [S.clk]; exact R.clk k, fun k g i => by rw [S.lst]; exact R.lst k g i,
  fun k g i h => by rw [S.lst]; rw [S.alike.both] at h; exact R.lst0 k g i h, fun k => ?_, fun k => ?_, fun f t => by rw [S.wire]; exact R.wireN f t, fun k => ?_, fun k => ?_, fun k m hm => ?_, fun k m hm => ?_, fun f t m hm => ?_, fun f t => by rw [S.wire]; exact R.wireR f t, fun f => by rw [S.wire]; exact R.wire0 f⟩
 ·obtain ⟨x0, e1, e2, _⟩ := S.alike.l k x h; rw [e2, S.alike.g]; exact R.llen k x0 e1
 ·obtain ⟨x0, e1, _, e3⟩ := S.alike.l k x h
  obtain ⟨r0, e4, e5⟩ := e3 g row hr
  rw [e5, S.alike.n]; exact R.lrow k x0 g r0 e1 e4
 ·by_cases h : k = n
  ·subst h; rw [S.held]; exact Nat.le_trans (List.length_filter_le _ _) (R.heldN k)
  ·rw [(S.other k h).1]; exact R.heldN k
 ·by_cases h : k = n
  ·subst h; exact S.len
  ·rw [(S.other k h).2]; exact R.toldN k
 ·by_cases h : k = n
  ·subst h; rw [S.held]; rw [risesM_pair]; exact ((risesM_pair _).1 (R.heldR k)).sublist (List.filter_sublist)
  ·rw [(S.other k h).1]; exact R.heldR k
 ·by_cases h : k = n
  ·subst h; exact S.rises
  ·rw [(S.other k h).2]; exact R.toldR k
 ·rw [S.alike.fine]; exact R.heldF k m (hH k m hm)
 ·rw [S.alike.fine]
  by_cases h : k = n
  ·subst h; rw [S.told] at hm
   rcases List.mem_append.1 hm with hm | hm
   ·exact R.toldF k m hm
   ·exact R.heldF k m (List.mem_filter.1 hm).1
  ·rw [(S.other k h).2] at hm; exact R.toldF k m hm
 ·rw [S.wire] at hm; rw [S.alike.fine]; exact R.wireF f t m hm
structure PreCast (d d' : Wd) (n : Nat) (m : Mg) : Prop where
 alike : Alike d d'
 lt : n < d.nodes.length
 mfr : m.fr = n
 mst : m.st = clkAt d n + 1
 top : m.st ≤ 1048576
 fine : chkM d.nodes.length d.groups m = 0
 clk : ∀ k, clkAt d' k = if k = n then m.st else clkAt d k
 lst : ∀ k g i, lstAt d' k g i = lstAt d k g i
 wire : ∀ f t, wireAt d' f t = if goesTo d m n d.nodes.length f t then wireAt d f t ++ [m] else wireAt d f t
 room : ∀ t, t < d.nodes.length → t ≠ n → hasB d.groups m.gr t = true → (wireAt d n t).length ≠ 40 ∧ ∀ x, (wireAt d n t).getLast? = some x → x.st < m.st
 told : ∀ k, toldAt d' k = toldAt d k
 other : ∀ k, k ≠ n → heldAt d' k = heldAt d k
 held : (m.nul = true ∧ heldAt d' n = heldAt d n) ∨ (m.nul = false ∧ putE m (heldAt d n) = 0 ∧ heldAt d' n = putL m (heldAt d n))
structure PreMove (d d' : Wd) (f t : Nat) (m : Mg) : Prop where
 alike : Alike d d'
 flt : f < d.nodes.length
 tlt : t < d.nodes.length
 clk : ∀ k, clkAt d' k = if k = t then max (clkAt d t) m.st else clkAt d k
 lst : ∀ k g i, lstAt d' k g i = if k = t ∧ g = m.gr.toNat ∧ i = f then max (lstAt d k g i) m.st else lstAt d k g i
 first : wireAt d f t = m :: wireAt d' f t
 wire : ∀ f' t', ¬ (f' = f ∧ t' = t) → wireAt d' f' t' = wireAt d f' t'
 told : ∀ k, toldAt d' k = toldAt d k
 other : ∀ k, k ≠ t → heldAt d' k = heldAt d k
 held : (m.nul = true ∧ heldAt d' t = heldAt d t) ∨ (m.nul = false ∧ putE m (heldAt d t) = 0 ∧ heldAt d' t = putL m (heldAt d t))
def msgD (d : Wd) (n g : Int) (nul : Bool) (body : ByteArray) : Mg := ⟨n, g, clkAt d n.toNat + 1, nul, body⟩
def preCastD (d : Wd) (n g : Int) (nul : Bool) (body : ByteArray) : Except Int Wd :=
 (layTo (msgD d n g nul body) n.toNat (setClock d n.toNat (clkAt d n.toNat + 1)) d.nodes.length).bind fun d2 => holdIf d2 n.toNat (msgD d n g nul body)
def preMoveD (d : Wd) (f t : Nat) : Except Int Wd := match wireAt d f t with | [] => .error 7 | m :: rest => holdIf (comeD d f t m rest) t m
theorem castD_eq (d : Wd) (n g : Int) (nul : Bool) (body : ByteArray) : castD d n g nul body = if castE d n g body.size = 0 then (preCastD d n g nul body).bind fun d3 => (tellD d3 n.toNat).bind fun p => .ok p.1 else .error (castE d n g body.size) := by
 unfold castD preCastD msgD
 split
 ·cases layTo ⟨n, g, clkAt d n.toNat + 1, nul, body⟩ n.toNat (setClock d n.toNat (clkAt d n.toNat + 1)) d.nodes.length <;> rfl
 ·rfl
theorem moveD_eq (d : Wd) (f t : Nat) : moveD d f t = (preMoveD d f t).bind fun d3 => (tellD d3 t).bind fun p => .ok p.1 := by
 unfold moveD preMoveD
 cases wireAt d f t <;> rfl
theorem castE_zero {d : Wd} {n g : Int} {s : Nat} (h : castE d n g s = 0) : (0 ≤ n ∧ n < d.nodes.length) ∧ (0 ≤ g ∧ g < d.groups.length) ∧ hasB d.groups g n = true ∧ s ≤ 8 ∧ clkAt d n.toNat ≠ 1048576 := by
 unfold castE at h
 split at h
 ·cases h
 ·next c =>
  split at h
  ·cases h
  ·next c2 =>
   split at h
   ·cases h
   ·split at h
    ·cases h
    ·next c4 =>
     simp only [inB] at c
     simp at c c2
     exact ⟨by omega, by omega, c2, by omega, c4⟩
theorem alike_setClock {d : Wd} {n : Nat} {x : Nd} (hx : d.nodes[n]? = some x) (c : Int) : setClock d n c = setNode d n { x with clock := c } := by unfold setClock; rw [hx]
theorem clk_nodes {a b : Wd} (h : a.nodes = b.nodes) (k : Nat) : clkAt a k = clkAt b k := by unfold clkAt; rw [h]
theorem preCast_ok {d d3 : Wd} {n g : Int} {nul : Bool} {body : ByteArray} (R : Right d) (hE : castE d n g body.size = 0) (hb : nul = true → body.size = 0) (h : preCastD d n g nul body = .ok d3) : PreCast d d3 n.toNat (msgD d n g nul body) := by
 obtain ⟨hn, hg, hm, hs, hc⟩ := castE_zero hE
 have hnt : ((n.toNat : Nat) : Int) = n := by omega
 have hlt : n.toNat < d.nodes.length := by omega
 obtain ⟨x, hx⟩ := node_at hlt
 obtain ⟨c1, c2, c3, c4, c5⟩ := at_node hx
 unfold preCastD at h
 obtain ⟨d2, h1, h2⟩ := bind_ok h
 rw [alike_setClock hx] at h1
 have A0 : Alike d (setNode d n.toNat { x with clock := clkAt d n.toNat + 1 }) := alike_setNode _ hx rfl (fun _ r h => ⟨r, h, rfl⟩)
 have S1 := layTo_ok (A0.rows R.rows) (by rw [A0.n]; exact hlt) d.nodes.length d2 (by rw [A0.n]; exact Nat.le_refl _) h1
 have S2 := holdIf_ok (by rw [S1.alike.n, A0.n]; exact hlt) h2
 have G : ∀ f t, goesTo (setNode d n.toNat { x with clock := clkAt d n.toNat + 1 }) (msgD d n g nul body) n.toNat d.nodes.length f t ↔ goesTo d (msgD d n g nul body) n.toNat d.nodes.length f t := fun f t => Iff.rfl
 have hclk := R.clk n.toNat
 have e2 : ∀ k, clkAt d2 k = clkAt (setNode d n.toNat { x with clock := clkAt d n.toNat + 1 }) k := fun k => clk_nodes S1.nodes k
 have e3 : ∀ k, heldAt d2 k = heldAt d k := fun k => by
  unfold heldAt; rw [S1.nodes, set_nodes _ hx]
  by_cases h : k = n.toNat
  ·subst h; simp [hx]
  ·simp [h]
 have e4 : ∀ k, toldAt d2 k = toldAt d k := fun k => by
  unfold toldAt; rw [S1.nodes, set_nodes _ hx]
  by_cases h : k = n.toNat
  ·subst h; simp [hx]
  ·simp [h]
 have e5 : ∀ k g i, lstAt d2 k g i = lstAt d k g i := fun k g i => by
  unfold lstAt; rw [S1.nodes, set_nodes _ hx]
  by_cases h : k = n.toNat
  ·subst h; simp [hx]
  ·simp [h]
 refine ⟨(A0.trans S1.alike).trans S2.alike, hlt, hnt.symm, rfl, by show clkAt d n.toNat + 1 ≤ _; omega, ?_, fun k => ?_, fun k g i => (S2.lst k g i).trans (e5 k g i), fun f t => ?_, fun t h3 h4 h5 => S1.room t h3 h4 h5, fun k => (S2.told k).trans (e4 k), fun k hk => (S2.other k hk).trans (e3 k), ?_⟩
 ·unfold chkM msgD
  have := R.chk
  rw [if_neg (by omega), if_neg, if_neg (by simp [hm]), if_neg]
  ·unfold badB; simp; exact ⟨by omega, fun h => by simpa using hb h⟩
  ·simp only [inB]; simp; omega
 ·rw [S2.clk, e2, clk_setNode _ hx]; rfl
 ·rw [S2.wire, S1.wire]; rfl
 ·rw [← e3]; exact S2.held
theorem preMove_ok {d d3 : Wd} {f t : Nat} (R : Right d) (hf : f < d.nodes.length) (ht : t < d.nodes.length) (h : preMoveD d f t = .ok d3) : ∃ m, PreMove d d3 f t m := by
 unfold preMoveD at h
 cases hw : wireAt d f t with
 | nil => rw [hw] at h; cases h
 | cons m rest =>
  rw [hw] at h
  refine ⟨m, ?_⟩
  have hm := R.wireF f t m (by rw [hw]; simp)
  obtain ⟨x, hx⟩ := node_at ht
  obtain ⟨c1, c2, c3, c4, c5⟩ := at_node hx
  have hfine : 0 ≤ m.gr ∧ m.gr < d.groups.length := by
   have h1 := hm.1
   unfold fineB at h1; rw [Bool.and_eq_true] at h1
   have h2 := h1.2
   unfold hasB at h2; simp at h2; omega
  obtain ⟨row, hrow⟩ : ∃ row, x.last[m.gr.toNat]? = some row := ⟨_, List.getElem?_eq_getElem (by rw [R.llen t x hx]; omega)⟩
  have hrl := R.lrow t x m.gr.toNat row hx hrow
  have A1 : Alike d (setWire d f t rest) := alike_setWire rest
  have hx1 : (setWire d f t rest).nodes[t]? = some x := hx
  have eC : comeD d f t m rest = setNode (setWire d f t rest) t (comeNd x m f) := by unfold comeD; rw [hx]
  have A2 : Alike (setWire d f t rest) (comeD d f t m rest) := by
   rw [eC]
   refine alike_setNode _ hx1 (by simp [comeNd]) fun g r hr => ?_
   unfold comeNd at hr
   simp only at hr
   rw [List.getElem?_set] at hr
   by_cases e : m.gr.toNat = g
   ·subst e
    have : m.gr.toNat < x.last.length := (List.getElem?_eq_some_iff.1 hrow).1
    simp only [this, if_true, hrow, Option.getD_some, Option.some.injEq] at hr
    exact ⟨row, hrow, by rw [← hr]; simp⟩
   ·simp [e] at hr; exact ⟨r, hr, rfl⟩
  have S2 := holdIf_ok (by rw [A2.n, A1.n]; exact ht) h
  have e3 : ∀ k, heldAt (comeD d f t m rest) k = heldAt d k := fun k => by
   rw [eC, held_setNode _ hx1]
   split
   ·subst k; exact c2.symm
   ·rfl
  have e4 : ∀ k, toldAt (comeD d f t m rest) k = toldAt d k := fun k => by
   rw [eC, told_setNode _ hx1]
   split
   ·subst k; exact c3.symm
   ·rfl
  have e5 : ∀ f' t', wireAt (comeD d f t m rest) f' t' = if f' = f ∧ t' = t then rest else wireAt d f' t' := fun f' t' => by
   rw [eC, wire_setNode, wires_set _ R.rows hf ht]
  refine ⟨(A1.trans A2).trans S2.alike, hf, ht, fun k => ?_, fun k g i => ?_, ?_, fun f' t' hn => ?_, fun k => (S2.told k).trans (e4 k), fun k hk => (S2.other k hk).trans (e3 k), ?_⟩
  ·rw [S2.clk, eC, clk_setNode _ hx1]
   split
   ·rw [c1]; rfl
   ·rfl
  ·rw [S2.lst, eC, lst_setNode _ hx1]
   by_cases hk : k = t
   ·subst hk
    rw [if_pos rfl, c5]
    unfold comeNd lastAt
    simp only
    rw [List.getElem?_set]
    by_cases e : m.gr.toNat = g
    ·subst e
     have hl : m.gr.toNat < x.last.length := (List.getElem?_eq_some_iff.1 hrow).1
     simp only [hl, if_true, hrow, Option.getD_some, true_and]
     rw [List.getElem?_set]
     by_cases e2 : f = i
     ·subst e2
      have : f < row.length := by rw [hrl]; exact hf
      simp [this]
     ·have : ¬ i = f := fun e => e2 e.symm
      simp [e2, this]
    ·have : ¬ g = m.gr.toNat := fun e2 => e e2.symm
     simp [e, this]
   ·simp only [hk, false_and, if_false]; rfl
  ·rw [hw, S2.wire, e5, if_pos ⟨rfl, rfl⟩]
  ·rw [S2.wire, e5, if_neg hn]
  ·rw [← e3]; exact S2.held
end Go.Proofs.YtiiifecfdkjmbaaGreat.Pure
namespace Go.Proofs.YtiiifecfdkjmbaaGreat.Pure
set_option maxRecDepth 8000
theorem chkM_zero {nodes : Int} {xs : List Int} {m : Mg} (h : chkM nodes xs m = 0) : (0 ≤ m.fr ∧ m.fr < nodes) ∧ (0 ≤ m.gr ∧ m.gr < xs.length) ∧ (1 ≤ m.st ∧ m.st ≤ 1048576) ∧ hasB xs m.gr m.fr = true := by
 unfold chkM at h
 split at h
 ·next c => exact absurd h c
 ·split at h
  ·cases h
  ·next c =>
   split at h
   ·cases h
   ·next c2 =>
    simp only [inB] at c
    simp at c c2
    exact ⟨by omega, by omega, by omega, c2⟩
theorem fine_iff {d : Wd} {n : Int} {m : Mg} : fineB d n m = true ↔ chkM d.nodes.length d.groups m = 0 ∧ hasB d.groups m.gr n = true := by
 unfold fineB; rw [Bool.and_eq_true, decide_eq_true_eq]
theorem st_append {l : List Mg} {m : Mg} (h : stRises l = true) (hl : ∀ x, l.getLast? = some x → x.st < m.st) : stRises (l ++ [m]) = true ∧ ∀ x ∈ l, x.st < m.st := by
 have hp := (stRises_pair _).1 h
 have key : ∀ x ∈ l, x.st < m.st := by
  rcases List.eq_nil_or_concat l with rfl | ⟨l', y, rfl⟩
  ·simp
  ·intro x hx
   have hy : y.st < m.st := hl y (by simp)
   rw [List.concat_eq_append] at hx hp
   rcases List.mem_append.1 hx with hx | hx
   ·have := (List.pairwise_append.1 hp).2.2 x hx y (by simp)
    omega
   ·simp at hx; subst hx; exact hy
 refine ⟨(stRises_pair _).2 (List.pairwise_append.2 ⟨hp, by simp, fun a ha b hb => ?_⟩), key⟩
 simp at hb; subst hb; exact key a ha
theorem right_preCast {d d' : Wd} {n : Nat} {m : Mg} (R : Right d) (S : PreCast d d' n m) : Right d' := by
 obtain ⟨z1, z2, z3, z4⟩ := chkM_zero S.fine
 have hself : fineB d n m = true := fine_iff.2 ⟨S.fine, by rw [← S.mfr]; exact z4⟩
 refine ⟨by rw [S.alike.g, S.alike.n]; exact R.chk, (S.alike.rows R.rows).1, (S.alike.rows R.rows).2, fun k x h => ?_, fun k x g row h hr => ?_, fun k => ?_, fun k g i => by rw [S.lst]; exact R.lst k g i,
  fun k g i h => by rw [S.lst]; rw [S.alike.both] at h; exact R.lst0 k g i h, fun k => ?_, fun k => by rw [S.told]; exact R.toldN k, fun f t => ?_, fun k => ?_, fun k => by rw [S.told]; exact R.toldR k, fun k x hm => ?_, fun k x hm => ?_, fun f t x hm => ?_, fun f t => ?_, fun f => ?_⟩
 ·obtain ⟨x0, e1, e2, _⟩ := S.alike.l k x h; rw [e2, S.alike.g]; exact R.llen k x0 e1
 ·obtain ⟨x0, e1, _, e3⟩ := S.alike.l k x h
  obtain ⟨r0, e4, e5⟩ := e3 g row hr
  rw [e5, S.alike.n]; exact R.lrow k x0 g r0 e1 e4
 ·rw [S.clk]; split
  ·omega
  ·exact R.clk k
 ·by_cases h : k = n
  ·subst h
   rcases S.held with ⟨_, e⟩ | ⟨_, e0, e⟩
   ·rw [e]; exact R.heldN k
   ·rw [e, putL_len _ _ e0]; have := (putE_zero e0).2.1; omega
  ·rw [S.other k h]; exact R.heldN k
 ·rw [S.wire]; split
  ·next g => rw [List.length_append]; obtain ⟨rfl, g1, g2, g3⟩ := g; have := (S.room t g1 g2 g3).1; have := R.wireN f t; simp; omega
  ·exact R.wireN f t
 ·by_cases h : k = n
  ·subst h
   rcases S.held with ⟨_, e⟩ | ⟨_, e0, e⟩
   ·rw [e]; exact R.heldR k
   ·rw [e]; exact putL_rises e0
  ·rw [S.other k h]; exact R.heldR k
 ·rw [S.alike.fine]
  by_cases h : k = n
  ·subst h
   rcases S.held with ⟨_, e⟩ | ⟨e2, e0, e⟩
   ·rw [e] at hm; exact R.heldF k x hm
   ·rw [e, mem_putL e0] at hm
    rcases hm with rfl | hm
    ·exact ⟨hself, e2⟩
    ·exact R.heldF k x hm
  ·rw [S.other k h] at hm; exact R.heldF k x hm
 ·rw [S.alike.fine]; rw [S.told] at hm; exact R.toldF k x hm
 ·rw [S.alike.fine]
  rw [S.wire] at hm
  split at hm
  ·next g =>
   rcases List.mem_append.1 hm with hm | hm
   ·exact R.wireF f t x hm
   ·simp at hm; subst hm
    exact ⟨fine_iff.2 ⟨S.fine, g.2.2.2⟩, by rw [S.mfr, g.1]⟩
  ·exact R.wireF f t x hm
 ·rw [S.wire]; split
  ·next g =>
   obtain ⟨rfl, g1, g2, g3⟩ := g
   exact (st_append (R.wireR f t) (S.room t g1 g2 g3).2).1
  ·exact R.wireR f t
 ·rw [S.wire, if_neg (by rintro ⟨h1, _, h2, _⟩; exact h2 h1)]; exact R.wire0 f
theorem right_preMove {d d' : Wd} {f t : Nat} {m : Mg} (R : Right d) (S : PreMove d d' f t m) : Right d' := by
 have hmem : m ∈ wireAt d f t := by rw [S.first]; simp
 obtain ⟨hf1, hf2⟩ := R.wireF f t m hmem
 obtain ⟨hf3, hf4⟩ := fine_iff.1 hf1
 obtain ⟨z1, z2, z3, z4⟩ := chkM_zero hf3
 have hgr : ((m.gr.toNat : Nat) : Int) = m.gr := by omega
 refine ⟨by rw [S.alike.g, S.alike.n]; exact R.chk, (S.alike.rows R.rows).1, (S.alike.rows R.rows).2, fun k x h => ?_, fun k x g row h hr => ?_, fun k => ?_, fun k g i => ?_,
  fun k g i h => ?_, fun k => ?_, fun k => by rw [S.told]; exact R.toldN k, fun f' t' => ?_, fun k => ?_, fun k => by rw [S.told]; exact R.toldR k, fun k x hm => ?_, fun k x hm => ?_, fun f' t' x hm => ?_, fun f' t' => ?_, fun f' => ?_⟩
 ·obtain ⟨x0, e1, e2, _⟩ := S.alike.l k x h; rw [e2, S.alike.g]; exact R.llen k x0 e1
 ·obtain ⟨x0, e1, _, e3⟩ := S.alike.l k x h
  obtain ⟨r0, e4, e5⟩ := e3 g row hr
  rw [e5, S.alike.n]; exact R.lrow k x0 g r0 e1 e4
 ·rw [S.clk]; have := R.clk k; split
  ·subst k; omega
  ·exact this
 ·rw [S.lst]; have := R.lst k g i; split <;> omega
 ·rw [S.lst]; rw [S.alike.both] at h
  rw [if_neg]
  ·exact R.lst0 k g i h
  ·rintro ⟨rfl, rfl, rfl⟩
   unfold bothB at h
   rw [hgr, hf4, ← hf2, z4] at h
   cases h
 ·by_cases h : k = t
  ·subst h
   rcases S.held with ⟨_, e⟩ | ⟨_, e0, e⟩
   ·rw [e]; exact R.heldN k
   ·rw [e, putL_len _ _ e0]; have := (putE_zero e0).2.1; omega
  ·rw [S.other k h]; exact R.heldN k
 ·by_cases h : f' = f ∧ t' = t
  ·obtain ⟨rfl, rfl⟩ := h
   have := R.wireN f' t'; rw [S.first] at this; simp at this; omega
  ·rw [S.wire f' t' h]; exact R.wireN f' t'
 ·by_cases h : k = t
  ·subst h
   rcases S.held with ⟨_, e⟩ | ⟨_, e0, e⟩
   ·rw [e]; exact R.heldR k
   ·rw [e]; exact putL_rises e0
  ·rw [S.other k h]; exact R.heldR k
 ·rw [S.alike.fine]
  by_cases h : k = t
  ·subst h
   rcases S.held with ⟨_, e⟩ | ⟨e2, e0, e⟩
   ·rw [e] at hm; exact R.heldF k x hm
   ·rw [e, mem_putL e0] at hm
    rcases hm with rfl | hm
    ·exact ⟨hf1, e2⟩
    ·exact R.heldF k x hm
  ·rw [S.other k h] at hm; exact R.heldF k x hm
 ·rw [S.alike.fine]; rw [S.told] at hm; exact R.toldF k x hm
 ·rw [S.alike.fine]
  by_cases h : f' = f ∧ t' = t
  ·obtain ⟨rfl, rfl⟩ := h
   exact R.wireF f' t' x (by rw [S.first]; exact List.mem_cons_of_mem _ hm)
  ·rw [S.wire f' t' h] at hm; exact R.wireF f' t' x hm
 ·by_cases h : f' = f ∧ t' = t
  ·obtain ⟨rfl, rfl⟩ := h
   have := (stRises_pair _).1 (R.wireR f' t'); rw [S.first] at this
   exact (stRises_pair _).2 (List.pairwise_cons.1 this).2
  ·rw [S.wire f' t' h]; exact R.wireR f' t'
 ·by_cases h : f' = f ∧ f' = t
  ·obtain ⟨rfl, rfl⟩ := h
   have := R.wire0 f'; rw [S.first] at this; cases this
  ·rw [S.wire f' f' h]; exact R.wire0 f'
def In (d : Wd) (m : Mg) : Prop := ∃ k, m ∈ heldAt d k ∨ m ∈ toldAt d k ∨ ∃ f, m ∈ wireAt d f k
structure Inv (d : Wd) : Prop where
 right : Right d
 heard : ∀ k g i, lstAt d k g i ≤ clkAt d i
 wire : ∀ i k m, m ∈ wireAt d i k → m.st ≤ clkAt d i ∧ ∀ g, lstAt d k g i < m.st
 told : ∀ k m, m ∈ toldAt d k → m.st ≤ farAt d k
 held : ∀ k m, m ∈ heldAt d k → farAt d k < m.st
 seen : ∀ k m, m ∈ heldAt d k → m.st ≤ clkAt d k ∧ ∀ i : Nat, m.fr = i → i ≠ k → m.st ≤ lstAt d k m.gr.toNat i
 own : ∀ m, In d m → m.st ≤ clkAt d m.fr.toNat
 uniq : ∀ m m', In d m → In d m' → m.st = m'.st → m.fr = m'.fr → m = m'
 all : ∀ m k, In d m → m.nul = false → k < d.nodes.length → hasB d.groups m.gr k = true → m ∈ toldAt d k ∨ m ∈ heldAt d k ∨ (m.fr ≠ k ∧ m ∈ wireAt d m.fr.toNat k)
end Go.Proofs.YtiiifecfdkjmbaaGreat.Pure
