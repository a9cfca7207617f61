/- Contracts on messages: what msg.Less, msg.rises, msg.place and their answers by the document come to, at whatever messages; no condition but that the slice reads as messages. -/
import Derived.Test.YtbkfpdohgjnegaaGLaws
import Derived.Deep.RegionHeld3
namespace Go.Proofs.Ytbkfpdohgjnegaa
set_option maxRecDepth 8000
open Go.RowKit Go.Shelf

/-- A message, as plain data. -/
structure Mg where
  fr : Int
  gr : Int
  st : Int
  nul : Bool
  body : ByteArray

/-- Its five cells. -/
def Mg.cells (m : Mg) : List Value := [.int .i64 m.fr, .int .i64 m.gr, .int .i64 m.st, .bool m.nul, .string m.body]

def lessM (a b : Mg) : Bool := decide (a.st < b.st) || (decide (a.st = b.st) && decide (a.fr < b.fr))

theorem less_any (a b : Mg) (w : World) :
    Calls Try.prog 22 #[.agg #[.int .i64 a.fr, .int .i64 a.gr, .int .i64 a.st, .bool a.nul, .string a.body], .agg #[.int .i64 b.fr, .int .i64 b.gr, .int .i64 b.st, .bool b.nul, .string b.body]] w fun e w' =>
      e = .returned (.bool (lessM a b)) ∧ w' = (w.alloc (.cells #[.int .i64 a.fr, .int .i64 a.gr, .int .i64 a.st, .bool a.nul, .string a.body] 31)).alloc (.cells #[.int .i64 b.fr, .int .i64 b.gr, .int .i64 b.st, .bool b.nul, .string b.body] 31) := by
  obtain ⟨af, ag, ast, an, ab⟩ := a
  obtain ⟨bf, bg, bst, bn, bb⟩ := b
  dsimp only
  by_cases h : ast = bst
  · have hb : (ast != bst) = false := by simp [h]
    have HF : Hid (lessM ⟨af, ag, ast, an, ab⟩ ⟨bf, bg, bst, bn, bb⟩ = decide (af < bf)) := by simp [lessM, h, Hid]
    clear h
    go_enter Try.func22, Try.ntmps22
    go_wp2
    go_ret
    exact ⟨by rw [HF.out]; rfl, rfl⟩
  · have hb : (ast != bst) = true := by simp [h]
    have HF : Hid (lessM ⟨af, ag, ast, an, ab⟩ ⟨bf, bg, bst, bn, bb⟩ = decide (ast < bst)) := by simp [lessM, h, Hid]
    clear h
    go_enter Try.func22, Try.ntmps22
    go_wp2
    go_ret
    exact ⟨by rw [HF.out]; rfl, rfl⟩

theorem lessOf_any (a b : Mg) (w : World) :
    Calls Try.prog 23 #[.agg #[.int .i64 a.fr, .int .i64 a.gr, .int .i64 a.st, .bool a.nul, .string a.body], .agg #[.int .i64 b.fr, .int .i64 b.gr, .int .i64 b.st, .bool b.nul, .string b.body]] w fun e w' =>
      e = .returned (.bool (lessM a b)) ∧ w' = (w.alloc (.cells #[.int .i64 a.fr, .int .i64 a.gr, .int .i64 a.st, .bool a.nul, .string a.body] 31)).alloc (.cells #[.int .i64 b.fr, .int .i64 b.gr, .int .i64 b.st, .bool b.nul, .string b.body] 31) := by
  obtain ⟨af, ag, ast, an, ab⟩ := a
  obtain ⟨bf, bg, bst, bn, bb⟩ := b
  dsimp only
  by_cases h : ast < bst
  · have HF : Hid (lessM ⟨af, ag, ast, an, ab⟩ ⟨bf, bg, bst, bn, bb⟩ = true) := by simp [lessM, h, Hid]
    go_enter Try.func23, Try.ntmps23
    go_wp2
    go_ret
    exact ⟨by rw [HF.out]; rfl, rfl⟩
  · have hd : decide (ast < bst) = false := by simpa using h
    by_cases h2 : ast = bst
    · have hb : (ast == bst) = true := by simp [h2]
      have HF : Hid (lessM ⟨af, ag, ast, an, ab⟩ ⟨bf, bg, bst, bn, bb⟩ = decide (af < bf)) := by simp [lessM, h2, Hid]
      clear h2
      go_enter Try.func23, Try.ntmps23
      go_wp2
      go_ret
      exact ⟨by rw [HF.out]; rfl, rfl⟩
    · have hb : (ast == bst) = false := by simp [h2]
      have HF : Hid (lessM ⟨af, ag, ast, an, ab⟩ ⟨bf, bg, bst, bn, bb⟩ = false) := by simp [lessM, h2, Hid, h]
      clear h2
      go_enter Try.func23, Try.ntmps23
      go_wp2
      go_ret
      exact ⟨by rw [HF.out]; rfl, rfl⟩


/-- A world that comes behind w0. -/
structure Later (w0 : World) where
  w : World
  h : Since w0 w
theorem Later.cell {w0 : World} (x : Later w0) {b o : Nat} (h : b < w0.heap.size) : x.w.cell? ⟨b, o, none⟩ = w0.cell? ⟨b, o, none⟩ := x.h.below.cell (p := ⟨b, o, none⟩) h
theorem Since.drew {w0 w : World} (h : Since w0 w) : Since w0 { w with drawn := w.drawn + 1 } := h.step (Below.refl _ _).drew
theorem sinceD {w w1 : World} (h : w.drew = w1) : Since w w1 := by rw [← h]; exact Since.drew (Since.refl _)
theorem Since.trans {a b c : World} (h : Since a b) (k : Since b c) : Since a c := h.step k.below

/-- A region that draws its order, whose operations read what lies below w0 and whose callees leave that alone: one walk. -/
theorem wp_region_since {P : Program} {id : Nat} {Q : Exit → Act → World → Prop} {a : Act} {w0 w : World} {l : List Oper} (hm : P.follows .mixedOrders = true) (hB : Region.lexB .any l.toArray = true) (hS : Since w0 w)
    (h : wpQuiet P l.toArray (fun w1 => ∃ x : Later w0, w1 = x.w) (fun a' => ∀ w', Since w0 w' → Q .normal a' w') l a) : (Code.region id l.toArray true).wp P Q a w :=
  wp_region_quiet (C := fun w1 => ∃ x : Later w0, w1 = x.w) hm hB ⟨⟨_, hS.drew⟩, rfl⟩ (by
    have e : (fun a' => ∀ w', (∃ x : Later w0, w' = x.w) → Q .normal a' w') = fun a' => ∀ w', Since w0 w' → Q .normal a' w' := by
      funext a'
      exact propext ⟨fun h w' hw => h w' ⟨⟨w', hw⟩, rfl⟩, fun h w' ⟨x, hx⟩ => h w' (hx ▸ x.h)⟩
    rw [e]
    simpa using h)
theorem Later.call {P : Program} {f : FuncId} {args : Array Value} {w0 : World} {x : Later w0} {v : Value} (h : ∀ w, Since w0 w → Calls P f args w fun e w' => e = .returned v ∧ Since w0 w') :
    Calls P f args x.w fun e w'' => e = .returned v ∧ ∃ y : Later w0, w'' = y.w :=
  (h x.w x.h).mono fun _ w' ⟨he, hw⟩ => ⟨he, ⟨w', hw⟩, rfl⟩

/-- The five cells of a message. -/
structure MsgAt (w : World) (b o : Nat) (m : Mg) : Prop where
  c0 : w.cell? ⟨b, o, none⟩ = some (.int .i64 m.fr)
  c1 : w.cell? ⟨b, o + 1, none⟩ = some (.int .i64 m.gr)
  c2 : w.cell? ⟨b, o + 2, none⟩ = some (.int .i64 m.st)
  c3 : w.cell? ⟨b, o + 3, none⟩ = some (.bool m.nul)
  c4 : w.cell? ⟨b, o + 4, none⟩ = some (.string m.body)

/-- Messages' cells, one behind the other. -/
def flat (ms : List Mg) : List Value := ms.flatMap Mg.cells
theorem flat_length : ∀ ms : List Mg, (flat ms).length = ms.length * 5
  | [] => rfl
  | m :: ms => by
    have := flat_length ms
    simp only [flat, List.flatMap_cons, List.length_append] at this ⊢
    simp [Mg.cells, this]; omega
theorem flat_get : ∀ (ms : List Mg) (i r : Nat) (m : Mg), ms[i]? = some m → r < 5 → (flat ms)[i * 5 + r]? = m.cells[r]?
  | [], i, r, m, h, _ => by simp at h
  | x :: ms, 0, r, m, h, hr => by
    simp at h; subst h
    simp only [flat, List.flatMap_cons]
    rw [List.getElem?_append_left (by simp [Mg.cells]; omega)]
    simp
  | x :: ms, i + 1, r, m, h, hr => by
    have := flat_get ms i r m (by simpa using h) hr
    simp only [flat, List.flatMap_cons] at this ⊢
    rw [List.getElem?_append_right (by simp [Mg.cells]; omega)]
    rw [← this]
    congr 1
    simp [Mg.cells]; omega
theorem flat_append (xs ys : List Mg) : flat (xs ++ ys) = flat xs ++ flat ys := by simp [flat]
theorem flat_one (u : Value) (ms : List Mg) (h : u ∈ flat ms) : u.oneCell' = true := by
  simp only [flat, List.mem_flatMap] at h
  obtain ⟨m, _, hm⟩ := h
  simp [Mg.cells] at hm
  rcases hm with rfl | rfl | rfl | rfl | rfl <;> rfl

structure Msgs (w : World) (a : Option Addr) (len : Nat) (ms : List Mg) : Prop where
  hlen : ms.length = len
  hmax : len ≤ 2932031007320
  cells : 0 < len → ∃ b off, a = some ⟨b, off, none⟩ ∧ b < w.heap.size ∧ ∀ j u, (flat ms)[j]? = some u → w.cell? ⟨b, off + j, none⟩ = some u
theorem msgAt_of {w : World} {b off : Nat} {ms : List Mg} (h : ∀ j u, (flat ms)[j]? = some u → w.cell? ⟨b, off + j, none⟩ = some u) (i : Nat) (m : Mg) (hm : ms[i]? = some m) : MsgAt w b (off + i * 5) m := by
  have g := fun r hr => flat_get ms i r m hm hr
  refine ⟨?_, ?_, ?_, ?_, ?_⟩
  · exact h (i * 5) _ (by rw [← Nat.add_zero (i * 5), g 0 (by omega)]; rfl)
  all_goals rw [Nat.add_assoc]
  · exact h _ _ (by rw [g 1 (by omega)]; rfl)
  · exact h _ _ (by rw [g 2 (by omega)]; rfl)
  · exact h _ _ (by rw [g 3 (by omega)]; rfl)
  · exact h _ _ (by rw [g 4 (by omega)]; rfl)
theorem Msgs.since {w W : World} {a : Option Addr} {len : Nat} {ms : List Mg} (h : Msgs w a len ms) (k : Since w W) : Msgs W a len ms := by
  refine ⟨h.hlen, h.hmax, fun hp => ?_⟩
  obtain ⟨b, off, e, hb, hc⟩ := h.cells hp
  exact ⟨b, off, e, by have := k.size; omega, fun j u hj => (k.below.cell (p := ⟨b, off + j, none⟩) hb).trans (hc j u hj)⟩
theorem msgs_nil {w : World} {a : Option Addr} : Msgs w a 0 [] := ⟨rfl, by omega, fun h => absurd h (by omega)⟩
/-- A row of messages that a call owns, as a slice of messages. -/
theorem msgs_of_row {W : World} {base : Nat} {v : Value} {ms : List Mg} (h : W.ownsRow base 31 5 v ms.length (flat ms)) (hl : ms.length ≤ 2932031007320) : ∃ a cap, v = .slice a ms.length cap ∧ Msgs W a ms.length ms := by
  rcases h.2 with ⟨rfl, h0⟩ | ⟨g, cap, cur, rfl, h1, h2, h3, h4, h5, h6⟩
  · have : ms = [] := List.eq_nil_of_length_eq_zero h0
    subst this
    exact ⟨none, 0, rfl, msgs_nil⟩
  · refine ⟨_, cap, rfl, rfl, hl, fun hp => ⟨g, 0, rfl, (Array.getElem?_eq_some_iff.1 h2).1, fun j u hj => ?_⟩⟩
    have hjl := (List.getElem?_eq_some_iff.1 hj).1
    rw [flat_length] at hjl
    have hcur : cur[j]? = some u := by
      have e : (cur.toList.take (ms.length * 5))[j]? = (flat ms)[j]? := by rw [h6]
      rw [List.getElem?_take, if_pos hjl, hj] at e
      simpa using e
    simp [World.cell?, h2, hcur]

theorem less_v (w0 : World) (a b : Mg) (v : Bool) (hv : lessM a b = v) (w : World) (h : Since w0 w) :
    Calls Try.prog 22 #[.agg #[.int .i64 a.fr, .int .i64 a.gr, .int .i64 a.st, .bool a.nul, .string a.body], .agg #[.int .i64 b.fr, .int .i64 b.gr, .int .i64 b.st, .bool b.nul, .string b.body]] w fun e w' =>
      e = .returned (.bool v) ∧ Since w0 w' :=
  (less_any a b w).mono fun e w' ⟨he, hw⟩ => ⟨by rw [← hv]; exact he, by rw [hw]; exact (h.alloc _).alloc _⟩
theorem lessOf_v (w0 : World) (a b : Mg) (v : Bool) (hv : lessM a b = v) (w : World) (h : Since w0 w) :
    Calls Try.prog 23 #[.agg #[.int .i64 a.fr, .int .i64 a.gr, .int .i64 a.st, .bool a.nul, .string a.body], .agg #[.int .i64 b.fr, .int .i64 b.gr, .int .i64 b.st, .bool b.nul, .string b.body]] w fun e w' =>
      e = .returned (.bool v) ∧ Since w0 w' :=
  (lessOf_any a b w).mono fun e w' ⟨he, hw⟩ => ⟨by rw [← hv]; exact he, by rw [hw]; exact (h.alloc _).alloc _⟩
theorem less_s (w0 : World) (a b : Mg) (w : World) (h : Since w0 w) :
    Calls Try.prog 22 #[.agg #[.int .i64 a.fr, .int .i64 a.gr, .int .i64 a.st, .bool a.nul, .string a.body], .agg #[.int .i64 b.fr, .int .i64 b.gr, .int .i64 b.st, .bool b.nul, .string b.body]] w fun e w' =>
      e = .returned (.bool (lessM a b)) ∧ Since w0 w' :=
  (less_any a b w).mono fun e w' ⟨he, hw⟩ => ⟨he, by rw [hw]; exact (h.alloc _).alloc _⟩
theorem lessOf_s (w0 : World) (a b : Mg) (w : World) (h : Since w0 w) :
    Calls Try.prog 23 #[.agg #[.int .i64 a.fr, .int .i64 a.gr, .int .i64 a.st, .bool a.nul, .string a.body], .agg #[.int .i64 b.fr, .int .i64 b.gr, .int .i64 b.st, .bool b.nul, .string b.body]] w fun e w' =>
      e = .returned (.bool (lessM a b)) ∧ Since w0 w' :=
  (lessOf_any a b w).mono fun e w' ⟨he, hw⟩ => ⟨he, by rw [hw]; exact (h.alloc _).alloc _⟩

/-- Does it rise: each less than the one behind it? -/
def risesM : List Mg → Bool
  | [] => true
  | [_] => true
  | a :: b :: r => lessM a b && risesM (b :: r)

theorem risesM_iff : ∀ (ms : List Mg), risesM ms = true ↔ ∀ i a b, ms[i]? = some a → ms[i + 1]? = some b → lessM a b = true
  | [] => by simp [risesM]
  | [x] => by
    refine ⟨fun _ i a b _ h2 => ?_, fun _ => rfl⟩
    simp at h2
  | x :: y :: r => by
    rw [risesM, Bool.and_eq_true, risesM_iff (y :: r)]
    constructor
    · rintro ⟨h1, h2⟩ i a b ha hb
      cases i with
      | zero => simp at ha hb; subst ha hb; exact h1
      | succ i => exact h2 i a b (by simpa using ha) (by simpa using hb)
    · intro h
      exact ⟨h 0 x y rfl rfl, fun i a b ha hb => h (i + 1) a b (by simpa using ha) (by simpa using hb)⟩

theorem rises_any (a : Option Addr) (len cap : Nat) (ms : List Mg) (w : World) (hM : Msgs w a len ms) :
    Calls Try.prog 36 #[.slice a len cap] w fun e w' => e = .returned (.bool (risesM ms)) ∧ Since w w' := by
  obtain ⟨rfl, hmax, hc⟩ := hM
  go_enter Try.func36, Try.ntmps36
  go_wp2
  go_loopw [3] (fun i wr => (∃ k : Nat, 1 ≤ k ∧ i = .int .i64 k ∧ ∀ i a b, i + 1 < k → ms[i]? = some a → ms[i + 1]? = some b → lessM a b = true) ∧ Since w wr) (fun i _ => ms.length - (intOf i).toNat)
  case atStart => exact ⟨⟨1, by omega, rfl, fun i a b h => by omega⟩, Since.refl _⟩
  case round =>
    obtain ⟨⟨k, hk, rfl, hr⟩, hS⟩ := hrel
    have HR : Hid (∀ i a b, i + 1 < k → ms[i]? = some a → ms[i + 1]? = some b → lessM a b = true) := hr
    clear hr
    by_cases hlt : k < ms.length
    · obtain ⟨k', hk0, hk1, hlt'⟩ : ∃ k' : Nat, k = k' + 1 ∧ (k : Int) - 1 = (k' : Int) ∧ k' < ms.length := ⟨k - 1, by omega, by omega, by omega⟩
      have HK : Hid (k = k' + 1) := hk0
      have hwk : IntKind.i64.wrap (k' : Int) = (k' : Int) := IntWalk.i64_in _ (by omega)
      obtain ⟨b, off, rfl, hb, hcell⟩ := hc (by omega)
      obtain ⟨m, hm⟩ : ∃ m, ms[k]? = some m := ⟨_, List.getElem?_eq_getElem hlt⟩
      obtain ⟨m', hm'⟩ : ∃ m', ms[k']? = some m' := ⟨_, List.getElem?_eq_getElem hlt'⟩
      obtain ⟨d0, d1, d2, d3, d4⟩ := msgAt_of hcell k m hm
      obtain ⟨e0, e1, e2, e3, e4⟩ := msgAt_of hcell k' m' hm'
      have hne : Nonempty (Later w) := ⟨⟨w, Since.refl w⟩⟩
      have hg : ∀ (x : Later w) (o : Nat), x.w.cell? ⟨b, o, none⟩ = w.cell? ⟨b, o, none⟩ := fun x o => x.cell hb
      have HM : Hid (ms[k]? = some m) := hm
      have HM' : Hid (ms[k']? = some m') := hm'
      clear hm hm' hcell hc hk0
      cases hl : lessM m' m
      · have HF : Hid (risesM ms = false) := by
          unfold Hid
          rw [← Bool.not_eq_true, risesM_iff]
          intro h
          have := h k' m' m HM'.out (by rw [← HK.out]; exact HM.out)
          rw [hl] at this
          cases this
        go_wp2_with fail
        refine wp_region_since (by kernel_rfl) (by kernel_rfl) hS ?_
        repeat (go_big_quiet_step ((go_at_call 22; exact Later.call (less_v w m' m _ hl))))
        refine wpQuiet_nil ?_
        intro w9 hS9
        go_wp2
        go_ret
        exact ⟨by rw [HF.out]; rfl, hS9⟩
      · have HF : Hid (∀ i a b, i + 1 < k + 1 → ms[i]? = some a → ms[i + 1]? = some b → lessM a b = true) := by
          intro i a b hi ha hb
          by_cases h : i + 1 < k
          · exact HR.out i a b h ha hb
          · have e : i = k' := by have := HK.out; omega
            subst e
            have h1 := HM'.out
            have h2 := HM.out
            rw [HK.out] at h2
            rw [h1] at ha
            rw [h2] at hb
            cases ha; cases hb
            exact hl
        go_wp2_with fail
        refine wp_region_since (by kernel_rfl) (by kernel_rfl) hS ?_
        repeat (go_big_quiet_step ((go_at_call 22; exact Later.call (less_v w m' m _ hl))))
        refine wpQuiet_nil ?_
        intro w9 hS9
        go_wp2
        go_roundw
        case rel => exact ⟨⟨k + 1, by omega, by go_num, HF.out⟩, hS9⟩
        case measure => simp [intOf]; omega
    · have HF : Hid (risesM ms = true) := by
        unfold Hid
        rw [risesM_iff]
        intro i a b ha hb
        refine HR.out i a b ?_ ha hb
        have := (List.getElem?_eq_some_iff.1 hb).1
        omega
      clear hc
      go_wp2
      go_ret
      exact ⟨by rw [HF.out]; rfl, hS⟩

theorem refRises_any (a : Option Addr) (len cap : Nat) (ms : List Mg) (w : World) (hM : Msgs w a len ms) :
    Calls Try.prog 38 #[.slice a len cap] w fun e w' => e = .returned (.bool (risesM ms)) ∧ Since w w' := by
  obtain ⟨rfl, hmax, hc⟩ := hM
  go_enter Try.func38, Try.ntmps38
  go_wp2
  go_loopw [3] (fun i wr => (∃ k : Nat, 1 ≤ k ∧ i = .int .i64 k ∧ ∀ i a b, i + 1 < k → ms[i]? = some a → ms[i + 1]? = some b → lessM a b = true) ∧ Since w wr) (fun i _ => ms.length - (intOf i).toNat)
  case atStart => exact ⟨⟨1, by omega, rfl, fun i a b h => by omega⟩, Since.refl _⟩
  case round =>
    obtain ⟨⟨k, hk, rfl, hr⟩, hS⟩ := hrel
    have HR : Hid (∀ i a b, i + 1 < k → ms[i]? = some a → ms[i + 1]? = some b → lessM a b = true) := hr
    clear hr
    by_cases hlt : k < ms.length
    · obtain ⟨k', hk0, hk1, hlt'⟩ : ∃ k' : Nat, k = k' + 1 ∧ (k : Int) - 1 = (k' : Int) ∧ k' < ms.length := ⟨k - 1, by omega, by omega, by omega⟩
      have HK : Hid (k = k' + 1) := hk0
      have hwk : IntKind.i64.wrap (k' : Int) = (k' : Int) := IntWalk.i64_in _ (by omega)
      obtain ⟨b, off, rfl, hb, hcell⟩ := hc (by omega)
      obtain ⟨m, hm⟩ : ∃ m, ms[k]? = some m := ⟨_, List.getElem?_eq_getElem hlt⟩
      obtain ⟨m', hm'⟩ : ∃ m', ms[k']? = some m' := ⟨_, List.getElem?_eq_getElem hlt'⟩
      obtain ⟨d0, d1, d2, d3, d4⟩ := msgAt_of hcell k m hm
      obtain ⟨e0, e1, e2, e3, e4⟩ := msgAt_of hcell k' m' hm'
      have hne : Nonempty (Later w) := ⟨⟨w, Since.refl w⟩⟩
      have hg : ∀ (x : Later w) (o : Nat), x.w.cell? ⟨b, o, none⟩ = w.cell? ⟨b, o, none⟩ := fun x o => x.cell hb
      have HM : Hid (ms[k]? = some m) := hm
      have HM' : Hid (ms[k']? = some m') := hm'
      clear hm hm' hcell hc hk0
      cases hl : lessM m' m
      · have HF : Hid (risesM ms = false) := by
          unfold Hid
          rw [← Bool.not_eq_true, risesM_iff]
          intro h
          have := h k' m' m HM'.out (by rw [← HK.out]; exact HM.out)
          rw [hl] at this
          cases this
        go_wp2_with fail
        refine wp_region_since (by kernel_rfl) (by kernel_rfl) hS ?_
        repeat (go_big_quiet_step ((go_at_call 23; exact Later.call (lessOf_v w m' m _ hl))))
        refine wpQuiet_nil ?_
        intro w9 hS9
        go_wp2
        go_ret
        exact ⟨by rw [HF.out]; rfl, hS9⟩
      · have HF : Hid (∀ i a b, i + 1 < k + 1 → ms[i]? = some a → ms[i + 1]? = some b → lessM a b = true) := by
          intro i a b hi ha hb
          by_cases h : i + 1 < k
          · exact HR.out i a b h ha hb
          · have e : i = k' := by have := HK.out; omega
            subst e
            have h1 := HM'.out
            have h2 := HM.out
            rw [HK.out] at h2
            rw [h1] at ha
            rw [h2] at hb
            cases ha; cases hb
            exact hl
        go_wp2_with fail
        refine wp_region_since (by kernel_rfl) (by kernel_rfl) hS ?_
        repeat (go_big_quiet_step ((go_at_call 23; exact Later.call (lessOf_v w m' m _ hl))))
        refine wpQuiet_nil ?_
        intro w9 hS9
        go_wp2
        go_roundw
        case rel => exact ⟨⟨k + 1, by omega, by go_num, HF.out⟩, hS9⟩
        case measure => simp [intOf]; omega
    · have HF : Hid (risesM ms = true) := by
        unfold Hid
        rw [risesM_iff]
        intro i a b ha hb
        refine HR.out i a b ?_ ha hb
        have := (List.getElem?_eq_some_iff.1 hb).1
        omega
      clear hc
      go_wp2
      go_ret
      exact ⟨by rw [HF.out]; rfl, hS⟩

/-- How many come ahead of m. -/
def placeM (m : Mg) : List Mg → Nat
  | [] => 0
  | x :: r => if lessM x m then placeM m r + 1 else 0
theorem placeM_le (m : Mg) : ∀ ms, placeM m ms ≤ ms.length
  | [] => Nat.le_refl _
  | x :: r => by
    have := placeM_le m r
    unfold placeM
    split <;> simp <;> omega
theorem placeM_yes (m : Mg) : ∀ (ms : List Mg) (k : Nat) (x : Mg), k ≤ placeM m ms → ms[k]? = some x → lessM x m = true → k + 1 ≤ placeM m ms
  | [], k, x, _, h, _ => by simp at h
  | y :: r, 0, x, _, h, hl => by simp at h; subst h; simp [placeM, hl]
  | y :: r, k + 1, x, hk, h, hl => by
    unfold placeM at hk ⊢
    split at hk
    · rename_i hy
      rw [if_pos hy]
      have := placeM_yes m r k x (by omega) (by simpa using h) hl
      omega
    · omega
theorem placeM_no (m : Mg) : ∀ (ms : List Mg) (k : Nat) (x : Mg), k ≤ placeM m ms → ms[k]? = some x → lessM x m = false → placeM m ms = k
  | [], k, x, _, h, _ => by simp at h
  | y :: r, 0, x, _, h, hl => by simp at h; subst h; simp [placeM, hl]
  | y :: r, k + 1, x, hk, h, hl => by
    unfold placeM at hk ⊢
    split at hk
    · rename_i hy
      rw [if_pos hy]
      have := placeM_no m r k x (by omega) (by simpa using h) hl
      omega
    · omega

theorem place_any (a : Option Addr) (len cap : Nat) (ms : List Mg) (m : Mg) (w : World) (hM : Msgs w a len ms) :
    Calls Try.prog 37 #[.slice a len cap, .agg #[.int .i64 m.fr, .int .i64 m.gr, .int .i64 m.st, .bool m.nul, .string m.body]] w fun e w' => e = .returned (.int .i64 (placeM m ms)) ∧ Since w w' := by
  obtain ⟨rfl, hmax, hc⟩ := hM
  obtain ⟨w1, hw1⟩ : ∃ w1, w.alloc (.cells #[.int .i64 m.fr, .int .i64 m.gr, .int .i64 m.st, .bool m.nul, .string m.body] 31) = w1 := ⟨_, rfl⟩
  have hS1 : Since w w1 := by rw [← hw1]; exact (Since.refl w).alloc _
  have hsz : w1.heap.size = w.heap.size + 1 := by rw [← hw1]; simp
  have hB : MsgAt w1 w.heap.size 0 m := by rw [← hw1]; constructor <;> simp [go_sem]
  go_enter Try.func37, Try.ntmps37
  go_wp2
  clear hw1
  go_loopw [5] (fun i wr => (∃ k : Nat, k ≤ placeM m ms ∧ i = .int .i64 k) ∧ Since w1 wr) (fun i _ => ms.length - (intOf i).toNat)
  case atStart => exact ⟨⟨0, by omega, rfl⟩, Since.refl _⟩
  case round =>
    obtain ⟨⟨k, hk, rfl⟩, hS⟩ := hrel
    have HK : Hid (k ≤ placeM m ms) := hk
    have hkl : k ≤ ms.length := Nat.le_trans hk (placeM_le m ms)
    have hne : Nonempty (Later w1) := ⟨⟨w1, Since.refl w1⟩⟩
    clear hk
    by_cases hlt : k < ms.length
    · obtain ⟨b, off, rfl, hb, hcell⟩ := hc (by omega)
      obtain ⟨x, hx⟩ : ∃ x, ms[k]? = some x := ⟨_, List.getElem?_eq_getElem hlt⟩
      obtain ⟨d0, d1, d2, d3, d4⟩ := msgAt_of hcell k x hx
      obtain ⟨e0, e1, e2, e3, e4⟩ := hB
      have hg : ∀ (x : Later w1) (o : Nat), x.w.cell? ⟨b, o, none⟩ = w.cell? ⟨b, o, none⟩ := fun x o => (x.cell (by omega)).trans (hS1.below.cell (p := ⟨b, o, none⟩) hb)
      have hg2 : ∀ (x : Later w1) (o : Nat), x.w.cell? ⟨w.heap.size, o, none⟩ = w1.cell? ⟨w.heap.size, o, none⟩ := fun x o => x.cell (by omega)
      have HX : Hid (ms[k]? = some x) := hx
      clear hx hcell hc
      cases hl : lessM x m
      · have HF : Hid (placeM m ms = k) := placeM_no m ms k x HK.out HX.out hl
        go_wp2_with fail
        refine wp_region_since (by kernel_rfl) (by kernel_rfl) hS ?_
        repeat (go_big_quiet_step ((go_at_call 22; exact Later.call (less_v w1 x m _ hl))))
        refine wpQuiet_nil ?_
        intro w9 hS9
        go_wp2
        go_ret
        exact ⟨by rw [HF.out]; rfl, hS1.trans hS9⟩
      · have HF : Hid (k + 1 ≤ placeM m ms) := placeM_yes m ms k x HK.out HX.out hl
        go_wp2_with fail
        refine wp_region_since (by kernel_rfl) (by kernel_rfl) hS ?_
        repeat (go_big_quiet_step ((go_at_call 22; exact Later.call (less_v w1 x m _ hl))))
        refine wpQuiet_nil ?_
        intro w9 hS9
        go_wp2
        go_roundw
        case rel => exact ⟨⟨k + 1, HF.out, by go_num⟩, hS9⟩
        case measure => simp [intOf]; omega
    · have HF : Hid (placeM m ms = k) := by have := placeM_le m ms; have := HK.out; unfold Hid; omega
      have hd : decide ((k : Int) < (ms.length : Int)) = false := by simpa using hlt
      have hd' : decide (k < ms.length) = false := by simpa using hlt
      clear hc
      go_wp2_with fail
      refine wp_region_since (by kernel_rfl) (by kernel_rfl) hS ?_
      repeat (go_big_quiet_step (fail))
      refine wpQuiet_nil ?_
      intro w9 hS9
      go_wp2
      go_ret
      exact ⟨by rw [HF.out]; rfl, hS1.trans hS9⟩
end Go.Proofs.Ytbkfpdohgjnegaa
