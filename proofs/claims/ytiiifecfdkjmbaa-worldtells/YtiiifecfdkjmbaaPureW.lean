/- Telling, casting and moving keep what holds of worlds that came by acts. Casts and moves, one behind the other: what they keep, what grows, and with which errors they end. Wires that are emptied, rounds of Nulls, and calm: in a calm world nobody holds anything, and nothing is on its way. Rounds, calm, acts, and worlds that came by acts: what holds of them. -/
import Derived.Test.YtiiifecfdkjmbaaPureX
namespace Go.Proofs.Ytiiifecfdkjmbaa.Pure
set_option maxRecDepth 8000
structure PInv (d : Wd) (n : Nat) : Prop where
 right : Right d
 heard : ∀ k g i, lstAt d k g i ≤ clkAt d i
 wire : ∀ i k m, m ∈ wireAt d i k → m.st ≤ clkAt d i ∧ ∀ g, lstAt d k g i < m.st
 told : ∀ k m, m ∈ toldAt d k → m.st ≤ farAt d k
 held : ∀ k m, k ≠ n → m ∈ heldAt d k → farAt d k < m.st
 sep : ∀ a b, a ∈ toldAt d n → b ∈ heldAt d n → a.st < b.st
 seen : ∀ k m, m ∈ heldAt d k → m.st ≤ clkAt d k ∧ ∀ i : Nat, m.fr = i → i ≠ k → m.st ≤ lstAt d k m.gr.toNat i
 own : ∀ m, In d m → m.st ≤ clkAt d m.fr.toNat
 uniq : ∀ m m', In d m → In d m' → m.st = m'.st → m.fr = m'.fr → m = m'
 all : ∀ m k, In d m → m.nul = false → k < d.nodes.length → hasB d.groups m.gr k = true → m ∈ toldAt d k ∨ m ∈ heldAt d k ∨ (m.fr ≠ k ∧ m ∈ wireAt d m.fr.toNat k)
theorem Inv.pre {d : Wd} (h : Inv d) (n : Nat) : PInv d n :=
 ⟨h.right, h.heard, h.wire, h.told, fun k m _ => h.held k m, fun a b ha hb => by have := h.told n a ha; have := h.held n b hb; omega, h.seen, h.own, h.uniq, h.all⟩
end Go.Proofs.Ytiiifecfdkjmbaa.Pure
namespace Go.Proofs.Ytiiifecfdkjmbaa.Pure
set_option maxRecDepth 8000
structure Grow (d d' : Wd) : Prop where
 alike : Alike d d'
 clk : ∀ k, clkAt d k ≤ clkAt d' k
 lst : ∀ k g i, lstAt d k g i ≤ lstAt d' k g i
 told : ∀ k, ∃ l, toldAt d' k = toldAt d k ++ l
theorem Grow.refl (d : Wd) : Grow d d := ⟨Alike.refl d, fun _ => Int.le_refl _, fun _ _ _ => Int.le_refl _, fun _ => ⟨[], by simp⟩⟩
theorem Grow.trans {a b c : Wd} (h : Grow a b) (k : Grow b c) : Grow a c := by
 refine ⟨h.alike.trans k.alike, fun i => Int.le_trans (h.clk i) (k.clk i), fun i g j => Int.le_trans (h.lst i g j) (k.lst i g j), fun i => ?_⟩
 obtain ⟨l1, e1⟩ := h.told i
 obtain ⟨l2, e2⟩ := k.told i
 exact ⟨l1 ++ l2, by rw [e2, e1, List.append_assoc]⟩
theorem grow_tell {d d' : Wd} {n : Nat} (S : TellStep d d' n) : Grow d d' := by
 refine ⟨S.alike, fun k => by rw [S.clk]; omega, fun k g i => by rw [S.lst]; omega, fun k => ?_⟩
 by_cases h : k = n
 ·subst h; exact ⟨_, S.told⟩
 ·exact ⟨[], by rw [(S.other k h).2]; simp⟩
theorem grow_cast {d d' : Wd} {n : Nat} {m : Mg} (S : PreCast d d' n m) : Grow d d' := by
 have := S.mst
 exact ⟨S.alike, fun k => by rw [S.clk]; split; (· subst k; omega); (· omega), fun k g i => by rw [S.lst]; omega, fun k => ⟨[], by rw [S.told]; simp⟩⟩
theorem cast_split {d d' : Wd} {n g : Int} {nul : Bool} {body : ByteArray} (R : Right d) (hb : nul = true → body.size = 0) (h : castD d n g nul body = .ok d') :
  castE d n g body.size = 0 ∧ ∃ d3, PreCast d d3 n.toNat (msgD d n g nul body) ∧ Right d3 ∧ TellStep d3 d' n.toNat := by
 rw [castD_eq] at h
 by_cases hE : castE d n g body.size = 0
 ·rw [if_pos hE] at h
  obtain ⟨d3, h1, h2⟩ := bind_ok h
  obtain ⟨p, h3, h4⟩ := bind_ok h2
  have S := preCast_ok R hE hb h1
  have R3 := right_preCast R S
  obtain ⟨_, T, _⟩ := tellD_ok (R3.heldR _) h3
  cases h4
  exact ⟨hE, d3, S, R3, T⟩
 ·rw [if_neg hE] at h; cases h
theorem cast_right {d d' : Wd} {n g : Int} {nul : Bool} {body : ByteArray} (R : Right d) (hb : nul = true → body.size = 0) (h : castD d n g nul body = .ok d') : Right d' ∧ Grow d d' := by
 obtain ⟨_, d3, S, R3, T⟩ := cast_split R hb h
 exact ⟨right_tell R3 T, (grow_cast S).trans (grow_tell T)⟩
structure Moved (d d' : Wd) (f t : Nat) (m : Mg) : Prop where
 first : wireAt d f t = m :: wireAt d' f t
 wire : ∀ f' t', ¬ (f' = f ∧ t' = t) → wireAt d' f' t' = wireAt d f' t'
 clk : m.st ≤ clkAt d' t
 lst : m.st ≤ lstAt d' t m.gr.toNat f
 top : ∀ c, (∀ k, clkAt d k ≤ c) → m.st ≤ c → ∀ k, clkAt d' k ≤ c
 held : m.nul = true → ∀ k x, x ∈ heldAt d' k → x ∈ heldAt d k
structure Casted (d d' : Wd) (n : Nat) (m : Mg) : Prop where
 lt : n < d.nodes.length
 mfr : m.fr = n
 mst : m.st = clkAt d n + 1
 clk : ∀ k, clkAt d' k = if k = n then m.st else clkAt d k
 wire : ∀ f t, wireAt d' f t = if goesTo d m n d.nodes.length f t then wireAt d f t ++ [m] else wireAt d f t
 held : m.nul = true → ∀ k x, x ∈ heldAt d' k → x ∈ heldAt d k
end Go.Proofs.Ytiiifecfdkjmbaa.Pure
namespace Go.Proofs.Ytiiifecfdkjmbaa.Pure
set_option maxRecDepth 8000
def NullW (d : Wd) : Prop := ∀ f t m, m ∈ wireAt d f t → m.nul = true
def Sub (d d' : Wd) : Prop := ∀ k x, x ∈ heldAt d' k → x ∈ heldAt d k
structure Moves (f t j : Nat) (d d' : Wd) : Prop where
 right : Right d'
 inv : Inv d → Inv d'
 grow : Grow d d'
 here : wireAt d' f t = (wireAt d f t).drop j
 wire : ∀ f' t', ¬ (f' = f ∧ t' = t) → wireAt d' f' t' = wireAt d f' t'
 came : ∀ m, m ∈ (wireAt d f t).take j → m.st ≤ clkAt d' t ∧ m.st ≤ lstAt d' t m.gr.toNat f
 top : Inv d → ∀ c, (∀ k, clkAt d k ≤ c) → ∀ k, clkAt d' k ≤ c
 sub : NullW d → Sub d d'
structure Drained (d : Wd) (l : List (Nat × Nat)) (d' : Wd) : Prop where
 right : Right d'
 inv : Inv d → Inv d'
 grow : Grow d d'
 gone : ∀ f t, (f, t) ∈ l → wireAt d' f t = []
 wire : ∀ f t, (f, t) ∉ l → wireAt d' f t = wireAt d f t
 came : ∀ f t m, (f, t) ∈ l → m ∈ wireAt d f t → m.st ≤ clkAt d' t ∧ m.st ≤ lstAt d' t m.gr.toNat f
 top : Inv d → ∀ c, (∀ k, clkAt d k ≤ c) → ∀ k, clkAt d' k ≤ c
 sub : NullW d → Sub d d'
theorem Drained.null {d d' : Wd} {l : List (Nat × Nat)} (h : Drained d l d') (n : NullW d) : NullW d' := by
 intro f t m hm
 by_cases e : (f, t) ∈ l
 ·rw [h.gone f t e] at hm; cases hm
 ·rw [h.wire f t e] at hm; exact n f t m hm
structure Nulled (d : Wd) (l : List (Nat × Nat)) (d' : Wd) : Prop where
 right : Right d'
 inv : Inv d → Inv d'
 grow : Grow d d'
 null : NullW d → NullW d'
 sub : Sub d d'
 sent : ∀ n g t : Nat, (n, g) ∈ l → hasB d.groups g n = true → t < d.nodes.length → t ≠ n → hasB d.groups g t = true → ∃ m, m ∈ wireAt d' n t ∧ m.gr = g ∧ clkAt d n < m.st
 top : ∀ c, (∀ k, clkAt d k ≤ c) → ∀ k, clkAt d' k ≤ c + l.length
end Go.Proofs.Ytiiifecfdkjmbaa.Pure
namespace Go.Proofs.Ytiiifecfdkjmbaa.Pure
set_option maxRecDepth 8000
structure Rounded (d d' : Wd) : Prop where
 right : Right d'
 inv : Inv d → Inv d'
 grow : Grow d d'
 none : ∀ f t, wireAt d' f t = []
 sub : (∀ f t, wireAt d f t = []) → Sub d d'
 heard : ∀ n g t : Nat, n < d.nodes.length → hasB d.groups g n = true → t < d.nodes.length → t ≠ n → hasB d.groups g t = true → clkAt d n < clkAt d' t ∧ clkAt d n < lstAt d' t g n
 top : Inv d → ∀ c, (∀ k, clkAt d k ≤ c) → ∀ k, clkAt d' k ≤ c + d.nodes.length * d.groups.length
structure Rounds (j : Nat) (d d' : Wd) : Prop where
 right : Right d'
 inv : Inv d → Inv d'
 grow : Grow d d'
 none : (∀ f t, wireAt d f t = []) → ∀ f t, wireAt d' f t = []
 sub : (∀ f t, wireAt d f t = []) → Sub d d'
 top : Inv d → ∀ c, (∀ k, clkAt d k ≤ c) → ∀ k, clkAt d' k ≤ c + j * (d.nodes.length * d.groups.length)
structure Calmed (d d' : Wd) : Prop where
 right : Right d'
 inv : Inv d → Inv d'
 grow : Grow d d'
 none : ∀ f t, wireAt d' f t = []
 held : Inv d → ∀ k, heldAt d' k = []
 top : Inv d → ∀ c, (∀ k, clkAt d k ≤ c) → ∀ k, clkAt d' k ≤ c + 4 * (d.nodes.length * d.groups.length)
theorem small {d : Wd} (R : Right d) : d.nodes.length ≤ 4 ∧ 1 ≤ d.nodes.length ∧ d.groups.length ≤ 3 ∧ d.nodes.length * d.groups.length ≤ 12 := by
 have := chkE_zero R.chk
 refine ⟨by omega, by omega, by omega, ?_⟩
 exact Nat.mul_le_mul (by omega : d.nodes.length ≤ 4) (by omega : d.groups.length ≤ 3)
structure Did (d d' : Wd) : Prop where
 was : Right d
 right : Right d'
 inv : Inv d → Inv d'
 grow : Grow d d'
 top : Inv d → ∀ c, (∀ k, clkAt d k ≤ c) → ∀ k, clkAt d' k ≤ c + 48
theorem checked_ok {α : Type} {d : Wd} {r : Except Int α} {a : α} (h : checked d r = .ok a) : Right d ∧ r = .ok a := by
 unfold checked at h
 by_cases hE : worldE d = 0
 ·rw [if_pos hE] at h; exact ⟨(right_iff d).1 hE, h⟩
 ·rw [if_neg hE] at h; cases h
end Go.Proofs.Ytiiifecfdkjmbaa.Pure
