/- Telling, casting and moving keep what holds of worlds that came by acts. Casts and moves, one behind the other: what they keep, what grows, and with which errors they end. Wires that are emptied, rounds of Nulls, and calm: in a calm world nobody holds anything, and nothing is on its way. Rounds, calm, acts, and worlds that came by acts: what holds of them. -/
import Derived.Test.YtiiifecfdkjmbaaGreatDPureX
namespace Go.Proofs.YtiiifecfdkjmbaaGreat.Pure
set_option maxRecDepth 8000
theorem far_mono {d d' : Wd} {k : Nat} (hg : d'.groups = d.groups) (hn : d'.nodes.length = d.nodes.length) (hk : k < d.nodes.length) (hc : clkAt d k ≤ clkAt d' k) (hl : ∀ g i, lstAt d k g i ≤ lstAt d' k g i) : farAt d k ≤ farAt d' k := by
 rw [le_farAt (by rw [hn]; exact hk), hg, hn]
 obtain ⟨h1, h2⟩ := (le_farAt hk (farAt d k)).1 (Int.le_refl _)
 exact ⟨by omega, fun g i a b c e => by have := h2 g i a b c e; have := hl g i; omega⟩
theorem far_le_clk {d : Wd} {k : Nat} (hk : k < d.nodes.length) : farAt d k ≤ clkAt d k := ((le_farAt hk (farAt d k)).1 (Int.le_refl _)).1
theorem far_le_lst {d : Wd} {k g i : Nat} (hk : k < d.nodes.length) (hi : i < d.nodes.length) (hn : i ≠ k) (h1 : hasB d.groups g k = true) (h2 : hasB d.groups g i = true) : farAt d k ≤ lstAt d k g i := ((le_farAt hk (farAt d k)).1 (Int.le_refl _)).2 g i hi hn h1 h2
theorem held_lt {d : Wd} {k : Nat} {m : Mg} (h : m ∈ heldAt d k) : k < d.nodes.length := by
 unfold heldAt at h
 cases hx : d.nodes[k]? with
 | none => rw [hx] at h; simp at h
 | some x => exact node_lt hx
theorem told_lt {d : Wd} {k : Nat} {m : Mg} (h : m ∈ toldAt d k) : k < d.nodes.length := by
 unfold toldAt at h
 cases hx : d.nodes[k]? with
 | none => rw [hx] at h; simp at h
 | some x => exact node_lt hx
structure PInv (d : Wd) (n : Nat) : Prop where
 right : Right d
 heard : ∀ k g i, lstAt d k g i ≤ clkAt d i
 wire : ∀ i k m, m ∈ wireAt d i k → m.st ≤ clkAt d i ∧ ∀ g, lstAt d k g i < m.st
 told : ∀ k m, m ∈ toldAt d k → m.st ≤ farAt d k
 held : ∀ k m, k ≠ n → m ∈ heldAt d k → farAt d k < m.st
 sep : ∀ a b, a ∈ toldAt d n → b ∈ heldAt d n → a.st < b.st
 seen : ∀ k m, m ∈ heldAt d k → m.st ≤ clkAt d k ∧ ∀ i : Nat, m.fr = i → i ≠ k → m.st ≤ lstAt d k m.gr.toNat i
 own : ∀ m, In d m → m.st ≤ clkAt d m.fr.toNat
 uniq : ∀ m m', In d m → In d m' → m.st = m'.st → m.fr = m'.fr → m = m'
 all : ∀ m k, In d m → m.nul = false → k < d.nodes.length → hasB d.groups m.gr k = true → m ∈ toldAt d k ∨ m ∈ heldAt d k ∨ (m.fr ≠ k ∧ m ∈ wireAt d m.fr.toNat k)
theorem Inv.pre {d : Wd} (h : Inv d) (n : Nat) : PInv d n :=
 ⟨h.right, h.heard, h.wire, h.told, fun k m _ => h.held k m, fun a b ha hb => by have := h.told n a ha; have := h.held n b hb; omega, h.seen, h.own, h.uniq, h.all⟩
theorem inv_tell {d d' : Wd} {n : Nat} (hn : n < d.nodes.length) (I : PInv d n) (S : TellStep d d' n) : Inv d' := by
 have F : ∀ k, k < d.nodes.length → farAt d' k = farAt d k := fun k hk => far_congr S.alike.g S.alike.n hk (S.clk k) (S.lst k)
 have H : ∀ k m, m ∈ heldAt d' k → m ∈ heldAt d k := by
  intro k m hm
  by_cases h : k = n
  ·subst h; rw [S.held] at hm; exact (List.mem_filter.1 hm).1
  ·rwa [(S.other k h).1] at hm
 have T : ∀ k m, m ∈ toldAt d' k → m ∈ toldAt d k ∨ (m ∈ heldAt d k ∧ m.st ≤ farAt d k) := by
  intro k m hm
  by_cases h : k = n
  ·subst h; rw [S.told] at hm
   rcases List.mem_append.1 hm with hm | hm
   ·exact .inl hm
   ·obtain ⟨a, b⟩ := List.mem_filter.1 hm; exact .inr ⟨a, by simpa using b⟩
  ·rw [(S.other k h).2] at hm; exact .inl hm
 have K : ∀ k m, m ∈ heldAt d k → m ∈ toldAt d' k ∨ m ∈ heldAt d' k := by
  intro k m hm
  by_cases h : k = n
  ·subst h
   rw [S.told, S.held]
   by_cases c : m.st ≤ farAt d k
   ·exact .inl (List.mem_append.2 (.inr (List.mem_filter.2 ⟨hm, by simpa using c⟩)))
   ·exact .inr (List.mem_filter.2 ⟨hm, by simpa using (by omega : farAt d k < m.st)⟩)
  ·rw [(S.other k h).1]; exact .inr hm
 have K2 : ∀ k m, m ∈ toldAt d k → m ∈ toldAt d' k := by
  intro k m hm
  by_cases h : k = n
  ·subst h; rw [S.told]; exact List.mem_append.2 (.inl hm)
  ·rw [(S.other k h).2]; exact hm
 have hin : ∀ m, In d' m → In d m := by
  rintro m ⟨k, h | h | ⟨f, h⟩⟩
  ·exact ⟨k, .inl (H k m h)⟩
  ·rcases T k m h with h | ⟨h, _⟩
   ·exact ⟨k, .inr (.inl h)⟩
   ·exact ⟨k, .inl h⟩
  ·rw [S.wire] at h; exact ⟨k, .inr (.inr ⟨f, h⟩)⟩
 refine ⟨right_tell I.right S, fun k g i => by rw [S.lst, S.clk]; exact I.heard k g i, fun i k m hm => ?_, fun k m hm => ?_, fun k m hm => ?_, fun k m hm => ?_, fun m hm => by rw [S.clk]; exact I.own m (hin m hm), fun m m' h h' => I.uniq m m' (hin m h) (hin m' h'), fun m k hm h0 hk hb => ?_⟩
 ·rw [S.wire] at hm; rw [S.clk]; obtain ⟨a, b⟩ := I.wire i k m hm; exact ⟨a, fun g => by rw [S.lst]; exact b g⟩
 ·rcases T k m hm with h | ⟨h, h2⟩
  ·rw [F k (told_lt h)]; exact I.told k m h
  ·rw [F k (held_lt h)]; exact h2
 ·have hk := held_lt (H k m hm)
  rw [F k hk]
  by_cases h : k = n
  ·subst h; rw [S.held] at hm; simpa using (List.mem_filter.1 hm).2
  ·exact I.held k m h (H k m hm)
 ·obtain ⟨a, b⟩ := I.seen k m (H k m hm)
  exact ⟨by rw [S.clk]; exact a, fun i e1 e2 => by rw [S.lst]; exact b i e1 e2⟩
 ·rw [S.alike.n] at hk; rw [S.alike.g] at hb
  rcases I.all m k (hin m hm) h0 hk hb with h | h | h
  ·exact .inl (K2 k m h)
  ·rcases K k m h with h | h
   ·exact .inl h
   ·exact .inr (.inl h)
  ·rw [S.wire]; exact .inr (.inr h)
theorem pinv_cast {d d' : Wd} {n : Nat} {m : Mg} (I : Inv d) (S : PreCast d d' n m) : PInv d' n := by
 have R := I.right
 have hst := S.mst
 have C : ∀ k, clkAt d k ≤ clkAt d' k := fun k => by rw [S.clk]; split; (· subst k; omega); (· omega)
 have F : ∀ k, k < d.nodes.length → farAt d k ≤ farAt d' k := fun k hk => far_mono S.alike.g S.alike.n hk (C k) (fun g i => by rw [S.lst]; omega)
 have F2 : ∀ k, k ≠ n → k < d.nodes.length → farAt d' k = farAt d k := fun k h hk => far_congr S.alike.g S.alike.n hk (by rw [S.clk, if_neg h]) (S.lst k)
 have H : ∀ k x, x ∈ heldAt d' k → (k = n ∧ x = m ∧ m.nul = false) ∨ x ∈ heldAt d k := by
  intro k x hx
  by_cases h : k = n
  ·subst h
   rcases S.held with ⟨_, e⟩ | ⟨e2, e0, e⟩
   ·rw [e] at hx; exact .inr hx
   ·rw [e, mem_putL e0] at hx
    rcases hx with rfl | hx
    ·exact .inl ⟨rfl, rfl, e2⟩
    ·exact .inr hx
  ·rw [S.other k h] at hx; exact .inr hx
 have H2 : ∀ k x, x ∈ heldAt d k → x ∈ heldAt d' k := by
  intro k x hx
  by_cases h : k = n
  ·subst h
   rcases S.held with ⟨_, e⟩ | ⟨e2, e0, e⟩
   ·rw [e]; exact hx
   ·rw [e, mem_putL e0]; exact .inr hx
  ·rw [S.other k h]; exact hx
 have W : ∀ f t x, x ∈ wireAt d' f t → (f = n ∧ x = m ∧ t < d.nodes.length ∧ t ≠ n) ∨ x ∈ wireAt d f t := by
  intro f t x hx
  rw [S.wire] at hx
  split at hx
  ·next g =>
   rcases List.mem_append.1 hx with hx | hx
   ·exact .inr hx
   ·simp at hx; exact .inl ⟨g.1, hx, g.2.1, g.2.2.1⟩
  ·exact .inr hx
 have W2 : ∀ f t x, x ∈ wireAt d f t → x ∈ wireAt d' f t := by
  intro f t x hx
  rw [S.wire]; split
  ·exact List.mem_append.2 (.inl hx)
  ·exact hx
 have hin : ∀ x, In d' x → x = m ∨ In d x := by
  rintro x ⟨k, h | h | ⟨f, h⟩⟩
  ·rcases H k x h with ⟨_, h, _⟩ | h
   ·exact .inl h
   ·exact .inr ⟨k, .inl h⟩
  ·rw [S.told] at h; exact .inr ⟨k, .inr (.inl h)⟩
  ·rcases W f k x h with ⟨_, h, _⟩ | h
   ·exact .inl h
   ·exact .inr ⟨k, .inr (.inr ⟨f, h⟩)⟩
 have hmfr : m.fr.toNat = n := by have := S.mfr; omega
 have old : ∀ x, In d x → x.fr = m.fr → x.st < m.st := by
  intro x hx e
  have := I.own x hx
  rw [e, hmfr] at this; omega
 refine ⟨right_preCast R S, fun k g i => by rw [S.lst]; have := I.heard k g i; have := C i; omega, fun i k x hx => ?_, fun k x hx => ?_, fun k x hk hx => ?_, fun a b ha hb => ?_, fun k x hx => ?_, fun x hx => ?_, fun x y hx hy e1 e2 => ?_, fun x k hx h0 hk hb => ?_⟩
 ·rcases W i k x hx with ⟨rfl, rfl, _⟩ | h
  ·exact ⟨by rw [S.clk, if_pos rfl]; omega, fun g => by rw [S.lst]; have := I.heard k g i; omega⟩
  ·obtain ⟨a, b⟩ := I.wire i k x h
   exact ⟨by have := C i; omega, fun g => by rw [S.lst]; exact b g⟩
 ·rw [S.told] at hx; have := I.told k x hx; have := F k (told_lt hx); omega
 ·rcases H k x hx with ⟨h, _⟩ | h
  ·exact absurd h hk
  ·rw [F2 k hk (held_lt h)]; exact I.held k x h
 ·rw [S.told] at ha
  have h1 := I.told n a ha
  have h2 := far_le_clk S.lt
  rcases H n b hb with ⟨_, rfl, _⟩ | h
  ·omega
  ·have := I.held n b h; omega
 ·rcases H k x hx with ⟨rfl, rfl, _⟩ | h
  ·exact ⟨by rw [S.clk, if_pos rfl]; omega, fun i e1 e2 => absurd (by have := S.mfr; omega) e2⟩
  ·obtain ⟨a, b⟩ := I.seen k x h
   exact ⟨by have := C k; omega, fun i e1 e2 => by rw [S.lst]; exact b i e1 e2⟩
 ·rcases hin x hx with rfl | h
  ·rw [hmfr, S.clk, if_pos rfl]; omega
  ·have := I.own x h; have := C x.fr.toNat; omega
 ·rcases hin x hx with rfl | h <;> rcases hin y hy with rfl | h'
  ·rfl
  ·have := old y h' e2.symm; omega
  ·have := old x h e2; omega
  ·exact I.uniq x y h h' e1 e2
 ·rw [S.alike.n] at hk; rw [S.alike.g] at hb
  rcases hin x hx with rfl | h
  ·by_cases e : k = n
   ·subst e
    rcases S.held with ⟨e1, _⟩ | ⟨_, e0, e⟩
    ·rw [e1] at h0; cases h0
    ·exact .inr (.inl (by rw [e, mem_putL e0]; exact .inl rfl))
   ·refine .inr (.inr ⟨by have := S.mfr; omega, ?_⟩)
    rw [hmfr, S.wire, if_pos ⟨rfl, hk, e, hb⟩]
    simp
  ·rcases I.all x k h h0 hk hb with h | h | ⟨h1, h2⟩
   ·exact .inl (by rw [S.told]; exact h)
   ·exact .inr (.inl (H2 k x h))
   ·exact .inr (.inr ⟨h1, W2 _ _ _ h2⟩)
theorem pinv_move {d d' : Wd} {f t : Nat} {m : Mg} (I : Inv d) (S : PreMove d d' f t m) : PInv d' t := by
 have R := I.right
 have hmem : m ∈ wireAt d f t := by rw [S.first]; simp
 obtain ⟨hf1, hf2⟩ := R.wireF f t m hmem
 obtain ⟨hf3, hf4⟩ := fine_iff.1 hf1
 obtain ⟨z1, z2, z3, z4⟩ := chkM_zero hf3
 have hgr : ((m.gr.toNat : Nat) : Int) = m.gr := by omega
 obtain ⟨w1, w2⟩ := I.wire f t m hmem
 have hft : f ≠ t := by rintro rfl; rw [R.wire0 f] at hmem; cases hmem
 have C : ∀ k, clkAt d k ≤ clkAt d' k := fun k => by rw [S.clk]; split; (· subst k; omega); (· omega)
 have L : ∀ k g i, lstAt d k g i ≤ lstAt d' k g i := fun k g i => by rw [S.lst]; split <;> omega
 have F : ∀ k, k < d.nodes.length → farAt d k ≤ farAt d' k := fun k hk => far_mono S.alike.g S.alike.n hk (C k) (L k)
 have F2 : ∀ k, k ≠ t → k < d.nodes.length → farAt d' k = farAt d k := fun k h hk => far_congr S.alike.g S.alike.n hk (by rw [S.clk, if_neg h]) (fun g i => by rw [S.lst, if_neg (fun c => h c.1)])
 have H : ∀ k x, x ∈ heldAt d' k → (k = t ∧ x = m ∧ m.nul = false) ∨ x ∈ heldAt d k := by
  intro k x hx
  by_cases h : k = t
  ·subst h
   rcases S.held with ⟨_, e⟩ | ⟨e2, e0, e⟩
   ·rw [e] at hx; exact .inr hx
   ·rw [e, mem_putL e0] at hx
    rcases hx with rfl | hx
    ·exact .inl ⟨rfl, rfl, e2⟩
    ·exact .inr hx
  ·rw [S.other k h] at hx; exact .inr hx
 have H2 : ∀ k x, x ∈ heldAt d k → x ∈ heldAt d' k := by
  intro k x hx
  by_cases h : k = t
  ·subst h
   rcases S.held with ⟨_, e⟩ | ⟨e2, e0, e⟩
   ·rw [e]; exact hx
   ·rw [e, mem_putL e0]; exact .inr hx
  ·rw [S.other k h]; exact hx
 have W : ∀ i k x, x ∈ wireAt d' i k → x ∈ wireAt d i k := by
  intro i k x hx
  by_cases h : i = f ∧ k = t
  ·obtain ⟨rfl, rfl⟩ := h; rw [S.first]; exact List.mem_cons_of_mem _ hx
  ·rwa [S.wire i k h] at hx
 have hin : ∀ x, In d' x → In d x := by
  rintro x ⟨k, h | h | ⟨i, h⟩⟩
  ·rcases H k x h with ⟨_, rfl, _⟩ | h
   ·exact ⟨t, .inr (.inr ⟨f, hmem⟩)⟩
   ·exact ⟨k, .inl h⟩
  ·rw [S.told] at h; exact ⟨k, .inr (.inl h)⟩
  ·exact ⟨k, .inr (.inr ⟨i, W i k x h⟩)⟩
 refine ⟨right_preMove R S, fun k g i => ?_, fun i k x hx => ?_, fun k x hx => ?_, fun k x hk hx => ?_, fun a b ha hb => ?_, fun k x hx => ?_, fun x hx => ?_, fun x y hx hy => I.uniq x y (hin x hx) (hin y hy), fun x k hx h0 hk hb => ?_⟩
 ·have h1 := I.heard k g i
  have h2 := C i
  rw [S.lst]; split
  ·next c => obtain ⟨rfl, rfl, rfl⟩ := c; omega
  ·omega
 ·have hx0 := W i k x hx
  obtain ⟨a, b⟩ := I.wire i k x hx0
  refine ⟨by have := C i; omega, fun g => ?_⟩
  rw [S.lst]; split
  ·next c =>
   obtain ⟨rfl, rfl, rfl⟩ := c
   have hp := (stRises_pair _).1 (R.wireR i k)
   rw [S.first] at hp
   have := (List.pairwise_cons.1 hp).1 x hx
   have := b m.gr.toNat
   omega
  ·exact b g
 ·rw [S.told] at hx; have := I.told k x hx; have := F k (told_lt hx); omega
 ·rcases H k x hx with ⟨h, _⟩ | h
  ·exact absurd h hk
  ·rw [F2 k hk (held_lt h)]; exact I.held k x h
 ·rw [S.told] at ha
  have h1 := I.told t a ha
  rcases H t b hb with ⟨_, rfl, _⟩ | h
  ·have h2 := far_le_lst (g := b.gr.toNat) S.tlt S.flt hft (by rw [hgr]; exact hf4) (by rw [hgr, ← hf2]; exact z4)
   have := w2 b.gr.toNat
   omega
  ·have := I.held t b h; omega
 ·rcases H k x hx with ⟨rfl, rfl, _⟩ | h
  ·refine ⟨by rw [S.clk, if_pos rfl]; omega, fun i e1 e2 => ?_⟩
   have : i = f := by omega
   subst this
   rw [S.lst, if_pos ⟨rfl, rfl, rfl⟩]; omega
  ·obtain ⟨a, b⟩ := I.seen k x h
   exact ⟨by have := C k; omega, fun i e1 e2 => by have := b i e1 e2; have := L k x.gr.toNat i; omega⟩
 ·have := I.own x (hin x hx); have := C x.fr.toNat; omega
 ·rw [S.alike.n] at hk; rw [S.alike.g] at hb
  rcases I.all x k (hin x hx) h0 hk hb with h | h | ⟨h1, h2⟩
  ·exact .inl (by rw [S.told]; exact h)
  ·exact .inr (.inl (H2 k x h))
  ·by_cases e : x.fr.toNat = f ∧ k = t
   ·obtain ⟨e1, rfl⟩ := e
    rw [e1, S.first] at h2
    rcases List.mem_cons.1 h2 with rfl | h2
    ·rcases S.held with ⟨e3, _⟩ | ⟨_, e0, e⟩
     ·rw [e3] at h0; cases h0
     ·exact .inr (.inl (by rw [e, mem_putL e0]; exact .inl rfl))
    ·exact .inr (.inr ⟨h1, by rw [e1]; exact h2⟩)
   ·exact .inr (.inr ⟨h1, by rw [S.wire _ _ e]; exact h2⟩)
end Go.Proofs.YtiiifecfdkjmbaaGreat.Pure
namespace Go.Proofs.YtiiifecfdkjmbaaGreat.Pure
set_option maxRecDepth 8000
structure Grow (d d' : Wd) : Prop where
 alike : Alike d d'
 clk : ∀ k, clkAt d k ≤ clkAt d' k
 lst : ∀ k g i, lstAt d k g i ≤ lstAt d' k g i
 told : ∀ k, ∃ l, toldAt d' k = toldAt d k ++ l
theorem Grow.refl (d : Wd) : Grow d d := ⟨Alike.refl d, fun _ => Int.le_refl _, fun _ _ _ => Int.le_refl _, fun _ => ⟨[], by simp⟩⟩
theorem Grow.trans {a b c : Wd} (h : Grow a b) (k : Grow b c) : Grow a c := by
 refine ⟨h.alike.trans k.alike, fun i => Int.le_trans (h.clk i) (k.clk i), fun i g j => Int.le_trans (h.lst i g j) (k.lst i g j), fun i => ?_⟩
 obtain ⟨l1, e1⟩ := h.told i
 obtain ⟨l2, e2⟩ := k.told i
 exact ⟨l1 ++ l2, by rw [e2, e1, List.append_assoc]⟩
theorem grow_tell {d d' : Wd} {n : Nat} (S : TellStep d d' n) : Grow d d' := by
 refine ⟨S.alike, fun k => by rw [S.clk]; omega, fun k g i => by rw [S.lst]; omega, fun k => ?_⟩
 by_cases h : k = n
 ·subst h; exact ⟨_, S.told⟩
 ·exact ⟨[], by rw [(S.other k h).2]; simp⟩
theorem grow_cast {d d' : Wd} {n : Nat} {m : Mg} (S : PreCast d d' n m) : Grow d d' := by
 have := S.mst
 exact ⟨S.alike, fun k => by rw [S.clk]; split; (· subst k; omega); (· omega), fun k g i => by rw [S.lst]; omega, fun k => ⟨[], by rw [S.told]; simp⟩⟩
theorem grow_move {d d' : Wd} {f t : Nat} {m : Mg} (S : PreMove d d' f t m) : Grow d d' :=
 ⟨S.alike, fun k => by rw [S.clk]; split; (· subst k; omega); (· omega), fun k g i => by rw [S.lst]; split <;> omega, fun k => ⟨[], by rw [S.told]; simp⟩⟩
theorem cast_split {d d' : Wd} {n g : Int} {nul : Bool} {body : ByteArray} (R : Right d) (hb : nul = true → body.size = 0) (h : castD d n g nul body = .ok d') :
  castE d n g body.size = 0 ∧ ∃ d3, PreCast d d3 n.toNat (msgD d n g nul body) ∧ Right d3 ∧ TellStep d3 d' n.toNat := by
 rw [castD_eq] at h
 by_cases hE : castE d n g body.size = 0
 ·rw [if_pos hE] at h
  obtain ⟨d3, h1, h2⟩ := bind_ok h
  obtain ⟨p, h3, h4⟩ := bind_ok h2
  have S := preCast_ok R hE hb h1
  have R3 := right_preCast R S
  obtain ⟨_, T, _⟩ := tellD_ok (R3.heldR _) h3
  cases h4
  exact ⟨hE, d3, S, R3, T⟩
 ·rw [if_neg hE] at h; cases h
theorem cast_right {d d' : Wd} {n g : Int} {nul : Bool} {body : ByteArray} (R : Right d) (hb : nul = true → body.size = 0) (h : castD d n g nul body = .ok d') : Right d' ∧ Grow d d' := by
 obtain ⟨_, d3, S, R3, T⟩ := cast_split R hb h
 exact ⟨right_tell R3 T, (grow_cast S).trans (grow_tell T)⟩
theorem cast_inv {d d' : Wd} {n g : Int} {nul : Bool} {body : ByteArray} (I : Inv d) (hb : nul = true → body.size = 0) (h : castD d n g nul body = .ok d') : Inv d' := by
 obtain ⟨_, d3, S, R3, T⟩ := cast_split I.right hb h
 have hlt : n.toNat < d3.nodes.length := by rw [S.alike.n]; exact S.lt
 exact inv_tell hlt (pinv_cast I S) T
theorem move_split {d d' : Wd} {f t : Nat} (R : Right d) (hf : f < d.nodes.length) (ht : t < d.nodes.length) (h : moveD d f t = .ok d') :
  ∃ d3 m, PreMove d d3 f t m ∧ Right d3 ∧ TellStep d3 d' t := by
 rw [moveD_eq] at h
 obtain ⟨d3, h1, h2⟩ := bind_ok h
 obtain ⟨p, h3, h4⟩ := bind_ok h2
 obtain ⟨m, S⟩ := preMove_ok R hf ht h1
 have R3 := right_preMove R S
 obtain ⟨_, T, _⟩ := tellD_ok (R3.heldR _) h3
 cases h4
 exact ⟨d3, m, S, R3, T⟩
theorem move_right {d d' : Wd} {f t : Nat} (R : Right d) (hf : f < d.nodes.length) (ht : t < d.nodes.length) (h : moveD d f t = .ok d') : Right d' ∧ Grow d d' := by
 obtain ⟨d3, m, S, R3, T⟩ := move_split R hf ht h
 exact ⟨right_tell R3 T, (grow_move S).trans (grow_tell T)⟩
theorem move_inv {d d' : Wd} {f t : Nat} (I : Inv d) (hf : f < d.nodes.length) (ht : t < d.nodes.length) (h : moveD d f t = .ok d') : Inv d' := by
 obtain ⟨d3, m, S, R3, T⟩ := move_split I.right hf ht h
 exact inv_tell (by rw [S.alike.n]; exact ht) (pinv_move I S) T
structure Moved (d d' : Wd) (f t : Nat) (m : Mg) : Prop where
 first : wireAt d f t = m :: wireAt d' f t
 wire : ∀ f' t', ¬ (f' = f ∧ t' = t) → wireAt d' f' t' = wireAt d f' t'
 clk : m.st ≤ clkAt d' t
 lst : m.st ≤ lstAt d' t m.gr.toNat f
 top : ∀ c, (∀ k, clkAt d k ≤ c) → m.st ≤ c → ∀ k, clkAt d' k ≤ c
 held : m.nul = true → ∀ k x, x ∈ heldAt d' k → x ∈ heldAt d k
theorem moved {d d' : Wd} {f t : Nat} (R : Right d) (hf : f < d.nodes.length) (ht : t < d.nodes.length) (h : moveD d f t = .ok d') : ∃ m, Moved d d' f t m := by
 obtain ⟨d3, m, S, R3, T⟩ := move_split R hf ht h
 refine ⟨m, by rw [T.wire]; exact S.first, fun f' t' h => by rw [T.wire]; exact S.wire f' t' h, by rw [T.clk, S.clk, if_pos rfl]; omega, by rw [T.lst, S.lst, if_pos ⟨rfl, rfl, rfl⟩]; omega, fun c hc hm k => ?_, fun hn k x hx => ?_⟩
 ·rw [T.clk, S.clk]; have := hc t; have := hc k; split <;> omega
 ·have h3 : x ∈ heldAt d3 k := by
   by_cases e : k = t
   ·subst e; rw [T.held] at hx; exact (List.mem_filter.1 hx).1
   ·rwa [(T.other k e).1] at hx
  by_cases e : k = t
  ·subst e
   rcases S.held with ⟨_, e⟩ | ⟨e2, _, _⟩
   ·rwa [e] at h3
   ·rw [hn] at e2; cases e2
  ·rwa [S.other k e] at h3
structure Casted (d d' : Wd) (n : Nat) (m : Mg) : Prop where
 lt : n < d.nodes.length
 mfr : m.fr = n
 mst : m.st = clkAt d n + 1
 clk : ∀ k, clkAt d' k = if k = n then m.st else clkAt d k
 wire : ∀ f t, wireAt d' f t = if goesTo d m n d.nodes.length f t then wireAt d f t ++ [m] else wireAt d f t
 held : m.nul = true → ∀ k x, x ∈ heldAt d' k → x ∈ heldAt d k
theorem casted {d d' : Wd} {n g : Int} {nul : Bool} {body : ByteArray} (R : Right d) (hb : nul = true → body.size = 0) (h : castD d n g nul body = .ok d') : Casted d d' n.toNat (msgD d n g nul body) := by
 obtain ⟨_, d3, S, R3, T⟩ := cast_split R hb h
 refine ⟨S.lt, S.mfr, S.mst, fun k => by rw [T.clk]; exact S.clk k, fun f t => by rw [T.wire]; exact S.wire f t, fun hn k x hx => ?_⟩
 have h3 : x ∈ heldAt d3 k := by
  by_cases e : k = n.toNat
  ·subst e; rw [T.held] at hx; exact (List.mem_filter.1 hx).1
  ·rwa [(T.other k e).1] at hx
 by_cases e : k = n.toNat
 ·subst e
  rcases S.held with ⟨_, e⟩ | ⟨e2, _, _⟩
  ·rwa [e] at h3
  ·rw [hn] at e2; cases e2
 ·rwa [S.other k e] at h3
end Go.Proofs.YtiiifecfdkjmbaaGreat.Pure
namespace Go.Proofs.YtiiifecfdkjmbaaGreat.Pure
set_option maxRecDepth 8000
theorem foldlM_ind {α β : Type} (f : β → α → Except Int β) (P : List α → β → Prop) (hs : ∀ l b a b', P l b → f b a = .ok b' → P (l ++ [a]) b') : ∀ (l l0 : List α) (b b' : β), P l0 b → l.foldlM f b = .ok b' → P (l0 ++ l) b'
 | [], l0, b, b', h0, h => by
  have : b = b' := Except.ok.inj h
  subst this; simpa using h0
 | a :: l, l0, b, b', h0, h => by
  rw [List.foldlM_cons] at h
  obtain ⟨b1, h1, h2⟩ := bind_ok h
  have := foldlM_ind f P hs l (l0 ++ [a]) b1 b' (hs l0 b a b1 h0 h1) h2
  simpa using this
theorem foldlM_err {α β : Type} (f : β → α → Except Int β) (P : List α → β → Prop) (hs : ∀ l b a b', P l b → f b a = .ok b' → P (l ++ [a]) b') : ∀ (l l0 : List α) (b : β) (e : Int), P l0 b → l.foldlM f b = .error e → ∃ l1 a b', a ∈ l ∧ P (l0 ++ l1) b' ∧ f b' a = .error e
 | [], l0, b, e, _, h => by cases h
 | a :: l, l0, b, e, h0, h => by
  rw [List.foldlM_cons] at h
  rcases bind_err h with h | ⟨b1, h1, h2⟩
  ·exact ⟨[], a, b, by simp, by simpa using h0, h⟩
  ·obtain ⟨l1, a', b', e1, e2, e3⟩ := foldlM_err f P hs l (l0 ++ [a]) b1 e (hs l0 b a b1 h0 h1) h2
   exact ⟨a :: l1, a', b', List.mem_cons_of_mem _ e1, by simpa using e2, e3⟩
def NullW (d : Wd) : Prop := ∀ f t m, m ∈ wireAt d f t → m.nul = true
def Sub (d d' : Wd) : Prop := ∀ k x, x ∈ heldAt d' k → x ∈ heldAt d k
structure Moves (f t j : Nat) (d d' : Wd) : Prop where
 right : Right d'
 inv : Inv d → Inv d'
 grow : Grow d d'
 here : wireAt d' f t = (wireAt d f t).drop j
 wire : ∀ f' t', ¬ (f' = f ∧ t' = t) → wireAt d' f' t' = wireAt d f' t'
 came : ∀ m, m ∈ (wireAt d f t).take j → m.st ≤ clkAt d' t ∧ m.st ≤ lstAt d' t m.gr.toNat f
 top : Inv d → ∀ c, (∀ k, clkAt d k ≤ c) → ∀ k, clkAt d' k ≤ c
 sub : NullW d → Sub d d'
theorem moves_ok {f t : Nat} : ∀ (j : Nat) (d d' : Wd), Right d → f < d.nodes.length → t < d.nodes.length → j ≤ (wireAt d f t).length → movesD f t j d = .ok d' → Moves f t j d d'
 | 0, d, d', R, hf, ht, hj, h => by
  have : d = d' := Except.ok.inj h
  subst this
  exact ⟨R, fun h => h, Grow.refl d, by simp, fun _ _ _ => rfl, fun m hm => by simp at hm, fun _ c hc => hc, fun _ _ _ h => h⟩
 | j + 1, d, d', R, hf, ht, hj, h => by
  unfold movesD at h
  obtain ⟨d1, h1, h2⟩ := bind_ok h
  obtain ⟨m, M⟩ := moved R hf ht h1
  obtain ⟨R1, G1⟩ := move_right R hf ht h1
  have hf1 : f < d1.nodes.length := by rw [G1.alike.n]; exact hf
  have ht1 : t < d1.nodes.length := by rw [G1.alike.n]; exact ht
  have hl : j ≤ (wireAt d1 f t).length := by rw [M.first] at hj; simp at hj; omega
  have S := moves_ok j d1 d' R1 hf1 ht1 hl h2
  refine ⟨S.right, fun I => S.inv (move_inv I hf ht h1), G1.trans S.grow, ?_, fun f' t' hn => (S.wire f' t' hn).trans (M.wire f' t' hn), fun x hx => ?_, fun I c hc => ?_, fun hN k x hx => ?_⟩
  ·rw [M.first, List.drop_succ_cons]; exact S.here
  ·rw [M.first, List.take_succ_cons] at hx
   rcases List.mem_cons.1 hx with rfl | hx
   ·have a := S.grow.clk t; have b := S.grow.lst t x.gr.toNat f
    have c := M.clk; have e := M.lst
    exact ⟨by omega, by omega⟩
   ·exact S.came x hx
  ·have hm := (I.wire f t m (by rw [M.first]; simp)).1
   have := hc f
   exact S.top (move_inv I hf ht h1) c (M.top c hc (by omega))
  ·refine M.held (hN f t m (by rw [M.first]; simp)) k x (S.sub (fun f' t' y hy => ?_) k x hx)
   by_cases e : f' = f ∧ t' = t
   ·obtain ⟨rfl, rfl⟩ := e; exact hN f' t' y (by rw [M.first]; exact List.mem_cons_of_mem _ hy)
   ·rw [M.wire f' t' e] at hy; exact hN f' t' y hy
structure Drained (d : Wd) (l : List (Nat × Nat)) (d' : Wd) : Prop where
 right : Right d'
 inv : Inv d → Inv d'
 grow : Grow d d'
 gone : ∀ f t, (f, t) ∈ l → wireAt d' f t = []
 wire : ∀ f t, (f, t) ∉ l → wireAt d' f t = wireAt d f t
 came : ∀ f t m, (f, t) ∈ l → m ∈ wireAt d f t → m.st ≤ clkAt d' t ∧ m.st ≤ lstAt d' t m.gr.toNat f
 top : Inv d → ∀ c, (∀ k, clkAt d k ≤ c) → ∀ k, clkAt d' k ≤ c
 sub : NullW d → Sub d d'
theorem Drained.null {d d' : Wd} {l : List (Nat × Nat)} (h : Drained d l d') (n : NullW d) : NullW d' := by
 intro f t m hm
 by_cases e : (f, t) ∈ l
 ·rw [h.gone f t e] at hm; cases hm
 ·rw [h.wire f t e] at hm; exact n f t m hm
theorem pairs_lt {d : Wd} : ∀ p ∈ pairs d.nodes.length d.nodes.length, p.1 < d.nodes.length ∧ p.2 < d.nodes.length := fun p hp => (mem_pairs _ _ p.1 p.2).1 hp
structure Nulled (d : Wd) (l : List (Nat × Nat)) (d' : Wd) : Prop where
 right : Right d'
 inv : Inv d → Inv d'
 grow : Grow d d'
 null : NullW d → NullW d'
 sub : Sub d d'
 sent : ∀ n g t : Nat, (n, g) ∈ l → hasB d.groups g n = true → t < d.nodes.length → t ≠ n → hasB d.groups g t = true → ∃ m, m ∈ wireAt d' n t ∧ m.gr = g ∧ clkAt d n < m.st
 top : ∀ c, (∀ k, clkAt d k ≤ c) → ∀ k, clkAt d' k ≤ c + l.length
theorem nulled_step {d : Wd} {l : List (Nat × Nat)} {s s' : Wd} {p : Nat × Nat} (D : Nulled d l s) (h : nullOne s p = .ok s') : Nulled d (l ++ [p]) s' := by
 obtain ⟨n, g⟩ := p
 unfold nullOne at h
 by_cases hb : hasB s.groups g n = true
 ·simp only [hb, if_true] at h
  have C := casted D.right (fun _ => rfl) h
  obtain ⟨R1, G1⟩ := cast_right D.right (fun _ => rfl) h
  have hn : (n : Int).toNat = n := by omega
  rw [hn] at C
  have W2 : ∀ f t x, x ∈ wireAt s f t → x ∈ wireAt s' f t := by
   intro f t x hx
   rw [C.wire]; split
   ·exact List.mem_append.2 (.inl hx)
   ·exact hx
  refine ⟨R1, fun I => cast_inv (D.inv I) (fun _ => rfl) h, D.grow.trans G1, fun hN f t x hx => ?_, fun k x hx => D.sub k x (C.held rfl k x hx), fun n' g' t hm h1 h2 h3 h4 => ?_, fun c hc k => ?_⟩
  ·rw [C.wire] at hx
   split at hx
   ·rcases List.mem_append.1 hx with hx | hx
    ·exact D.null hN f t x hx
    ·simp at hx; subst hx; rfl
   ·exact D.null hN f t x hx
  ·rcases List.mem_append.1 hm with hm | hm
   ·obtain ⟨m, a, b, c⟩ := D.sent n' g' t hm h1 h2 h3 h4
    exact ⟨m, W2 _ _ _ a, b, c⟩
   ·simp at hm
    obtain ⟨rfl, rfl⟩ := hm
    refine ⟨msgD s n' g' true ByteArray.empty, ?_, rfl, ?_⟩
    ·rw [C.wire, if_pos ⟨rfl, by rw [D.grow.alike.n]; exact h2, h3, by rw [D.grow.alike.g]; exact h4⟩]; simp
    ·have := C.mst; have := D.grow.clk n'; omega
  ·rw [C.clk]
   have a := D.top c hc k
   have b := D.top c hc n
   have := C.mst
   simp only [List.length_append, List.length_cons, List.length_nil]
   split <;> omega
 ·simp only [hb] at h
  have : s = s' := Except.ok.inj h
  subst this
  refine ⟨D.right, D.inv, D.grow, D.null, D.sub, fun n' g' t hm h1 h2 h3 h4 => ?_, fun c hc k => ?_⟩
  ·rcases List.mem_append.1 hm with hm | hm
   ·exact D.sent n' g' t hm h1 h2 h3 h4
   ·simp at hm
    obtain ⟨rfl, rfl⟩ := hm
    rw [D.grow.alike.g] at hb
    exact absurd h1 hb
  ·have := D.top c hc k; simp; omega
theorem nulls_ok {d d' : Wd} (R : Right d) (h : nullsD d = .ok d') : Nulled d (pairs d.nodes.length d.groups.length) d' := by
 have h0 : Nulled d [] d := ⟨R, fun h => h, Grow.refl d, fun h => h, fun _ _ h => h, fun n g t h => (by cases h), fun c hc k => by have := hc k; simp; omega⟩
 have := foldlM_ind nullOne (Nulled d) (fun l b a b' => nulled_step) _ [] d d' h0 h
 simpa using this
end Go.Proofs.YtiiifecfdkjmbaaGreat.Pure
namespace Go.Proofs.YtiiifecfdkjmbaaGreat.Pure
set_option maxRecDepth 8000
theorem pairs_length (G N : Nat) : (pairs G N).length = G * N := by
 unfold pairs
 rw [List.length_flatMap]
 simp [List.map_const']
structure Rounded (d d' : Wd) : Prop where
 right : Right d'
 inv : Inv d → Inv d'
 grow : Grow d d'
 none : ∀ f t, wireAt d' f t = []
 sub : (∀ f t, wireAt d f t = []) → Sub d d'
 heard : ∀ n g t : Nat, n < d.nodes.length → hasB d.groups g n = true → t < d.nodes.length → t ≠ n → hasB d.groups g t = true → clkAt d n < clkAt d' t ∧ clkAt d n < lstAt d' t g n
 top : Inv d → ∀ c, (∀ k, clkAt d k ≤ c) → ∀ k, clkAt d' k ≤ c + d.nodes.length * d.groups.length
structure Rounds (j : Nat) (d d' : Wd) : Prop where
 right : Right d'
 inv : Inv d → Inv d'
 grow : Grow d d'
 none : (∀ f t, wireAt d f t = []) → ∀ f t, wireAt d' f t = []
 sub : (∀ f t, wireAt d f t = []) → Sub d d'
 top : Inv d → ∀ c, (∀ k, clkAt d k ≤ c) → ∀ k, clkAt d' k ≤ c + j * (d.nodes.length * d.groups.length)
structure Calmed (d d' : Wd) : Prop where
 right : Right d'
 inv : Inv d → Inv d'
 grow : Grow d d'
 none : ∀ f t, wireAt d' f t = []
 held : Inv d → ∀ k, heldAt d' k = []
 top : Inv d → ∀ c, (∀ k, clkAt d k ≤ c) → ∀ k, clkAt d' k ≤ c + 4 * (d.nodes.length * d.groups.length)
theorem small {d : Wd} (R : Right d) : d.nodes.length ≤ 4 ∧ 1 ≤ d.nodes.length ∧ d.groups.length ≤ 3 ∧ d.nodes.length * d.groups.length ≤ 12 := by
 have := chkE_zero R.chk
 refine ⟨by omega, by omega, by omega, ?_⟩
 exact Nat.mul_le_mul (by omega : d.nodes.length ≤ 4) (by omega : d.groups.length ≤ 3)
structure Did (d d' : Wd) : Prop where
 was : Right d
 right : Right d'
 inv : Inv d → Inv d'
 grow : Grow d d'
 top : Inv d → ∀ c, (∀ k, clkAt d k ≤ c) → ∀ k, clkAt d' k ≤ c + 48
theorem checked_ok {α : Type} {d : Wd} {r : Except Int α} {a : α} (h : checked d r = .ok a) : Right d ∧ r = .ok a := by
 unfold checked at h
 by_cases hE : worldE d = 0
 ·rw [if_pos hE] at h; exact ⟨(right_iff d).1 hE, h⟩
 ·rw [if_neg hE] at h; cases h
end Go.Proofs.YtiiifecfdkjmbaaGreat.Pure
