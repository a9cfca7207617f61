/- What was told to whom, as plain data: in one order; no condition but what each row says. What comes of what, as plain data: nothing comes ahead of itself, what comes ahead has the lesser Stamp; no condition but that the groups are right. The document's own way to what comes of what, as plain data: it comes to the same. What comes ahead by way of others, as the document works it out at the end. What the whole promises, of worlds as plain data: told to all members once, and in the order in which it came. -/
import Derived.Test.YtiiifecfdkjmbaaGreatPureW
namespace Go.Proofs.YtiiifecfdkjmbaaGreat.Pure
set_option maxRecDepth 8000
end Go.Proofs.YtiiifecfdkjmbaaGreat.Pure
namespace Go.Proofs.YtiiifecfdkjmbaaGreat.Pure
set_option maxRecDepth 8000
structure Sc where
 d : Wd
 sent : List Mg
 ahead : Mg → Mg → Bool
 past : Nat → Mg → Bool
structure ScInv (s : Sc) : Prop where
 inv : Inv s.d
 rise : s.sent.Pairwise (fun a b => a.fr = b.fr → a.st < b.st)
 own : ∀ m, m ∈ s.sent → (0 ≤ m.fr ∧ m.fr < s.d.nodes.length) ∧ m.st ≤ clkAt s.d m.fr.toNat
 wired : ∀ f t m, m ∈ wireAt s.d f t → m ∈ s.sent
 pastS : ∀ k y, s.past k y = true → y ∈ s.sent ∧ y.st ≤ clkAt s.d k
 aheadS : ∀ a y, s.ahead a y = true → a ∈ s.sent ∧ y ∈ s.sent ∧ y.st < a.st
 trans : ∀ a b c, s.ahead a b = true → s.ahead b c = true → s.ahead a c = true
 pastT : ∀ k b c, s.past k b = true → s.ahead b c = true → s.past k c = true
 mine : ∀ m (k : Nat), m ∈ s.sent → m.fr = k → s.past k m = true
 same : ∀ (i j : Nat) a b, s.sent[i]? = some a → s.sent[j]? = some b → a.fr = b.fr → j < i → s.ahead a b = true
end Go.Proofs.YtiiifecfdkjmbaaGreat.Pure
namespace Go.Proofs.YtiiifecfdkjmbaaGreat.Pure
set_option maxRecDepth 8000
structure Rc where
 d : Wd
 all : List Mg
 ahead : List (List Bool)
 known : List (List Bool)
def bitAt (r : List Bool) (k : Nat) : Bool := r[k]?.getD false
structure Rel (r : Rc) (s : Sc) : Prop where
 d : r.d = s.d
 all : r.all = s.sent
 alen : r.ahead.length = r.all.length
 klen : r.known.length = r.d.nodes.length
 krow : ∀ (k : Nat) (row : List Bool), r.known[k]? = some row → row.length = r.all.length
 arow : ∀ (i : Nat) (row : List Bool), r.ahead[i]? = some row → row.length = i
 past : ∀ (k : Nat) (row : List Bool), r.known[k]? = some row → ∀ y, s.past k y = true ↔ ∃ (j : Nat) (b : Mg), bitAt row j = true ∧ r.all[j]? = some b ∧ (y = b ∨ s.ahead b y = true)
 ahd : ∀ (i : Nat) (row : List Bool) (a : Mg), r.ahead[i]? = some row → r.all[i]? = some a → ∀ y, s.ahead a y = true ↔ ∃ (j : Nat) (b : Mg), bitAt row j = true ∧ r.all[j]? = some b ∧ (y = b ∨ s.ahead b y = true)
end Go.Proofs.YtiiifecfdkjmbaaGreat.Pure
namespace Go.Proofs.YtiiifecfdkjmbaaGreat.Pure
set_option maxRecDepth 8000
end Go.Proofs.YtiiifecfdkjmbaaGreat.Pure
namespace Go.Proofs.YtiiifecfdkjmbaaGreat.Pure
set_option maxRecDepth 8000
theorem wire_far {d : Wd} (I : Inv d) {f t : Nat} {m : Mg} (hm : m ∈ wireAt d f t) : farAt d t < m.st := by
 obtain ⟨hf, ht⟩ := wire_lt I.right.rows hm
 obtain ⟨h1, h2⟩ := I.right.wireF f t m hm
 obtain ⟨h3, h4⟩ := fine_iff.1 h1
 obtain ⟨z1, z2, z3, z4⟩ := chkM_zero h3
 have hft : f ≠ t := by rintro rfl; rw [I.right.wire0 f] at hm; cases hm
 have hgr : ((m.gr.toNat : Nat) : Int) = m.gr := by omega
 have := far_le_lst (g := m.gr.toNat) ht hf hft (by rw [hgr]; exact h4) (by rw [hgr, ← h2]; exact z4)
 have := (I.wire f t m hm).2 m.gr.toNat
 omega
theorem far_grows {d d' : Wd} (G : Grow d d') {k : Nat} (hk : k < d.nodes.length) : farAt d k ≤ farAt d' k := far_mono G.alike.g G.alike.n hk (G.clk k) (G.lst k)
end Go.Proofs.YtiiifecfdkjmbaaGreat.Pure
