/- A slice of ints that is handed in, opened for a walk: its numbers, and how many there may be. Messages that are handed in, opened for a walk: their numbers and texts, and how many there may be. A world that is handed in, opened for a walk: its numbers, its lists, and how long they may be. The head of the program's text: what its first words say, so that the rest of a long row need not be parted; no condition. -/
import Derived.Test.YtiiifecfdkjmbaaGreatDGLaws
import Derived.ProofKit
import Derived.OpenShut
import Derived.ShutString
import Derived.ChangeOld
import Derived.SizedLaws
import Derived.Test.YtiiifecfdkjmbaaGreatDMsgPut
import Derived.Deep.Slices
import Derived.Test.YtiiifecfdkjmbaaGreatDWorld1
import Derived.Test.YtiiifecfdkjmbaaGreatRows
import Derived.KernelRfl
import Derived.JoinedOf
namespace Go.Proofs.YtiiifecfdkjmbaaGreat
set_option maxRecDepth 8000
open Go.ChangeShapes Go.WideShapes Go.ChangeAt Go.RowKit
set_option linter.unusedVariables false
theorem own : ownKnob Tryz.prog.godebug = none := by kernel_rfl
theorem laidOut : laidOutB Tryz.prog = true := by kernel_rfl
theorem bytesInt : Tryz.prog.bytesOf 3 = 8 := by kernel_rfl
theorem block_lt {w : World} {b o : Nat} {v : Value} (h : w.cell? ⟨b, o, none⟩ = some v) : b < w.heap.size := by
 rcases Nat.lt_or_ge b w.heap.size with h1 | h1
 ·exact h1
 ·simp [World.cell?, Array.getElem?_eq_none h1] at h
end Go.Proofs.YtiiifecfdkjmbaaGreat
namespace Go.Proofs.YtiiifecfdkjmbaaGreat
set_option maxRecDepth 8000
open Go.ChangeShapes Go.WideShapes Go.ChangeAt Go.RowKit Go.Deep
set_option linter.unusedVariables false
theorem bytesMsg : Tryz.prog.bytesOf 42 = 48 := by kernel_rfl
theorem cellsMsg : Tryz.prog.cellsOf 42 = 5 := by kernel_rfl
theorem cellsInt : Tryz.prog.cellsOf 3 = 1 := by kernel_rfl
theorem cellsBool : Tryz.prog.cellsOf 4 = 1 := by kernel_rfl
theorem cellsStr : Tryz.prog.cellsOf 9 = 1 := by kernel_rfl
theorem mg_of_cells {H : Type} {enc : TypeId × Value → H} {W : World} {base fuel : Nat} {spare : Nat → Bool} {held : Bool} {cs : List Value} {x : DataW H × List MemPlace}
  (h : DataW.trod enc Tryz.prog W base spare held fuel 42 cs = some x) : ∃ m : Mg, cs = m.cells := by
 obtain ⟨xs, n, _, _, hl, hlen, hf⟩ := DataW.trod_struct Tryz.underlying42 h
 rw [cellsMsg] at hl
 match cs, hl with
 | [c0, c1, c2, c3, c4], _ =>
  have g0 := hf 0 _ rfl
  have g1 := hf 1 _ rfl
  have g2 := hf 2 _ rfl
  have g3 := hf 3 _ rfl
  have g4 := hf 4 _ rfl
  simp [cellsInt] at g0 g1 g2
  simp [cellsBool] at g3
  simp [cellsStr] at g4
  simp at hlen
  rw [List.getElem?_eq_getElem (by rw [hlen]; omega)] at g0 g1 g2 g3 g4
  obtain ⟨a0, e0, _⟩ := DataW.trod_int Tryz.underlying3 g0
  obtain ⟨a1, e1, _⟩ := DataW.trod_int Tryz.underlying3 g1
  obtain ⟨a2, e2, _⟩ := DataW.trod_int Tryz.underlying3 g2
  obtain ⟨a3, e3, _⟩ := DataW.trod_bool Tryz.underlying4 g3
  obtain ⟨a4, e4, _⟩ := DataW.trod_string Tryz.underlying9 g4
  simp at e0 e1 e2 e3 e4
  exact ⟨⟨a0, a1, a2, a3, a4⟩, by rw [e0, e1, e2, e3, e4]; rfl⟩
theorem list_of_each {α : Type} {P : Nat → α → Prop} : ∀ (n : Nat), (∀ i, i < n → ∃ m, P i m) → ∃ ms : List α, ms.length = n ∧ ∀ i m, ms[i]? = some m → P i m
 | 0, _ => ⟨[], rfl, fun i m h => by simp at h⟩
 | n + 1, h => by
  obtain ⟨ms, hl, hp⟩ := list_of_each n (fun i hi => h i (by omega))
  obtain ⟨m, hm⟩ := h n (by omega)
  refine ⟨ms ++ [m], by simp [hl], fun i x hx => ?_⟩
  by_cases hi : i < ms.length
  ·exact hp i x (by rw [List.getElem?_append_left hi] at hx; exact hx)
  ·rw [List.getElem?_append_right (by omega)] at hx
   have hi2 : i - ms.length = 0 := by
    have := (List.getElem?_eq_some_iff.1 hx).1
    simp at this; omega
   rw [hi2] at hx
   simp at hx
   obtain rfl : i = n := by omega
   rw [← hx]; exact hm
end Go.Proofs.YtiiifecfdkjmbaaGreat
namespace Go.Proofs.YtiiifecfdkjmbaaGreat
set_option maxRecDepth 8000
open Go.ChangeShapes Go.WideShapes Go.ChangeAt Go.RowKit Go.Deep
set_option linter.unusedVariables false
def Szd {H : Type} (t : TypeId) (d : DataW H) : Prop := ∀ n ∈ d.weights Tryz.prog t, n ≤ reachBytes
theorem szd_all {H : Type} {e : TypeId} : ∀ {l : List (DataW H)} {d : DataW H}, d ∈ l → ∀ n ∈ d.weights Tryz.prog e, n ∈ DataW.weightsAll Tryz.prog e l
 | d' :: r, d, hd, n, hn => by
  simp only [DataW.weightsAll, List.mem_append]
  rcases List.mem_cons.1 hd with rfl | h
  ·exact Or.inl hn
  ·exact Or.inr (szd_all h n hn)
theorem Szd.len {H : Type} {t e : TypeId} {el sp : List (DataW H)} (h : Szd t (.slice el sp)) (hu : Tryz.prog.underlying t = some (.slice e)) : (el.length + sp.length) * Tryz.prog.bytesOf e ≤ reachBytes :=
 h _ (by simp [DataW.weights, hu])
theorem Szd.elem {H : Type} {t e : TypeId} {el sp : List (DataW H)} (h : Szd t (.slice el sp)) (hu : Tryz.prog.underlying t = some (.slice e)) {d : DataW H} (hd : d ∈ el) : Szd e d := fun n hn =>
 h n (by simp only [DataW.weights, hu, List.mem_cons, List.mem_append]; exact .inr (.inl (szd_all hd n hn)))
theorem szd_each {H : Type} : ∀ {ts : List TypeId} {ds : List (DataW H)} {j : Nat} {t : TypeId} {d : DataW H}, ts[j]? = some t → ds[j]? = some d → ∀ n ∈ d.weights Tryz.prog t, n ∈ DataW.weightsEach Tryz.prog ts ds :=
 fun ht hd n hn => DataW.weights_mem_each ht hd n hn
theorem Szd.field {H : Type} {t : TypeId} {fs : Array Field} {parts : List (DataW H)} (h : Szd t (.agg parts)) (hu : Tryz.prog.underlying t = some (.struct fs)) {j : Nat} {f : Field} {d : DataW H} (hf : fs[j]? = some f) (hd : parts[j]? = some d) : Szd f.type d := fun n hn =>
 h n (by
  simp only [DataW.weights, hu]
  exact szd_each (j := j) (by simp [hf]) hd n hn)
section
variable {H : Type} {enc : TypeId × Value → H} {W : World} {spare : Nat → Bool} {held : Bool}
theorem ints_cell {fuel : Nat} {v : Value} {x : DataW H × List MemPlace} (h : DataW.trod enc Tryz.prog W 0 spare held fuel 22 [v] = some x) (hs : Szd 22 x.1) : ∃ xs, VInts W v xs := by
 rcases open_slice1 Tryz.underlying22 cellsInt h with ⟨hcs, _⟩ | ⟨a, l, c, m, n, V, D, Pl, hcs, _, hl, hm, hmm, hx, hall⟩
 ·simp at hcs; subst hcs
  exact ⟨[], none, 0, rfl, Nat.le_refl _, ints_nil⟩
 ·simp at hcs; subst hcs
  have hlm : l ≤ m := by rw [hmm]; split <;> omega
  have h8 := (show Szd 22 (.slice _ _) from (by rw [hx] at hs; exact hs)).len Tryz.underlying22
  rw [bytesInt] at h8
  simp only [List.length_map, List.length_range, reachBytes] at h8
  obtain ⟨xs, hl2, hxs⟩ := list_of_each (P := fun i (z : Int) => W.cell? (a.add i) = some (.int .i64 z)) l (fun i hi => by
   obtain ⟨h1, h2⟩ := hall i (by omega)
   obtain ⟨z, e, _⟩ := DataW.trod_int Tryz.underlying3 h2
   simp at e
   exact ⟨z, by rw [h1, e]⟩)
  subst hl2
  refine ⟨xs, some a, c, rfl, hl, rfl, by omega, fun hp => ?_⟩
  obtain ⟨b, off, spot⟩ := a
  obtain ⟨m0, hm0⟩ : ∃ m, xs[0]? = some m := ⟨_, List.getElem?_eq_getElem hp⟩
  have hc0 := hxs 0 m0 hm0
  simp [Addr.add] at hc0
  have hspot : spot = none := by simpa using World.cell?_spot hc0
  subst hspot
  refine ⟨b, off, rfl, block_lt hc0, fun i hi => ?_⟩
  have := hxs i _ (List.getElem?_eq_getElem hi)
  rw [add_at] at this
  rw [this, List.getElem?_eq_getElem hi]; rfl
theorem msgs_cell {fuel : Nat} {v : Value} {x : DataW H × List MemPlace} (h : DataW.trod enc Tryz.prog W 0 spare held fuel 39 [v] = some x) (hs : Szd 39 x.1) : ∃ ms, VMsgs W v ms := by
 rcases open_slice Tryz.underlying39 h with ⟨hcs, _⟩ | ⟨x0, len, cap, m, n, D, Pl, hcs, _, hl, hm, hmm, hx, hall⟩
 ·simp at hcs; subst hcs
  exact ⟨[], none, 0, rfl, Nat.le_refl _, msgs_nil⟩
 ·simp at hcs; subst hcs
  have hlm : len ≤ m := by rw [hmm]; split <;> omega
  have h8 := (show Szd 39 (.slice _ _) from (by rw [hx] at hs; exact hs)).len Tryz.underlying39
  rw [bytesMsg] at h8
  simp only [List.length_map, List.length_range, reachBytes] at h8
  have hmg : ∀ i, i < len → ∃ mg : Mg, ∀ r u, mg.cells[r]? = some u → W.cell? ((x0.add (i * 5)).add r) = some u := by
   intro i hi
   obtain ⟨cs', h1, h2⟩ := hall i (by omega)
   obtain ⟨mg, rfl⟩ := mg_of_cells h2
   rw [cellsMsg] at h1
   refine ⟨mg, fun r u hr => ?_⟩
   have := (World.cells?_some h1).2.2 r (by have := (List.getElem?_eq_some_iff.1 hr).1; simpa [Mg.cells] using this)
   rw [this]; exact hr
  obtain ⟨ms, hl2, hms⟩ := list_of_each len hmg
  subst hl2
  refine ⟨ms, some x0, cap, rfl, hl, rfl, by omega, fun hp => ?_⟩
  obtain ⟨b, off, spot⟩ := x0
  obtain ⟨m0, hm0⟩ : ∃ m, ms[0]? = some m := ⟨_, List.getElem?_eq_getElem (by omega)⟩
  have hc0 := hms 0 m0 hm0 0 _ rfl
  simp [Addr.add] at hc0
  have hspot : spot = none := by simpa using World.cell?_spot hc0
  subst hspot
  refine ⟨b, off, rfl, block_lt hc0, fun j u hj => ?_⟩
  have hjl := (List.getElem?_eq_some_iff.1 hj).1
  rw [flat_length] at hjl
  obtain ⟨mg, hmg'⟩ : ∃ m, ms[j / 5]? = some m := ⟨_, List.getElem?_eq_getElem (by omega)⟩
  have hg := flat_get ms (j / 5) (j % 5) mg hmg' (by omega)
  rw [show j / 5 * 5 + j % 5 = j from by omega, hj] at hg
  have := hms (j / 5) mg hmg' (j % 5) u hg.symm
  rw [add_at, add_at, show off + j / 5 * 5 + j % 5 = off + j from by omega] at this
  exact this
theorem slices_cell {α : Type} {t e : TypeId} {PV : World → Value → α → Prop} (hu : Tryz.prog.underlying t = some (.slice e)) (hc : Tryz.prog.cellsOf e = 1) (hb : Tryz.prog.bytesOf e = 24)
  (hin : ∀ (fuel : Nat) (v : Value) (x : DataW H × List MemPlace), DataW.trod enc Tryz.prog W 0 spare held fuel e [v] = some x → Szd e x.1 → ∃ y, PV W v y)
  {fuel : Nat} {v : Value} {x : DataW H × List MemPlace} (h : DataW.trod enc Tryz.prog W 0 spare held fuel t [v] = some x) (hs : Szd t x.1) : ∃ ys, VSlices PV W v ys := by
 rcases open_slice1 hu hc h with ⟨hcs, _⟩ | ⟨a, l, c, m, n, V, D, Pl, hcs, _, hl, hm, hmm, hx, hall⟩
 ·simp at hcs; subst hcs
  exact ⟨[], none, 0, rfl, Nat.le_refl _, rfl, by simp, fun hp => absurd hp (by simp)⟩
 ·simp at hcs; subst hcs
  have hlm : l ≤ m := by rw [hmm]; split <;> omega
  have hs' : Szd t (.slice ((List.range l).map D) ((List.range (m - l)).map fun j => D (l + j))) := by rw [hx] at hs; exact hs
  have h8 := hs'.len hu
  rw [hb] at h8
  simp only [List.length_map, List.length_range, reachBytes] at h8
  obtain ⟨ys, hl2, hys⟩ := list_of_each (P := fun i (y : α) => ∃ u, W.cell? (a.add i) = some u ∧ PV W u y) l (fun i hi => by
   obtain ⟨h1, h2⟩ := hall i (by omega)
   obtain ⟨y, hy⟩ := hin _ _ _ h2 (hs'.elem hu (by simp only [List.mem_map, List.mem_range]; exact ⟨i, hi, rfl⟩))
   exact ⟨y, _, h1, hy⟩)
  subst hl2
  refine ⟨ys, some a, c, rfl, hl, rfl, by omega, fun hp => ?_⟩
  obtain ⟨b, off, spot⟩ := a
  obtain ⟨m0, hm0⟩ : ∃ m, ys[0]? = some m := ⟨_, List.getElem?_eq_getElem hp⟩
  obtain ⟨u0, hc0, _⟩ := hys 0 m0 hm0
  simp [Addr.add] at hc0
  have hspot : spot = none := by simpa using World.cell?_spot hc0
  subst hspot
  refine ⟨b, off, rfl, block_lt hc0, fun i y hy => ?_⟩
  obtain ⟨u, h1, h2⟩ := hys i y hy
  rw [add_at] at h1
  exact ⟨u, h1, h2⟩
theorem cellsInts : Tryz.prog.cellsOf 22 = 1 := by kernel_rfl
theorem cellsIntss : Tryz.prog.cellsOf 43 = 1 := by kernel_rfl
theorem cellsMsgs : Tryz.prog.cellsOf 39 = 1 := by kernel_rfl
theorem cellsMsgss : Tryz.prog.cellsOf 40 = 1 := by kernel_rfl
theorem cellsMsgsss : Tryz.prog.cellsOf 24 = 1 := by kernel_rfl
theorem cellsNode : Tryz.prog.cellsOf 45 = 4 := by kernel_rfl
theorem cellsNodes : Tryz.prog.cellsOf 23 = 1 := by kernel_rfl
theorem cellsWorld : Tryz.prog.cellsOf 26 = 3 := by kernel_rfl
theorem bytesInts : Tryz.prog.bytesOf 22 = 24 := by kernel_rfl
theorem bytesMsgs : Tryz.prog.bytesOf 39 = 24 := by kernel_rfl
theorem bytesMsgss : Tryz.prog.bytesOf 40 = 24 := by kernel_rfl
theorem bytesNode : Tryz.prog.bytesOf 45 = 80 := by kernel_rfl
theorem nd_of_cells {fuel : Nat} {cs : List Value} {x : DataW H × List MemPlace} (h : DataW.trod enc Tryz.prog W 0 spare held fuel 45 cs = some x) (hs : Szd 45 x.1) :
  ∃ (nd : Nd) (v1 v2 v3 : Value), cs = [.int .i64 nd.clock, v1, v2, v3] ∧ VSlices VInts W v1 nd.last ∧ VMsgs W v2 nd.held ∧ VMsgs W v3 nd.told := by
 obtain ⟨xs, n, _, hx, hl, hlen, hf⟩ := DataW.trod_struct Tryz.underlying45 h
 rw [cellsNode] at hl
 match cs, hl with
 | [c0, c1, c2, c3], _ =>
  have g0 := hf 0 _ rfl
  have g1 := hf 1 _ rfl
  have g2 := hf 2 _ rfl
  have g3 := hf 3 _ rfl
  simp [cellsInt] at g0
  simp [cellsIntss] at g1
  simp [cellsMsgs] at g2 g3
  simp at hlen
  match xs, hlen with
  | [x0, x1, x2, x3], _ =>
   simp at g0 g1 g2 g3
   have hs' : Szd 45 (.agg [x0.1, x1.1, x2.1, x3.1]) := by rw [hx] at hs; exact hs
   obtain ⟨a0, e0, _⟩ := DataW.trod_int Tryz.underlying3 g0
   obtain ⟨l1, h1⟩ := slices_cell Tryz.underlying43 cellsInts bytesInts (fun _ _ _ h hs => ints_cell h hs) g1 (hs'.field Tryz.underlying45 (j := 1) rfl rfl)
   obtain ⟨l2, h2⟩ := msgs_cell g2 (hs'.field Tryz.underlying45 (j := 2) rfl rfl)
   obtain ⟨l3, h3⟩ := msgs_cell g3 (hs'.field Tryz.underlying45 (j := 3) rfl rfl)
   simp at e0
   exact ⟨⟨a0, l1, l2, l3⟩, c1, c2, c3, by rw [e0], h1, h2, h3⟩
theorem nodes_cell {fuel : Nat} {v : Value} {x : DataW H × List MemPlace} (h : DataW.trod enc Tryz.prog W 0 spare held fuel 23 [v] = some x) (hs : Szd 23 x.1) :
  ∃ (a : Option Addr) (cap : Nat) (ns : List Nd), v = .slice a ns.length cap ∧ ns.length ≤ cap ∧ Nodes W a ns.length ns := by
 rcases open_slice Tryz.underlying23 h with ⟨hcs, _⟩ | ⟨x0, len, cap, m, n, D, Pl, hcs, _, hl, hm, hmm, hx, hall⟩
 ·simp at hcs; subst hcs
  exact ⟨none, 0, [], rfl, Nat.le_refl _, rfl, by simp, fun hp => absurd hp (by simp)⟩
 ·simp at hcs; subst hcs
  have hlm : len ≤ m := by rw [hmm]; split <;> omega
  have hs' : Szd 23 (.slice ((List.range len).map D) ((List.range (m - len)).map fun j => D (len + j))) := by rw [hx] at hs; exact hs
  have h8 := hs'.len Tryz.underlying23
  rw [bytesNode] at h8
  simp only [List.length_map, List.length_range, reachBytes] at h8
  obtain ⟨ns, hl2, hns⟩ := list_of_each (P := fun i (nd : Nd) => ∃ v1 v2 v3 : Value, W.cell? ((x0.add (i * 4)).add 0) = some (.int .i64 nd.clock) ∧ W.cell? ((x0.add (i * 4)).add 1) = some v1 ∧ W.cell? ((x0.add (i * 4)).add 2) = some v2 ∧ W.cell? ((x0.add (i * 4)).add 3) = some v3
    ∧ VSlices VInts W v1 nd.last ∧ VMsgs W v2 nd.held ∧ VMsgs W v3 nd.told) len (fun i hi => by
   obtain ⟨cs', h1, h2⟩ := hall i (by omega)
   obtain ⟨nd, v1, v2, v3, rfl, k1, k2, k3⟩ := nd_of_cells h2 (hs'.elem Tryz.underlying23 (by simp only [List.mem_map, List.mem_range]; exact ⟨i, hi, rfl⟩))
   rw [cellsNode] at h1
   have hc := (World.cells?_some h1).2.2
   exact ⟨nd, v1, v2, v3, hc 0 (by simp), hc 1 (by simp), hc 2 (by simp), hc 3 (by simp), k1, k2, k3⟩)
  subst hl2
  refine ⟨some x0, cap, ns, rfl, hl, rfl, by omega, fun hp => ?_⟩
  obtain ⟨b, off, spot⟩ := x0
  obtain ⟨m0, hm0⟩ : ∃ m, ns[0]? = some m := ⟨_, List.getElem?_eq_getElem hp⟩
  obtain ⟨_, _, _, hc0, _⟩ := hns 0 m0 hm0
  simp [Addr.add] at hc0
  have hspot : spot = none := by simpa using World.cell?_spot hc0
  subst hspot
  refine ⟨b, off, rfl, block_lt hc0, fun i nd hnd => ?_⟩
  obtain ⟨v1, v2, v3, c0, c1, c2, c3, k1, k2, k3⟩ := hns i nd hnd
  rw [add_at, add_at] at c0 c1 c2 c3
  exact ⟨c0, ⟨v1, c1, k1⟩, ⟨v2, c2, k2⟩, ⟨v3, c3, k3⟩⟩
end
theorem wat_of_trod {H : Type} {enc : TypeId × Value → H} {W : World} {base : Nat} {v : Value} {d : DataW H} {p : List MemPlace} (hv : Value.okWide Tryz.prog W .any base 26 v) (h : DataW.Trod enc Tryz.prog W 0 (fun _ => true) true 26 v d p) (hs : Szd 26 d) :
  ∃ (x : WV) (dd : Wd), v = .agg #[.slice x.ga x.gl x.gc, .slice x.na x.nl x.nc, .slice x.wa x.wl x.wc] ∧ WAt W x dd := by
 obtain ⟨cs, rfl, _⟩ := okWide_struct Tryz.underlying26 hv
 obtain ⟨fuel, hf0⟩ := h
 have hf1 : DataW.trod enc Tryz.prog W 0 (fun _ => true) true fuel 26 cs.toList = some (d, p) := by simpa [Value.cells] using hf0
 obtain ⟨xs, n, _, hx, hl, hlen, hf⟩ := DataW.trod_struct Tryz.underlying26 hf1
 rw [cellsWorld] at hl
 obtain ⟨l⟩ := cs
 simp only at hl hf
 match l, hl with
 | [c0, c1, c2], _ =>
  have g0 := hf 0 _ rfl
  have g1 := hf 1 _ rfl
  have g2 := hf 2 _ rfl
  simp [cellsInts] at g0
  simp [cellsNodes] at g1
  simp [cellsMsgsss] at g2
  simp at hlen
  match xs, hlen with
  | [x0, x1, x2], _ =>
   simp at g0 g1 g2
   have hd := (Prod.mk.inj hx).1
   have hs' : Szd 26 (.agg [x0.1, x1.1, x2.1]) := by rw [hd] at hs; exact hs
   obtain ⟨gs, ga, gc, rfl, hg, hG⟩ := ints_cell g0 (hs'.field Tryz.underlying26 (j := 0) rfl rfl)
   obtain ⟨na, nc, ns, rfl, hn, hN⟩ := nodes_cell g1 (hs'.field Tryz.underlying26 (j := 1) rfl rfl)
   obtain ⟨ws, wa, wc, rfl, hw, hR⟩ := slices_cell Tryz.underlying24 cellsMsgss bytesMsgss (fun _ _ _ h hs => slices_cell Tryz.underlying40 cellsMsgs bytesMsgs (fun _ _ _ h hs => msgs_cell h hs) h hs) g2 (hs'.field Tryz.underlying26 (j := 2) rfl rfl)
   exact ⟨⟨ga, gs.length, gc, na, ns.length, nc, wa, ws.length, wc⟩, ⟨gs, ns, ws⟩, rfl, hG, hg, hN, hn, hR, hw⟩
end Go.Proofs.YtiiifecfdkjmbaaGreat
namespace Go.Proofs.YtiiifecfdkjmbaaGreat
set_option maxRecDepth 8000
open Go.ChangeShapes Go.WideShapes
set_option linter.unusedVariables false
theorem wordsSigns_ne : ∀ l : List Char, wordsSigns l ≠ []
 | [] => by simp [wordsSigns]
 | c :: r => by
  by_cases h : c = Char.ofNat 32
  ·subst h; simp [wordsSigns]
  ·unfold wordsSigns
   split
   ·simp
   ·simp
   ·split <;> simp
theorem wordsSigns_app (b : List Char) : ∀ a : List Char, wordsSigns (a ++ Char.ofNat 32 :: b) = wordsSigns a ++ wordsSigns b
 | [] => by simp [wordsSigns]
 | c :: r => by
  have ih := wordsSigns_app b r
  by_cases h : c = Char.ofNat 32
  ·subst h
   show wordsSigns (Char.ofNat 32 :: (r ++ Char.ofNat 32 :: b)) = wordsSigns (Char.ofNat 32 :: r) ++ wordsSigns b
   simp only [wordsSigns, ih, List.cons_append]
  ·show wordsSigns (c :: (r ++ Char.ofNat 32 :: b)) = wordsSigns (c :: r) ++ wordsSigns b
   rw [wordsSigns.eq_3 c (r ++ Char.ofNat 32 :: b) h, wordsSigns.eq_3 c r h, ih]
   cases hr : wordsSigns r with
   | nil => exact absurd hr (wordsSigns_ne r)
   | cons w ws => rfl
theorem head_gen (L : List Char) (h1 : L.take 77 = L.take 76 ++ [Char.ofNat 32]) (h2 : ∀ R, behindMainWord (wordsSigns (L.take 76) ++ R) = "cut".toList :: R) : ∃ R, behindMainWord (wordsSigns L) = "cut".toList :: R := by
 have h : L = L.take 76 ++ Char.ofNat 32 :: L.drop 77 := by
  have h3 := List.take_append_drop 77 L
  rw [h1, List.append_assoc] at h3
  exact h3.symm
 have h4 := wordsSigns_app (L.drop 77) (L.take 76)
 rw [← h] at h4
 exact ⟨wordsSigns (L.drop 77), by rw [h4]; exact h2 _⟩
def initCs : List Char := ([104, 97, 114, 110, 101, 115, 115, 32, 56, 53, 50, 52, 100, 48, 55, 51, 53, 49, 48, 56, 54, 49, 55, 49, 98, 52, 57, 102, 53, 102, 98, 102, 101, 50, 98, 50, 57, 54, 48, 57, 101, 98, 54, 98, 100, 101, 55, 100, 53, 100, 100, 102, 97, 52, 98, 57, 57, 57, 50, 53, 49, 101, 49, 98, 57, 99, 57, 53, 99, 54, 56, 54, 32, 99, 117, 116, 32, 97, 116, 32, 102, 117, 114, 108, 111, 110, 103, 47, 102, 117, 114, 108, 111, 110, 103, 108, 97, 119, 46, 67, 97, 115, 116, 83, 101, 110, 100, 115, 32, 102, 117, 114, 108, 111, 110, 103, 47, 102, 117, 114, 108, 111, 110, 103, 108, 97, 119, 46, 67, 97, 115, 116, 78, 117, 108, 108, 115, 32, 102, 117, 114, 108, 111, 110, 103, 47, 102, 117, 114, 108, 111, 110, 103, 108, 97, 119, 46, 77, 111, 118, 101, 79, 110, 101, 115, 32, 102, 117, 114, 108, 111, 110, 103, 47, 102, 117, 114, 108, 111, 110, 103, 108, 97, 119, 46, 77, 111, 118, 101, 87, 105, 114, 101, 115, 32, 102, 117, 114, 108, 111, 110, 103, 47, 102, 117, 114, 108, 111, 110, 103, 108, 97, 119, 46, 77, 111, 118, 101, 84, 114, 117, 101, 32, 102, 117, 114, 108, 111, 110, 103, 47, 102, 117, 114, 108, 111, 110, 103, 108, 97, 119, 46, 67, 97, 108, 109, 84, 101, 108, 108, 115, 32, 102, 117, 114, 108, 111, 110, 103, 47, 102, 117, 114, 108, 111, 110, 103, 108, 97, 119, 46, 67, 97, 108, 109, 67, 97, 108, 109, 115, 32, 102, 117, 114, 108, 111, 110, 103, 47, 102, 117, 114, 108, 111, 110, 103, 108, 97, 119, 46, 67, 97, 108, 109, 84, 114, 117, 101, 32, 102, 117, 114, 108, 111, 110, 103, 47, 102, 117, 114, 108, 111, 110, 103, 108, 97, 119, 46, 67, 97, 108, 109, 65, 108, 108, 32, 102, 117, 114, 108, 111, 110, 103, 47, 102, 117, 114, 108, 111, 110, 103, 108, 97, 119, 46, 66, 111, 117, 110, 100, 71, 114, 111, 119, 115, 32, 102, 117, 114, 108, 111, 110, 103, 47, 102, 117, 114, 108, 111, 110, 103, 108, 97, 119, 46, 65, 103, 114, 101, 101, 84, 101, 108, 108, 115, 32, 102, 117, 114, 108, 111, 110, 103, 47, 102, 117, 114, 108, 111, 110, 103, 108, 97, 119, 46, 65, 103, 114, 101, 101, 65, 108, 108, 32, 102, 117, 114, 108, 111, 110, 103, 47, 102, 117, 114, 108, 111, 110, 103, 108, 97, 119, 46, 65, 103, 114, 101, 101, 79, 114, 100, 101, 114, 32, 102, 117, 114, 108, 111, 110, 103, 47, 102, 117, 114, 108, 111, 110, 103, 108, 97, 119, 46, 65, 103, 114, 101, 101, 71, 114, 111, 119, 115, 32, 102, 117, 114, 108, 111, 110, 103, 47, 102, 117, 114, 108, 111, 110, 103, 108, 97, 119, 46, 65, 103, 114, 101, 101, 83, 97, 102, 101, 32, 102, 117, 114, 108, 111, 110, 103, 47, 102, 117, 114, 108, 111, 110, 103, 108, 97, 119, 46, 76, 111, 103, 68, 111, 101, 115, 32, 102, 117, 114, 108, 111, 110, 103, 47, 102, 117, 114, 108, 111, 110, 103, 108, 97, 119, 46, 76, 111, 103, 82, 101, 112, 108, 97, 121, 115, 32, 102, 117, 114, 108, 111, 110, 103, 47, 102, 117, 114, 108, 111, 110, 103, 108, 97, 119, 46, 76, 111, 103, 82, 101, 99, 111, 118, 101, 114, 115, 32, 102, 117, 114, 108, 111, 110, 103, 47, 102, 117, 114, 108, 111, 110, 103, 108, 97, 119, 46, 76, 111, 103, 75, 101, 112, 116, 32, 102, 117, 114, 108, 111, 110, 103, 47, 102, 117, 114, 108, 111, 110, 103, 108, 97, 119, 46, 76, 111, 103, 77, 111, 114, 101, 32, 102, 117, 114, 108, 111, 110, 103, 47, 102, 117, 114, 108, 111, 110, 103, 108, 97, 119, 46, 76, 111, 103, 82, 105, 103, 104, 116, 32, 102, 117, 114, 108, 111, 110, 103, 47, 102, 117, 114, 108, 111, 110, 103, 108, 97, 119, 46, 67, 97, 117, 115, 101, 77, 97, 114, 107, 115, 32, 102, 117, 114, 108, 111, 110, 103, 47, 102, 117, 114, 108, 111, 110, 103, 108, 97, 119, 46, 67, 97, 117, 115, 101, 84, 111, 108, 100, 32, 102, 117, 114, 108, 111, 110, 103, 47, 102, 117, 114, 108, 111, 110, 103, 108, 97, 119, 46, 87, 105, 114, 101, 87, 114, 105, 116, 101, 115, 32, 102, 117, 114, 108, 111, 110, 103, 47, 102, 117, 114, 108, 111, 110, 103, 108, 97, 119, 46, 82, 101, 115, 116, 87, 111, 114, 108, 100, 115] : List Nat).map Char.ofNat
theorem init_eq : Tryz.prog.initOrder = String.ofList initCs := by kernel_rfl
theorem init_list : Tryz.prog.initOrder.toList = initCs := (congrArg String.toList init_eq).trans String.toList_ofList
theorem head_cs : ∃ R, behindMainWord (wordsSigns initCs) = "cut".toList :: R := head_gen _ (by kernel_rfl) (fun R => by kernel_rfl)
theorem head_ws : ∃ R, behindMainWord (wordsSigns Tryz.prog.initOrder.toList) = "cut".toList :: R := by rw [init_list]; exact head_cs
-- (stated of any program: 'unfold' at the program itself parts the whole row)
theorem strip_cut (R : List (List Char)) : stripLifts liftWords ("cut".toList :: R) = ([], "cut".toList :: R) := by kernel_rfl
theorem may_gen (P : Program) (R : List (List Char)) (h : behindMainWord (wordsSigns P.initOrder.toList) = "cut".toList :: R) (h1 : P.laysLater = false) (h2 : P.bearsReflect = false) (h3 : P.doorFits [] = true) : P.mayEnter = true := by
 unfold Program.mayEnter
 rw [h]
 simp only [strip_cut, h1, h2, h3]
 kernel_rfl
theorem lifts_gen (P : Program) (R : List (List Char)) (h : behindMainWord (wordsSigns P.initOrder.toList) = "cut".toList :: R) : P.liftsFinal = false := by
 unfold Program.liftsFinal Program.headLifts
 simp only [h, strip_cut]
 kernel_rfl
theorem make_gen (P : Program) (R : List (List Char)) (h : behindMainWord (wordsSigns P.initOrder.toList) = "cut".toList :: R) : P.make = some .cut := by
 unfold Program.make
 simp only [h]
 kernel_rfl
theorem may_t : Tryz.prog.mayEnter = true := by
 obtain ⟨R, h⟩ := head_ws
 exact may_gen _ R h (by kernel_rfl) (by kernel_rfl) (by kernel_rfl)
theorem lifts_f : Tryz.prog.liftsFinal = false := by
 obtain ⟨R, h⟩ := head_ws
 exact lifts_gen _ R h
theorem make_c : Tryz.prog.make = some .cut := by
 obtain ⟨R, h⟩ := head_ws
 exact make_gen _ R h
end Go.Proofs.YtiiifecfdkjmbaaGreat
