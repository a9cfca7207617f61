/- Messages that are handed in, opened for a walk: their numbers and texts, and how many there may be. -/
import Derived.Test.YtbkfpdohgjnegaaMsg
import Derived.Test.YtbkfpdohgjnegaaMsgPut
import Derived.Test.YtbkfpdohgjnegaaOpen
import Derived.Deep.Slices
namespace Go.Proofs.Ytbkfpdohgjnegaa
set_option maxRecDepth 8000
open Go.ChangeShapes Go.WideShapes Go.ChangeAt Go.RowKit Go.Deep
set_option linter.unusedVariables false

theorem bytesMsg : Try.prog.bytesOf 31 = 48 := by kernel_rfl
theorem cellsMsg : Try.prog.cellsOf 31 = 5 := by kernel_rfl
theorem cellsInt : Try.prog.cellsOf 3 = 1 := by kernel_rfl
theorem cellsBool : Try.prog.cellsOf 4 = 1 := by kernel_rfl
theorem cellsStr : Try.prog.cellsOf 9 = 1 := by kernel_rfl

theorem mg_of_cells {H : Type} {enc : TypeId × Value → H} {W : World} {base fuel : Nat} {spare : Nat → Bool} {held : Bool} {cs : List Value} {x : DataW H × List MemPlace}
    (h : DataW.trod enc Try.prog W base spare held fuel 31 cs = some x) : ∃ m : Mg, cs = m.cells := by
  obtain ⟨xs, n, _, _, hl, hlen, hf⟩ := DataW.trod_struct Try.underlying31 h
  rw [cellsMsg] at hl
  match cs, hl with
  | [c0, c1, c2, c3, c4], _ =>
    have g0 := hf 0 _ rfl
    have g1 := hf 1 _ rfl
    have g2 := hf 2 _ rfl
    have g3 := hf 3 _ rfl
    have g4 := hf 4 _ rfl
    simp [cellsInt] at g0 g1 g2
    simp [cellsBool] at g3
    simp [cellsStr] at g4
    simp at hlen
    rw [List.getElem?_eq_getElem (by rw [hlen]; omega)] at g0 g1 g2 g3 g4
    obtain ⟨a0, e0, _⟩ := DataW.trod_int Try.underlying3 g0
    obtain ⟨a1, e1, _⟩ := DataW.trod_int Try.underlying3 g1
    obtain ⟨a2, e2, _⟩ := DataW.trod_int Try.underlying3 g2
    obtain ⟨a3, e3, _⟩ := DataW.trod_bool Try.underlying4 g3
    obtain ⟨a4, e4, _⟩ := DataW.trod_string Try.underlying9 g4
    simp at e0 e1 e2 e3 e4
    exact ⟨⟨a0, a1, a2, a3, a4⟩, by rw [e0, e1, e2, e3, e4]; rfl⟩

theorem list_of_each {α : Type} {P : Nat → α → Prop} : ∀ (n : Nat), (∀ i, i < n → ∃ m, P i m) → ∃ ms : List α, ms.length = n ∧ ∀ i m, ms[i]? = some m → P i m
  | 0, _ => ⟨[], rfl, fun i m h => by simp at h⟩
  | n + 1, h => by
    obtain ⟨ms, hl, hp⟩ := list_of_each n (fun i hi => h i (by omega))
    obtain ⟨m, hm⟩ := h n (by omega)
    refine ⟨ms ++ [m], by simp [hl], fun i x hx => ?_⟩
    by_cases hi : i < ms.length
    · exact hp i x (by rw [List.getElem?_append_left hi] at hx; exact hx)
    · rw [List.getElem?_append_right (by omega)] at hx
      have hi2 : i - ms.length = 0 := by
        have := (List.getElem?_eq_some_iff.1 hx).1
        simp at this; omega
      rw [hi2] at hx
      simp at hx
      obtain rfl : i = n := by omega
      rw [← hx]; exact hm

theorem msg_of_trod {H : Type} {enc : TypeId × Value → H} {W : World} {base : Nat} {v : Value} {d : DataW H} {p : List MemPlace} (hv : Value.okWide Try.prog W .any base 31 v) (h : DataW.Trod enc Try.prog W 0 (fun _ => true) true 31 v d p) :
    ∃ m : Mg, v = .agg #[.int .i64 m.fr, .int .i64 m.gr, .int .i64 m.st, .bool m.nul, .string m.body] := by
  obtain ⟨cs, rfl, _⟩ := okWide_struct Try.underlying31 hv
  obtain ⟨fuel, hf⟩ := h
  obtain ⟨m, hm⟩ := mg_of_cells hf
  refine ⟨m, ?_⟩
  have : cs = m.cells.toArray := by rw [← hm]; simp [Value.cells]
  rw [this]; rfl

theorem msgs_of_trod {H : Type} {enc : TypeId × Value → H} {W : World} {a : Option Addr} {len cap : Nat} {d : DataW H} {p : List MemPlace} (h : DataW.Trod enc Try.prog W 0 (fun _ => true) true 35 (.slice a len cap) d p)
    (hsz : ∀ el sp, d = .slice el sp → (el.length + sp.length) * 48 ≤ reachBytes) : ∃ ms, Msgs W a len ms ∧ len ≤ cap := by
  obtain ⟨fuel, hf⟩ := h
  rcases open_slice Try.underlying35 hf with ⟨hcs, _⟩ | ⟨x, l, c, m, n, D, Pl, hcs, _, hl, hm, hmm, hx, hall⟩
  · simp [Value.cells] at hcs
    obtain ⟨rfl, rfl, rfl⟩ := hcs
    exact ⟨[], msgs_nil, Nat.le_refl _⟩
  · simp [Value.cells] at hcs
    obtain ⟨rfl, rfl, rfl⟩ := hcs
    simp at hmm
    subst hmm
    have hd := (Prod.mk.inj hx).1
    have h8 := hsz _ _ hd
    simp only [List.length_map, List.length_range, reachBytes] at h8
    have hmg : ∀ i, i < len → ∃ mg : Mg, ∀ r u, mg.cells[r]? = some u → W.cell? ((x.add (i * 5)).add r) = some u := by
      intro i hi
      obtain ⟨cs', h1, h2⟩ := hall i (by omega)
      obtain ⟨mg, rfl⟩ := mg_of_cells h2
      rw [cellsMsg] at h1
      refine ⟨mg, fun r u hr => ?_⟩
      have := (World.cells?_some h1).2.2 r (by have := (List.getElem?_eq_some_iff.1 hr).1; simpa [Mg.cells] using this)
      rw [this]; exact hr
    obtain ⟨ms, hl2, hms⟩ := list_of_each len hmg
    refine ⟨ms, ⟨hl2, by omega, fun hp => ?_⟩, hl⟩
    obtain ⟨b, off, spot⟩ := x
    obtain ⟨m0, hm0⟩ : ∃ m, ms[0]? = some m := ⟨_, List.getElem?_eq_getElem (by omega)⟩
    have hc0 := hms 0 m0 hm0 0 _ rfl
    simp [Addr.add] at hc0
    have hspot : spot = none := by simpa using World.cell?_spot hc0
    subst hspot
    refine ⟨b, off, rfl, block_lt hc0, fun j u hj => ?_⟩
    have hjl := (List.getElem?_eq_some_iff.1 hj).1
    rw [flat_length] at hjl
    obtain ⟨mg, hmg'⟩ : ∃ m, ms[j / 5]? = some m := ⟨_, List.getElem?_eq_getElem (by omega)⟩
    have hg := flat_get ms (j / 5) (j % 5) mg hmg' (by omega)
    rw [show j / 5 * 5 + j % 5 = j from by omega, hj] at hg
    have := hms (j / 5) mg hmg' (j % 5) u hg.symm
    rw [add_at, add_at, show off + j / 5 * 5 + j % 5 = off + j from by omega] at this
    exact this
end Go.Proofs.Ytbkfpdohgjnegaa
