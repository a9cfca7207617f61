/- What telling does in a sea: plain data, memory, tell.follows; conditions: lists that rise, the node is there. Contract of tell.follows; conditions: short lists. Contracts of what tell.Node does in a sea, and of tell.Node; conditions: the world reads as one. -/
import Derived.Test.YtiiifecfdkjmbaaGreatDFar
import Derived.Test.YtiiifecfdkjmbaaGreatDSDo
namespace Go.Proofs.YtiiifecfdkjmbaaGreat
set_option maxRecDepth 8000
open Go.RowKit Go.Shelf
open _root_.Go.Proofs.YtiiifecfdkjmbaaGreat.Pure
set_option linter.unusedVariables false
set_option linter.unusedSimpArgs false
theorem SeaB.step {lo : Nat} {w w' : World} {p : Nat} {d d' : Wd} {L L' : Lay} {m : Int} (h : SeaB lo w p d L m) (hM : MadeW lo w' p d' L') (st : StepW w w' d L d' L') : SeaB lo w' p d' L' m := by
 have hb := (st.beside h.made.box.lt h.made.off).1
 exact ⟨hM, h.lop, (World.cell?_of_block (a := ⟨p, 3, none⟩) hb).trans h.cm, (World.frozen?_of_block (a := ⟨p, 3, none⟩) hb).trans h.zm⟩
theorem StepW.up {lo : Nat} {w w' : World} {d d' : Wd} {L L' : Lay} (hO : OwnW lo w d L) (st : StepW w w' d L d' L') (X : Nat → Prop) : Fr (Up lo X) w w' :=
 st.fr.mono (fun i _ hb => .inl (by have := (hO.blk hb).1; omega))
theorem SeaB.many {lo : Nat} {w : World} {p : Nat} {d : Wd} {L : Lay} {m : Int} (h : SeaB lo w p d L m) (k : Int) : SeaB lo (w.setCell ⟨p, 3, none⟩ (.int .i64 k)) p d L k := by
 have hB := h.made.box
 exact ⟨⟨h.made.own.setOff h.made.off _, ⟨by have := hB.lt; simpa using this, (set_ne _ _ _ (by decide)).trans hB.c0, (set_ne _ _ _ (by decide)).trans hB.c1, (set_ne _ _ _ (by decide)).trans hB.c2, by rw [World.frozen?_setCell]; exact hB.z0, by rw [World.frozen?_setCell]; exact hB.z1, by rw [World.frozen?_setCell]; exact hB.z2⟩, h.made.off⟩, h.lop, set_eq _ _ _ _ h.cm, by rw [World.frozen?_setCell]; exact h.zm⟩
theorem flat_drop (ms : List Mg) {k : Nat} (hk : k ≤ ms.length) : (flat ms).drop (k * 5) = flat (ms.drop k) := by
 have h : flat ms = flat (ms.take k) ++ flat (ms.drop k) := by rw [← flat_append, List.take_append_drop]
 rw [h, List.drop_left' (by rw [flat_length, List.length_take]; omega)]
def cutSl (s : Sl) (m : Nat) : Sl := if m = s.cap then ⟨s.a, 0⟩ else ⟨s.a.map fun a => ⟨a.block, a.off + m * 5, a.spot⟩, s.cap - m⟩
theorem Row.cut {w : World} {lo : Nat} {s : Sl} {ms : List Mg} {k : Nat} (h : Row w lo 5 s ms.length (flat ms)) (hk : k ≤ ms.length) : Row w lo 5 (cutSl s k) (ms.drop k).length (flat (ms.drop k)) ∧ ∀ c, (cutSl s k).blk = some c → s.blk = some c := by
 have hcap := h.cap
 unfold cutSl
 split
 ·rename_i e
  have hkl : k = ms.length := by omega
  have hd : ms.drop k = [] := List.drop_eq_nil_of_le (by omega)
  rw [hd]
  refine ⟨⟨by simp [flat], Nat.le_refl _, Nat.zero_le _, fun _ => ?_, fun h => absurd h (by simp)⟩, fun c hc => by unfold Sl.blk at hc; simp at hc⟩
  by_cases h0 : s.cap = 0
  ·exact h.bare h0
  ·obtain ⟨b, off, e, _⟩ := h.body (by omega); exact .inr ⟨b, off, e⟩
 ·rename_i e
  have hlt : k < s.cap := by omega
  obtain ⟨b, off, ea, hb⟩ := h.body (by omega)
  obtain ⟨a, cap⟩ := s
  dsimp only at ea hlt hcap ⊢
  subst ea
  have := h.drop k hk hlt
  rw [flat_drop ms hk] at this
  refine ⟨by simpa using this, fun c hc => ?_⟩
  unfold Sl.blk at hc ⊢
  dsimp only at hc ⊢
  rw [if_neg (by omega)] at hc
  rw [if_neg (by omega)]
  simpa using hc
end Go.Proofs.YtiiifecfdkjmbaaGreat
namespace Go.Proofs.YtiiifecfdkjmbaaGreat
set_option maxRecDepth 8000
open Go.RowKit Go.Shelf
open _root_.Go.Proofs.YtiiifecfdkjmbaaGreat.Pure
set_option linter.unusedVariables false
set_option linter.unusedSimpArgs false
end Go.Proofs.YtiiifecfdkjmbaaGreat
namespace Go.Proofs.YtiiifecfdkjmbaaGreat
set_option maxRecDepth 8000
open Go.RowKit Go.Shelf
open _root_.Go.Proofs.YtiiifecfdkjmbaaGreat.Pure
set_option linter.unusedVariables false
set_option linter.unusedSimpArgs false
theorem set_set {d : Wd} {n : Nat} (a b : Nd) : setNode (setNode d n a) n b = setNode d n b := by unfold setNode; simp
abbrev Res3 (w : World) (r : Except Int (Wd × Int)) (e : Ending) (w' : World) : Prop := ResDo (fun _ => False) w r e w'
theorem res3_err {w : World} {er : Int} {w' : World} (hS : Since w w') : Res3 w (.error er) (.returned (.tuple #[.agg #[.slice none 0 0, .slice none 0 0, .slice none 0 0], .int .i64 0, .int .i64 er])) w' :=
 ⟨fun _ h => (by cases h; exact ⟨rfl, hS.fr _⟩), fun _ _ h => (by cases h)⟩
theorem res3_ok {w : World} {d : Wd} {m : Int} {L : Lay} {w' : World} (hO : OwnW w.heap.size w' d L) (hS : Since w w') : Res3 w (.ok (d, m)) (.returned (.tuple #[wval L d, .int .i64 m, .int .i64 0])) w' :=
 ⟨fun _ h => (by cases h), fun _ _ h => (by cases h; exact ⟨L, rfl, hO, hS.fr _⟩)⟩
theorem Fr.none {w w' : World} (h : Fr (fun _ => False) w w') : Since w w' := h.since (fun _ _ x => x)
end Go.Proofs.YtiiifecfdkjmbaaGreat
