/- Contracts of world.must, world.isStamp, and of what they lean on; no condition but that the slice of answers reads so. -/
import Derived.WalkLawsBesides
import Derived.Test.YtiiifecfdkjmbaaGreatDRange
namespace Go.Proofs.YtiiifecfdkjmbaaGreat
set_option maxRecDepth 8000
open Go.RowKit Go.Shelf
def mustE (e : Int) (b : Bool) : Ending := if b then .returned (.tuple #[]) else .panicked [{ v := .iface 27 (.int .i64 e), recovered := false }]
theorem index_false (b off cap : Nat) (bs : List Bool) (hmax : bs.length ≤ 1000) (w : World) (hc : ∀ i x, bs[i]? = some x → w.cell? ⟨b, off + i, none⟩ = some (.bool x)) :
  Calls Tryz.prog 220 #[.slice (some ⟨b, off, none⟩) bs.length cap, .bool false] w fun e w' => (∃ r : Int, e = .returned (.int .i64 r) ∧ decide (0 ≤ r) = !bs.all id) ∧ w' = w := by
 go_enter Tryz.func220, Tryz.ntmps220
 go_wp2_with fail
 go_loop [5, 8] (fun _ i => ∃ k : Nat, k ≤ bs.length ∧ i = .int .i64 k ∧ (bs.take k).all id = true) (fun _ i => bs.length - (intOf i).toNat)
 case atStart => exact ⟨0, Nat.zero_le _, rfl, rfl⟩
 case round =>
  obtain ⟨k, hk, rfl, hn⟩ := hrel
  have HN : Hid ((bs.take k).all id = true) := hn
  clear hn
  by_cases hlt : k < bs.length
  ·obtain ⟨x, hx⟩ : ∃ x, bs[k]? = some x := ⟨_, List.getElem?_eq_getElem hlt⟩
   have hcx := hc k x hx
   have HX : Hid (bs[k]? = some x) := hx
   clear hc hx
   cases x
   ·have HF : Hid (bs.all id = false) := by
     unfold Hid; rw [List.all_eq_false]; exact ⟨false, List.mem_of_getElem? HX.out, by simp⟩
    go_wp2
    go_ret
    exact ⟨⟨_, rfl, by rw [HF.out]; simp⟩, rfl⟩
   ·go_wp2
    go_round
    case rel =>
     refine ⟨k + 1, by omega, by go_num, ?_⟩
     rw [List.take_add_one, List.all_append, HN.out, HX.out]; rfl
    case measure => simp [intOf]; omega
  ·have HF : Hid (bs.all id = true) := by have := HN.out; rw [List.take_of_length_le (by omega)] at this; exact this
   clear hc
   go_wp2
   go_ret
   exact ⟨⟨_, rfl, by rw [HF.out]; rfl⟩, rfl⟩
theorem contains_false (b off cap : Nat) (bs : List Bool) (hmax : bs.length ≤ 1000) (w : World) (hc : ∀ i x, bs[i]? = some x → w.cell? ⟨b, off + i, none⟩ = some (.bool x)) :
  Calls Tryz.prog 195 #[.slice (some ⟨b, off, none⟩) bs.length cap, .bool false] w fun e w' => e = .returned (.bool !bs.all id) ∧ w' = w := by
 go_enter Tryz.func195, Tryz.ntmps195
 go_wp2_with (go_at_call 220; refine (index_false _ _ _ bs hmax _ hc).mono ?_; rintro e w' ⟨⟨r, rfl, hr⟩, rfl⟩)
 go_ret
 exact ⟨by simp, rfl⟩
theorem must_any (e : Int) (b off cap : Nat) (bs : List Bool) (hmax : bs.length ≤ 1000) (w : World) (hc : ∀ i x, bs[i]? = some x → w.cell? ⟨b, off + i, none⟩ = some (.bool x)) :
  Calls Tryz.prog 159 #[.int .i64 e, .slice (some ⟨b, off, none⟩) bs.length cap] w fun r w' => r = mustE e (bs.all id) ∧ w' = w := by
 cases hb : bs.all id
 ·go_enter Tryz.func159, Tryz.ntmps159
  go_wp2_with (go_at_call 195; refine (contains_false _ _ _ bs hmax _ hc).mono ?_; rw [hb]; rintro e w' ⟨rfl, rfl⟩)
  exact ⟨rfl, rfl, rfl⟩
 ·go_enter Tryz.func159, Tryz.ntmps159
  go_wp2_with (go_at_call 195; refine (contains_false _ _ _ bs hmax _ hc).mono ?_; rw [hb]; rintro e w' ⟨rfl, rfl⟩)
  go_end0
  exact ⟨rfl, rfl⟩
theorem must_one (e : Int) (x : Bool) (w : World) :
  Calls Tryz.prog 159 #[.int .i64 e, .slice (some ⟨w.heap.size, 0, none⟩) 1 1] (w.alloc (.cells #[.bool x] 4)) fun r w' => r = mustE e x ∧ w' = w.alloc (.cells #[.bool x] 4) := by
 refine (must_any e w.heap.size 0 1 [x] (by simp) _ ?_).mono ?_
 ·intro i y hy
  match i, hy with
  | 0, hy => cases hy; simp [go_sem]
  | i + 1, hy => simp at hy
 ·rintro r w' ⟨h, hw⟩; exact ⟨by simpa using h, hw⟩
theorem must_two (e : Int) (x y : Bool) (w : World) :
  Calls Tryz.prog 159 #[.int .i64 e, .slice (some ⟨w.heap.size, 0, none⟩) 2 2] (w.alloc (.cells #[.bool x, .bool y] 4)) fun r w' => r = mustE e (x && y) ∧ w' = w.alloc (.cells #[.bool x, .bool y] 4) := by
 refine (must_any e w.heap.size 0 2 [x, y] (by simp) _ ?_).mono ?_
 ·intro i z hz
  match i, hz with
  | 0, hz => cases hz; simp [go_sem]
  | 1, hz => cases hz; simp [go_sem]
  | i + 2, hz => simp at hz
 ·rintro r w' ⟨h, hw⟩; exact ⟨by simpa using h, hw⟩
theorem isStamp_any (x : Int) (w : World) :
  Calls Tryz.prog 197 #[.int .i64 x] w fun e w' => e = .returned (.bool (inB x 0 1048576)) ∧ w' = w := by
 by_cases h1 : 0 ≤ x
 ·go_enter Tryz.func197, Tryz.ntmps197
  go_wp2
  go_ret
  exact ⟨by simp [inB, h1], rfl⟩
 ·go_enter Tryz.func197, Tryz.ntmps197
  go_wp2
  go_ret
  exact ⟨by simp [inB]; omega, rfl⟩
end Go.Proofs.YtiiifecfdkjmbaaGreat
