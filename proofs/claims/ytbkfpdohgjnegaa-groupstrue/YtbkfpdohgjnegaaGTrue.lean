/- The plain facts on groups' numbers, then the walk of the law GroupsTrue; no condition but that the slice reads as ints. -/
import Derived.Test.YtbkfpdohgjnegaaGLaws
namespace Go.Proofs.Ytbkfpdohgjnegaa
set_option maxRecDepth 8000
open Go.RowKit Go.Shelf

/-- Is one of xs among ys? -/
def anyIn (xs ys : List Int) : Bool := xs.any fun v => ys.contains v

theorem mem_hits {xs ns : List Int} {k g : Nat} : g ∈ hits xs ns k ↔ g < k ∧ ∀ n ∈ ns, bitB (xs[g]?.getD 0) n = true := by
  simp [hits, lackB]
theorem mem_hitI {xs ns : List Int} {v : Int} : v ∈ hitI xs ns ↔ ∃ g : Nat, v = g ∧ g < xs.length ∧ ∀ n ∈ ns, bitB (xs[g]?.getD 0) n = true := by
  unfold hitI
  rw [List.mem_map]
  constructor
  · rintro ⟨g, hg, rfl⟩; exact ⟨g, rfl, mem_hits.1 hg⟩
  · rintro ⟨g, rfl, hg⟩; exact ⟨g, mem_hits.2 hg, rfl⟩
theorem shareB_iff {xs : List Int} {m n : Int} : shareB xs m n = true ↔ ∃ g : Nat, g < xs.length ∧ bitB (xs[g]?.getD 0) m = true ∧ bitB (xs[g]?.getD 0) n = true := by
  unfold shareB
  rw [Bool.not_eq_true', List.isEmpty_eq_false_iff_exists_mem]
  constructor
  · rintro ⟨g, hg⟩; have := mem_hits.1 hg; exact ⟨g, this.1, this.2 m (by simp), this.2 n (by simp)⟩
  · rintro ⟨g, h1, h2, h3⟩; exact ⟨g, mem_hits.2 ⟨h1, by simp [h2, h3]⟩⟩
theorem anyIn_iff {xs : List Int} {m n : Int} : anyIn (hitI xs [m]) (hitI xs [n]) = true ↔ ∃ g : Nat, g < xs.length ∧ bitB (xs[g]?.getD 0) m = true ∧ bitB (xs[g]?.getD 0) n = true := by
  unfold anyIn
  rw [List.any_eq_true]
  constructor
  · rintro ⟨v, hv, hc⟩
    obtain ⟨g, rfl, h1, h2⟩ := mem_hitI.1 hv
    obtain ⟨g', e, h3, h4⟩ := mem_hitI.1 (by simpa using hc)
    obtain rfl : g = g' := by omega
    exact ⟨g, h1, h2 m (by simp), h4 n (by simp)⟩
  · rintro ⟨g, h1, h2, h3⟩
    exact ⟨g, mem_hitI.2 ⟨g, rfl, h1, by simpa using h2⟩, by simpa using mem_hitI.2 ⟨g, rfl, h1, by simpa using h3⟩⟩
theorem share_anyIn (xs : List Int) (m n : Int) : shareB xs m n = anyIn (hitI xs [m]) (hitI xs [n]) := by
  rw [Bool.eq_iff_iff, shareB_iff, anyIn_iff]
theorem share_anyIn' (xs : List Int) (m n : Int) : shareB xs n m = anyIn (hitI xs [m]) (hitI xs [n]) := by
  rw [Bool.eq_iff_iff, shareB_iff, anyIn_iff]
  constructor <;> rintro ⟨g, h1, h2, h3⟩ <;> exact ⟨g, h1, h3, h2⟩
theorem share_self (xs : List Int) (m : Int) : shareB xs m m = decide (0 < ((hitI xs [m]).length : Int)) := by
  rw [Bool.eq_iff_iff, shareB_iff]
  simp only [decide_eq_true_eq]
  constructor
  · rintro ⟨g, h1, h2, _⟩
    have : (g : Int) ∈ hitI xs [m] := mem_hitI.2 ⟨g, rfl, h1, by simpa using h2⟩
    have := List.length_pos_of_mem this
    omega
  · intro h
    obtain ⟨v, hv⟩ := List.exists_mem_of_length_pos (l := hitI xs [m]) (by omega)
    obtain ⟨g, rfl, h1, h2⟩ := mem_hitI.1 hv
    exact ⟨g, h1, h2 m (by simp), h2 m (by simp)⟩
theorem hitI_rises (xs ns : List Int) : (hitI xs ns).Pairwise (· < ·) := by
  unfold hitI
  rw [List.pairwise_map]
  refine List.Pairwise.imp (R := (· < ·)) (fun {a b} h => by omega) ?_
  exact List.Pairwise.filter _ List.pairwise_lt_range
theorem hitI_at (xs ns : List Int) (k : Nat) (h : k + 1 < (hitI xs ns).length) : (hitI xs ns)[k] < (hitI xs ns)[k + 1] :=
  List.pairwise_iff_getElem.1 (hitI_rises xs ns) k (k + 1) (by omega) h (by omega)
theorem hitI_has (xs : List Int) (m : Int) (k : Nat) (h : k < (hitI xs [m]).length) : hasB xs (hitI xs [m])[k] m = true := by
  obtain ⟨g, e, h1, h2⟩ := mem_hitI.1 (List.getElem_mem h)
  rw [e]
  simp only [hasB, Int.toNat_natCast]
  have h3 := h2 m (by simp)
  simp [h1] at h3 ⊢
  exact h3
theorem anyIn_step {X Y : List Int} {k : Nat} (h : k < X.length) : anyIn (X.take (k + 1)) Y = (anyIn (X.take k) Y || Y.contains X[k]) := by
  unfold anyIn
  rw [List.take_succ_eq_append_getElem h, List.any_append]
  simp
theorem contains_step {Y : List Int} {j : Nat} (h : j < Y.length) (v : Int) : (Y.take (j + 1)).contains v = ((Y.take j).contains v || v == Y[j]) := by
  rw [List.take_succ_eq_append_getElem h]
  simp only [List.contains_eq_any_beq, List.any_append]
  simp

theorem has_yes (a : Option Addr) (len cap : Nat) (xs : List Int) (g n : Int) (w : World) (hI : Ints w a len xs) (h : hasB xs g n = true) :
    Calls Try.prog 12 #[.slice a len cap, .int .i64 g, .int .i64 n] w fun e w' => e = .returned (.bool true) ∧ w' = w := by
  rw [← h]; exact has_any a len cap xs g n w hI

set_option maxRecDepth 100000 in
set_option maxHeartbeats 1000000 in
theorem law_true (a : Option Addr) (len cap : Nat) (xs : List Int) (m n : Int) (w : World) (hI : Ints w a len xs) :
    Calls Try.prog 5 #[.slice a len cap, .int .i64 m, .int .i64 n] w fun e w' => e = .returned (.bool true) ∧ Below w.heap.size w w' := by
  go_enter Try.func5, Try.ntmps5
  go_wp2_with fail
  refine (of_s w _ _ _ _ _ _ hI (Since.refl _)).mono ?_
  rintro e w1 ⟨aX, lX, cX, rfl, hX1, h1, _⟩
  go_wp2_with fail
  refine (of_s w _ _ _ _ _ _ (hI.since h1) h1).mono ?_
  rintro e w2 ⟨aY, lY, cY, rfl, hY, h2, h12⟩
  have hX := hX1.since h12
  have hI2 := hI.since h2
  clear hX1 h12 h1
  obtain ⟨X, eX⟩ : ∃ X, hitI xs [m] = X := ⟨_, rfl⟩
  obtain ⟨Y, eY⟩ : ∃ Y, hitI xs [n] = Y := ⟨_, rfl⟩
  have HR : Hid (∀ k (h : k + 1 < X.length), X[k] < X[k + 1]) := by subst eX; exact fun k h => hitI_at xs _ k h
  have HH : Hid (∀ k (h : k < X.length), hasB xs X[k] m = true) := by subst eX; exact fun k h => hitI_has xs m k h
  have S1 : Hid (shareB xs m n = anyIn X Y) := by subst eX eY; exact share_anyIn xs m n
  have S2 : Hid (shareB xs n m = anyIn X Y) := by subst eX eY; exact share_anyIn' xs m n
  have S3 : Hid (shareB xs m m = decide (0 < (X.length : Int))) := by subst eX; exact share_self xs m
  rw [eX] at hX
  rw [eY] at hY
  clear eX eY
  obtain ⟨lenX, mX, cX'⟩ := hX
  obtain ⟨lenY, mY, cY'⟩ := hY
  subst lenX lenY
  go_wp2_with fail
  go_loopw [9, 10, 11] (fun is i _ wr => (∃ k : Nat, k ≤ X.length ∧ i = .int .i64 k ∧ is = .bool (anyIn (X.take k) Y)) ∧ ∃ q, wr = w2.drewN q) (fun _ i _ _ => X.length - (intOf i).toNat)
  case atStart => exact ⟨⟨0, Nat.zero_le _, rfl, rfl⟩, 0, rfl⟩
  case round =>
    obtain ⟨⟨k, hk, rfl, rfl⟩, hq⟩ := hrel
    have HQ : Hid (∃ q, wr = w2.drewN q) := hq
    by_cases hlt : k < X.length
    · obtain ⟨bX, oX, rfl, hbX, hcX⟩ := cX' (by omega)
      have hxk : wr.cell? ⟨bX, oX + k, none⟩ = some (.int .i64 (X[k]?.getD 0)) := by obtain ⟨q, rfl⟩ := hq; simpa using hcX k hlt
      have hIr : Ints wr a len xs := by obtain ⟨q, rfl⟩ := hq; exact hI2.drewN q
      have H1 : Hid (hasB xs X[k] m = true) := HH.out k hlt
      have HM : Hid (0 < k → ∃ k', k = k' + 1 ∧ wr.cell? ⟨bX, oX + k', none⟩ = some (.int .i64 (X[k']?.getD 0)) ∧ k' < X.length ∧ ¬ (X[k]?.getD 0) ≤ (X[k']?.getD 0)) := by
        intro h0
        obtain ⟨k', rfl⟩ : ∃ k', k = k' + 1 := ⟨k - 1, by omega⟩
        refine ⟨k', rfl, by obtain ⟨q, rfl⟩ := hq; simpa using hcX k' (by omega), by omega, ?_⟩
        have := HR.out k' hlt
        simp [hlt, show k' < X.length by omega]; omega
      have HXK : Hid (w2.cell? ⟨bX, oX + k, none⟩ = some (.int .i64 (X[k]?.getD 0))) := hcX k hlt
      clear hq hcX cX' HR HH S1 S2 S3
      by_cases h0 : 0 < k
      · obtain ⟨k', hkk, hxk', hlt', hgt⟩ := HM.out h0
        have hk1 : (k : Int) - 1 = (k' : Int) := by omega
        have hgt' : decide (X[k] ≤ X[k']) = false := by simpa [hlt, hlt'] using hgt
        have hwk : IntKind.i64.wrap (k' : Int) = (k' : Int) := IntWalk.i64_in _ (by omega)
        clear hgt HM hkk
        go_wp2_with fail
        go_quiet ((go_at_call 12; exact Calls.quiet_of_same (has_yes _ _ _ xs _ _ _ (hIr.drewN _) H1.out)))
        go_wp2_with fail
        go_loopw [9, 11] (fun is kk wr => (∃ j : Nat, j ≤ Y.length ∧ kk = .int .i64 j ∧ is = .bool (anyIn (X.take k) Y || (Y.take j).contains X[k])) ∧ ∃ q, wr = w2.drewN q) (fun _ kk _ => Y.length - (intOf kk).toNat)
        case atStart => exact ⟨⟨0, Nat.zero_le _, rfl, by simp⟩, by obtain ⟨q, e⟩ := HQ.out; exact ⟨q + nq, by rw [e, World.drewN_drewN]⟩⟩
        case round =>
          obtain ⟨⟨j, hj, rfl, rfl⟩, hq⟩ := hrel
          have HQ2 : Hid (∃ q, wr = w2.drewN q) := hq
          by_cases hjl : j < Y.length
          · obtain ⟨bY, oY, rfl, hbY, hcY⟩ := cY' (by omega)
            have hyj : wr.cell? ⟨bY, oY + j, none⟩ = some (.int .i64 (Y[j]?.getD 0)) := by obtain ⟨q, rfl⟩ := hq; simpa using hcY j hjl
            have hxk2 : wr.cell? ⟨bX, oX + k, none⟩ = some (.int .i64 (X[k]?.getD 0)) := by obtain ⟨q, rfl⟩ := hq; simpa using HXK.out
            have HS : Hid ((anyIn (X.take k) Y || (Y.take (j + 1)).contains X[k]) = ((anyIn (X.take k) Y || (Y.take j).contains X[k]) || X[k] == Y[j])) := by
              unfold Hid; rw [contains_step hjl, Bool.or_assoc]
            clear hq hcY cY'
            cases hac : (anyIn (X.take k) Y || (Y.take j).contains X[k])
            all_goals
              have HA : Hid (_ = _) := hac
              clear hac
              go_wp2_with fail
              go_quiet (fail)
              go_wp2_with fail
              go_roundw
              case rel => exact ⟨⟨j + 1, by omega, by go_num, by rw [HS.out, HA.out]; simp⟩, by obtain ⟨q, e⟩ := HQ2.out; exact ⟨q + nq, by rw [e, World.drewN_drewN]⟩⟩
              case measure => simp [intOf]; omega
          · have hje : j = Y.length := by omega
            have HS : Hid (anyIn (X.take (k + 1)) Y = (anyIn (X.take k) Y || (Y.take j).contains X[k])) := by unfold Hid; rw [anyIn_step hlt, hje, List.take_length]
            clear hje hq cY'
            go_wp2_with fail
            go_roundw
            case rel => exact ⟨⟨k + 1, by omega, by go_num, by rw [HS.out]⟩, HQ2.out⟩
            case measure => simp [intOf]; omega
      · have hd : decide (0 < k) = false := by simpa using h0
        clear HM h0
        go_wp2_with fail
        go_quiet ((go_at_call 12; exact Calls.quiet_of_same (has_yes _ _ _ xs _ _ _ (hIr.drewN _) H1.out)))
        go_wp2_with fail
        go_loopw [9, 11] (fun is kk wr => (∃ j : Nat, j ≤ Y.length ∧ kk = .int .i64 j ∧ is = .bool (anyIn (X.take k) Y || (Y.take j).contains X[k])) ∧ ∃ q, wr = w2.drewN q) (fun _ kk _ => Y.length - (intOf kk).toNat)
        case atStart => exact ⟨⟨0, Nat.zero_le _, rfl, by simp⟩, by obtain ⟨q, e⟩ := HQ.out; exact ⟨q + nq, by rw [e, World.drewN_drewN]⟩⟩
        case round =>
          obtain ⟨⟨j, hj, rfl, rfl⟩, hq⟩ := hrel
          have HQ2 : Hid (∃ q, wr = w2.drewN q) := hq
          by_cases hjl : j < Y.length
          · obtain ⟨bY, oY, rfl, hbY, hcY⟩ := cY' (by omega)
            have hyj : wr.cell? ⟨bY, oY + j, none⟩ = some (.int .i64 (Y[j]?.getD 0)) := by obtain ⟨q, rfl⟩ := hq; simpa using hcY j hjl
            have hxk2 : wr.cell? ⟨bX, oX + k, none⟩ = some (.int .i64 (X[k]?.getD 0)) := by obtain ⟨q, rfl⟩ := hq; simpa using HXK.out
            have HS : Hid ((anyIn (X.take k) Y || (Y.take (j + 1)).contains X[k]) = ((anyIn (X.take k) Y || (Y.take j).contains X[k]) || X[k] == Y[j])) := by
              unfold Hid; rw [contains_step hjl, Bool.or_assoc]
            clear hq hcY cY'
            cases hac : (anyIn (X.take k) Y || (Y.take j).contains X[k])
            all_goals
              have HA : Hid (_ = _) := hac
              clear hac
              go_wp2_with fail
              go_quiet (fail)
              go_wp2_with fail
              go_roundw
              case rel => exact ⟨⟨j + 1, by omega, by go_num, by rw [HS.out, HA.out]; simp⟩, by obtain ⟨q, e⟩ := HQ2.out; exact ⟨q + nq, by rw [e, World.drewN_drewN]⟩⟩
              case measure => simp [intOf]; omega
          · have hje : j = Y.length := by omega
            have HS : Hid (anyIn (X.take (k + 1)) Y = (anyIn (X.take k) Y || (Y.take j).contains X[k])) := by unfold Hid; rw [anyIn_step hlt, hje, List.take_length]
            clear hje hq cY'
            go_wp2_with fail
            go_roundw
            case rel => exact ⟨⟨k + 1, by omega, by go_num, by rw [HS.out]⟩, HQ2.out⟩
            case measure => simp [intOf]; omega
    · have e : k = X.length := by omega
      obtain ⟨q, rfl⟩ := hq
      have h2' : Since w (w2.drewN q) := h2.step (below_drewN (Below.refl _ _) q)
      have EA : Hid (anyIn (X.take k) Y = anyIn X Y) := by rw [e, List.take_length]; rfl
      clear e HQ h2 cX' cY' hI2
      obtain ⟨ac, hac⟩ : ∃ ac, anyIn (X.take k) Y = ac := ⟨_, rfl⟩
      rw [hac]
      have S1' : Hid (shareB xs m n = ac) := by rw [← hac]; exact S1.out.trans EA.out.symm
      have S2' : Hid (shareB xs n m = ac) := by rw [← hac]; exact S2.out.trans EA.out.symm
      clear hac EA S1 S2
      go_wp2_with fail
      refine (begun_s w _ h2').mono ?_
      rintro e w3 ⟨rfl, h3⟩
      go_wp2_with fail
      refine (share_s w _ _ _ _ _ _ _ (hI.since h3) h3).mono ?_
      rw [S1'.out]
      rintro e w4 ⟨rfl, h4, _⟩
      go_wp2_with fail
      refine (share_s w _ _ _ _ _ _ _ (hI.since h4) h4).mono ?_
      rw [S2'.out]
      rintro e w5 ⟨rfl, h5, _⟩
      go_wp2_with fail
      refine (share_s w _ _ _ _ _ _ _ (hI.since h5) h5).mono ?_
      rw [S3.out]
      rintro e w6 ⟨rfl, h6, _⟩
      go_wp2_with fail
      go_ret
      exact ⟨by simp, h6.below⟩
end Go.Proofs.Ytbkfpdohgjnegaa
