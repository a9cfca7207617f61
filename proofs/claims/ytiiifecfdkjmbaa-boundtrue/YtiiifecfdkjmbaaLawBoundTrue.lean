/- The law BoundTrue answers true; conditions: the world reads as one. -/
import Derived.BigQuiet
import Derived.Deep.DeepCutAuto
import Derived.Test.YtiiifecfdkjmbaaLBoundX
import Derived.Test.YtiiifecfdkjmbaaLawBoundReady
import Derived.Test.YtiiifecfdkjmbaaSOwnX
import Derived.Test.YtiiifecfdkjmbaaPureX
namespace Go.Proofs.Ytiiifecfdkjmbaa
set_option maxRecDepth 8000
open Go.RowKit Go.Shelf
open _root_.Go.Proofs.Ytiiifecfdkjmbaa.Pure
set_option linter.unusedVariables false
set_option linter.unusedSimpArgs false

theorem far_fold (d : Wd) (n : Nat) (x : Nd) : ∀ (l : List (Nat × Nat)) (acc : Int), l.foldl (farStep d n x) acc = acc ∨ ∃ p ∈ l, otherB d n p = true ∧ lastAt x.last p.1 p.2 = l.foldl (farStep d n x) acc
  | [], acc => .inl rfl
  | p :: r, acc => by
    rw [List.foldl_cons]
    rcases far_fold d n x r (farStep d n x acc p) with h | ⟨q, hq, ho, he⟩
    · by_cases hp : otherB d n p = true
      · by_cases hl : lastAt x.last p.1 p.2 < acc
        · have e : farStep d n x acc p = lastAt x.last p.1 p.2 := by unfold farStep; rw [if_pos hp, if_pos hl]
          exact .inr ⟨p, by simp, hp, by rw [h, e]⟩
        · have e : farStep d n x acc p = acc := by unfold farStep; rw [if_pos hp, if_neg hl]
          exact .inl (by rw [h, e])
      · have e : farStep d n x acc p = acc := by unfold farStep; rw [if_neg hp]
        exact .inl (by rw [h, e])
    · exact .inr ⟨q, List.mem_cons_of_mem _ hq, ho, he⟩
theorem far_is (d : Wd) (n : Nat) (x : Nd) : farZ d n x = x.clock ∨ ∃ g k, g < d.groups.length ∧ k < d.nodes.length ∧ k ≠ n ∧ hasB d.groups g n = true ∧ hasB d.groups g k = true ∧ lastAt x.last g k = farZ d n x := by
  rcases far_fold d n x (pairs d.groups.length d.nodes.length) x.clock with h | ⟨⟨g, k⟩, hp, ho, he⟩
  · exact .inl h
  · obtain ⟨h0, h1, h2⟩ := (otherB_iff _ _ _ _).1 ho
    obtain ⟨a, b⟩ := (mem_pairs _ _ _ _).1 hp
    exact .inr ⟨g, k, a, b, h0, h1, h2, he⟩
/-- What was seen so far, up to group g and node k. -/
def SeenB (d : Wd) (n : Nat) (x : Nd) (far : Int) (g k : Nat) (b : Bool) : Prop :=
  (far = x.clock → b = true) ∧ ∀ g' k', (g' < g ∨ (g' = g ∧ k' < k)) → k' < d.nodes.length → k' ≠ n → hasB d.groups g' n = true → hasB d.groups g' k' = true → lastAt x.last g' k' = far → b = true
theorem SeenB.mono {d : Wd} {n : Nat} {x : Nd} {far : Int} {g k : Nat} {b : Bool} (h : SeenB d n x far g k b) (c : Bool) (hk : k ≠ n → hasB d.groups g n = true → hasB d.groups g k = true → lastAt x.last g k = far → (b || c) = true) : SeenB d n x far g (k + 1) (b || c) := by
  refine ⟨fun e => by rw [h.1 e]; rfl, fun g' k' hv hl hne h1 h2 he => ?_⟩
  by_cases hh : g' < g ∨ (g' = g ∧ k' < k)
  · rw [h.2 g' k' hh hl hne h1 h2 he]; rfl
  · have e1 : g' = g := by omega
    have e2 : k' = k := by omega
    subst e1 e2
    exact hk hne h1 h2 he
theorem SeenB.skip {d : Wd} {n : Nat} {x : Nd} {far : Int} {g k : Nat} {b : Bool} (h : SeenB d n x far g k b) (hk : ¬ (k ≠ n ∧ hasB d.groups g n = true ∧ hasB d.groups g k = true)) : SeenB d n x far g (k + 1) b := by
  have := h.mono false (fun h1 h2 h3 => absurd ⟨h1, h2, h3⟩ hk)
  rwa [Bool.or_false] at this

set_option maxHeartbeats 1000000 in
theorem boundTrue_err (x : WV) (d : Wd) (n : Int) (w : World) (hW : WAt w x d) (hE : ¬ nodeErr d n = 0) :
    Calls Try.prog 6 #[.agg #[.slice x.ga x.gl x.gc, .slice x.na x.nl x.nc, .slice x.wa x.wl x.wc], .int .i64 n] w fun e w' => e = .returned (.bool true) ∧ Since w w' := by
  obtain ⟨ga, gl, gc, na, nl, nc, wa, wl, wc⟩ := x
  dsimp only
  obtain ⟨w1, hw1⟩ : ∃ wp, w.alloc (.cells #[.slice ga gl gc, .slice na nl nc, .slice wa wl wc] 26) = wp := ⟨_, rfl⟩
  have hP1 : ParBox w1 w.heap.size ⟨ga, gl, gc, na, nl, nc, wa, wl, wc⟩ := by rw [← hw1]; exact ParBox.new w ⟨ga, gl, gc, na, nl, nc, wa, wl, wc⟩ _
  have hS1 : Since w w1 := by rw [← hw1]; exact (Since.refl w).alloc _
  have hW1 := hW.since hS1
  have p0 := hP1.c0
  have p1 := hP1.c1
  have p2 := hP1.c2
  dsimp only at p0 p1 p2
  have PF : Hid (∀ y, Since w1 y → ParBox y w.heap.size ⟨ga, gl, gc, na, nl, nc, wa, wl, wc⟩) := fun y hy => hP1.since hy
  have hE' : (nodeErr d n != 0) = true := by simpa using hE
  obtain ⟨er, her⟩ : ∃ er, nodeErr d n = er := ⟨_, rfl⟩
  have hA := boundOf_any ⟨ga, gl, gc, na, nl, nc, wa, wl, wc⟩ d n w1 hW1
  have hB := fun (y : World) (hy : Since w1 y) => boundReady_any ⟨ga, gl, gc, na, nl, nc, wa, wl, wc⟩ d n y (hW1.since hy)
  rw [her] at hA hB hE'
  dsimp only at hA hB
  clear her hE hW
  go_enter Try.func6, Try.ntmps6
  go_wp2_with (first
    | (go_at_call 19; refine hA.mono ?_; rintro e w2 ⟨rfl, hS2⟩; obtain ⟨lt2, f0, f1, f2⟩ := PF.out _ hS2; dsimp only at f0 f1 f2)
    | (go_at_call 22; refine (hB w2 hS2).mono ?_; rintro e w3 ⟨v, rfl, hv, hS3⟩)
    | (go_at_call 21; refine (boundBegun_any w3).mono ?_; rintro e w4 ⟨rfl, hS4⟩))
  go_ret
  exact ⟨by simp, hS1.trans (hS2.trans (hS3.trans hS4))⟩

theorem ready_facts {d : Wd} (R : Right d) {n : Nat} {x : Nd} (hx : d.nodes[n]? = some x) {rl : List Mg} (hrl : readyL d n x = rl) {far : Int} (hf : farZ d n x = far) :
    x.held.take rl.length = rl ∧ rl.length ≤ x.held.length ∧ (∀ m, x.held[rl.length]? = some m → far < m.st) ∧ (∀ (k : Nat) (m : Mg), rl[k]? = some m → m.st ≤ far) := by
  have hr := R.heldR n
  rw [(at_node hx).2.1] at hr
  have e : x.held.filter (fun m => decide (m.st ≤ far)) = rl := by rw [← hf]; exact hrl
  obtain ⟨h1, h2⟩ := filter_le x.held far hr
  rw [e] at h1 h2
  refine ⟨h1, by rw [← h1, List.length_take]; omega, fun m hm => ?_, fun k m hm => ?_⟩
  · have : m ∈ x.held.drop rl.length := by
      have hd : (x.held.drop rl.length)[0]? = some m := by rw [List.getElem?_drop]; exact hm
      exact List.mem_of_getElem? hd
    rw [h2, List.mem_filter] at this
    simpa using this.2
  · have : m ∈ rl := List.mem_of_getElem? hm
    rw [← e, List.mem_filter] at this
    simpa using this.2

set_option maxHeartbeats 1000000 in
theorem boundTrue_at (x : WV) (d : Wd) (n : Nat) (nd : Nd) (far : Int) (rl : List Mg) (w : World) (hW : WAt w x d) (R : Right d) (hnd : d.nodes[n]? = some nd) (hE : nodeErr d (n : Int) = 0) (hfar : farZ d n nd = far) (hrl : readyL d n nd = rl) :
    Calls Try.prog 6 #[.agg #[.slice x.ga x.gl x.gc, .slice x.na x.nl x.nc, .slice x.wa x.wl x.wc], .int .i64 n] w fun e w' => e = .returned (.bool true) ∧ Since w w' := by
  have hn := node_lt hnd
  obtain ⟨ga, gl, gc, na, nl, nc, wa, wl, wc⟩ := x
  have hnl := hW.n.hlen
  have hgl := hW.g.hlen
  dsimp only at hnl hgl ⊢
  subst hnl hgl
  have HRF := (show Hid _ from ready_facts R hnd hrl hfar)
  have t2 := (ready_facts R hnd hrl hfar).2.1
  have hh40 := R.heldN n
  rw [(at_node hnd).2.1] at hh40
  have HLL : Hid (nd.last.length = d.groups.length) := R.llen n nd hnd
  have HLR : Hid (∀ (g : Nat) (row : List Int), nd.last[g]? = some row → row.length = d.nodes.length) := fun g row => R.lrow n nd g row hnd
  have hchk := R.chk
  have HLE : Hid (∀ g k : Nat, k < d.nodes.length → k ≠ n → hasB d.groups g n = true → hasB d.groups g k = true → far ≤ lastAt nd.last g k) := ((le_farZ d n nd far).1 (by rw [hfar]; exact Int.le_refl _)).2
  have hcl : far ≤ nd.clock := ((le_farZ d n nd far).1 (by rw [hfar]; exact Int.le_refl _)).1
  have HIS := (show Hid _ from far_is d n nd)
  rw [hfar] at HIS
  obtain ⟨w1, hw1⟩ : ∃ wp, w.alloc (.cells #[.slice ga d.groups.length gc, .slice na d.nodes.length nc, .slice wa wl wc] 26) = wp := ⟨_, rfl⟩
  have hP1 : ParBox w1 w.heap.size ⟨ga, d.groups.length, gc, na, d.nodes.length, nc, wa, wl, wc⟩ := by rw [← hw1]; exact ParBox.new w ⟨ga, d.groups.length, gc, na, d.nodes.length, nc, wa, wl, wc⟩ _
  have hS1 : Since w w1 := by rw [← hw1]; exact (Since.refl w).alloc _
  have hW1 := hW.since hS1
  have p0 := hP1.c0
  have p1 := hP1.c1
  have p2 := hP1.c2
  dsimp only at p0 p1 p2
  have PF : Hid (∀ y, Since w1 y → ParBox y w.heap.size ⟨ga, d.groups.length, gc, na, d.nodes.length, nc, wa, wl, wc⟩) := fun y hy => hP1.since hy
  have hA := boundOf_any ⟨ga, d.groups.length, gc, na, d.nodes.length, nc, wa, wl, wc⟩ d n w1 hW1
  have hB := fun (y : World) (hy : Since w1 y) => boundReady_any ⟨ga, d.groups.length, gc, na, d.nodes.length, nc, wa, wl, wc⟩ d n y (hW1.since hy)
  rw [boundZ_at hE hnd, hE, hfar] at hA
  rw [readyZ_at hE hnd, hE, hrl] at hB
  dsimp only at hA hB
  obtain ⟨bn, on, rfl, hbn, hcn⟩ := hW1.n.cells (by dsimp only; omega)
  obtain ⟨k0, ⟨v1, k1, la, lc, rfl, hlc, hL⟩, ⟨v2, k2, ha, hc, rfl, hhc, hH⟩, ⟨v3, k3, ta, tc, rfl, htc, hT⟩⟩ := hcn n nd hnd
  have hG1 := hW1.g
  dsimp only at hG1
  have n1 : (n : Int) < (d.nodes.length : Int) := by omega
  have hlm := hL.hmax
  have hnm := hW1.n.hmax
  dsimp only at hnm
  have hlt3 : rl.length ≤ 1000 := by omega
  have HN := (show Hid _ from hnd)
  have u1 : decide (d.nodes.length ≤ n) = false := by simp; omega
  have u2 : decide ((n : Int) < 0) = false := by simp
  have u3 : decide ((d.nodes.length : Int) ≤ (n : Int)) = false := by simp; omega
  clear hE hfar hrl hcn hW hnd
  go_enter Try.func6, Try.ntmps6
  go_wp2_with (first
    | (go_at_call 19; refine hA.mono ?_; rintro e w2 ⟨rfl, hS2⟩; obtain ⟨lt2, f0, f1, f2⟩ := PF.out _ hS2; dsimp only at f0 f1 f2)
    | (go_at_call 22; refine (hB w2 hS2).mono ?_; rintro e w3 ⟨v, rfl, hv, hS3⟩; obtain ⟨ra, rc, rfl, hRR⟩ := row_of_owns hv; have hs3 := hS2.trans hS3; obtain ⟨lt3, m0, m1, m2⟩ := PF.out _ hs3; dsimp only at m0 m1 m2; have y0 := (hs3.cellAt hbn _).trans k0; have y1 := (hs3.cellAt hbn _).trans k1; have y2 := (hs3.cellAt hbn _).trans k2; have y3 := (hs3.cellAt hbn _).trans k3; obtain ⟨w4, hw4⟩ : ∃ y, w3.alloc (.cells #[.int .i64 nd.clock, .slice la nd.last.length lc, .slice ha nd.held.length hc, .slice ta nd.told.length tc] 45) = y := ⟨_, rfl⟩; have hb4 : NdBox w4 w3.heap.size (.int .i64 nd.clock) (.slice la nd.last.length lc) (.slice ha nd.held.length hc) (.slice ta nd.told.length tc) := (by rw [← hw4]; exact NdBox.new w3 _ _ _ _ _); have hS4 : Since w3 w4 := (by rw [← hw4]; exact (Since.refl w3).alloc _); obtain ⟨bl4, c0, c1, c2, c3, _, _, _, _⟩ := hb4))
  have BF : Hid (∀ y, Since w4 y → NdBox y w3.heap.size (.int .i64 nd.clock) (.slice la nd.last.length lc) (.slice ha nd.held.length hc) (.slice ta nd.told.length tc) ∧ ParBox y w.heap.size ⟨ga, d.groups.length, gc, some ⟨bn, on, none⟩, d.nodes.length, nc, wa, wl, wc⟩) := fun y hy => ⟨(show NdBox w4 w3.heap.size (.int .i64 nd.clock) (.slice la nd.last.length lc) (.slice ha nd.held.length hc) (.slice ta nd.told.length tc) by rw [← hw4]; exact NdBox.new w3 _ _ _ _ _).since hy, PF.out _ (hs3.trans (hS4.trans hy))⟩
  have hs4 := hs3.trans hS4
  have hMr := row_msgs hRR hlt3
  clear c0 c1 c2 c3 y0 y1 y2 y3 m0 m1 m2 hw4 f0 f1 f2 p0 p1 p2 hw1
  obtain ⟨b0, hb0⟩ : ∃ b, (far == nd.clock) = b := ⟨_, rfl⟩
  rw [hb0]
  have HS0 : Hid (SeenB d n nd far 0 0 b0) := ⟨fun e => by rw [← hb0]; simpa using e, fun g' k' hv => by omega⟩
  clear hb0
  go_loopw [10, 11] (fun b i wr => ∃ (g : Nat) (bb : Bool), g ≤ nd.last.length ∧ i = .int .i64 g ∧ b = .bool bb ∧ SeenB d n nd far g 0 bb ∧ Since w4 wr) (fun _ i _ => nd.last.length - (intOf i).toNat)
  case atStart => exact ⟨0, b0, Nat.zero_le _, rfl, rfl, HS0.out, Since.refl _⟩
  case round =>
    clear HS0
    obtain ⟨wo, rfl⟩ : ∃ wo, wo = wr := ⟨_, rfl⟩
    obtain ⟨g, bb, hg, rfl, rfl, hsee, hSo⟩ := hrel
    have HSEE : Hid (SeenB d n nd far g 0 bb) := hsee
    clear hsee
    obtain ⟨⟨_, c0, c1, c2, c3, _, _, _, _⟩, ⟨_, q0, q1, q2⟩⟩ := BF.out _ hSo
    dsimp only at q0 q1 q2
    by_cases hlt : g < nd.last.length
    · obtain ⟨row, hrow⟩ : ∃ r, nd.last[g]? = some r := ⟨_, List.getElem?_eq_getElem hlt⟩
      obtain ⟨bl, ol, rfl, hbl, hcl'⟩ := hL.cells (by omega)
      obtain ⟨v5, k5, rra, rrc, rfl, hrrc, hRw⟩ := hcl' g row hrow
      have g1 : (g : Int) < (nd.last.length : Int) := by omega
      have HRL' : Hid (row.length = d.nodes.length) := HLR.out g row hrow
      have j5 := ((hs4.trans hSo).cellAt hbl _).trans k5
      have HROW := (show Hid _ from hrow)
      have hrm := hRw.hmax
      clear hrow hcl'
      go_wp2_with fail
      go_loopw [10, 12] (fun b i wr => ∃ (k : Nat) (bb : Bool), k ≤ row.length ∧ i = .int .i64 k ∧ b = .bool bb ∧ SeenB d n nd far g k bb ∧ Since w4 wr) (fun _ i _ => row.length - (intOf i).toNat)
      case atStart => exact ⟨0, bb, Nat.zero_le _, rfl, rfl, HSEE.out, hSo⟩
      case round =>
        clear HSEE c0 c1 c2 c3 q0 q1 q2 j5
        obtain ⟨wi, rfl⟩ : ∃ wi, wi = wr := ⟨_, rfl⟩
        obtain ⟨k, bb', hk, rfl, rfl, hsee, hSi⟩ := hrel
        have HSEE : Hid (SeenB d n nd far g k bb') := hsee
        clear hsee
        obtain ⟨⟨_, c0, c1, c2, c3, _, _, _, _⟩, ⟨_, q0, q1, q2⟩⟩ := BF.out _ hSi
        dsimp only at q0 q1 q2
        have j5 := ((hs4.trans hSi).cellAt hbl _).trans k5
        by_cases hkl : k < row.length
        · obtain ⟨v, hv'⟩ : ∃ v, row[k]? = some v := ⟨_, List.getElem?_eq_getElem hkl⟩
          obtain ⟨bR, oR, rfl, hbR, hcR⟩ := hRw.cells (by omega)
          have j6 : wi.cell? ⟨bR, oR + k, none⟩ = some (.int .i64 v) := ((hs4.trans hSi).cellAt hbR _).trans (by have := hcR k (by omega); rw [hv'] at this; exact this)
          have k1' : (k : Int) < (row.length : Int) := by omega
          have HLA : Hid (lastAt nd.last g k = v) := lastAt_some HROW.out hv'
          have hGi := hG1.since (hs4.trans hSi)
          have HKN : Hid (k < d.nodes.length) := by have := HRL'.out; unfold Hid; omega
          clear hcR hv'
          cases e1 : ((k : Int) == (n : Int))
          · have hne : k ≠ n := by intro e; subst e; simp at e1
            cases e2 : hasB d.groups g n
            · have HSK : Hid (SeenB d n nd far g (k + 1) bb') := HSEE.out.skip (fun h => by rw [e2] at h; exact absurd h.2.1 (by simp))
              go_wp2_with (go_at_call_of 25 (Value.int IntKind.i64 (n : Int)); refine (has_any _ _ _ d.groups _ _ wi hGi).mono ?_; rw [e2]; rintro e w' ⟨rfl, hw'⟩; obtain rfl := hw'.symm)
              go_roundw
              case rel => exact ⟨k + 1, bb', by omega, by go_num, rfl, HSK.out, hSi⟩
              case measure => simp [intOf]; omega
            · cases e3 : hasB d.groups g k
              · have HSK : Hid (SeenB d n nd far g (k + 1) bb') := HSEE.out.skip (fun h => by rw [e3] at h; exact absurd h.2.2 (by simp))
                go_wp2_with (first
                  | (go_at_call_of 25 (Value.int IntKind.i64 (n : Int)); refine (has_any _ _ _ d.groups _ _ wi hGi).mono ?_; rw [e2]; rintro e w' ⟨rfl, hw'⟩; obtain rfl := hw'.symm)
                  | (go_at_call 25; refine (has_any _ _ _ d.groups _ _ wi hGi).mono ?_; rw [e3]; rintro e w' ⟨rfl, hw'⟩; obtain rfl := hw'.symm))
                go_roundw
                case rel => exact ⟨k + 1, bb', by omega, by go_num, rfl, HSK.out, hSi⟩
                case measure => simp [intOf]; omega
              · have hle : far ≤ v := by have := HLE.out g k HKN.out hne e2 e3; rw [HLA.out] at this; exact this
                have hle' : decide (v < far) = false := by simp; omega
                cases bb'
                · obtain ⟨c, hcE⟩ : ∃ c, (far == v) = c := ⟨_, rfl⟩
                  have HSK : Hid (SeenB d n nd far g (k + 1) c) := by
                    have := HSEE.out.mono c (fun _ _ _ h => by rw [HLA.out] at h; rw [← hcE, h]; simp)
                    rwa [Bool.false_or] at this
                  have HCE := (show Hid _ from hcE)
                  go_wp2_with (first
                    | (go_at_call_of 25 (Value.int IntKind.i64 (n : Int)); refine (has_any _ _ _ d.groups _ _ wi hGi).mono ?_; rw [e2]; rintro e w' ⟨rfl, hw'⟩; obtain rfl := hw'.symm)
                    | (go_at_call 25; refine (has_any _ _ _ d.groups _ _ wi hGi).mono ?_; rw [e3]; rintro e w' ⟨rfl, hw'⟩; obtain rfl := hw'.symm))
                  go_roundw
                  case rel => exact ⟨k + 1, c, by omega, by go_num, rfl, HSK.out, hSi⟩
                  case measure => simp [intOf]; omega
                · have HSK : Hid (SeenB d n nd far g (k + 1) true) := by
                    have := HSEE.out.mono false (fun _ _ _ h => rfl)
                    rwa [Bool.or_false] at this
                  go_wp2_with (first
                    | (go_at_call_of 25 (Value.int IntKind.i64 (n : Int)); refine (has_any _ _ _ d.groups _ _ wi hGi).mono ?_; rw [e2]; rintro e w' ⟨rfl, hw'⟩; obtain rfl := hw'.symm)
                    | (go_at_call 25; refine (has_any _ _ _ d.groups _ _ wi hGi).mono ?_; rw [e3]; rintro e w' ⟨rfl, hw'⟩; obtain rfl := hw'.symm))
                  go_roundw
                  case rel => exact ⟨k + 1, true, by omega, by go_num, rfl, HSK.out, hSi⟩
                  case measure => simp [intOf]; omega
          · have hke : k = n := by have := beq_iff_eq.1 e1; omega
            have HSK : Hid (SeenB d n nd far g (k + 1) bb') := HSEE.out.skip (fun h => absurd hke h.1)
            clear hke
            go_wp2_with fail
            go_roundw
            case rel => exact ⟨k + 1, bb', by omega, by go_num, rfl, HSK.out, hSi⟩
            case measure => simp [intOf]; omega
        · have HSN : Hid (SeenB d n nd far (g + 1) 0 bb') := by
            have hk' : k = row.length := by omega
            have := HRL'.out
            exact ⟨HSEE.out.1, fun g' k' hv hl hne h1 h2 he => HSEE.out.2 g' k' (by omega) hl hne h1 h2 he⟩
          go_wp2_with fail
          go_roundw
          case rel => exact ⟨g + 1, bb', by omega, by go_num, rfl, HSN.out, hSi⟩
          case measure => simp [intOf]; omega
    · have hbt : bb = true := by
        rcases HIS.out with h | ⟨g', k', hg', hk', hne, h1, h2, he⟩
        · exact HSEE.out.1 h
        · exact HSEE.out.2 g' k' (by have := HLL.out; omega) hk' hne h1 h2 he
      subst hbt
      obtain ⟨t1, _, t3, t4⟩ := HRF.out
      have HT1 : Hid (nd.held.take rl.length = rl) := t1
      have hMro := hMr.since (hS4.trans hSo)
      have hMh : Msgs wo ha rl.length rl := by
        refine ⟨rfl, by omega, fun hp => ?_⟩
        obtain ⟨b, off, e, hb, hcc⟩ := (hH.since (hs4.trans hSo)).cells (by omega)
        refine ⟨b, off, e, hb, fun j u hj => hcc j u ?_⟩
        rw [← HT1.out] at hj
        exact flat_take_get hj
      have h1 : decide (nd.clock < far) = false := by simp; omega
      have h2 : decide ((nd.held.length : Int) < (rl.length : Int)) = false := by simp; omega
      have h2' : decide (nd.held.length < rl.length) = false := by simp; omega
      have h3 : (rl.length : Int) ≤ (hc : Int) := by omega
      have h4 : (0 : Int) ≤ (rl.length : Int) := by omega
      by_cases hA : rl.length = nd.held.length
      · have hA' : ((rl.length : Int) == (nd.held.length : Int)) = true := by simp [hA]
        by_cases hB : rl.length = 0
        · have hB' : ((rl.length : Int) == 0) = true := by simp [hB]
          clear t1 t3 t4 hA hB
          go_wp2_with (first
            | (go_at_call 24; refine (sameMsgs_any ra _ rc rl ha _ hc rl wo hMro hMh).mono ?_; rw [sameMs_refl]; rintro e w5 ⟨rfl, hS5⟩; obtain ⟨⟨_, e0, e1, e2, e3, _, _, _, _⟩, _⟩ := BF.out _ (hSo.trans hS5))
            | (go_at_call 21; refine (boundBegun_any w5).mono ?_; rintro e w6 ⟨rfl, hS6⟩; have hs56 := hS5.trans hS6; obtain ⟨⟨_, g0, g1, g2, g3, _, _, _, _⟩, _⟩ := BF.out _ (hSo.trans hs56)))
          go_ret
          exact ⟨by simp, hS1.trans ((hs4.trans hSo).trans hs56)⟩
        · have hB' : ((rl.length : Int) == 0) = false := by rw [beq_eq_false_iff_ne]; omega
          obtain ⟨k, hk1, hk2⟩ : ∃ k : Nat, (rl.length : Int) - 1 = (k : Int) ∧ k < rl.length := ⟨rl.length - 1, by omega, by omega⟩
          obtain ⟨m, hm⟩ : ∃ m, rl[k]? = some m := ⟨_, List.getElem?_eq_getElem hk2⟩
          obtain ⟨br, oR, rfl, hbr, hcr⟩ := hMr.cells (by omega)
          have hl2 := (msgAt_of hcr k m hm).c2
          have hle : decide (m.st ≤ far) = true := by have := t4 k m hm; simpa using this
          have hwk : IntKind.i64.wrap (k : Int) = (k : Int) := IntWalk.i64_in _ (by omega)
          have hkl : (k : Int) < (rl.length : Int) := by omega
          clear t1 t3 t4 hA hB hcr hm
          go_wp2_with (first
            | (go_at_call 24; refine (sameMsgs_any (some ⟨br, oR, none⟩) _ rc rl ha _ hc rl wo hMro hMh).mono ?_; rw [sameMs_refl]; rintro e w5 ⟨rfl, hS5⟩; obtain ⟨⟨_, e0, e1, e2, e3, _, _, _, _⟩, _⟩ := BF.out _ (hSo.trans hS5))
            | (go_at_call 21; refine (boundBegun_any w5).mono ?_; rintro e w6 ⟨rfl, hS6⟩; have hs56 := hS5.trans hS6; obtain ⟨⟨_, g0, g1, g2, g3, _, _, _, _⟩, _⟩ := BF.out _ (hSo.trans hs56); have z2 := (((hS4.trans hSo).trans hs56).cellAt hbr _).trans hl2))
          go_ret
          exact ⟨by simp, hS1.trans ((hs4.trans hSo).trans hs56)⟩
      · have hA' : ((rl.length : Int) == (nd.held.length : Int)) = false := by rw [beq_eq_false_iff_ne]; omega
        obtain ⟨m, hm⟩ : ∃ m, nd.held[rl.length]? = some m := ⟨_, List.getElem?_eq_getElem (by omega)⟩
        obtain ⟨bh, oh, rfl, hbh, hch⟩ := hH.cells (by omega)
        have hm2 := (msgAt_of hch rl.length m hm).c2
        have hgt : decide (far < m.st) = true := by have := t3 m hm; simpa using this
        have hll : (rl.length : Int) < (nd.held.length : Int) := by omega
        by_cases hB : rl.length = 0
        · have hB' : ((rl.length : Int) == 0) = true := by simp [hB]
          clear t1 t3 t4 hA hB hch hm
          go_wp2_with (first
            | (go_at_call 24; refine (sameMsgs_any ra _ rc rl (some ⟨bh, oh, none⟩) _ hc rl wo hMro hMh).mono ?_; rw [sameMs_refl]; rintro e w5 ⟨rfl, hS5⟩; obtain ⟨⟨_, e0, e1, e2, e3, _, _, _, _⟩, _⟩ := BF.out _ (hSo.trans hS5))
            | (go_at_call 21; refine (boundBegun_any w5).mono ?_; rintro e w6 ⟨rfl, hS6⟩; have hs56 := hS5.trans hS6; obtain ⟨⟨_, g0, g1, g2, g3, _, _, _, _⟩, _⟩ := BF.out _ (hSo.trans hs56); have z1 := (((hs4.trans hSo).trans hs56).cellAt hbh _).trans hm2))
          go_ret
          exact ⟨by simp, hS1.trans ((hs4.trans hSo).trans hs56)⟩
        · have hB' : ((rl.length : Int) == 0) = false := by rw [beq_eq_false_iff_ne]; omega
          obtain ⟨k, hk1, hk2⟩ : ∃ k : Nat, (rl.length : Int) - 1 = (k : Int) ∧ k < rl.length := ⟨rl.length - 1, by omega, by omega⟩
          obtain ⟨m', hm'⟩ : ∃ m, rl[k]? = some m := ⟨_, List.getElem?_eq_getElem hk2⟩
          obtain ⟨br, oR, rfl, hbr, hcr⟩ := hMr.cells (by omega)
          have hl2 := (msgAt_of hcr k m' hm').c2
          have hle : decide (m'.st ≤ far) = true := by have := t4 k m' hm'; simpa using this
          have hwk : IntKind.i64.wrap (k : Int) = (k : Int) := IntWalk.i64_in _ (by omega)
          have hkl : (k : Int) < (rl.length : Int) := by omega
          clear t1 t3 t4 hA hB hcr hm' hch hm
          go_wp2_with (first
            | (go_at_call 24; refine (sameMsgs_any (some ⟨br, oR, none⟩) _ rc rl (some ⟨bh, oh, none⟩) _ hc rl wo hMro hMh).mono ?_; rw [sameMs_refl]; rintro e w5 ⟨rfl, hS5⟩; obtain ⟨⟨_, e0, e1, e2, e3, _, _, _, _⟩, _⟩ := BF.out _ (hSo.trans hS5))
            | (go_at_call 21; refine (boundBegun_any w5).mono ?_; rintro e w6 ⟨rfl, hS6⟩; have hs56 := hS5.trans hS6; obtain ⟨⟨_, g0, g1, g2, g3, _, _, _, _⟩, _⟩ := BF.out _ (hSo.trans hs56); have z1 := (((hs4.trans hSo).trans hs56).cellAt hbh _).trans hm2; have z2 := (((hS4.trans hSo).trans hs56).cellAt hbr _).trans hl2))
          go_ret
          exact ⟨by simp, hS1.trans ((hs4.trans hSo).trans hs56)⟩

theorem lawBoundTrue_any (x : WV) (d : Wd) (n : Int) (w : World) (hW : WAt w x d) :
    Calls Try.prog 6 #[.agg #[.slice x.ga x.gl x.gc, .slice x.na x.nl x.nc, .slice x.wa x.wl x.wc], .int .i64 n] w fun e w' => e = .returned (.bool true) ∧ Since w w' := by
  by_cases hE : nodeErr d n = 0
  · obtain ⟨hW0, k, nd, rfl, hn⟩ := nodeErr_zero hE
    exact boundTrue_at x d k nd _ _ w hW ((right_iff d).1 hW0) hn hE rfl rfl
  · exact boundTrue_err x d n w hW hE
end Go.Proofs.Ytiiifecfdkjmbaa
