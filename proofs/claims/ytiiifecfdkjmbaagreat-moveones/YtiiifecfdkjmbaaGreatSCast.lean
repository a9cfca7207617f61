/- Contracts of what cast.cast does in a sea, of cast.cast, Send and Null; conditions: the world reads as one. -/
import Derived.BigQuiet
import Derived.Test.YtiiifecfdkjmbaaGreatSCast3
import Derived.Test.YtiiifecfdkjmbaaGreatPureX
namespace Go.Proofs.YtiiifecfdkjmbaaGreat
set_option maxRecDepth 8000
open Go.RowKit Go.Shelf
open _root_.Go.Proofs.YtiiifecfdkjmbaaGreat.Pure
set_option linter.unusedVariables false
set_option linter.unusedSimpArgs false

/-- A cast, and how many were told by it. -/
def castSD (d : Wd) (n g : Int) (nul : Bool) (body : ByteArray) : Except Int (Wd × Int) :=
  if castE d n g body.size = 0 then (preCastD d n g nul body).bind fun d3 => (tellD d3 n.toNat).bind fun p => .ok (p.1, (p.2 : Int)) else .error (castE d n g body.size)
theorem castSD_fst (d : Wd) (n g : Int) (nul : Bool) (body : ByteArray) : castD d n g nul body = (castSD d n g nul body).bind fun p => .ok p.1 := by
  rw [castD_eq]
  unfold castSD
  split
  · cases preCastD d n g nul body with
    | error e => rfl
    | ok d3 => show (tellD d3 n.toNat).bind _ = ((tellD d3 n.toNat).bind _).bind _; cases tellD d3 n.toNat <;> rfl
  · rfl
theorem tell_small {d : Wd} {n : Nat} {p : Wd × Nat} (R : Right d) (h : tellD d n = .ok p) : (0 : Int) ≤ (p.2 : Int) ∧ (p.2 : Int) ≤ 100000 := by
  obtain ⟨_, _, e⟩ := tellD_ok (R.heldR n) h
  have h1 := List.length_filter_le (fun m : Mg => decide (m.st ≤ farAt d n)) (heldAt d n)
  have h2 := R.heldN n
  omega
theorem tellOf_checked {d : Wd} {n : Nat} (R : Right d) (hn : n < d.nodes.length) : checked d (tellOfD d (n : Int)) = (tellD d n).bind fun p => .ok (p.1, (p.2 : Int)) := by
  unfold checked tellOfD
  rw [if_pos ((right_iff d).2 R), if_pos (by simp [inB]; omega), Int.toNat_natCast]

theorem castWhat_any (lo p q : Nat) (n g : Int) (nul : Bool) (body : ByteArray) (d : Wd) (L : Lay) (w : World) (hB : SeaB lo w p d L 0) (R : Right d) (hb : nul = true → body.size = 0) (hq : q < lo) (hMq : MsgAt w q 0 ⟨n, g, 0, nul, body⟩) (hqz : w.frozen? ⟨q, 2, none⟩ = false) (hlo : lo ≤ w.heap.size) :
    Calls Tryz.prog 141 #[.pointer (some ⟨p, 0, none⟩), .pointer (some ⟨q, 0, none⟩)] w fun e w' => Hid (SeaR lo (fun i => i = q) p w (castSD d n g nul body) e w') := by
  by_cases hE : castE d n g body.size = 0
  · obtain ⟨hin, hclk⟩ : inB n 0 ((d.nodes.length : Int) - 1) = true ∧ True := by
      refine ⟨?_, trivial⟩
      unfold castE at hE
      split at hE
      · cases hE
      · rename_i h
        cases h1 : inB n 0 ((d.nodes.length : Int) - 1)
        · exact absurd (.inl h1) h
        · rfl
    have h0 : 0 ≤ n ∧ n ≤ (d.nodes.length : Int) - 1 := by simpa [inB] using hin
    obtain ⟨k, rfl⟩ : ∃ k : Nat, n = (k : Int) := ⟨n.toNat, by omega⟩
    have hk : k < d.nodes.length := by omega
    obtain ⟨x, hx⟩ := node_at hk
    have hck : clkAt d k = x.clock := (at_node hx).1
    obtain ⟨d1, hd1⟩ : ∃ d1, setNode d k { x with clock := x.clock + 1 } = d1 := ⟨_, rfl⟩
    have hsc : setClock d k (x.clock + 1) = d1 := by unfold setClock; rw [hx]; exact hd1
    have hn1 : d1.nodes.length = d.nodes.length := by rw [← hd1]; simp [setNode]
    have hwr : d1.wires = d.wires := by rw [← hd1]; rfl
    have hR1 : RowsOk d1 := by unfold RowsOk; rw [hwr, hn1]; exact R.rows
    have hW1 : ∀ f t, (wireAt d1 f t).length ≤ 40 := fun f t => by have := R.wireN f t; unfold wireAt at this ⊢; rw [hwr]; exact this
    have hN : d1.nodes.length ≤ 1000 := by
      rw [hn1]
      have := smallW_right R (1, 0, 0) ⟨rfl, rfl⟩
      have h : d.nodes.length ≤ 100 := this
      omega
    have hk1 : k < d1.nodes.length := by omega
    have eC : castSD d (k : Int) g nul body = (preCastD d (k : Int) g nul body).bind fun d3 => (tellD d3 k).bind fun p => .ok (p.1, (p.2 : Int)) := by unfold castSD; rw [if_pos hE, Int.toNat_natCast]
    have eP : preCastD d (k : Int) g nul body = (layTo ⟨(k : Int), g, x.clock + 1, nul, body⟩ k d1 d1.nodes.length).bind fun d2 => holdIf d2 k ⟨(k : Int), g, x.clock + 1, nul, body⟩ := by
      unfold preCastD msgD; rw [Int.toNat_natCast, hck, hsc, hn1]
    cases hlay : layTo ⟨(k : Int), g, x.clock + 1, nul, body⟩ k d1 d1.nodes.length with
    | error er =>
      have e : castSD d (k : Int) g nul body = .error er := by rw [eC, eP, hlay]; rfl
      rw [e]
      exact (castW_post lo p q k g (x.clock + 1) nul body d d1 L w x hB R hq hMq hqz hx hE rfl hd1 hlo er hR1 hW1 hN hk1 hlay).mono fun _ _ ⟨he, hF⟩ => by rw [he]; exact seaR_err hF
    | ok d2 =>
      have hLs := layTo_ok hR1 hk1 d1.nodes.length d2 (Nat.le_refl _) hlay
      obtain ⟨X2, hx2⟩ : ∃ X2, d2.nodes[k]? = some X2 := by rw [hLs.nodes]; exact node_at hk1
      have hk2 : k < d2.nodes.length := node_lt hx2
      have eP2 : preCastD d (k : Int) g nul body = holdIf d2 k ⟨(k : Int), g, x.clock + 1, nul, body⟩ := by rw [eP, hlay]; rfl
      have fin : ∀ d3, holdIf d2 k ⟨(k : Int), g, x.clock + 1, nul, body⟩ = .ok d3 → Right d3 ∧ k < d3.nodes.length := by
        intro d3 h
        have S := preCast_ok R hE hb (by rw [eP2]; exact h)
        rw [Int.toNat_natCast] at S
        exact ⟨right_preCast R S, by rw [S.alike.n]; exact hk⟩
      cases nul with
      | true =>
        have eH : holdIf d2 k ⟨(k : Int), g, x.clock + 1, true, body⟩ = .ok d2 := by unfold holdIf; rfl
        obtain ⟨R3, hk3⟩ := fin d2 eH
        have e : castSD d (k : Int) g true body = (tellD d2 k).bind fun p => .ok (p.1, (p.2 : Int)) := by rw [eC, eP2, eH]; rfl
        have hTC := tellOf_checked R3 hk3
        rw [e]
        cases hT : tellD d2 k with
        | error er =>
          rw [hT] at hTC
          have her : (er == 0) = false := by rcases tellD_err hk3 hT with rfl | ⟨rfl, _⟩ <;> rfl
          exact (castW_null_terr lo p q k g (x.clock + 1) body d d1 L w x hB R hq hMq hqz hx hE rfl hd1 hlo d2 hR1 hW1 hN hk1 hlay X2 hx2 d2 er rfl hTC her).mono fun _ _ ⟨he, hF⟩ => by rw [he]; exact seaR_err hF
        | ok pp =>
          obtain ⟨d4, mm⟩ := pp
          rw [hT] at hTC
          exact (castW_null_tok lo p q k g (x.clock + 1) body d d1 L w x hB R hq hMq hqz hx hE rfl hd1 hlo d2 hR1 hW1 hN hk1 hlay X2 hx2 d2 d4 mm rfl hTC (tell_small R3 hT)).mono fun _ _ ⟨he, L', hB', hF⟩ => by rw [he]; exact seaR_ok hF hB'
      | false =>
        have eH : holdIf d2 k ⟨(k : Int), g, x.clock + 1, false, body⟩ = if putE ⟨(k : Int), g, x.clock + 1, false, body⟩ X2.held = 0 then .ok (setNode d2 k { X2 with held := putL ⟨(k : Int), g, x.clock + 1, false, body⟩ X2.held }) else .error (putE ⟨(k : Int), g, x.clock + 1, false, body⟩ X2.held) := by
          unfold holdIf holdD; rw [hx2]; rfl
        by_cases hp0 : putE ⟨(k : Int), g, x.clock + 1, false, body⟩ X2.held = 0
        · rw [if_pos hp0] at eH
          obtain ⟨d3, hd3⟩ : ∃ d3, setNode d2 k { X2 with held := putL ⟨(k : Int), g, x.clock + 1, false, body⟩ X2.held } = d3 := ⟨_, rfl⟩
          rw [hd3] at eH
          obtain ⟨R3, hk3⟩ := fin d3 eH
          have e : castSD d (k : Int) g false body = (tellD d3 k).bind fun p => .ok (p.1, (p.2 : Int)) := by rw [eC, eP2, eH]; rfl
          have hTC := tellOf_checked R3 hk3
          rw [e]
          cases hT : tellD d3 k with
          | error er =>
            rw [hT] at hTC
            have her : (er == 0) = false := by rcases tellD_err hk3 hT with rfl | ⟨rfl, _⟩ <;> rfl
            exact (castW_put_terr lo p q k g (x.clock + 1) body d d1 L w x hB R hq hMq hqz hx hE rfl hd1 hlo d2 hR1 hW1 hN hk1 hlay X2 hx2 _ hp0 rfl d3 er hd3 hTC her).mono fun _ _ ⟨he, hF⟩ => by rw [he]; exact seaR_err hF
          | ok pp =>
            obtain ⟨d4, mm⟩ := pp
            rw [hT] at hTC
            exact (castW_put_tok lo p q k g (x.clock + 1) body d d1 L w x hB R hq hMq hqz hx hE rfl hd1 hlo d2 hR1 hW1 hN hk1 hlay X2 hx2 _ hp0 rfl d3 d4 mm hd3 hTC (tell_small R3 hT)).mono fun _ _ ⟨he, L', hB', hF⟩ => by rw [he]; exact seaR_ok hF hB'
        · rw [if_neg hp0] at eH
          have e : castSD d (k : Int) g false body = .error (putE ⟨(k : Int), g, x.clock + 1, false, body⟩ X2.held) := by rw [eC, eP2, eH]; rfl
          rw [e]
          exact (castW_puterr lo p q k g (x.clock + 1) body d d1 L w x hB R hq hMq hqz hx hE rfl hd1 hlo d2 hR1 hW1 hN hk1 hlay X2 hx2 _ _ rfl rfl hp0).mono fun _ _ ⟨he, hF⟩ => by rw [he]; exact seaR_err hF
  · have e : castSD d n g nul body = .error (castE d n g body.size) := by unfold castSD; rw [if_neg hE]
    rw [e]
    have hpl := hB.made.box.lt
    have hqw : q < w.heap.size := by have := hB.lop; omega
    have hMay := may_any lo p ⟨n, g, 0, nul, body⟩ d L w 0 hB R
    dsimp only at hMay
    obtain ⟨q0, q1, q2, q3, q4⟩ := hMq
    simp only [Nat.zero_add] at q0 q1 q2 q3 q4
    obtain ⟨er, her⟩ : ∃ er, castE d n g body.size = er := ⟨_, rfl⟩
    rw [her] at hMay hE ⊢
    have HE : Hid (¬ er = 0) := hE
    clear her hE e
    go_enter Tryz.func141, Tryz.ntmps141
    go_wp2_with (go_at_call 142; refine hMay.mono ?_; rintro e w2 hR; obtain ⟨_, h1, hS2⟩ := hR.out; obtain rfl := h1 HE.out; clear h1 hR)
    exact ⟨rfl, seaR_err (hS2.up _ _)⟩

/-- What a function answers that does something in a sea, and hands back no count. -/
theorem fst_err {r : Except Int (Wd × Int)} {er : Int} (h : r = .error er) : (r.bind fun p => .ok p.1 : Except Int Wd) = .error er := by rw [h]; rfl
theorem fst_ok {r : Except Int (Wd × Int)} {d : Wd} {m : Int} (h : r = .ok (d, m)) : (r.bind fun p => .ok p.1 : Except Int Wd) = .ok d := by rw [h]; rfl
theorem checked_bind (d : Wd) (r : Except Int (Wd × Int)) : checked d (r.bind fun p => .ok p.1) = (checked d r).bind fun p => .ok p.1 := by unfold checked; split <;> rfl

set_option maxHeartbeats 1000000 in
theorem castCast_any (x : WV) (d : Wd) (n g : Int) (nul : Bool) (body : ByteArray) (w : World) (hW : WAt w x d) (hb : nul = true → body.size = 0) :
    Calls Tryz.prog 81 #[.agg #[.slice x.ga x.gl x.gc, .slice x.na x.nl x.nc, .slice x.wa x.wl x.wc], .agg #[.int .i64 n, .int .i64 g, .int .i64 0, .bool nul, .string body]] w fun e w' => Hid (ResW w (checked d (castD d n g nul body)) e w') := by
  obtain ⟨ga, gl, gc, na, nl, nc, wa, wl, wc⟩ := x
  dsimp only
  obtain ⟨wp, hwp⟩ : ∃ wp, w.alloc (.cells #[.slice ga gl gc, .slice na nl nc, .slice wa wl wc] 26) = wp := ⟨_, rfl⟩
  have hPp : ParBox wp w.heap.size ⟨ga, gl, gc, na, nl, nc, wa, wl, wc⟩ := by rw [← hwp]; exact ParBox.new w ⟨ga, gl, gc, na, nl, nc, wa, wl, wc⟩ _
  have hSp : Since w wp := by rw [← hwp]; exact (Since.refl w).alloc _
  obtain ⟨wq, hwq⟩ : ∃ w1, wp.alloc (.cells #[.int .i64 n, .int .i64 g, .int .i64 0, .bool nul, .string body] 42) = w1 := ⟨_, rfl⟩
  have hSpq : Since wp wq := by rw [← hwq]; exact (Since.refl wp).alloc _
  have hql : wp.heap.size < wq.heap.size := by rw [← hwq]; simp
  have hqc : MsgAt wq wp.heap.size 0 ⟨n, g, 0, nul, body⟩ := by rw [← hwq]; constructor <;> simp [go_sem]
  have hqz : wq.frozen? ⟨wp.heap.size, 2, none⟩ = false := by rw [← hwq]; simp [go_sem]
  obtain ⟨w1, hw1⟩ : ∃ w1, wq.alloc (.cells #[.slice none 0 0, .slice none 0 0, .slice none 0 0] 26) = w1 := ⟨_, rfl⟩
  have hNB : NilBox w1 wq.heap.size := by rw [← hw1]; exact NilBox.new wq _
  have hSq1 : Since wq w1 := by rw [← hw1]; exact (Since.refl wq).alloc _
  have hSp1 := hSpq.trans hSq1
  have hP1 := hPp.since hSp1
  have hS1 := hSp.trans hSp1
  have hW1 := hW.since hS1
  have p0 := hP1.c0
  have p1 := hP1.c1
  have p2 := hP1.c2
  dsimp only at p0 p1 p2
  have hmf : ∀ (fn : Fn) (first cap : Array Value) (w : World), (Instr.makeFunc fn first cap).run Tryz.prog w = .ok (.func fn first cap) w := fun _ _ _ _ => rfl
  have hqw1 : wp.heap.size < w1.heap.size := Nat.lt_of_lt_of_le hql hSq1.size
  have hDo := seaDo_any ⟨ga, gl, gc, na, nl, nc, wa, wl, wc⟩ d 141 #[.pointer (some ⟨wp.heap.size, 0, none⟩)] (fun i => i = wp.heap.size) w1 hW1 (fun _ h => by rw [h]; exact hqw1) (castSD d n g nul body) (enters_of Tryz.func141 (by kernel_rfl) rfl)
    (fun hE lo p L y hlo hy hB => castWhat_any lo p wp.heap.size n g nul body d L y hB ((right_iff d).1 hE) hb (by omega) (msgAt_since hqc hql (hSq1.trans hy)) (((hSq1.trans hy).below.frozen (p := ⟨wp.heap.size, 2, none⟩) hql).trans hqz) (by have := hB.made.box.lt; have := hB.lop; omega))
  dsimp only at hDo
  rw [castSD_fst, checked_bind]
  obtain ⟨r, hr⟩ : ∃ r, checked d (castSD d n g nul body) = r := ⟨_, rfl⟩
  rw [hr] at hDo ⊢
  clear hr hW
  have hle := Nat.le_trans hSp.size hSpq.size
  have hwx : Hid (∀ y, Fr (fun i => i = wp.heap.size) w1 y → Since w y ∧ NilBox y wq.heap.size) := fun y hy =>
    ⟨hy.sinceBase hS1 (fun i hi e => by have := hSp.size; omega), ⟨Nat.lt_of_lt_of_le hNB.lt hy.size, (hy.cell (p := ⟨wq.heap.size, 0, none⟩) hNB.lt (by show ¬ wq.heap.size = wp.heap.size; omega)).trans hNB.c0, (hy.cell (p := ⟨wq.heap.size, 1, none⟩) hNB.lt (by show ¬ wq.heap.size = wp.heap.size; omega)).trans hNB.c1, (hy.cell (p := ⟨wq.heap.size, 2, none⟩) hNB.lt (by show ¬ wq.heap.size = wp.heap.size; omega)).trans hNB.c2,
      (hy.frozen (p := ⟨wq.heap.size, 0, none⟩) hNB.lt (by show ¬ wq.heap.size = wp.heap.size; omega)).trans hNB.z0, (hy.frozen (p := ⟨wq.heap.size, 1, none⟩) hNB.lt (by show ¬ wq.heap.size = wp.heap.size; omega)).trans hNB.z1, (hy.frozen (p := ⟨wq.heap.size, 2, none⟩) hNB.lt (by show ¬ wq.heap.size = wp.heap.size; omega)).trans hNB.z2⟩⟩
  cases r with
  | error er =>
    go_enter Tryz.func81, Tryz.ntmps81
    go_wp2_with fail
    refine hDo.mono ?_
    rintro e w2 hR
    obtain ⟨rfl, hF2⟩ := hR.out.1 er rfl
    obtain ⟨hS2, hN2⟩ := hwx.out _ hF2
    clear hR hw1 hwp hwq
    obtain ⟨w3, hw3⟩ : ∃ y, w2.alloc (.cells #[.slice none 0 0, .slice none 0 0, .slice none 0 0] 26) = y := ⟨_, rfl⟩
    have hS3' : Since w2 w3 := by rw [← hw3]; exact (Since.refl w2).alloc _
    have hN3 : NilBox w3 w2.heap.size := by rw [← hw3]; exact NilBox.new w2 _
    obtain ⟨w4, hw4⟩ : ∃ y, ((w3.setCell ⟨w2.heap.size, 0, none⟩ (.slice none 0 0)).setCell ⟨w2.heap.size, 1, none⟩ (.slice none 0 0)).setCell ⟨w2.heap.size, 2, none⟩ (.slice none 0 0) = y := ⟨_, rfl⟩
    have hF4 : Fr (fun i => i = w2.heap.size) w3 w4 := by rw [← hw4]; exact put3_fr w3 w2.heap.size _ _ _
    have hS4 : Since w2 w4 := hF4.sinceBase hS3' (fun i hi e => by omega)
    have hN4 : NilBox w4 w2.heap.size := by
      rw [← hw4]
      exact ⟨Nat.lt_of_lt_of_le hN3.lt (put3_fr w3 w2.heap.size _ _ _).size, put3_0 hN3.c0, put3_1 hN3.c1, put3_2 hN3.c2, (put3_z _ _ _ _ _ _).trans hN3.z0, (put3_z _ _ _ _ _ _).trans hN3.z1, (put3_z _ _ _ _ _ _).trans hN3.z2⟩
    obtain ⟨_, a0, a1, a2, a3, a4, a5⟩ := hN3
    obtain ⟨_, c0, c1, c2, _, _, _⟩ := hN4
    obtain ⟨_, r0, r1, r2, r3, r4, r5⟩ := hN2.since hS4
    go_wp2_with fail
    refine bodyPost_ret (v := .tuple #[.agg #[.slice none 0 0, .slice none 0 0, .slice none 0 0], .int .i64 er]) ?_ rfl (show Hid _ from resW_err (nil_since hle (hS2.trans hS4)))
    simp [results, Tryz.results81, go_sem, r0, r1, r2]
  | ok dm =>
    obtain ⟨d', m⟩ := dm
    go_enter Tryz.func81, Tryz.ntmps81
    go_wp2_with fail
    refine hDo.mono ?_
    rintro e w2 hR
    obtain ⟨L, rfl, hO, hF2⟩ := hR.out.2 d' m rfl
    obtain ⟨hS2, hN2⟩ := hwx.out _ hF2
    clear hR hw1 hwp hwq
    simp only [wval]
    obtain ⟨w3, hw3⟩ : ∃ y, w2.alloc (.cells #[.slice (L (0, 0, 0)).a d'.groups.length (L (0, 0, 0)).cap, .slice (L (1, 0, 0)).a d'.nodes.length (L (1, 0, 0)).cap, .slice (L (2, 0, 0)).a d'.wires.length (L (2, 0, 0)).cap] 26) = y := ⟨_, rfl⟩
    have hS3 : Since w2 w3 := by rw [← hw3]; exact (Since.refl w2).alloc _
    have hB3 : BoxW w3 w2.heap.size L d' := by rw [← hw3]; constructor <;> simp [go_sem]
    obtain ⟨_, b0, b1, b2, _, _, _⟩ := hB3
    obtain ⟨_, r0, r1, r2, r3, r4, r5⟩ := hN2.since hS3
    obtain ⟨hO2, hSf⟩ := (hO.since hS3).result (w0 := w) (p := wq.heap.size) hNB.lt hle (hS2.trans hS3) hS1.size
    go_wp2_with fail
    refine bodyPost_ret (v := .tuple #[wval L d', .int .i64 0]) ?_ rfl (show Hid _ from resW_ok hO2 hSf)
    simp [results, Tryz.results81, go_sem, r0, r1, r2, wval]

set_option maxHeartbeats 1000000 in
theorem castSend_any (x : WV) (d : Wd) (n g : Int) (body : ByteArray) (w : World) (hW : WAt w x d) :
    Calls Tryz.prog 28 #[.agg #[.slice x.ga x.gl x.gc, .slice x.na x.nl x.nc, .slice x.wa x.wl x.wc], .int .i64 n, .int .i64 g, .string body] w fun e w' => Hid (ResW w (checked d (castD d n g false body)) e w') := by
  obtain ⟨ga, gl, gc, na, nl, nc, wa, wl, wc⟩ := x
  dsimp only
  obtain ⟨wp, hwp⟩ : ∃ wp, w.alloc (.cells #[.slice ga gl gc, .slice na nl nc, .slice wa wl wc] 26) = wp := ⟨_, rfl⟩
  have hPp : ParBox wp w.heap.size ⟨ga, gl, gc, na, nl, nc, wa, wl, wc⟩ := by rw [← hwp]; exact ParBox.new w ⟨ga, gl, gc, na, nl, nc, wa, wl, wc⟩ _
  have hSp : Since w wp := by rw [← hwp]; exact (Since.refl w).alloc _
  obtain ⟨w1, hw1⟩ : ∃ w1, wp.alloc (.cells #[.slice none 0 0, .slice none 0 0, .slice none 0 0] 26) = w1 := ⟨_, rfl⟩
  have hNB : NilBox w1 wp.heap.size := by rw [← hw1]; exact NilBox.new wp _
  have hSp1 : Since wp w1 := by rw [← hw1]; exact (Since.refl wp).alloc _
  have hP1 := hPp.since hSp1
  have hS1 := hSp.trans hSp1
  have hW1 := hW.since hS1
  have p0 := hP1.c0
  have p1 := hP1.c1
  have p2 := hP1.c2
  dsimp only at p0 p1 p2
  have hA := castCast_any ⟨ga, gl, gc, na, nl, nc, wa, wl, wc⟩ d n g false body w1 hW1 (fun h => by cases h)
  dsimp only at hA
  obtain ⟨r, hr⟩ : ∃ r, checked d (castD d n g false body) = r := ⟨_, rfl⟩
  rw [hr] at hA ⊢
  clear hr hW
  cases r with
  | error er =>
    go_enter Tryz.func28, Tryz.ntmps28
    go_wp2_with fail
    refine hA.mono ?_
    rintro e w2 hR
    obtain ⟨rfl, hS2⟩ := hR.out.1 er rfl
    obtain ⟨_, r0, r1, r2, r3, r4, r5⟩ := hNB.since hS2
    go_wp2_with fail
    refine bodyPost_ret (v := .tuple #[.agg #[.slice none 0 0, .slice none 0 0, .slice none 0 0], .int .i64 er]) ?_ rfl (show Hid _ from resW_err (nil_since hSp.size (hS1.trans hS2)))
    simp [results, Tryz.results28, go_sem, r0, r1, r2]
  | ok d' =>
    go_enter Tryz.func28, Tryz.ntmps28
    go_wp2_with fail
    refine hA.mono ?_
    rintro e w2 hR
    obtain ⟨L, rfl, hO, hS2⟩ := hR.out.2 d' rfl
    simp only [wval]
    obtain ⟨_, r0, r1, r2, r3, r4, r5⟩ := hNB.since hS2
    obtain ⟨hO2, hSf⟩ := hO.result (w0 := w) (p := wp.heap.size) hNB.lt hSp.size (hS1.trans hS2) hS1.size
    go_wp2_with fail
    refine bodyPost_ret (v := .tuple #[wval L d', .int .i64 0]) ?_ rfl (show Hid _ from resW_ok hO2 hSf)
    simp [results, Tryz.results28, go_sem, r0, r1, r2, wval]

set_option maxHeartbeats 1000000 in
theorem castNull_any (x : WV) (d : Wd) (n g : Int)  (w : World) (hW : WAt w x d) :
    Calls Tryz.prog 32 #[.agg #[.slice x.ga x.gl x.gc, .slice x.na x.nl x.nc, .slice x.wa x.wl x.wc], .int .i64 n, .int .i64 g] w fun e w' => Hid (ResW w (checked d (castD d n g true ByteArray.empty)) e w') := by
  obtain ⟨ga, gl, gc, na, nl, nc, wa, wl, wc⟩ := x
  dsimp only
  obtain ⟨wp, hwp⟩ : ∃ wp, w.alloc (.cells #[.slice ga gl gc, .slice na nl nc, .slice wa wl wc] 26) = wp := ⟨_, rfl⟩
  have hPp : ParBox wp w.heap.size ⟨ga, gl, gc, na, nl, nc, wa, wl, wc⟩ := by rw [← hwp]; exact ParBox.new w ⟨ga, gl, gc, na, nl, nc, wa, wl, wc⟩ _
  have hSp : Since w wp := by rw [← hwp]; exact (Since.refl w).alloc _
  obtain ⟨w1, hw1⟩ : ∃ w1, wp.alloc (.cells #[.slice none 0 0, .slice none 0 0, .slice none 0 0] 26) = w1 := ⟨_, rfl⟩
  have hNB : NilBox w1 wp.heap.size := by rw [← hw1]; exact NilBox.new wp _
  have hSp1 : Since wp w1 := by rw [← hw1]; exact (Since.refl wp).alloc _
  have hP1 := hPp.since hSp1
  have hS1 := hSp.trans hSp1
  have hW1 := hW.since hS1
  have p0 := hP1.c0
  have p1 := hP1.c1
  have p2 := hP1.c2
  dsimp only at p0 p1 p2
  have hA := castCast_any ⟨ga, gl, gc, na, nl, nc, wa, wl, wc⟩ d n g true ByteArray.empty w1 hW1 (fun _ => rfl)
  dsimp only at hA
  obtain ⟨r, hr⟩ : ∃ r, checked d (castD d n g true ByteArray.empty) = r := ⟨_, rfl⟩
  rw [hr] at hA ⊢
  clear hr hW
  cases r with
  | error er =>
    go_enter Tryz.func32, Tryz.ntmps32
    go_wp2_with fail
    refine hA.mono ?_
    rintro e w2 hR
    obtain ⟨rfl, hS2⟩ := hR.out.1 er rfl
    obtain ⟨_, r0, r1, r2, r3, r4, r5⟩ := hNB.since hS2
    go_wp2_with fail
    refine bodyPost_ret (v := .tuple #[.agg #[.slice none 0 0, .slice none 0 0, .slice none 0 0], .int .i64 er]) ?_ rfl (show Hid _ from resW_err (nil_since hSp.size (hS1.trans hS2)))
    simp [results, Tryz.results32, go_sem, r0, r1, r2]
  | ok d' =>
    go_enter Tryz.func32, Tryz.ntmps32
    go_wp2_with fail
    refine hA.mono ?_
    rintro e w2 hR
    obtain ⟨L, rfl, hO, hS2⟩ := hR.out.2 d' rfl
    simp only [wval]
    obtain ⟨_, r0, r1, r2, r3, r4, r5⟩ := hNB.since hS2
    obtain ⟨hO2, hSf⟩ := hO.result (w0 := w) (p := wp.heap.size) hNB.lt hSp.size (hS1.trans hS2) hS1.size
    go_wp2_with fail
    refine bodyPost_ret (v := .tuple #[wval L d', .int .i64 0]) ?_ rfl (show Hid _ from resW_ok hO2 hSf)
    simp [results, Tryz.results32, go_sem, r0, r1, r2, wval]
end Go.Proofs.YtiiifecfdkjmbaaGreat
