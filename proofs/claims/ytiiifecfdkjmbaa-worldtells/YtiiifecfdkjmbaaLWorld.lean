/- The laws' helper worldBegun answers true; no condition. -/
import Derived.Test.YtiiifecfdkjmbaaLBoundX
import Derived.Test.YtiiifecfdkjmbaaOwnZ
import Derived.Test.YtiiifecfdkjmbaaLDoX
import Derived.Test.YtiiifecfdkjmbaaSameN
namespace Go.Proofs.Ytiiifecfdkjmbaa
set_option maxRecDepth 8000
open Go.RowKit Go.Shelf
open _root_.Go.Proofs.Ytiiifecfdkjmbaa.Pure
set_option linter.unusedVariables false
set_option linter.unusedSimpArgs false
def wActs : List Ac := [⟨1, 0, 0, bbA⟩]
def wD : Wd := doneD 3 [3, 6] wActs
def wX : Nd := (wD.nodes[0]?).getD ⟨0, [], [], []⟩
def wN : Nd := (wD.nodes[2]?).getD ⟨0, [], [], []⟩
def wRow : List Int := (wX.last[1]?).getD []
def wWr : List (List Mg) := (wD.wires[0]?).getD []
def wM : Mg := ((wireAt wD 0 1)[0]?).getD ⟨0, 0, 0, false, ByteArray.empty⟩
def wDX : Wd := setNode wD 0 { wX with last := wX.last.set 1 (wRow.set 0 1) }
def wDY : Wd := setWire wD 0 1 [{ wM with fr := 1 }]
def wDZ : Wd := setWire wD 0 2 [wM]
theorem wE_all : worldE (beginD 3 [3, 6]) = 0 ∧ worldE wD = 0 ∧ worldE wDX = 1 ∧ worldE wDY = 1 ∧ worldE wDZ = 1 ∧ worldE ⟨[], [], []⟩ = 3 := ⟨by decide +kernel, by decide +kernel, by decide +kernel, by decide +kernel, by decide +kernel, by decide +kernel⟩
theorem w_x : wD.nodes[0]? = some wX ∧ wX.last[1]? = some wRow ∧ wRow.length = 3 ∧ wX.last.length = 2 ∧ wD.nodes.length = 3 := ⟨by kernel_rfl, by kernel_rfl, by decide +kernel, by decide +kernel, by decide +kernel⟩
theorem w_w : wD.wires[0]? = some wWr ∧ wWr.length = 3 ∧ wWr[1]? = some [wM] ∧ wWr[2]? = some [] ∧ wD.nodes[2]? = some wN ∧ wD.wires.length = 3 := ⟨by kernel_rfl, by decide +kernel, by kernel_rfl, by kernel_rfl, by kernel_rfl, by decide +kernel⟩
theorem begin_w (w : World) :
  Calls Try.prog 44 #[.slice (some ⟨w.heap.size, 0, none⟩) 1 1] (w.alloc (.cells #[.int .i64 1, .int .i64 0, .int .i64 0, .string ⟨#[97]⟩] 73)) fun e w' => ∃ L, e = .returned (wval L wD) ∧ OwnW w.heap.size w' wD L ∧ Since w w' := by
 refine (begin_any _ _ wActs (by decide) _ (acts_new w wActs (by decide) _)).mono ?_
 rintro e w' ⟨L, rfl, hO, hS⟩
 exact ⟨L, rfl, hO.mono (by simp), ((Since.refl w).alloc _).trans hS⟩
theorem wb_1 (w : World) (a : Option Addr) (c : Nat) (hI : Ints w a 2 [3, 6]) : Calls Try.prog 12 #[.int .i64 3, .slice a 2 c] w fun e w' => Hid (ResW w (.ok (beginD 3 [3, 6])) e w') := worldBegin_any 3 a 2 c [3, 6] w hI
theorem wb_2 (w : World) : Calls Try.prog 12 #[.int .i64 3, .slice none 0 0] w fun e w' => Hid (ResW w (.error 2) e w') := worldBegin_any 3 none 0 0 [] w ints_nil
theorem wb_3 (w : World) (a : Option Addr) (c : Nat) (hI : Ints w a 2 [3, 6]) : Calls Try.prog 14 #[.int .i64 3, .slice a 2 c] w fun e w' => ∃ L, e = .returned (wval L (beginD 3 [3, 6])) ∧ OwnW w.heap.size w' (beginD 3 [3, 6]) L ∧ Since w w' := beginOf_any 3 (by omega) [3, 6] (by simp) a c w hI
set_option maxHeartbeats 2000000 in
theorem worldBegun_key (B D DX DY DZ : Wd) (X N : Nd) (row : List Int) (wr : List (List Mg)) (M : Mg)
  (h1 : Hid (∀ (w : World) (a : Option Addr) (c : Nat), Ints w a 2 [3, 6] → Calls Try.prog 12 #[.int .i64 3, .slice a 2 c] w fun e w' => Hid (ResW w (.ok B) e w')))
  (h2 : Hid (∀ w : World, Calls Try.prog 12 #[.int .i64 3, .slice none 0 0] w fun e w' => Hid (ResW w (.error 2) e w')))
  (h3 : Hid (∀ (w : World) (a : Option Addr) (c : Nat), Ints w a 2 [3, 6] → Calls Try.prog 14 #[.int .i64 3, .slice a 2 c] w fun e w' => ∃ L, e = .returned (wval L B) ∧ OwnW w.heap.size w' B L ∧ Since w w'))
  (hb : Hid (∀ w : World, Calls Try.prog 44 #[.slice (some ⟨w.heap.size, 0, none⟩) 1 1] (w.alloc (.cells #[.int .i64 1, .int .i64 0, .int .i64 0, .string ⟨#[97]⟩] 73)) fun e w' => ∃ L, e = .returned (wval L D) ∧ OwnW w.heap.size w' D L ∧ Since w w'))
  (fE : Hid (worldE B = 0 ∧ worldE D = 0 ∧ worldE DX = 1 ∧ worldE DY = 1 ∧ worldE DZ = 1 ∧ worldE ⟨[], [], []⟩ = 3))
  (fx : Hid (D.nodes[0]? = some X ∧ X.last[1]? = some row ∧ row.length = 3 ∧ X.last.length = 2 ∧ D.nodes.length = 3))
  (fw : Hid (D.wires[0]? = some wr ∧ wr.length = 3 ∧ wr[1]? = some [M] ∧ wr[2]? = some [] ∧ D.nodes[2]? = some N ∧ D.wires.length = 3))
  (hDX : Hid (setNode D 0 { X with last := X.last.set 1 (row.set 0 1) } = DX)) (hDY : Hid (setWire D 0 1 [{ M with fr := 1 }] = DY)) (hDZ : Hid (setWire D 0 2 [M] = DZ)) (w : World) :
  Calls Try.prog 15 #[] w fun e w' => e = .returned (.bool true) ∧ Since w w' := by
 go_enter Try.func15, Try.ntmps15
 go_wp2_with (go_at_call 43; refine (two_s w w (Since.refl _)).mono ?_; rintro e wA ⟨bA, cA, rfl, hIA, hSA⟩)
 refine (h1.out _ _ _ hIA).mono ?_
 rintro e w1 hR1
 obtain ⟨⟨vga, vgl, vgc, vna, vnl, vnc, vwa, vwl, vwc⟩, rfl, hV1, hS1⟩ := resW_wat hR1
 dsimp only
 obtain ⟨w2, hw2⟩ : ∃ y, w1.alloc (.cells #[.slice vga vgl vgc, .slice vna vnl vnc, .slice vwa vwl vwc] 26) = y := ⟨_, rfl⟩
 have hS2 : Since w1 w2 := by rw [← hw2]; exact (Since.refl w1).alloc _
 have hP2 : ParBox w2 w1.heap.size ⟨vga, vgl, vgc, vna, vnl, vnc, vwa, vwl, vwc⟩ := by rw [← hw2]; exact ParBox.new w1 ⟨vga, vgl, vgc, vna, vnl, vnc, vwa, vwl, vwc⟩ _
 have hV2 := hV1.since hS2
 have hw2s := (hSA.trans hS1).trans hS2
 clear hR1 hV1
 go_wp2_with fail
 refine (h2.out w2).mono ?_
 rintro e w3 hR3
 obtain ⟨rfl, hS3⟩ := hR3.out.1 2 rfl
 obtain ⟨w4, hw4⟩ : ∃ y, w3.alloc (.cells #[.slice none 0 0, .slice none 0 0, .slice none 0 0] 26) = y := ⟨_, rfl⟩
 have hS4' : Since w3 w4 := by rw [← hw4]; exact (Since.refl w3).alloc _
 have hN4 : NilBox w4 w3.heap.size := by rw [← hw4]; exact NilBox.new w3 _
 obtain ⟨w5, hw5⟩ : ∃ y, ((w4.setCell ⟨w3.heap.size, 0, none⟩ (.slice none 0 0)).setCell ⟨w3.heap.size, 1, none⟩ (.slice none 0 0)).setCell ⟨w3.heap.size, 2, none⟩ (.slice none 0 0) = y := ⟨_, rfl⟩
 have hS5 : Since w3 w5 := by rw [← hw5]; exact (put3_fr w4 w3.heap.size _ _ _).sinceBase hS4' (fun i hi e => by omega)
 have hw5s := (hw2s.trans hS3).trans hS5
 have h25 := hS3.trans hS5
 obtain ⟨_, z0, z1, z2, z3, z4, z5⟩ := hN4
 obtain ⟨e1, e2, e3, e4, e5⟩ := fx.out
 obtain ⟨g1, g2, g3, g4, g5, g6⟩ := fw.out
 go_wp2_with (go_at_call 45; refine (act_any _ _ _ _ _).mono ?_; rintro e wDx ⟨rfl, hSdx⟩)
 refine (hb.out _).mono ?_
 rintro e wEx ⟨Lx, rfl, hOx, hSex⟩
 simp only [wval]
 have hPx := (Since.refl w5).trans hSdx
 have hQx := hPx.trans hSex
 obtain ⟨wKx, hwKx⟩ : ∃ y, wEx.alloc (.cells #[.slice (Lx (0, 0, 0)).a D.groups.length (Lx (0, 0, 0)).cap, .slice (Lx (1, 0, 0)).a D.nodes.length (Lx (1, 0, 0)).cap, .slice (Lx (2, 0, 0)).a D.wires.length (Lx (2, 0, 0)).cap] 26) = y := ⟨_, rfl⟩
 have hSkx : Since wEx wKx := by rw [← hwKx]; exact (Since.refl wEx).alloc _
 have hBx : BoxW wKx wEx.heap.size Lx D := by rw [← hwKx]; constructor <;> simp [go_sem]
 have hMx : MadeW wDx.heap.size wKx wEx.heap.size D Lx := ⟨hOx.since hSkx, hBx, fun hb => by have := (hOx.blk hb).2; omega⟩
 have hRx := hQx.trans hSkx
 obtain ⟨bn, on, cn, hL1, _, hbn, hbk, hcn⟩ := hMx.own.lies (ix := (1, 0, 0)) ⟨rfl, rfl⟩ (by show 0 < D.nodes.length; omega)
 obtain ⟨_, k1, _, _, _⟩ := hMx.own.cells e1 hL1
 obtain ⟨b3, o3, cc3, b4, o4, cc4, hL3, hL4, hb3, hb4, v1, v2, v3⟩ := hMx.own.lastCells e1 e2 (by omega)
 have x1 := hMx.box.c1
 rw [hL1, e5] at x1
 rw [hL3, e4] at k1
 rw [e3] at v1
 dsimp only [Sl.v] at x1 k1
 obtain ⟨r0, hr0⟩ : ∃ v, row[0]? = some v := ⟨_, List.getElem?_eq_getElem (by omega)⟩
 have v4 := v2 0 r0 hr0
 have v5 := v3 0 (by omega)
 simp only [Nat.add_zero, Nat.zero_mul] at v1 v4 v5 k1
 obtain ⟨wS, hwS⟩ : ∃ y, wKx.setCell ⟨b4, o4, none⟩ (.int .i64 1) = y := ⟨_, rfl⟩
 have hput := hMx.own.putLast e1 e2 (k := 0) (by omega) hL4 1
 rw [Nat.add_zero, hwS, hDX.out] at hput
 have ok4 : okI D (4, 0, 1) := ⟨by show 0 < D.nodes.length; omega, by rw [ndAt_of e1]; omega⟩
 obtain ⟨hge4, hbk4⟩ : wDx.heap.size ≤ b4 ∧ (Lx (4, 0, 1)).blk = some b4 := by
  obtain ⟨bb, oo, ee, hq, hlo, _, hh, _⟩ := hMx.own.lies ok4 (by show 0 < (lrAt D 0 1).length; have : lrAt D 0 1 = row := (by unfold lrAt; rw [ndAt_of e1, e2]; rfl); rw [this]; omega)
  have hq2 := hL4.symm.trans hq
  cases hq2
  exact ⟨hlo, hh⟩
 have hFS : Fr (fun i => i = b4) wKx wS := by rw [← hwS]; exact (Fr.refl _ wKx).setCell _ _ (fun _ => rfl)
 have hwSs : Since w5 wS := hFS.sinceBase hRx (fun i hi e => by have := hPx.size; omega)
 have hBS : BoxW wS wEx.heap.size Lx D := hBx.fr hFS (fun e => hMx.off ⟨(4, 0, 1), ok4, by rw [e]; exact hbk4⟩)
 have CX : Hid (∀ y, Since wS y → Calls Try.prog 17 #[.agg #[.slice (Lx (0, 0, 0)).a D.groups.length (Lx (0, 0, 0)).cap, .slice (some ⟨bn, on, none⟩) 3 cn, .slice (Lx (2, 0, 0)).a D.wires.length (Lx (2, 0, 0)).cap]] y fun e w' => e = .returned (.int .i64 1) ∧ Since y w') := fun y hy => by
  have h := worldCheck_any (wvOf Lx DX) DX y (hput.since hy).wat
  have e : wvOf Lx DX = wvOf Lx D := by rw [← hDX.out]; simp [wvOf, setNode]
  rw [e, fE.out.2.2.1] at h
  unfold wvOf at h
  rw [hL1, e5] at h
  exact h
 have BX : Hid (∀ y, Since wS y → y.cell? ⟨wEx.heap.size, 0, none⟩ = some (.slice (Lx (0, 0, 0)).a D.groups.length (Lx (0, 0, 0)).cap) ∧ y.cell? ⟨wEx.heap.size, 1, none⟩ = some (.slice (some ⟨bn, on, none⟩) 3 cn) ∧ y.cell? ⟨wEx.heap.size, 2, none⟩ = some (.slice (Lx (2, 0, 0)).a D.wires.length (Lx (2, 0, 0)).cap)) := fun y hy => by
  have h := hBS.since hy
  have h1 := h.c1
  rw [hL1, e5] at h1
  exact ⟨h.c0, h1, h.c2⟩
 have HE := (show Hid _ from And.intro e3 (And.intro e4 (And.intro e5 (And.intro g2 g6))))
 clear e3 e4 e5 hL1 hL3 hL4 v2 v3 hBS hput hOx g2 g6
 go_wp2_with fail
 clear x1 k1 v1 v4 v5 hwKx hwS
 go_wp2_with (go_at_call 45; refine (act_any _ _ _ _ _).mono ?_; rintro e wDy ⟨rfl, hSdy⟩)
 refine (hb.out _).mono ?_
 rintro e wEy ⟨Ly, rfl, hOy, hSey⟩
 simp only [wval]
 have hPy := (Since.refl wS).trans hSdy
 have hQy := hPy.trans hSey
 obtain ⟨wKy, hwKy⟩ : ∃ y, wEy.alloc (.cells #[.slice (Ly (0, 0, 0)).a D.groups.length (Ly (0, 0, 0)).cap, .slice (Ly (1, 0, 0)).a D.nodes.length (Ly (1, 0, 0)).cap, .slice (Ly (2, 0, 0)).a D.wires.length (Ly (2, 0, 0)).cap] 26) = y := ⟨_, rfl⟩
 have hSky : Since wEy wKy := by rw [← hwKy]; exact (Since.refl wEy).alloc _
 have hBy : BoxW wKy wEy.heap.size Ly D := by rw [← hwKy]; constructor <;> simp [go_sem]
 have hMy : MadeW wDy.heap.size wKy wEy.heap.size D Ly := ⟨hOy.since hSky, hBy, fun hb => by have := (hOy.blk hb).2; omega⟩
 have hRy := hQy.trans hSky
 obtain ⟨bw, ow, cw, br, oR, cr, hL2, hL7, hbw, hbr, hlr, u1, u2, u3⟩ := hMy.own.wires3 g1 (by have := HE.out.2.2.2.1; omega)
 obtain ⟨bq, oq, cq, hL8, hbq, hlq, t1, t2⟩ := hMy.own.wire1 g1 g3 (by simp)
 have y2 := hMy.box.c2
 rw [hL2, HE.out.2.2.2.2] at y2
 have u4 := u2 1 _ g3
 rw [hL8] at u4
 rw [HE.out.2.2.2.1] at u1
 have t3 := t1 0 _ rfl
 have t4 := t2 0 (by simp)
 dsimp only [Sl.v] at y2 u4
 simp only [Nat.add_zero, List.length_singleton] at u1 u4 t3 t4
 obtain ⟨wT, hwT⟩ : ∃ y, wKy.setCell ⟨bq, oq, none⟩ (.int .i64 1) = y := ⟨_, rfl⟩
 have hput := hMy.own.pokeWire g1 g3 hL8 (l' := [{ M with fr := 1 }]) rfl (j := 0) (by simp) (.int .i64 1) rfl
 rw [Nat.add_zero, hwT, hDY.out] at hput
 have hFT : Fr (fun i => i = bq) wKy wT := by rw [← hwT]; exact (Fr.refl _ wKy).setCell _ _ (fun _ => rfl)
 have hwTs : Since wS wT := hFT.sinceBase hRy (fun i hi e => by have := hPy.size; omega)
 have hBT : BoxW wT wEy.heap.size Ly D := hBy.fr hFT (fun e => hMy.off (by
  have hok : okI D (8, 0, 1) := ⟨(List.getElem?_eq_some_iff.1 g1).1, by rw [rowAt_of g1]; exact (List.getElem?_eq_some_iff.1 g3).1⟩
  obtain ⟨bb, oo, ee, hq, _, _, hh, _⟩ := hMy.own.lies hok (by show 0 < (wrAt D 0 1).length; rw [wrAt_of g1 g3]; simp)
  have hq2 := hL8.symm.trans hq
  cases hq2
  exact ⟨_, hok, by rw [e]; exact hh⟩))
 have CY : Hid (∀ y, Since wT y → Calls Try.prog 17 #[.agg #[.slice (Ly (0, 0, 0)).a D.groups.length (Ly (0, 0, 0)).cap, .slice (Ly (1, 0, 0)).a D.nodes.length (Ly (1, 0, 0)).cap, .slice (some ⟨bw, ow, none⟩) 3 cw]] y fun e w' => e = .returned (.int .i64 1) ∧ Since y w') := fun y hy => by
  have h := worldCheck_any (wvOf Ly DY) DY y (hput.since hy).wat
  have e : wvOf Ly DY = wvOf Ly D := by rw [← hDY.out]; simp [wvOf, setWire]
  rw [e, fE.out.2.2.2.1] at h
  unfold wvOf at h
  rw [hL2, HE.out.2.2.2.2] at h
  exact h
 have BY : Hid (∀ y, Since wT y → y.cell? ⟨wEy.heap.size, 0, none⟩ = some (.slice (Ly (0, 0, 0)).a D.groups.length (Ly (0, 0, 0)).cap) ∧ y.cell? ⟨wEy.heap.size, 1, none⟩ = some (.slice (Ly (1, 0, 0)).a D.nodes.length (Ly (1, 0, 0)).cap) ∧ y.cell? ⟨wEy.heap.size, 2, none⟩ = some (.slice (some ⟨bw, ow, none⟩) 3 cw)) := fun y hy => by
  have h := hBT.since hy
  have h1 := h.c2
  rw [hL2, HE.out.2.2.2.2] at h1
  exact ⟨h.c0, h.c1, h1⟩
 clear hL2 hL7 hL8 u2 u3 t1 t2 hBT hput hOy
 go_wp2_with fail
 clear y2 u1 u4 t3 t4 hwKy hwT
 go_wp2_with (go_at_call 45; refine (act_any _ _ _ _ _).mono ?_; rintro e wDz ⟨rfl, hSdz⟩)
 refine (hb.out _).mono ?_
 rintro e wEz ⟨Lz, rfl, hOz, hSez⟩
 simp only [wval]
 have hPz := (Since.refl wT).trans hSdz
 have hQz := hPz.trans hSez
 obtain ⟨wKz, hwKz⟩ : ∃ y, wEz.alloc (.cells #[.slice (Lz (0, 0, 0)).a D.groups.length (Lz (0, 0, 0)).cap, .slice (Lz (1, 0, 0)).a D.nodes.length (Lz (1, 0, 0)).cap, .slice (Lz (2, 0, 0)).a D.wires.length (Lz (2, 0, 0)).cap] 26) = y := ⟨_, rfl⟩
 have hSkz : Since wEz wKz := by rw [← hwKz]; exact (Since.refl wEz).alloc _
 have hBz : BoxW wKz wEz.heap.size Lz D := by rw [← hwKz]; constructor <;> simp [go_sem]
 have hMz : MadeW wDz.heap.size wKz wEz.heap.size D Lz := ⟨hOz.since hSkz, hBz, fun hb => by have := (hOz.blk hb).2; omega⟩
 have hRz := hQz.trans hSkz
 go_wp2_with fail
 try rw [hwKz]
 obtain ⟨bv, ov, cv, bs, oS, cs, hL2, hL7, hbv, hbs, hls, u1, u2, u3⟩ := hMz.own.wires3 g1 (by have := HE.out.2.2.2.1; omega)
 obtain ⟨bp, op, cp, hL8, hbp, hlp, _, _⟩ := hMz.own.wire1 g1 g3 (by simp)
 have y2 := hMz.box.c2
 rw [hL2, HE.out.2.2.2.2] at y2
 have u4 := u2 1 _ g3
 have u5 := u2 2 _ g4
 have u6 := u3 2 (by have := HE.out.2.2.2.1; omega)
 rw [hL8] at u4
 rw [HE.out.2.2.2.1] at u1
 dsimp only [Sl.v] at y2 u4 u5
 simp only [Nat.add_zero, List.length_singleton, List.length_nil] at u1 u4 u5
 have KZ := hBz.lt
 obtain ⟨S0, hS0⟩ : ∃ S0 : World → Prop, ∀ w', S0 w' ↔ Since wKz w' := ⟨_, fun _ => Iff.rfl⟩
 have c1 : ∀ y : HeldW S0, y.w.cell? ⟨wEz.heap.size, 2, none⟩ = some (.slice (some ⟨bv, ov, none⟩) 3 cv) := fun y => (((hS0 _).1 y.h).cellAt KZ _).trans y2
 have c2 : ∀ y : HeldW S0, y.w.cell? ⟨bv, ov, none⟩ = some (.slice (some ⟨bs, oS, none⟩) 3 cs) := fun y => (((hS0 _).1 y.h).cellAt hbv _).trans u1
 have c3 : ∀ y : HeldW S0, y.w.cell? ⟨bs, oS + 1, none⟩ = some (.slice (some ⟨bp, op, none⟩) 1 cp) := fun y => (((hS0 _).1 y.h).cellAt hbs _).trans u4
 obtain ⟨W0, hW0⟩ : ∃ y, wKz.drew = y := ⟨_, rfl⟩
 have hs0 : Since wKz W0 := by rw [← hW0]; exact Since.drew (Since.refl _)
 have hSi0 := (hS0 W0).2 hs0
 have hne : Nonempty (HeldW S0) := ⟨⟨_, hSi0⟩⟩
 have hneT := heldTrue w
 have v5 := (hs0.cellAt hbs _).trans u5
 have v6 := (hs0.below.frozen (p := ⟨bs, oS + 2, none⟩) hbs).trans u6
 obtain ⟨wU, hwU⟩ : ∃ y, W0.setCell ⟨bs, oS + 2, none⟩ (.slice (some ⟨bp, op, none⟩) 1 cp) = y := ⟨_, rfl⟩
 have hlend := (hMz.own.since hs0).lend g5 g1 g4 g3 hL7
 rw [hL8] at hlend
 have hlend' : WAt wU (wvOf Lz D) DZ := by rw [← hwU, ← hDZ.out]; exact hlend
 have hFU : Fr (fun i => i = bs) W0 wU := by rw [← hwU]; exact (Fr.refl _ W0).setCell _ _ (fun _ => rfl)
 have hwUs : Since wT wU := hFU.sinceBase (hRz.trans hs0) (fun i hi e => by have := hPz.size; omega)
 have hBU : BoxW wU wEz.heap.size Lz D := (hBz.since hs0).fr hFU (fun e => hMz.off (by
  have hok : okI D (7, 0, 0) := ⟨(List.getElem?_eq_some_iff.1 g1).1, rfl⟩
  obtain ⟨bb, oo, ee, hq, _, _, hh, _⟩ := hMz.own.lies hok (by show 0 < (rowAt D 0).length; rw [rowAt_of g1]; have := HE.out.2.2.2.1; omega)
  have hq2 := hL7.symm.trans hq
  cases hq2
  exact ⟨_, hok, by rw [e]; exact hh⟩))
 have CZ : Hid (∀ y, Since wU y → Calls Try.prog 17 #[.agg #[.slice (Lz (0, 0, 0)).a D.groups.length (Lz (0, 0, 0)).cap, .slice (Lz (1, 0, 0)).a D.nodes.length (Lz (1, 0, 0)).cap, .slice (some ⟨bv, ov, none⟩) 3 cv]] y fun e w' => e = .returned (.int .i64 1) ∧ Since y w') := fun y hy => by
  have h := worldCheck_any (wvOf Lz D) DZ y (hlend'.since hy)
  rw [fE.out.2.2.2.2.1] at h
  unfold wvOf at h
  rw [hL2, HE.out.2.2.2.2] at h
  exact h
 have BZ : Hid (∀ y, Since wU y → y.cell? ⟨wEz.heap.size, 0, none⟩ = some (.slice (Lz (0, 0, 0)).a D.groups.length (Lz (0, 0, 0)).cap) ∧ y.cell? ⟨wEz.heap.size, 1, none⟩ = some (.slice (Lz (1, 0, 0)).a D.nodes.length (Lz (1, 0, 0)).cap) ∧ y.cell? ⟨wEz.heap.size, 2, none⟩ = some (.slice (some ⟨bv, ov, none⟩) 3 cv)) := fun y hy => by
  have h := hBU.since hy
  have h1 := h.c2
  rw [hL2, HE.out.2.2.2.2] at h1
  exact ⟨h.c0, h.c1, h1⟩
 clear hL2 hL7 hL8 u2 u3 u1 u4 u5 u6 y2 hlend hlend' hBU hOz hwKz
 refine beginM (fun w' => ∃ x : HeldW S0, w' = x.w) (by kernel_rfl) ?_
 rw [hW0]
 clear hW0
 refine tW 0 rfl ?_
 go_big_quiet_op
 refine tM 1 rfl (heldS_mk hSi0) ?_
 go_big_quiet_op
 refine tW 2 rfl ?_
 go_big_quiet_op
 refine tM 3 rfl (heldS_mk hSi0) ?_
 go_big_quiet_op
 refine tW 4 rfl ?_
 go_big_quiet_op
 refine tM 5 rfl (heldS_mk hSi0) ?_
 go_big_quiet_op
 refine tW 6 rfl ?_
 go_big_quiet_op
 refine tM 7 rfl (heldS_mk hSi0) ?_
 go_big_quiet_op
 refine tW 8 rfl ?_
 go_big_quiet_op
 refine tM 9 rfl (heldS_mk hSi0) ?_
 go_big_quiet_op
 refine tW 10 rfl ?_
 go_big_quiet_op
 refine actM 11 rfl (by kernel_rfl) ?_
 intro K hK
 go_simp
 refine hK _ _ (fun h => absurd h (by decide +kernel)) ?_
 clear hK K
 refine doneM (by kernel_rfl) ?_
 try rw [hwU]
 clear c1 c2 c3 hne hneT v5 v6 hwU hS0 hSi0 S0
 have hSU : Since wS wU := hwTs.trans hwUs
 have h2U : Since w2 wU := h25.trans (hwSs.trans hSU)
 obtain ⟨S0, hS0⟩ : ∃ S0 : World → Prop, ∀ w', S0 w' ↔ Since wU w' := ⟨_, fun _ => Iff.rfl⟩
 have a0 : ∀ y : HeldW S0, y.w.cell? ⟨w1.heap.size, 0, none⟩ = some (.slice vga vgl vgc) := fun y => (hP2.since (h2U.trans ((hS0 _).1 y.h))).c0
 have a1 : ∀ y : HeldW S0, y.w.cell? ⟨w1.heap.size, 1, none⟩ = some (.slice vna vnl vnc) := fun y => (hP2.since (h2U.trans ((hS0 _).1 y.h))).c1
 have a2 : ∀ y : HeldW S0, y.w.cell? ⟨w1.heap.size, 2, none⟩ = some (.slice vwa vwl vwc) := fun y => (hP2.since (h2U.trans ((hS0 _).1 y.h))).c2
 have x0 : ∀ y : HeldW S0, y.w.cell? ⟨wEx.heap.size, 0, none⟩ = _ := fun y => (BX.out _ (hSU.trans ((hS0 _).1 y.h))).1
 have x1 : ∀ y : HeldW S0, y.w.cell? ⟨wEx.heap.size, 1, none⟩ = _ := fun y => (BX.out _ (hSU.trans ((hS0 _).1 y.h))).2.1
 have x2 : ∀ y : HeldW S0, y.w.cell? ⟨wEx.heap.size, 2, none⟩ = _ := fun y => (BX.out _ (hSU.trans ((hS0 _).1 y.h))).2.2
 have y0 : ∀ y : HeldW S0, y.w.cell? ⟨wEy.heap.size, 0, none⟩ = _ := fun y => (BY.out _ (hwUs.trans ((hS0 _).1 y.h))).1
 have y1 : ∀ y : HeldW S0, y.w.cell? ⟨wEy.heap.size, 1, none⟩ = _ := fun y => (BY.out _ (hwUs.trans ((hS0 _).1 y.h))).2.1
 have y2 : ∀ y : HeldW S0, y.w.cell? ⟨wEy.heap.size, 2, none⟩ = _ := fun y => (BY.out _ (hwUs.trans ((hS0 _).1 y.h))).2.2
 have z0 : ∀ y : HeldW S0, y.w.cell? ⟨wEz.heap.size, 0, none⟩ = _ := fun y => (BZ.out _ ((hS0 _).1 y.h)).1
 have z1 : ∀ y : HeldW S0, y.w.cell? ⟨wEz.heap.size, 1, none⟩ = _ := fun y => (BZ.out _ ((hS0 _).1 y.h)).2.1
 have z2 : ∀ y : HeldW S0, y.w.cell? ⟨wEz.heap.size, 2, none⟩ = _ := fun y => (BZ.out _ ((hS0 _).1 y.h)).2.2
 obtain ⟨V0, hV0⟩ : ∃ y, wU.drew = y := ⟨_, rfl⟩
 have ht0 : Since wU V0 := by rw [← hV0]; exact Since.drew (Since.refl _)
 have hSi0 := (hS0 V0).2 ht0
 have hne : Nonempty (HeldW S0) := ⟨⟨_, hSi0⟩⟩
 have hneT := heldTrue w
 go_wp2_with fail
 refine beginM (fun w' => ∃ x : HeldW S0, w' = x.w) (by kernel_rfl) ?_
 rw [hV0]
 clear hV0
 refine tW 0 rfl ?_
 go_big_quiet_op
 refine tW 1 rfl ?_
 go_big_quiet_op
 refine tW 2 rfl ?_
 go_big_quiet_op
 refine tW 3 rfl ?_
 go_big_quiet_op
 refine tW 4 rfl ?_
 go_big_quiet_op
 refine tW 5 rfl ?_
 go_big_quiet_op
 refine tW 6 rfl ?_
 go_big_quiet_op
 refine tM 7 rfl (heldS_mk hSi0) ?_
 go_big_quiet_op
 refine actM 8 rfl (by kernel_rfl) ?_
 intro K hK
 have hck := worldCheck_any ⟨vga, vgl, vgc, vna, vnl, vnc, vwa, vwl, vwc⟩ B V0 (hV2.since (h2U.trans ht0))
 rw [fE.out.1] at hck
 dsimp only at hck
 go_simp
 refine (hck).mono ?_
 rintro e V1 ⟨rfl, hs1⟩
 have ht1 := ht0.trans hs1
 have hSi1 := (hS0 V1).2 ht1
 refine hK _ _ (fun _ _ => heldS_mk hSi1) ?_
 clear hK K
 refine tW 9 rfl ?_
 go_big_quiet_op
 refine tW 10 rfl ?_
 go_big_quiet_op
 refine tW 11 rfl ?_
 go_big_quiet_op
 refine tM 12 rfl (heldS_mk hSi1) ?_
 go_big_quiet_op
 refine actM 13 rfl (by kernel_rfl) ?_
 intro K hK
 go_simp
 refine (two_s V1 V1 (Since.refl _)).mono ?_
 rintro e V2 ⟨bA2, cA2, rfl, hIA2, hs2⟩
 have ht2 := ht1.trans hs2
 have hSi2 := (hS0 V2).2 ht2
 refine hK _ _ (fun _ _ => heldS_mk hSi2) ?_
 clear hK K
 refine actM 14 rfl (by kernel_rfl) ?_
 intro K hK
 go_simp
 refine (h3.out V2 _ _ hIA2).mono ?_
 rintro e V3 ⟨LB, rfl, hOB, hs3⟩
 simp only [wval]
 have ht3 := ht2.trans hs3
 have hSi3 := (hS0 V3).2 ht3
 refine hK _ _ (fun _ _ => heldS_mk hSi3) ?_
 clear hK K
 refine actM 15 rfl (by kernel_rfl) ?_
 intro K hK
 have hsw := sameWorlds_true ⟨vga, vgl, vgc, vna, vnl, vnc, vwa, vwl, vwc⟩ (wvOf LB B) B V3 (hV2.since (h2U.trans ht3)) hOB.wat
 unfold wvOf at hsw
 dsimp only at hsw
 go_simp
 refine (hsw).mono ?_
 rintro e V4 ⟨rfl, hs4⟩
 have ht4 := ht3.trans hs4
 have hSi4 := (hS0 V4).2 ht4
 refine hK _ _ (fun _ _ => heldS_mk hSi4) ?_
 clear hK K
 refine tW 16 rfl ?_
 go_big_quiet_op
 refine tW 17 rfl ?_
 go_big_quiet_op
 refine actM 18 rfl (by kernel_rfl) ?_
 intro K hK
 go_simp
 refine (act_any _ _ _ _ V4).mono ?_
 rintro e V5 ⟨rfl, hs5⟩
 have ht5 := ht4.trans hs5
 have hSi5 := (hS0 V5).2 ht5
 refine hK _ _ (fun _ _ => heldS_mk hSi5) ?_
 clear hK K
 refine actM 19 rfl (by kernel_rfl) ?_
 intro K hK
 go_simp
 have hs6 : Since V5 (V5.alloc (.cells #[.int .i64 1, .int .i64 0, .int .i64 0, .string ⟨#[97]⟩] 73)) := (Since.refl V5).alloc _
 have hSi6 := (hS0 _).2 (ht5.trans hs6)
 refine hK _ _ (fun _ _ => heldS_mk hSi6) ?_
 clear hK K
 refine actM 20 rfl (by kernel_rfl) ?_
 intro K hK
 go_simp
 refine (hb.out V5).mono ?_
 rintro e V7 ⟨LD, rfl, hOD, hs7⟩
 simp only [wval]
 have ht7 := ht5.trans hs7
 have hSi7 := (hS0 V7).2 ht7
 refine hK _ _ (fun _ _ => heldS_mk hSi7) ?_
 clear hK K
 refine actM 21 rfl (by kernel_rfl) ?_
 intro K hK
 have hck := worldCheck_any (wvOf LD D) D V7 hOD.wat
 rw [fE.out.2.1] at hck
 unfold wvOf at hck
 dsimp only at hck
 go_simp
 refine (hck).mono ?_
 rintro e V8 ⟨rfl, hs8⟩
 have ht8 := ht7.trans hs8
 have hSi8 := (hS0 V8).2 ht8
 refine hK _ _ (fun _ _ => heldS_mk hSi8) ?_
 clear hK K
 refine tW 22 rfl ?_
 go_big_quiet_op
 refine tW 23 rfl ?_
 go_big_quiet_op
 refine tW 24 rfl ?_
 go_big_quiet_op
 refine tM 25 rfl (heldS_mk hSi8) ?_
 go_big_quiet_op
 refine actM 26 rfl (by kernel_rfl) ?_
 intro K hK
 go_simp
 refine (CX.out V8 (hSU.trans ht8)).mono ?_
 rintro e V9 ⟨rfl, hs9⟩
 have ht9 := ht8.trans hs9
 have hSi9 := (hS0 V9).2 ht9
 refine hK _ _ (fun _ _ => heldS_mk hSi9) ?_
 clear hK K
 refine tW 27 rfl ?_
 go_big_quiet_op
 refine tW 28 rfl ?_
 go_big_quiet_op
 refine tW 29 rfl ?_
 go_big_quiet_op
 refine tM 30 rfl (heldS_mk hSi9) ?_
 go_big_quiet_op
 refine actM 31 rfl (by kernel_rfl) ?_
 intro K hK
 go_simp
 refine (CY.out V9 (hwUs.trans ht9)).mono ?_
 rintro e V10 ⟨rfl, hs10⟩
 have ht10 := ht9.trans hs10
 have hSi10 := (hS0 V10).2 ht10
 refine hK _ _ (fun _ _ => heldS_mk hSi10) ?_
 clear hK K
 refine tW 32 rfl ?_
 go_big_quiet_op
 refine tW 33 rfl ?_
 go_big_quiet_op
 refine tW 34 rfl ?_
 go_big_quiet_op
 refine tM 35 rfl (heldS_mk hSi10) ?_
 go_big_quiet_op
 refine actM 36 rfl (by kernel_rfl) ?_
 intro K hK
 go_simp
 refine (CZ.out V10 ht10).mono ?_
 rintro e V11 ⟨rfl, hs11⟩
 have ht11 := ht10.trans hs11
 have hSi11 := (hS0 V11).2 ht11
 refine hK _ _ (fun h => absurd h (by decide +kernel)) ?_
 clear hK K
 refine tW 37 rfl ?_
 go_big_quiet_op
 refine tW 38 rfl ?_
 go_big_quiet_op
 refine tW 39 rfl ?_
 go_big_quiet_op
 refine tW 40 rfl ?_
 go_big_quiet_op
 refine actM 41 rfl (by kernel_rfl) ?_
 intro K hK
 have hck := worldCheck_any ⟨none, 0, 0, none, 0, 0, none, 0, 0⟩ ⟨[], [], []⟩ V11 (nil_wat V11)
 rw [fE.out.2.2.2.2.2] at hck
 dsimp only at hck
 go_simp
 refine (hck).mono ?_
 rintro e V12 ⟨rfl, hs12⟩
 have ht12 := ht11.trans hs12
 have hSi12 := (hS0 V12).2 ht12
 refine hK _ _ (fun h => absurd h (by decide +kernel)) ?_
 clear hK K
 refine tW 42 rfl ?_
 go_big_quiet_op
 refine tW 43 rfl ?_
 go_big_quiet_op
 refine tW 44 rfl ?_
 go_big_quiet_op
 refine doneM (by kernel_rfl) ?_
 clear a0 a1 a2 x0 x1 x2 y0 y1 y2 z0 z1 z2 hne hneT
 go_wp2_with fail
 go_ret
 exact ⟨by simp, hw2s.trans (h2U.trans ht12)⟩
theorem worldBegun_any (w : World) :
  Calls Try.prog 15 #[] w fun e w' => e = .returned (.bool true) ∧ Since w w' :=
 worldBegun_key (beginD 3 [3, 6]) wD wDX wDY wDZ wX wN wRow wWr wM wb_1 wb_2 wb_3 begin_w wE_all w_x w_w rfl rfl rfl w
end Go.Proofs.Ytiiifecfdkjmbaa
