/- Contract of furlongref.DoneOf, where no act is Calm; conditions: few nodes and groups, which are right; the acts read as a list. Contract of furlongref.DoneOf, where no act is Calm; conditions: few nodes and groups; the acts read as a list. The laws' helpers act, begin; conditions: no act is Calm. -/
import Derived.Test.YtiiifecfdkjmbaaGreatDRMoveX
import Derived.Test.YtiiifecfdkjmbaaGreatDRBegin
namespace Go.Proofs.YtiiifecfdkjmbaaGreat
set_option maxRecDepth 8000
open Go.RowKit Go.Shelf
open _root_.Go.Proofs.YtiiifecfdkjmbaaGreat.Pure
set_option linter.unusedVariables false
set_option linter.unusedSimpArgs false
structure AcAt (w : World) (b o : Nat) (x : Ac) : Prop where
 c0 : w.cell? ⟨b, o, none⟩ = some (.int .i64 x.kind)
 c1 : w.cell? ⟨b, o + 1, none⟩ = some (.int .i64 x.one)
 c2 : w.cell? ⟨b, o + 2, none⟩ = some (.int .i64 x.two)
 c3 : w.cell? ⟨b, o + 3, none⟩ = some (.string x.body)
structure Acts (w : World) (a : Option Addr) (len : Nat) (xs : List Ac) : Prop where
 hlen : xs.length = len
 hmax : len ≤ 3518437208780
 cells : 0 < len → ∃ b off, a = some ⟨b, off, none⟩ ∧ b < w.heap.size ∧ ∀ (i : Nat) (x : Ac), xs[i]? = some x → AcAt w b (off + i * 4) x
theorem Acts.since {w W : World} {a : Option Addr} {len : Nat} {xs : List Ac} (h : Acts w a len xs) (k : Since w W) : Acts W a len xs :=
 ⟨h.hlen, h.hmax, fun hp => by
  obtain ⟨b, off, e, hb, hc⟩ := h.cells hp
  exact ⟨b, off, e, Nat.lt_of_lt_of_le hb k.size, fun i x hx => let g := hc i x hx; ⟨(k.cellAt hb _).trans g.c0, (k.cellAt hb _).trans g.c1, (k.cellAt hb _).trans g.c2, (k.cellAt hb _).trans g.c3⟩⟩⟩
theorem layTo_nz {m : Mg} {n : Nat} {d : Wd} {e : Int} : ∀ i : Nat, layTo m n d i = .error e → e ≠ 0
 | 0, h => by cases h
 | i + 1, h => by
  rw [layTo_succ] at h
  rcases bind_err h with h | ⟨d1, _, h2⟩
  ·exact layTo_nz i h
  ·unfold layOne at h2
   split at h2
   ·cases h2
   ·split at h2
    ·cases h2; simp
    ·split at h2
     ·cases h2; simp
     ·cases h2
theorem tellD_nz {d : Wd} {n : Nat} {e : Int} (h : tellD d n = .error e) : e ≠ 0 := by
 unfold tellD at h
 split at h
 ·cases h; simp
 ·split at h
  ·cases h; simp
  ·split at h
   ·cases h; simp
   ·cases h
theorem holdIf_nz {d : Wd} {n : Nat} {m : Mg} {e : Int} (h : holdIf d n m = .error e) : e ≠ 0 := by
 unfold holdIf at h
 split at h
 ·cases h
 ·unfold holdD at h
  split at h
  ·cases h; simp
  ·split at h
   ·cases h
   ·rename_i hz; cases h; exact hz
theorem after_nz {d : Wd} {n : Nat} {m : Mg} {e : Int} (h : ((holdIf d n m).bind fun d3 => (tellD d3 n).bind fun p => .ok p.1) = .error e) : e ≠ 0 := by
 rcases bind_err h with h | ⟨d3, _, h⟩
 ·exact holdIf_nz h
 ·rcases bind_err h with h | ⟨p, _, h⟩
  ·exact tellD_nz h
  ·cases h
theorem castD_nz {d : Wd} {n g : Int} {nul : Bool} {body : ByteArray} {e : Int} (h : castD d n g nul body = .error e) : e ≠ 0 := by
 unfold castD at h
 split at h
 ·rcases bind_err h with h | ⟨d2, _, h⟩
  ·exact layTo_nz _ h
  ·exact after_nz h
 ·rename_i hz; cases h; exact hz
theorem moveD_nz {d : Wd} {f t : Nat} {e : Int} (h : moveD d f t = .error e) : e ≠ 0 := by
 unfold moveD at h
 split at h
 ·cases h; simp
 ·exact after_nz h
theorem doD_nz {d : Wd} {a : Ac} (h4 : a.kind ≠ 4) {e : Int} (h : doD d a = .error e) : e ≠ 0 := by
 unfold doD checked moveOfD at h
 split at h
 ·split at h
  ·exact castD_nz h
  ·rename_i hz; cases h; exact hz
 ·split at h
  ·split at h
   ·exact castD_nz h
   ·rename_i hz; cases h; exact hz
  ·split at h
   ·split at h
    ·split at h
     ·exact moveD_nz h
     ·cases h; simp
    ·rename_i hz; cases h; exact hz
   ·cases h; simp
theorem rebox {lo lo' : Nat} {w : World} {p : Nat} {d d' : Wd} {L L' : Lay} (hO : OwnW lo' w d' L') (hB : BoxW w p L d) (hl : lo ≤ lo') (hp : p < lo') :
  MadeW lo (((w.setCell ⟨p, 0, none⟩ (.slice (L' (0, 0, 0)).a d'.groups.length (L' (0, 0, 0)).cap)).setCell ⟨p, 1, none⟩ (.slice (L' (1, 0, 0)).a d'.nodes.length (L' (1, 0, 0)).cap)).setCell ⟨p, 2, none⟩ (.slice (L' (2, 0, 0)).a d'.wires.length (L' (2, 0, 0)).cap)) p d' L' := by
 have hoff : ¬ blkW d' L' p := fun hb => by have := (hO.blk hb).1; omega
 refine ⟨(((hO.setOff (p := ⟨p, 0, none⟩) hoff _).setOff (p := ⟨p, 1, none⟩) hoff _).setOff (p := ⟨p, 2, none⟩) hoff _).mono hl, ?_, hoff⟩
 have h0 := hB.c0
 have h1 := hB.c1
 have h2 := hB.c2
 have z0 := hB.z0
 have z1 := hB.z1
 have z2 := hB.z2
 have lt := hB.lt
 constructor <;> simp [go_sem, h0, h1, h2, z0, z1, z2, lt]
end Go.Proofs.YtiiifecfdkjmbaaGreat
namespace Go.Proofs.YtiiifecfdkjmbaaGreat
set_option maxRecDepth 8000
open Go.RowKit Go.Shelf
open _root_.Go.Proofs.YtiiifecfdkjmbaaGreat.Pure
set_option linter.unusedVariables false
set_option linter.unusedSimpArgs false
theorem nil_box {w : World} {p : Nat} {d : Wd} {L : Lay} (h : NilBox w p) :
  BoxW (((w.setCell ⟨p, 0, none⟩ (.slice (L (0, 0, 0)).a d.groups.length (L (0, 0, 0)).cap)).setCell ⟨p, 1, none⟩ (.slice (L (1, 0, 0)).a d.nodes.length (L (1, 0, 0)).cap)).setCell ⟨p, 2, none⟩ (.slice (L (2, 0, 0)).a d.wires.length (L (2, 0, 0)).cap)) p L d := by
 obtain ⟨lt, r0, r1, r2, r3, r4, r5⟩ := h
 constructor <;> simp [go_sem, lt, r0, r1, r2, r3, r4, r5]
end Go.Proofs.YtiiifecfdkjmbaaGreat
namespace Go.Proofs.YtiiifecfdkjmbaaGreat
set_option maxRecDepth 8000
open Go.RowKit Go.Shelf
open _root_.Go.Proofs.YtiiifecfdkjmbaaGreat.Pure
set_option linter.unusedVariables false
set_option linter.unusedSimpArgs false
theorem act_any (k n g : Int) (body : ByteArray) (w : World) :
  Calls Tryz.prog 94 #[.int .i64 k, .int .i64 n, .int .i64 g, .string body] w fun e w' => e = .returned (.agg #[.int .i64 k, .int .i64 n, .int .i64 g, .string body]) ∧ Since w w' := by
 go_enter Tryz.func94, Tryz.ntmps94
 go_wp2
 refine bodyPost_ret (v := .agg #[.int .i64 k, .int .i64 n, .int .i64 g, .string body]) (by simp [results, Tryz.results94, go_sem]) rfl ?_
 exact ⟨rfl, (Since.refl _).alloc _⟩
def acCells (x : Ac) : List Value := [.int .i64 x.kind, .int .i64 x.one, .int .i64 x.two, .string x.body]
theorem acts_new (w : World) (acts : List Ac) (hl : acts.length ≤ 1000000) (T : TypeId) : Acts (w.alloc (.cells (acts.flatMap acCells).toArray T)) (some ⟨w.heap.size, 0, none⟩) acts.length acts := by
 refine ⟨rfl, by omega, fun hp => ⟨_, _, rfl, by simp, fun i x hx => ?_⟩⟩
 have key : ∀ (l : List Ac) (i : Nat) (x : Ac), l[i]? = some x → ∀ j, j < 4 → (l.flatMap acCells)[i * 4 + j]? = (acCells x)[j]? := by
  intro l
  induction l with
  | nil => intro i x h; simp at h
  | cons y ys ih =>
   intro i x h j hj
   cases i with
   | zero =>
    simp at h; subst h
    rw [List.flatMap_cons, List.getElem?_append_left (by simp [acCells]; omega)]; simp
   | succ i =>
    simp at h
    rw [List.flatMap_cons, List.getElem?_append_right (by simp [acCells]; omega)]
    have := ih i x h j hj
    rw [← this]; congr 1; simp [acCells]; omega
 have hc : ∀ o v, (acts.flatMap acCells)[o]? = some v → (w.alloc (.cells (acts.flatMap acCells).toArray T)).cell? ⟨w.heap.size, o, none⟩ = some v := by
  intro o v hv
  unfold World.cell?
  have hh := World.alloc_heap_new w (.cells (acts.flatMap acCells).toArray T)
  simp only [hh]
  simpa using hv
 have k0 := key acts i x hx
 refine ⟨?_, ?_, ?_, ?_⟩
 ·rw [Nat.zero_add]; exact hc _ _ (k0 0 (by omega))
 ·rw [Nat.zero_add]; exact hc _ _ (k0 1 (by omega))
 ·rw [Nat.zero_add]; exact hc _ _ (k0 2 (by omega))
 ·rw [Nat.zero_add]; exact hc _ _ (k0 3 (by omega))
end Go.Proofs.YtiiifecfdkjmbaaGreat
