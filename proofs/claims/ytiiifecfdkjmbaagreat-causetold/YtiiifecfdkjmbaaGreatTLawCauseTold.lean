/- Lemmas. Lemmas. -/
import Derived.Test.YtiiifecfdkjmbaaGreatTCsRead
import Derived.Test.YtiiifecfdkjmbaaGreatTLawCauseToldK
set_option maxHeartbeats 4000000
namespace Go.Proofs.YtiiifecfdkjmbaaGreat
open _root_.Go.Proofs.Tryz hiding checked
set_option maxRecDepth 8000
open Go.RowKit Go.Shelf
open Pu
set_option linter.unusedVariables false
set_option linter.unusedSimpArgs false
section
variable {P:Program} {Q:Exit->Act->World->Prop} {S:World->Prop}
def Ef (P:Program) (l:List Oper) (Q:Exit->Act->World->Prop) (S:World->Prop) (fuel:Nat) (listed:Array Bool) (a:Act) (w:World) (i:Nat) (oi:Oper):Prop :=
 ∀ K:Act->World->Prop,(∀ a' w',(qE l.toArray i=true->S w->S w')->dH P l.toArray Q S fuel (listed.setIfInBounds i true) a' w'->K a' w')->if Region.wanted oi (yielded l.toArray a.tmps)=true then Oper.wp P oi a w K Q else K (a.put oi.dst undef) w
theorem Fg {l:List Oper} (i j k:Nat) {oi oj ok:Oper} {fuel:Nat} {listed:Array Bool} {a:Act} {w:World} (hi:l[i]? = some oi) (hj:l[j]? = some oj) (hk:l[k]? = some ok) (hr:Region.ready .any l.toArray listed=[i,j,k])
  (h1:Ef P l Q S fuel listed a w i oi) (h2:Ef P l Q S fuel listed a w j oj) (h3:Ef P l Q S fuel listed a w k ok):dH P l.toArray Q S (fuel+1) listed a w :=
 ⟨fun h0=>absurd (hr ▸ h0) (by simp),fun q hq=>by
  rw [hr] at hq
  simp only [List.mem_cons,List.not_mem_nil,or_false] at hq
  rcases hq with rfl | rfl | rfl
  ·exact iZ (by rw [List.getElem?_toArray];exact hi) h1
  ·exact iZ (by rw [List.getElem?_toArray];exact hj) h2
  ·exact iZ (by rw [List.getElem?_toArray];exact hk) h3⟩
theorem Ow {l:List Oper} (i j k m:Nat) {oi oj ok om:Oper} {fuel:Nat} {listed:Array Bool} {a:Act} {w:World} (hi:l[i]? = some oi) (hj:l[j]? = some oj) (hk:l[k]? = some ok) (hm:l[m]? = some om) (hr:Region.ready .any l.toArray listed=[i,j,k,m])
  (h1:Ef P l Q S fuel listed a w i oi) (h2:Ef P l Q S fuel listed a w j oj) (h3:Ef P l Q S fuel listed a w k ok) (h4:Ef P l Q S fuel listed a w m om):dH P l.toArray Q S (fuel+1) listed a w :=
 ⟨fun h0=>absurd (hr ▸ h0) (by simp),fun q hq=>by
  rw [hr] at hq
  simp only [List.mem_cons,List.not_mem_nil,or_false] at hq
  rcases hq with rfl | rfl | rfl | rfl
  ·exact iZ (by rw [List.getElem?_toArray];exact hi) h1
  ·exact iZ (by rw [List.getElem?_toArray];exact hj) h2
  ·exact iZ (by rw [List.getElem?_toArray];exact hk) h3
  ·exact iZ (by rw [List.getElem?_toArray];exact hm) h4⟩
end
def B4 (w:World) (b:Nat) (p q r s:Bool):Prop:=w.heap[b]? = some (.cells #[.bool p,.bool q,.bool r,.bool s] 4)
theorem B4.bools {w:World} {b:Nat} {p q r s:Bool} (h:B4 w b p q r s):jk w (.slice (some ⟨b,0,none⟩) 4 4) [p,q,r,s]:=by
 refine ⟨_,_,rfl,Nat.le_refl _,rfl,by simp,fun _=>⟨b,0,rfl,(zQ3.1 h).1,fun j u hu=>?_⟩⟩
 unfold World.cell?
 simp only [show w.heap[b]? = _ from h,Nat.zero_add]
 match j,hu with
 | 0,hu=>simp at hu;simp [hu]
 | 1,hu=>simp at hu;simp [hu]
 | 2,hu=>simp at hu;simp [hu]
 | 3,hu=>simp at hu;simp [hu]
theorem newAt {w:World} {o:Obj} {n:Nat} (h:w.heap.size=n):(w.alloc o).heap[n]? = some o:=by subst h;exact World.alloc_heap_new w o
theorem Eh {w:World} {bt:Nat} {r0 r1 r2 r3:List Bool} {x0 x1 x2 x3:Value} (ht:w.heap[bt]? = some (.cells #[x0,x1,x2,x3] 87)) (h0:jk w x0 r0) (h1:jk w x1 r1) (h2:jk w x2 r2) (h3:jk w x3 r3):Slices jk w (some ⟨bt,0,none⟩) 4 [r0,r1,r2,r3]:=by
 refine ⟨rfl,by simp,fun _=>⟨bt,0,rfl,(zQ3.1 ht).1,fun i x hx=>?_⟩⟩
 have hc:∀ i v,#[x0,x1,x2,x3][i]? = some v->w.cell? ⟨bt,0+i,none⟩=some v:=fun i v hv=>by
  unfold World.cell?
  simp only [ht,Nat.zero_add];exact hv
 match i,hx with
 | 0,hx=>simp at hx;subst hx;exact ⟨_,hc 0 _ rfl,h0⟩
 | 1,hx=>simp at hx;subst hx;exact ⟨_,hc 1 _ rfl,h1⟩
 | 2,hx=>simp at hx;subst hx;exact ⟨_,hc 2 _ rfl,h2⟩
 | 3,hx=>simp at hx;subst hx;exact ⟨_,hc 3 _ rfl,h3⟩
theorem Cn (a b:Option Addr) (c e:Nat) (r0 r1 r2 r3:List Bool) {w:World} (h1:Slices jk w a 4 [r0,r1,r2,r3]) (h2:Slices jk w b 4 [r0,r1,r2,r3]) :
  Calls prog 74 #[.slice a 4 c,.slice b 4 e] w fun e w'=>e=.returned (.bool true)/\Since w w':=wO a b c e [r0,r1,r2,r3] w h1 h2
theorem Jd (y:World):∃ cs,(Instr.makeSlice 50 (.int .i64 81) (.int .i64 81)).run prog y=.ok (.slice (some ⟨y.heap.size,0,none⟩) 81 81) (y.alloc (.cells cs 58)):=⟨_,rfl⟩
theorem wV (m0 m1 m2:Mg) (f1:Hid (∀ (y:World) (a:Option Addr) (cap:Nat),Ints (y.alloc (.cells #[.int .i64 1,.int .i64 0,.int .i64 0,.string ⟨#[97]⟩,.int .i64 1,.int .i64 2,.int .i64 1,.string ⟨#[98]⟩,.int .i64 3,.int .i64 0,.int .i64 1,.string ⟨#[]⟩,.int .i64 2,.int .i64 1,.int .i64 1,.string ⟨#[]⟩,.int .i64 3,.int .i64 1,.int .i64 2,.string ⟨#[]⟩,.int .i64 1,.int .i64 2,.int .i64 1,.string ⟨#[99]⟩] 58)) a 2 [3,6]->Calls prog 71 #[.int .i64 3,.slice a 2 cap,.slice (some ⟨y.heap.size,0,none⟩) 6 6] (y.alloc (.cells #[.int .i64 1,.int .i64 0,.int .i64 0,.string ⟨#[97]⟩,.int .i64 1,.int .i64 2,.int .i64 1,.string ⟨#[98]⟩,.int .i64 3,.int .i64 0,.int .i64 1,.string ⟨#[]⟩,.int .i64 2,.int .i64 1,.int .i64 1,.string ⟨#[]⟩,.int .i64 3,.int .i64 1,.int .i64 2,.string ⟨#[]⟩,.int .i64 1,.int .i64 2,.int .i64 1,.string ⟨#[99]⟩] 58)) fun e w'=>∃ (sa:Option Addr) (sc:Nat) (sb:Option Addr) (sd:Nat),e=.returned (.tuple #[.slice sa 4 sc,.slice sb 4 sd,.int .i64 0])/\eY w' sa 4 [m0,m1,m2,⟨2,1,3,false,⟨#[99]⟩⟩]/\Slices jk w' sb 4 [[false,false,false,false],[false,false,false,false],[true,false,false,false],[true,true,true,false]]/\Since y w'))
  (f2:Hid (∀ y:World,Calls prog 71 #[.int .i64 3,.slice none 0 0,.slice none 0 0] y fun e w'=>e=.returned (.tuple #[.slice none 0 0,.slice none 0 0,.int .i64 2])/\Since y w'))
  (f3:Hid (∀ (y:World) (a:Option Addr) (cap:Nat) (ac:Option Addr) (fM:Nat),Ints y a 2 [3,6]->Calls prog 71 #[.int .i64 3,.slice a 2 cap,.slice ac 81 fM] y fun e w'=>e=.returned (.tuple #[.slice none 0 0,.slice none 0 0,.int .i64 2])/\Since y w')) (w:World) :
  Calls prog 73 #[] w fun e w'=>e=.returned (.bool true)/\Since w w':=by
 go_enter func73,ntmps73
 go_wp2_with (go_at_call 125;refine (I4 w w (Since.refl _)).mono ?_;rintro e w2 ⟨b,cap,rfl,hI,hS2⟩;have hc:Since w2 w2:=Since.refl _)
 go_wp2_with (go_at_call 94;refine (KA _ _ _ _ _).mono ?_;rintro e w' ⟨rfl,hS⟩;have hc:=hc.trans hS)
 refine (f1.out _ _ _ (hI.since (hc.alloc _))).mono ?_
 rintro e w3 ⟨sa,sc,sb,sd,rfl,hM3,hK3,hS3⟩
 have hc3:=hS2.trans (hc.trans hS3)
 clear hc hS3 hI hS2
 go_wp2_with fail
 refine (f2.out _).mono ?_
 rintro e w4 ⟨rfl,hS4⟩
 have hM4:=hM3.since hS4
 have hK4:=hK3.since gu hS4
 have hc4:=hc3.trans hS4
 clear hM3 hK3 hc3 hS4
 go_upto_region 3 with fail
 go_cut [9] (fun s9 wx=>s9=.int .i64 2/\Since w4 wx)
 case first =>
  obtain ⟨W0,hW0⟩:∃ y,w4.drew=y:=⟨_,rfl⟩
  have hs0:=aO hW0
  obtain ⟨S0,hS0⟩:∃ S0:World->Prop,∀ w',S0 w'↔Since w4 w':=⟨_,fun _=>Iff.rfl⟩
  have ak:=(hS0 W0).2 hs0
  have hne:Nonempty (aj S0):=⟨⟨_,ak⟩⟩
  have bS:=aH w
  obtain ⟨cs,hmk⟩:∃ cs:World->Array Value,∀ y:World,(Instr.makeSlice 50 (.int .i64 81) (.int .i64 81)).run prog y=.ok (.slice (some ⟨y.heap.size,0,none⟩) 81 81) (y.alloc (.cells (cs y) 58)):=⟨fun y=>(Jd y).choose,fun y=>(Jd y).choose_spec⟩
  refine aI (fun w'=>∃ x:aj S0,w'=x.w) (by kernel_rfl) ?_
  rw [hW0]
  clear hW0
  refine oG 0 1 rfl rfl (by kernel_rfl) ?o1 ?o2
  case' o1 =>
   intro K hK
   go_simp
   refine (I4 W0 W0 (Since.refl _)).mono ?_
   rintro e w5 ⟨b,cap,rfl,hI,hS5⟩
   dsimp only
   refine hK _ _ (fun h=>absurd h (by decide +kernel)) ?_
   clear hK K
   refine aK 1 rfl (by kernel_rfl) ?_
   intro K hK
   go_simp
   refine hK _ _ (fun h=>absurd h (by decide +kernel)) ?_
   clear hK K
   have hS6:Since w5 (w5.alloc (.cells (cs w5) 58)):=(Since.refl w5).alloc _
   obtain ⟨w6,hw6⟩:∃ y,w5.alloc (.cells (cs w5) 58)=y:=⟨_,rfl⟩
   rw [hw6] at hS6 ⊢
   have hI6:=hI.since hS6
   have hc6:=hc4.trans (hs0.trans (hS5.trans hS6))
   have hg6:=hs0.trans (hS5.trans hS6)
   obtain ⟨q,hq⟩:∃ y,w5.heap.size=y:=⟨_,rfl⟩
   rw [hq]
   clear hq hI hS5 hS6 hw6
  case' o2 =>
   intro K hK
   go_simp
   refine hK _ _ (fun h=>absurd h (by decide +kernel)) ?_
   clear hK K
   refine aK 0 rfl (by kernel_rfl) ?_
   intro K hK
   go_simp
   have hS5:Since W0 (W0.alloc (.cells (cs W0) 58)):=(Since.refl W0).alloc _
   refine (I4 (W0.alloc (.cells (cs W0) 58)) (W0.alloc (.cells (cs W0) 58)) (Since.refl _)).mono ?_
   rintro e w6 ⟨b,cap,rfl,hI6,hS6⟩
   dsimp only
   refine hK _ _ (fun h=>absurd h (by decide +kernel)) ?_
   clear hK K
   have hc6:=hc4.trans (hs0.trans (hS5.trans hS6))
   have hg6:=hs0.trans (hS5.trans hS6)
   obtain ⟨q,hq⟩:∃ y,W0.heap.size=y:=⟨_,rfl⟩
   rw [hq]
   clear hq hS5 hS6
  all_goals
   refine aK 2 rfl (by kernel_rfl) ?_
   intro K hK
   go_simp
   refine (f3.out _ _ _ _ _ hI6).mono ?_
   rintro e w7 ⟨rfl,hS7⟩
   dsimp only
   refine hK _ _ (fun h=>absurd h (by decide +kernel)) ?_
   clear hK K
   refine tW 3 rfl ?_;go_big_quiet_op
   refine tW 4 rfl ?_;go_big_quiet_op
   refine tW 5 rfl ?_;go_big_quiet_op
   refine tW 6 rfl ?_;go_big_quiet_op
   refine tW 7 rfl ?_;go_big_quiet_op
   refine tW 8 rfl ?_;go_big_quiet_op
   refine tW 9 rfl ?_;go_big_quiet_op
   refine aW (by kernel_rfl) ?_
   go_wp2_with fail
   go_meet
   case rel=>exact ⟨rfl,hg6.trans hS7⟩
 case rest =>
  obtain ⟨rfl,hg7⟩:=hcut
  obtain ⟨w7,hw7⟩:∃ y,y=wc:=⟨_,rfl⟩
  rw [<-hw7] at hg7 ⊢
  clear hw7
  have hM7:=hM4.since hg7
  have hK7:=hK4.since gu hg7
  have hc7:=hc4.trans hg7
  clear hM4 hK4 hg7 hc4
  have bS:=aH w
  obtain ⟨bm,om,rfl,hbm,hcm⟩:=hM7.cells (by omega)
  obtain ⟨g0,g1,g2,g3,g4⟩:=bJ hcm 3 ⟨2,1,3,false,⟨#[99]⟩⟩ rfl
  dsimp only at g0 g1 g2 g3 g4
  clear hcm hM7
  go_wp2_with fail
  obtain ⟨W8,hW0⟩:∃ y,w7.drew=y:=⟨_,rfl⟩
  have hs8:=aO hW0
  obtain ⟨S8,hS8⟩:∃ S0:World->Prop,∀ w',S0 w'↔Since w7 w':=⟨_,fun _=>Iff.rfl⟩
  have x0:∀ y:aj S8,y.w.cell? ⟨bm,om+15,none⟩=some (.int .i64 2):=fun y=>(((hS8 _).1 y.h).cellAt hbm _).trans g0
  have x1:∀ y:aj S8,y.w.cell? ⟨bm,om+16,none⟩=some (.int .i64 1):=fun y=>(((hS8 _).1 y.h).cellAt hbm _).trans g1
  have x2:∀ y:aj S8,y.w.cell? ⟨bm,om+17,none⟩=some (.int .i64 3):=fun y=>(((hS8 _).1 y.h).cellAt hbm _).trans g2
  have x3:∀ y:aj S8,y.w.cell? ⟨bm,om+18,none⟩=some (.bool false):=fun y=>(((hS8 _).1 y.h).cellAt hbm _).trans g3
  have x4:∀ y:aj S8,y.w.cell? ⟨bm,om+19,none⟩=some (.string ⟨#[99]⟩):=fun y=>(((hS8 _).1 y.h).cellAt hbm _).trans g4
  have iU:=(hS8 W8).2 hs8
  have hne:Nonempty (aj S8):=⟨⟨_,iU⟩⟩
  simp only [Nat.reduceMul,Nat.add_assoc,Nat.reduceAdd] at g0 g1 g2 g3 g4
  refine aI (fun w'=>∃ x:aj S8,w'=x.w) (by kernel_rfl) ?_
  rw [hW0]
  clear hW0
  refine tW 0 rfl ?_;go_big_quiet_op
  refine tW 1 rfl ?_;go_big_quiet_op
  refine tW 2 rfl ?_;go_big_quiet_op
  refine tW 3 rfl ?_;go_big_quiet_op
  refine tW 4 rfl ?_;go_big_quiet_op
  refine tW 5 rfl ?_;go_big_quiet_op
  refine tW 6 rfl ?_;go_big_quiet_op
  refine tW 7 rfl ?_;go_big_quiet_op
  refine tW 8 rfl ?_;go_big_quiet_op
  refine tW 9 rfl ?_;go_big_quiet_op
  refine tW 10 rfl ?_;go_big_quiet_op
  refine tW 11 rfl ?_;go_big_quiet_op
  refine tM 12 rfl (ah iU) ?_;go_big_quiet_op
  refine tW 13 rfl ?_;go_big_quiet_op
  refine tW 14 rfl ?_;go_big_quiet_op
  refine tW 15 rfl ?_;go_big_quiet_op
  refine tW 16 rfl ?_;go_big_quiet_op
  refine tW 17 rfl ?_;go_big_quiet_op
  refine tM 18 rfl (ah iU) ?_;go_big_quiet_op
  refine aK 19 rfl (by kernel_rfl) ?_
  intro K hK
  go_simp
  refine (KC 2 1 3 ⟨#[99]⟩ W8).mono ?_
  rintro e w9 ⟨rfl,hS9⟩
  dsimp only
  have hA9:=hs8.trans hS9
  refine hK _ _ (fun _ _=>ah ((hS8 _).2 hA9)) ?_
  clear hK K
  refine tW 20 rfl ?_;go_big_quiet_op
  refine tW 21 rfl ?_;go_big_quiet_op
  refine tW 22 rfl ?_;go_big_quiet_op
  refine tW 23 rfl ?_;go_big_quiet_op
  have hK9:=hK7.since gu (hs8.trans hS9)
  have hc9:=hc7.trans (hs8.trans hS9)
  have hB9:Since w9 w9:=Since.refl _
  clear x0 x1 x2 x3 x4 hne iU hs8 hS9 hK7 hc7 g0 g1 g2 g3 g4 hbm
  refine Ow 24 25 26 27 rfl rfl rfl rfl (by kernel_rfl) ?_ ?_ ?_ ?_ <;> (intro K hK;go_simp;refine hK _ _ (fun _ _=>ah ((hS8 _).2 (by first | exact hA9.alloc _ | exact (hA9.alloc _).alloc _ | exact ((hA9.alloc _).alloc _).alloc _ | exact (((hA9.alloc _).alloc _).alloc _).alloc _))) ?_;clear hK K) <;> (first | refine Fg 24 25 26 rfl rfl rfl (by decide +kernel) ?_ ?_ ?_ | refine Fg 24 25 27 rfl rfl rfl (by decide +kernel) ?_ ?_ ?_ | refine Fg 24 26 27 rfl rfl rfl (by decide +kernel) ?_ ?_ ?_ | refine Fg 25 26 27 rfl rfl rfl (by decide +kernel) ?_ ?_ ?_) <;> (intro K hK;go_simp;refine hK _ _ (fun _ _=>ah ((hS8 _).2 (by first | exact hA9.alloc _ | exact (hA9.alloc _).alloc _ | exact ((hA9.alloc _).alloc _).alloc _ | exact (((hA9.alloc _).alloc _).alloc _).alloc _))) ?_;clear hK K) <;> (first | refine oG 24 25 rfl rfl (by decide +kernel) ?_ ?_ | refine oG 24 26 rfl rfl (by decide +kernel) ?_ ?_ | refine oG 24 27 rfl rfl (by decide +kernel) ?_ ?_ | refine oG 25 26 rfl rfl (by decide +kernel) ?_ ?_ | refine oG 25 27 rfl rfl (by decide +kernel) ?_ ?_ | refine oG 26 27 rfl rfl (by decide +kernel) ?_ ?_) <;> (intro K hK;go_simp;refine hK _ _ (fun _ _=>ah ((hS8 _).2 (by first | exact hA9.alloc _ | exact (hA9.alloc _).alloc _ | exact ((hA9.alloc _).alloc _).alloc _ | exact (((hA9.alloc _).alloc _).alloc _).alloc _))) ?_;clear hK K) <;> (first | refine aK 24 rfl (by decide +kernel) ?_ | refine aK 25 rfl (by decide +kernel) ?_ | refine aK 26 rfl (by decide +kernel) ?_ | refine aK 27 rfl (by decide +kernel) ?_) <;> (intro K hK;go_simp;refine hK _ _ (fun _ _=>ah ((hS8 _).2 (by first | exact hA9.alloc _ | exact (hA9.alloc _).alloc _ | exact ((hA9.alloc _).alloc _).alloc _ | exact (((hA9.alloc _).alloc _).alloc _).alloc _))) ?_;clear hK K)
  all_goals
   refine aK 28 rfl (by kernel_rfl) ?_
   intro K hK
   go_simp
   refine hK _ _ (fun _ _=>ah ((hS8 _).2 (((((hA9.alloc _).alloc _).alloc _).alloc _).alloc _))) ?_
   clear hK K
   refine aK 29 rfl (by kernel_rfl) ?_
   intro K hK
   go_simp
   refine (Cn _ _ _ _ _ _ _ _ (hK9.since gu (((((hB9.alloc _).alloc _).alloc _).alloc _).alloc _)) (Eh (newAt (by simp [World.size_alloc,Nat.add_assoc])) (B4.bools (by unfold B4;repeat (first | (refine newAt ?_;first | rfl | (simp only [World.size_alloc];done) | (simp only [World.size_alloc];omega)) | refine (Below.heap_alloc _ _ _ (by simp only [World.size_alloc];omega)).trans ?_))) (B4.bools (by unfold B4;repeat (first | (refine newAt ?_;first | rfl | (simp only [World.size_alloc];done) | (simp only [World.size_alloc];omega)) | refine (Below.heap_alloc _ _ _ (by simp only [World.size_alloc];omega)).trans ?_))) (B4.bools (by unfold B4;repeat (first | (refine newAt ?_;first | rfl | (simp only [World.size_alloc];done) | (simp only [World.size_alloc];omega)) | refine (Below.heap_alloc _ _ _ (by simp only [World.size_alloc];omega)).trans ?_))) (B4.bools (by unfold B4;repeat (first | (refine newAt ?_;first | rfl | (simp only [World.size_alloc];done) | (simp only [World.size_alloc];omega)) | refine (Below.heap_alloc _ _ _ (by simp only [World.size_alloc];omega)).trans ?_))))).mono ?_
   rintro e wF ⟨rfl,hSF⟩
   dsimp only
   have hfin:=(((((hA9.alloc _).alloc _).alloc _).alloc _).alloc _).trans hSF
   have hcF:=(((((hc9.alloc _).alloc _).alloc _).alloc _).alloc _).trans hSF
   refine hK _ _ (fun _ _=>ah ((hS8 _).2 hfin)) ?_
   clear hK K
   refine tW 30 rfl ?_;go_big_quiet_op
   refine tW 31 rfl ?_;go_big_quiet_op
   refine aW (by kernel_rfl) ?_
   go_wp2
   go_ret
   exact ⟨rfl,hcF⟩
def Co:List Ac:=[⟨1,0,0,⟨#[97]⟩⟩,⟨1,2,1,⟨#[98]⟩⟩,⟨3,0,1,⟨#[]⟩⟩,⟨2,1,1,⟨#[]⟩⟩,⟨3,1,2,⟨#[]⟩⟩,⟨1,2,1,⟨#[99]⟩⟩]
def Ox:List Mg:=[⟨0,0,1,false,⟨#[97]⟩⟩,⟨2,1,1,false,⟨#[98]⟩⟩,⟨1,1,2,true,⟨#[]⟩⟩,⟨2,1,3,false,⟨#[99]⟩⟩]
theorem Je:kW 3 [3,6] Co=0/\q9 (jF 3 [3,6] Co) Ox=true/\qB 3 [3,6] Co=[[false,false,false,false],[false,false,false,false],[true,false,false,false],[true,true,true,false]]:=by decide +kernel
theorem wW (w:World):Calls prog 73 #[] w fun e w'=>e=.returned (.bool true)/\Since w w':=by
 refine wV ⟨0,0,1,false,⟨#[97]⟩⟩ ⟨2,1,1,false,⟨#[98]⟩⟩ ⟨1,1,2,true,⟨#[]⟩⟩ ?_ ?_ ?_ w
 ·intro y a cap hI
  have h:=zD 3 a 2 cap [3,6] _ _ 6 Co _ hI (Jf y Co (by decide) 58)
  rw [Je.1,(wX _ _).1 Je.2.1,Je.2.2] at h
  refine h.mono ?_
  rintro e w' ⟨sa,sc,sb,sd,rfl,h1,h2,h3⟩
  exact ⟨sa,sc,sb,sd,rfl,h1,h2,((Since.refl y).alloc _).trans h3⟩
 ·intro y
  exact BU 3 none 0 0 [] none 0 0 y Ce (by decide)
 ·intro y a cap ac fM hI
  exact zy 3 a cap [3,6] ac 81 fM y hI (by decide) (by decide) (by decide) (by decide)
theorem uG (nodes:Int) (a:Option Addr) (len cap:Nat) (l:List Int) (ac:Option Addr) (al fM:Nat) (acts:List Ac) (cn:Int) (w:World) (hI:Ints w a len l) (hA:mQ w ac al acts) (hc:I64 cn) :
  Calls prog 25 #[.int .i64 nodes,.slice a len cap,.slice ac al fM,.int .i64 cn] w fun e w'=>e=.returned (.bool true)/\Since w w' :=
 xk nodes a len cap l ac al fM acts cn w hI hA hc wW
end Go.Proofs.YtiiifecfdkjmbaaGreat
