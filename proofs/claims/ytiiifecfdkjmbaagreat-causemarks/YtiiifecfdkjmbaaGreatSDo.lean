/- Lemmas. Lemmas. -/
import Derived.Test.YtiiifecfdkjmbaaGreatSOwnX
import Derived.Test.YtiiifecfdkjmbaaGreatSOwn
import Derived.Test.YtiiifecfdkjmbaaGreatRCastX
set_option maxHeartbeats 1000000
namespace Go.Proofs.YtiiifecfdkjmbaaGreat
open _root_.Go.Proofs.Tryz hiding checked
set_option maxRecDepth 8000
open Go.RowKit Go.Shelf
open Pu
set_option linter.unusedVariables false
set_option linter.unusedSimpArgs false
theorem dh (e:Int) (w:World):Calls prog 88 #[.bool true,.int .i64 e] w fun r w'=>r=.returned (.tuple #[])/\w'=w:=by
 go_enter func88,ntmps88
 go_wp2
 go_end0
 exact ⟨rfl,rfl⟩
theorem gI (e:Int) (w:World):Calls prog 88 #[.bool false,.int .i64 e] w fun r w'=>r=.panicked (pan e)/\w'=w:=by
 go_enter func88,ntmps88
 go_wp2
 exact ⟨rfl,rfl,rfl⟩
theorem uy (w:World):Calls prog 149 #[.int .i64 0] w fun r w'=>r=.returned (.tuple #[])/\w'=w:=by
 go_enter func149,ntmps149
 go_wp2_with (go_at_call 88;refine (dh _ _).mono ?_;rintro e w' ⟨rfl,rfl⟩)
 go_end0
 exact ⟨rfl,rfl⟩
theorem uw (e:Int) (he:(e == 0)=false) (w:World):Calls prog 149 #[.int .i64 e] w fun r w'=>r=.panicked (pan e)/\w'=w:=by
 go_enter func149,ntmps149
 go_wp2_with (go_at_call 88;refine (gI _ _).mono ?_;rintro e w' ⟨rfl,rfl⟩)
 exact ⟨rfl,rfl,rfl⟩
structure cB (lo:Nat) (w:World) (p:Nat) (d:Wd) (L:Lay) (many:Int):Prop where
 made:cu lo w p d L
 lop:lo<=p
 cm:w.cell? ⟨p,3,none⟩=some (.int .i64 many)
 zm:w.frozen? ⟨p,3,none⟩=false
theorem cB.since {lo:Nat} {w w':World} {p:Nat} {d:Wd} {L:Lay} {many:Int} (h:cB lo w p d L many) (k:Since w w'):cB lo w' p d L many :=
 ⟨h.made.since k,h.lop,(k.cellAt h.made.box.lt _).trans h.cm,(k.below.frozen (p:=⟨p,3,none⟩) h.made.box.lt).trans h.zm⟩
abbrev Up (lo:Nat) (X:Nat->Prop):Nat->Prop:=fun i=>¬ i < lo\/X i
theorem Since.up {w w':World} (h:Since w w') (lo:Nat) (X:Nat->Prop):Fr (Up lo X) w w':=h.fr _
theorem Fr.aF {lo:Nat} {X:Nat->Prop} {a b c:World} (h:Fr (Up lo X) a b) (k:Fr (Up lo X) b c):Fr (Up lo X) a c:=h.trans k (fun _ _ x=>x) (fun _ _ x=>x)
def uH (lo:Nat) (X:Nat->Prop) (p:Nat) (w:World) (r:Except Int (Wd × Int)) (e:Ending) (w':World):Prop :=
 (∀ er,r=.error er->e=.panicked (pan er)/\Fr (Up lo X) w w') /\
 (∀ d' m,r=.ok (d',m)->e=.returned (.tuple #[])/\Fr (Up lo X) w w'/\∃ L',cB lo w' p d' L' m)
theorem gu {lo:Nat} {X:Nat->Prop} {p:Nat} {w:World} {er:Int} {w':World} (h:Fr (Up lo X) w w'):uH lo X p w (.error er) (.panicked (pan er)) w' :=
 ⟨fun _ e=>(by cases e;exact ⟨rfl,h⟩),fun _ _ e=>(by cases e)⟩
theorem oW {lo:Nat} {X:Nat->Prop} {p:Nat} {w:World} {d':Wd} {m:Int} {w':World} {L':Lay} (h:Fr (Up lo X) w w') (k:cB lo w' p d' L' m):uH lo X p w (.ok (d',m)) (.returned (.tuple #[])) w' :=
 ⟨fun _ e=>(by cases e),fun _ _ e=>(by cases e;exact ⟨rfl,h,L',k⟩)⟩
theorem iw (p:Nat) (k:Int) (a:Option Addr) (n c:Nat) (w:World) (hc:w.cell? ⟨p,1,none⟩=some (.slice a n c)) :
  Calls prog 151 #[.pointer (some ⟨p,0,none⟩),.int .i64 k] w fun e w'=>e=.returned (.bool (decide (0<=k) && decide (k < (n:Int))))/\w'=w:=by
 by_cases h:0<=k
 ·go_enter func151,ntmps151
  go_wp2
  go_ret
  exact ⟨by simp [h],rfl⟩
 ·go_enter func151,ntmps151
  go_wp2
  go_ret
  exact ⟨by simp;omega,rfl⟩
theorem cB.become {lo:Nat} {w:World} {p:Nat} {d d':Wd} {L L':Lay} {many:Int} (h:cB lo w p d L many) (hO:bE (p+1) w d' L') :
  cB lo (((w.setCell ⟨p,0,none⟩ (.slice (L' (0,0,0)).a d'.groups.length (L' (0,0,0)).cap)).setCell ⟨p,1,none⟩ (.slice (L' (1,0,0)).a d'.nodes.length (L' (1,0,0)).cap)).setCell ⟨p,2,none⟩ (.slice (L' (2,0,0)).a d'.wires.length (L' (2,0,0)).cap)) p d' L' many:=by
 have hoff:¬ gF d' L' p:=fun hb=>by have:=(hO.blk hb).1;omega
 have b:=h.made.box;have hlt:=b.lt;have c0:=b.c0;have c1:=b.c1;have c2:=b.c2;have z0:=b.z0;have z1:=b.z1;have z2:=b.z2;have cm:=h.cm;have zm:=h.zm;refine ⟨⟨(((hO.jW (p:=⟨p,0,none⟩) hoff _).jW (p:=⟨p,1,none⟩) hoff _).jW (p:=⟨p,2,none⟩) hoff _).mono (by have:=h.lop;omega), ?_,hoff⟩,h.lop, ?_, ?_⟩
 ·exact ⟨zQ4 hlt (dN w p _ _ _).size,pI c0,pJ c1,pK c2,(gT _ _ _ _ _ _).trans z0,(gT _ _ _ _ _ _).trans z1,(gT _ _ _ _ _ _).trans z2⟩
 ·exact (MF _ _ _ _ _ (by decide)).trans cm
 ·exact (gT _ _ _ _ _ _).trans zm
theorem vS (p:Nat) (x:WV) (e:Int) (he:(e == 0)=false) (w:World) :
  Calls prog 96 #[.pointer (some ⟨p,0,none⟩),.agg #[.slice x.ga x.gl x.gc,.slice x.na x.nl x.nc,.slice x.wa x.wl x.wc],.int .i64 e] w fun r w'=>r=.panicked (pan e)/\Since w w':=by
 go_enter func96,ntmps96
 go_wp2_with (go_at_call 149;refine (uw _ he _).mono ?_;rintro e w' ⟨rfl,rfl⟩)
 exact ⟨rfl,rfl,(Since.refl _).alloc _⟩
theorem yG {lo:Nat} {w:World} {p:Nat} {d d':Wd} {L L':Lay} {many:Int} (h:cB lo w p d L many) (hO:bE (p+1) w d' L') :
  Calls prog 96 #[.pointer (some ⟨p,0,none⟩),aS L' d',.int .i64 0] w fun r w'=>r=.returned (.tuple #[])/\cB lo w' p d' L' many/\Fr (fun i=>i=p) w w':=by
 unfold aS;obtain ⟨w1,hw1⟩:∃ w1,w.alloc (.cells #[.slice (L' (0,0,0)).a d'.groups.length (L' (0,0,0)).cap,.slice (L' (1,0,0)).a d'.nodes.length (L' (1,0,0)).cap,.slice (L' (2,0,0)).a d'.wires.length (L' (2,0,0)).cap] 26)=w1:=⟨_,rfl⟩;have hS1:=ay hw1;have q0:w1.cell? ⟨w.heap.size,0,none⟩=some (.slice (L' (0,0,0)).a d'.groups.length (L' (0,0,0)).cap):=by rw [<-hw1];simp [go_sem]
 have q1:w1.cell? ⟨w.heap.size,1,none⟩=some (.slice (L' (1,0,0)).a d'.nodes.length (L' (1,0,0)).cap):=by rw [<-hw1];simp [go_sem]
 have q2:w1.cell? ⟨w.heap.size,2,none⟩=some (.slice (L' (2,0,0)).a d'.wires.length (L' (2,0,0)).cap):=by rw [<-hw1];simp [go_sem]
 have h1:=h.since hS1;obtain ⟨lt,c0,c1,c2,z0,z1,z2⟩:=h1.made.box;have HB:=h1.become (hO.since hS1)
 have HF:Fr (fun i=>i=p) w (((w1.setCell ⟨p,0,none⟩ (.slice (L' (0,0,0)).a d'.groups.length (L' (0,0,0)).cap)).setCell ⟨p,1,none⟩ (.slice (L' (1,0,0)).a d'.nodes.length (L' (1,0,0)).cap)).setCell ⟨p,2,none⟩ (.slice (L' (2,0,0)).a d'.wires.length (L' (2,0,0)).cap)) :=
  (hS1.fr _).trans (dN w1 p _ _ _) (fun _ _ e=>e) (fun _ _ e=>e)
 go_enter func96,ntmps96
 go_wp2_with (go_at_call 149;refine (uy _).mono ?_;rintro e w' ⟨rfl,rfl⟩)
 go_end0
 exact ⟨rfl,HB,HF⟩
theorem lX (p:Nat) (x:WV) (k e:Int) (he:(e == 0)=false) (w:World) :
  Calls prog 90 #[.pointer (some ⟨p,0,none⟩),.agg #[.slice x.ga x.gl x.gc,.slice x.na x.nl x.nc,.slice x.wa x.wl x.wc],.int .i64 k,.int .i64 e] w fun r w'=>r=.panicked (pan e)/\Since w w':=by
 obtain ⟨w1,hw1⟩:∃ w1,w.alloc (.cells #[.slice x.ga x.gl x.gc,.slice x.na x.nl x.nc,.slice x.wa x.wl x.wc] 26)=w1:=⟨_,rfl⟩;have hP1:aO w1 w.heap.size x:=by rw [<-hw1];exact aO.new w x _
 obtain ⟨lt,q0,q1,q2⟩:=hP1;have hS1:=ay hw1
 go_enter func90,ntmps90
 go_wp2_with (go_at_call 96;refine (vS p x e he w1).mono ?_;rintro e w' ⟨rfl,hS2⟩)
 exact ⟨rfl,rfl,hS1.trans hS2⟩
theorem LY {a b:Int} (ha:0<=a/\a<=100000) (hb:0<=b/\b<=100000):IntKind.i64.wrap (a+b)=a+b:=IntWalk.i64_in _ (by omega)
theorem nW {lo:Nat} {w:World} {p:Nat} {d d':Wd} {L L':Lay} {many:Int} (k:Int) (hm:0<=many/\many<=100000) (hk:0<=k/\k<=100000) (h:cB lo w p d L many) (hO:bE (p+1) w d' L') :
  Calls prog 90 #[.pointer (some ⟨p,0,none⟩),aS L' d',.int .i64 k,.int .i64 0] w fun r w'=>r=.returned (.tuple #[])/\cB lo w' p d' L' (many+k)/\Fr (fun i=>i=p) w w':=by
 obtain ⟨w1,hw1⟩:∃ w1,w.alloc (.cells #[.slice (L' (0,0,0)).a d'.groups.length (L' (0,0,0)).cap,.slice (L' (1,0,0)).a d'.nodes.length (L' (1,0,0)).cap,.slice (L' (2,0,0)).a d'.wires.length (L' (2,0,0)).cap] 26)=w1:=⟨_,rfl⟩;have hS1:=ay hw1;have q0:w1.cell? ⟨w.heap.size,0,none⟩=some (.slice (L' (0,0,0)).a d'.groups.length (L' (0,0,0)).cap):=by rw [<-hw1];simp [go_sem]
 have q1:w1.cell? ⟨w.heap.size,1,none⟩=some (.slice (L' (1,0,0)).a d'.nodes.length (L' (1,0,0)).cap):=by rw [<-hw1];simp [go_sem]
 have q2:w1.cell? ⟨w.heap.size,2,none⟩=some (.slice (L' (2,0,0)).a d'.wires.length (L' (2,0,0)).cap):=by rw [<-hw1];simp [go_sem]
 have hadd:=LY hm hk;have hBe:=yG (h.since hS1) (hO.since hS1);unfold aS at hBe ⊢
 go_enter func90,ntmps90
 go_wp2_with (go_at_call 96;refine hBe.mono ?_;rintro e w2 ⟨rfl,hB2,hF2⟩;have cm:=hB2.cm;have zm:=hB2.zm)
 go_end0
 have hp:=hB2.made.box.lt;have hFr:Fr (fun i=>i=p) w (w2.setCell ⟨p,3,none⟩ (.int .i64 (many+k))):=((hS1.fr (fun i=>i=p)).trans hF2 (fun _ _ e=>e) (fun _ _ e=>e)).setCell ⟨p,3,none⟩ _ (fun _=>rfl);have hF3:Fr (fun i=>i=p) w2 (w2.setCell ⟨p,3,none⟩ (.int .i64 (many+k))):=(Fr.refl (fun i=>i=p) w2).setCell ⟨p,3,none⟩ _ (fun _=>rfl);have hB:=hB2.made.box;refine ⟨rfl,⟨⟨hB2.made.own.jW hB2.made.off _, ?_,hB2.made.off⟩,hB2.lop, ?_, ?_⟩,hFr⟩
 ·exact ⟨zQ4 hp hF3.size,(bJ _ _ _ (by decide)).trans hB.c0,(bJ _ _ _ (by decide)).trans hB.c1,(bJ _ _ _ (by decide)).trans hB.c2,by rw [World.frozen?_setCell];exact hB.z0,by rw [World.frozen?_setCell];exact hB.z1,by rw [World.frozen?_setCell];exact hB.z2⟩
 ·exact World.cell?_setCell_same' _ _ _ (by rw [cm];rfl)
 ·rw [World.frozen?_setCell];exact zm
end Go.Proofs.YtiiifecfdkjmbaaGreat
set_option maxHeartbeats 1000000
namespace Go.Proofs.YtiiifecfdkjmbaaGreat
open _root_.Go.Proofs.Tryz hiding checked
set_option maxRecDepth 8000
open Go.RowKit Go.Shelf
open Pu
set_option linter.unusedVariables false
set_option linter.unusedSimpArgs false
set_option maxRecDepth 20000 in
theorem GR (p:Addr) (x e:Int) (w:World) (hc:w.cell? p=some (.int .i64 x)) (hz:w.frozen? p=false) :
  CallsDIn Fence.wide 0 prog 148 #[.pointer (some p)] (.panicking (pan e)) w fun r u' w' =>
   r=.returned (.tuple #[])/\u'=.panicking [{ v:=.iface 27 (.int .i64 e),recovered:=true }]/\w'=w.setCell p (.int .i64 e):=by
 have hta:=xO e;refine callsDIn_of_wpSIn func148 rfl trivial fun c₀ cs hu=>?_;apply wpSIn_seq;apply wpSIn_region;simp [wpOpsSIn,go_sem,recoverD,hu,ntmps148,Exit.thenS];refine wpSIn_of_wpIn rfl ((wpIn_wide (n:=0)).2 ?_);simp only [Array.replicate_succ,Array.replicate_zero,List.push_toArray,List.append_toArray,List.nil_append,List.cons_append,zQ7,zQ9,zQ8]
 go_wp2
 exact ⟨rfl,_,rfl,_,results_none rfl _ _ _,rfl,rfl,rfl⟩
theorem Es (p:Addr) (w:World) :
  CallsDIn Fence.wide 0 prog 148 #[.pointer (some p)] .returning w fun r u' w'=>r=.returned (.tuple #[])/\u'=.returning/\w'=w:=by
 refine callsDIn_of_wpSIn func148 rfl trivial fun c₀ cs hu=>?_;apply wpSIn_seq;apply wpSIn_region;simp [wpOpsSIn,go_sem,recoverD,hu,ntmps148,Exit.thenS];refine wpSIn_of_wpIn rfl ((wpIn_wide (n:=0)).2 ?_);simp only [Array.replicate_succ,Array.replicate_zero,List.push_toArray,List.append_toArray,List.nil_append,List.cons_append,zQ7,zQ9,zQ8]
 go_wp2
 obtain ⟨c1,c2,c3,c4,c5,c6,c7⟩:=c₀;subst hu;exact ⟨rfl,_,rfl,_,results_none rfl _ _ _,rfl,rfl,rfl⟩
theorem xP (y:World) (bo be:Nat) (tmps:Array Value) (h4:tmps[4]? = some (.pointer (some ⟨bo,0,none⟩))) (h5:tmps[5]? = some (.int .i64 0)) (h6:tmps[6]? = some (.pointer (some ⟨be,0,none⟩))) (x e:Int)
  (c0:y.cell? ⟨bo,0,none⟩=some (.slice none 0 0)) (c1:y.cell? ⟨bo,1,none⟩=some (.slice none 0 0)) (c2:y.cell? ⟨bo,2,none⟩=some (.slice none 0 0)) (hne:be≠bo) (hc:y.cell? ⟨be,0,none⟩=some (.int .i64 x)) (hz:y.frozen? ⟨be,0,none⟩=false)
  (R:Ending->World->Prop) (hR:R (.returned (.tuple #[.agg #[.slice none 0 0,.slice none 0 0,.slice none 0 0],.int .i64 0,.int .i64 e])) (y.setCell ⟨be,0,none⟩ (.int .i64 e))) :
  LeavesInM Fence.wide 0 prog Tryz.f85 tmps R [{ target:=.fn (.func 148) #[.pointer (some ⟨be,0,none⟩)],args:=#[] }] (.panicking (pan e)) y:=by
 refine ⟨by simp,.inr ⟨fun h=>(by cases h),_,_,148,#[.pointer (some ⟨be,0,none⟩)],rfl,by simp [go_sem,invoke],fun _ _=>trivial, ?_⟩⟩;refine (GR ⟨be,0,none⟩ x e y hc hz).mono ?_;rintro r u' w'' ⟨rfl,rfl,rfl⟩;refine ⟨_, ?_,hR⟩;have hc':(y.setCell ⟨be,0,none⟩ (.int .i64 e)).cell? ⟨be,0,none⟩=some (.int .i64 e):=World.cell?_setCell_same' _ _ _ (by rw [hc];rfl);have hF:Fr (fun i=>i=be) y (y.setCell ⟨be,0,none⟩ (.int .i64 e)):=(Fr.refl (fun i=>i=be) y).setCell ⟨be,0,none⟩ _ (fun _=>rfl);have d0:(y.setCell ⟨be,0,none⟩ (.int .i64 e)).cell? ⟨bo,0,none⟩=some (.slice none 0 0):=(World.cell?_setCell_far y ⟨be,0,none⟩ ⟨bo,0,none⟩ _ hne).trans c0;have d1:(y.setCell ⟨be,0,none⟩ (.int .i64 e)).cell? ⟨bo,1,none⟩=some (.slice none 0 0):=(World.cell?_setCell_far y ⟨be,0,none⟩ ⟨bo,1,none⟩ _ hne).trans c1;have d2:(y.setCell ⟨be,0,none⟩ (.int .i64 e)).cell? ⟨bo,2,none⟩=some (.slice none 0 0):=(World.cell?_setCell_far y ⟨be,0,none⟩ ⟨bo,2,none⟩ _ hne).trans c2;simp [results,Tryz.f85,go_sem,h4,h5,h6,hc',d0,d1,d2]
theorem Et (y:World) (bo be:Nat) (tmps:Array Value) (m:Int) (a b c:Value) (s0:a.oneCell'=true) (s1:b.oneCell'=true) (s2:c.oneCell'=true) (h4:tmps[4]? = some (.pointer (some ⟨bo,0,none⟩))) (h5:tmps[5]? = some (.int .i64 m)) (h6:tmps[6]? = some (.pointer (some ⟨be,0,none⟩)))
  (c0:y.cell? ⟨bo,0,none⟩=some a) (c1:y.cell? ⟨bo,1,none⟩=some b) (c2:y.cell? ⟨bo,2,none⟩=some c) (hc:y.cell? ⟨be,0,none⟩=some (.int .i64 0))
  (R:Ending->World->Prop) (hR:R (.returned (.tuple #[.agg #[a,b,c],.int .i64 m,.int .i64 0])) y) :
  LeavesInM Fence.wide 0 prog Tryz.f85 tmps R [{ target:=.fn (.func 148) #[.pointer (some ⟨be,0,none⟩)],args:=#[] }] .returning y:=by
 refine ⟨by simp,.inr ⟨fun h=>(by cases h),_,_,148,#[.pointer (some ⟨be,0,none⟩)],rfl,by simp [go_sem,invoke],fun _ _=>trivial, ?_⟩⟩;refine (Es ⟨be,0,none⟩ y).mono ?_;rintro r u' w'' ⟨rfl,rfl,rfl⟩;refine ⟨_, ?_,hR⟩;simp [results,Tryz.f85,go_sem,h4,h5,h6,hc,c0,c1,c2]
def Qv (X:Nat->Prop) (w:World) (r:Except Int (Wd × Int)) (e:Ending) (w':World):Prop :=
 (∀ er,r=.error er->e=.returned (.tuple #[.agg #[.slice none 0 0,.slice none 0 0,.slice none 0 0],.int .i64 0,.int .i64 er])/\Fr X w w') /\
 (∀ d' m,r=.ok (d',m)->∃ L,e=.returned (.tuple #[aS L d',.int .i64 m,.int .i64 0])/\bE w.heap.size w' d' L/\Fr X w w')
theorem LH {P:Program} {Q:Exit->Act->World->Prop} {c:Code} {a:Act} {w:World} (h:c.wp P (fun e a' w'=>e=.normal/\Q .normal a' w') a w):c.wp P Q a w :=
 wp_mono h (fun e a w h=>by obtain ⟨rfl,h⟩:=h;exact h)
attribute [local go_sem] Oper.semAt_some
theorem lY (x:WV) (d:Wd) (K:Nat) (caps:Array Value) (X:Nat->Prop) (w:World) (hW:WAt w x d) (hX:∀ i,X i->i < w.heap.size) (r:Except Int (Wd × Int))
  (heg:∀ args w,(callFunc K args).run prog w=.ok (.enter K args) w)
  (Qw:aL d=0->∀ (lo p:Nat) (L:Lay) (w1:World),w.heap.size<=lo->Since w w1->cB lo w1 p d L 0->Calls prog K (#[.pointer (some ⟨p,0,none⟩)]++caps) w1 fun e w'=>Hid (uH lo X p w1 r e w')) :
  Calls prog 85 #[.agg #[.slice x.ga x.gl x.gc,.slice x.na x.nl x.nc,.slice x.wa x.wl x.wc],.func (.func K) #[] caps] w fun e w'=>Hid (Qv X w (checked d r) e w'):=by
 obtain ⟨ga,gl,gc,na,nl,nc,wa,wl,wc⟩:=x;dsimp only;obtain ⟨wp,hwp⟩:∃ wp,w.alloc (.cells #[.slice ga gl gc,.slice na nl nc,.slice wa wl wc] 26)=wp:=⟨_,rfl⟩;have hPp:aO wp w.heap.size ⟨ga,gl,gc,na,nl,nc,wa,wl,wc⟩:=by rw [<-hwp];exact aO.new w ⟨ga,gl,gc,na,nl,nc,wa,wl,wc⟩ _
 have hSp:=ay hwp;obtain ⟨wn,hwn⟩:∃ w1,wp.alloc (.cells #[.slice none 0 0,.slice none 0 0,.slice none 0 0] 26)=w1:=⟨_,rfl⟩;have Ux:aD wn wp.heap.size:=by rw [<-hwn];exact aD.new wp _
 have Wi:=ay hwn;obtain ⟨w1,hw1⟩:∃ w1,wn.alloc (.cells #[.int .i64 0] 27)=w1:=⟨_,rfl⟩;have Uy:=ay hw1;have hNB:=Ux.since Uy;have cO:=Wi.trans Uy;have hP1:=hPp.since cO;have hS1:=hSp.trans cO;have hW1:=hW.since hS1;have q0:w1.cell? ⟨wn.heap.size,0,none⟩=some (.int .i64 0):=by rw [<-hw1];simp [go_sem]
 have q1:w1.frozen? ⟨wn.heap.size,0,none⟩=false:=by rw [<-hw1];simp [go_sem]
 have hql:wn.heap.size < w1.heap.size:=by rw [<-hw1];simp
 have hnl:wp.heap.size < wn.heap.size:=Ux.lt;have hwl:w.heap.size<=wp.heap.size:=hSp.size;have p0:=hP1.c0;have p1:=hP1.c1;have p2:=hP1.c2;dsimp only at p0 p1 p2;have PF:Hid (∀ y,Since w1 y->aO y w.heap.size ⟨ga,gl,gc,na,nl,nc,wa,wl,wc⟩):=fun y hy=>hP1.since hy
 have QF:Hid (∀ y,Since w1 y->y.cell? ⟨wn.heap.size,0,none⟩=some (.int .i64 0)/\y.frozen? ⟨wn.heap.size,0,none⟩=false/\aD y wp.heap.size):=fun y hy =>
  ⟨(hy.cellAt hql _).trans q0,(hy.below.frozen (p:=⟨wn.heap.size,0,none⟩) hql).trans q1,hNB.since hy⟩
 have hmf:∀ (fn:Fn) (first cap:Array Value) (w:World),(Instr.makeFunc fn first cap).run prog w=.ok (.func fn first cap) w:=fun _ _ _ _=>rfl
 clear hW;refine lg func85 rfl ?_;simp only [ntmps85,List.size_toArray,List.length_cons,List.length_nil,Nat.reduceAdd,Nat.reduceSub,Array.replicate_succ,Array.replicate_zero,List.push_toArray,List.append_toArray,List.nil_append,List.cons_append];refine cK ?_;cases hE:(aL d == 0)
 ·have HF:Hid (checked d r=.error (aL d)):=by
   have:¬ aL d=0:=by simpa using hE
   unfold Hid checked;rw [if_neg this]
  go_wp2_with (first
   | (go_at_call 39;refine (nL ⟨ga,gl,gc,na,nl,nc,wa,wl,wc⟩ d w1 hW1).mono ?_;rintro e w2 ⟨rfl,hS2⟩)
   | (go_at_call 149;refine (uw _ hE _).mono ?_;rintro e w3 ⟨rfl,hw3⟩;obtain rfl:=hw3.symm))
  obtain ⟨e0,e1,e2⟩:=QF.out _ hS2;refine xP w2 wp.heap.size wn.heap.size _ rfl rfl rfl 0 (aL d) e2.c0 e2.c1 e2.c2 (by omega) e0 e1 _ ?_;unfold Hid;rw [HF.out];exact ⟨fun er h=>(by cases h;exact ⟨rfl,((hS1.trans hS2).fr X).setCell ⟨wn.heap.size,0,none⟩ _ (fun h=>by have h:wn.heap.size < w.heap.size:=h;omega)⟩),fun _ _ h=>(by cases h)⟩
 ·have HE:Hid (aL d=0):=by unfold Hid;simpa using hE
  go_wp2_with (first
   | (go_at_call 39;refine (nL ⟨ga,gl,gc,na,nl,nc,wa,wl,wc⟩ d w1 hW1).mono ?_;rw [HE.out];rintro e w2 ⟨rfl,hS2⟩;obtain ⟨lt2,f0,f1,f2⟩:=PF.out _ hS2;dsimp only at f0 f1 f2)
   | (go_at_call 149;refine (uy _).mono ?_;rintro e w3 ⟨rfl,hw3⟩;obtain rfl:=hw3.symm)
   | (go_at_call 150;refine (Jr ⟨ga,gl,gc,na,nl,nc,wa,wl,wc⟩ d w2 (hW1.since hS2) (jP ((dK d).1 HE.out))).mono ?_;rintro e w3 ⟨L,rfl,hO,hS3⟩;dsimp only [aS]))
  obtain ⟨w4,hw4⟩:∃ y,w3.alloc (.cells #[.slice (L (0,0,0)).a d.groups.length (L (0,0,0)).cap,.slice (L (1,0,0)).a d.nodes.length (L (1,0,0)).cap,.slice (L (2,0,0)).a d.wires.length (L (2,0,0)).cap,.int .i64 0] 102)=y:=⟨_,rfl⟩;rw [hw4];have hS4:=ay hw4
  have hB4:cB w2.heap.size w4 w3.heap.size d L 0:=by
   refine ⟨⟨hO.since hS4, ?_,fun hb=>by have:=(hO.blk hb).2;omega⟩,hS3.size, ?_, ?_⟩
   ·rw [<-hw4];constructor <;> simp [go_sem]
   ·rw [<-hw4];simp [go_sem]
   ·rw [<-hw4];simp [go_sem]
  have xC:=(hS2.trans hS3).trans hS4;have h12:=hS2.size;have hww:=zQ5 hS1.size h12;clear hw4 hw1 hwp hwn p0 p1 p2 f0 f1 f2;have HC:=Qw HE.out w2.heap.size w3.heap.size L w4 hww (hS1.trans xC) hB4;obtain ⟨e0,e1,e2⟩:=QF.out _ xC;have hlq:wn.heap.size < w4.heap.size:=zQ4 hql xC.size;have hlp:wp.heap.size < w4.heap.size:=by omega
  have hUq:¬ Up w2.heap.size X wn.heap.size:=by rintro (h | h);omega;(have:=hX _ h;omega)
  have hUp:¬ Up w2.heap.size X wp.heap.size:=by rintro (h | h);omega;(have:=hX _ h;omega)
  have FX:Hid (∀ y,Fr (Up w2.heap.size X) w4 y->Fr X w y):=fun y hy=>((hS1.trans xC).fr X).trans hy (fun _ _ h=>h) (fun i hi h=>by
   rcases h with h | h
   ·omega
   ·exact h)
  have KF:Hid (∀ y,Fr (Up w2.heap.size X) w4 y->y.cell? ⟨wn.heap.size,0,none⟩=some (.int .i64 0)/\y.frozen? ⟨wn.heap.size,0,none⟩=false/\(y.cell? ⟨wp.heap.size,0,none⟩=some (.slice none 0 0)/\y.cell? ⟨wp.heap.size,1,none⟩=some (.slice none 0 0)/\y.cell? ⟨wp.heap.size,2,none⟩=some (.slice none 0 0))/\(y.frozen? ⟨wp.heap.size,0,none⟩=false/\y.frozen? ⟨wp.heap.size,1,none⟩=false/\y.frozen? ⟨wp.heap.size,2,none⟩=false)):=fun y hy =>
   ⟨(hy.cell (p:=⟨wn.heap.size,0,none⟩) hlq hUq).trans e0,(hy.frozen (p:=⟨wn.heap.size,0,none⟩) hlq hUq).trans e1,⟨(hy.cell (p:=⟨wp.heap.size,0,none⟩) hlp hUp).trans e2.c0,(hy.cell (p:=⟨wp.heap.size,1,none⟩) hlp hUp).trans e2.c1,(hy.cell (p:=⟨wp.heap.size,2,none⟩) hlp hUp).trans e2.c2⟩,
    ⟨(hy.frozen (p:=⟨wp.heap.size,0,none⟩) hlp hUp).trans e2.z0,(hy.frozen (p:=⟨wp.heap.size,1,none⟩) hlp hUp).trans e2.z1,(hy.frozen (p:=⟨wp.heap.size,2,none⟩) hlp hUp).trans e2.z2⟩⟩
  clear e0 e1 e2 q0 q1;have HCH:Hid (checked d r=r):=by unfold Hid checked;rw [if_pos HE.out]
  refine HC.mono ?_;clear HC Qw;rintro e w5 hR
  cases r with
  | error er =>
   obtain ⟨rfl,hF5⟩:=hR.out.1 er rfl;obtain ⟨k0,k1,⟨k2,k3,k4⟩,_⟩:=KF.out _ hF5;refine xP w5 wp.heap.size wn.heap.size _ rfl rfl rfl 0 er k2 k3 k4 (by omega) k0 k1 _ ?_;unfold Hid;rw [HCH.out];exact ⟨fun er' h=>(by cases h;exact ⟨rfl,(FX.out _ hF5).setCell ⟨wn.heap.size,0,none⟩ _ (fun h=>by have h:wn.heap.size < w.heap.size:=h;omega)⟩),fun _ _ h=>(by cases h)⟩
  | ok dm =>
   obtain ⟨d',m⟩:=dm;obtain ⟨rfl,hF5,L',hB5⟩:=hR.out.2 d' m rfl;clear hR;dsimp only
   go_wp2_with fail
   obtain ⟨W0,hW0⟩:∃ y,w5.drew=y:=⟨_,rfl⟩;have hs0:=aQ hW0;have hF0:Fr (Up w2.heap.size X) w4 W0:=hF5.aF (hs0.up _ _);have hB0:=hB5.since hs0;obtain ⟨k0,k1,⟨k2,k3,k4⟩,⟨y0,y1,y2⟩⟩:=KF.out _ hF0;have b:=hB0.made.box;obtain ⟨S0,hS0⟩:∃ S0:World->Prop,∀ w',S0 w'↔w'.heap[w3.heap.size]? = W0.heap[w3.heap.size]?:=⟨_,fun _=>Iff.rfl⟩;have dH:=aI w;have x0:∀ y:ak S0,y.w.cell? ⟨w3.heap.size,0,none⟩=some (.slice (L' (0,0,0)).a d'.groups.length (L' (0,0,0)).cap):=fun y=>(World.cell?_of_block (a:=⟨w3.heap.size,0,none⟩) ((hS0 _).1 y.h)).trans b.c0;have x1:∀ y:ak S0,y.w.cell? ⟨w3.heap.size,1,none⟩=some (.slice (L' (1,0,0)).a d'.nodes.length (L' (1,0,0)).cap):=fun y=>(World.cell?_of_block (a:=⟨w3.heap.size,1,none⟩) ((hS0 _).1 y.h)).trans b.c1;have x2:∀ y:ak S0,y.w.cell? ⟨w3.heap.size,2,none⟩=some (.slice (L' (2,0,0)).a d'.wires.length (L' (2,0,0)).cap):=fun y=>(World.cell?_of_block (a:=⟨w3.heap.size,2,none⟩) ((hS0 _).1 y.h)).trans b.c2;have x3:∀ y:ak S0,y.w.cell? ⟨w3.heap.size,3,none⟩=some (.int .i64 m):=fun y=>(World.cell?_of_block (a:=⟨w3.heap.size,3,none⟩) ((hS0 _).1 y.h)).trans hB0.cm;have au:=(hS0 W0).2 rfl;have hne:Nonempty (ak S0):=⟨⟨_,au⟩⟩;have Xi:w2.heap.size<=w3.heap.size:=hS3.size;obtain ⟨W1,Pp⟩:∃ y,((W0.setCell ⟨wp.heap.size,0,none⟩ (.slice (L' (0,0,0)).a d'.groups.length (L' (0,0,0)).cap)).setCell ⟨wp.heap.size,1,none⟩ (.slice (L' (1,0,0)).a d'.nodes.length (L' (1,0,0)).cap)).setCell ⟨wp.heap.size,2,none⟩ (.slice (L' (2,0,0)).a d'.wires.length (L' (2,0,0)).cap)=y:=⟨_,rfl⟩;have LJ:Fr (fun i=>i=wp.heap.size) W0 W1:=by rw [<-Pp];exact dN W0 wp.heap.size _ _ _
   have hl0:wn.heap.size < W0.heap.size:=by have:=hF0.size;omega
   have hl3:w3.heap.size < W0.heap.size:=b.lt;have wX:S0 W1:=(hS0 W1).2 (LJ.block w3.heap.size hl3 (by omega));have m0:W1.cell? ⟨wp.heap.size,0,none⟩=some (.slice (L' (0,0,0)).a d'.groups.length (L' (0,0,0)).cap):=by rw [<-Pp];exact pI k2
   have m1:W1.cell? ⟨wp.heap.size,1,none⟩=some (.slice (L' (1,0,0)).a d'.nodes.length (L' (1,0,0)).cap):=by rw [<-Pp];exact pJ k3
   have m2:W1.cell? ⟨wp.heap.size,2,none⟩=some (.slice (L' (2,0,0)).a d'.wires.length (L' (2,0,0)).cap):=by rw [<-Pp];exact pK k4
   have m3:W1.cell? ⟨wn.heap.size,0,none⟩=some (.int .i64 0):=(LJ.cell (p:=⟨wn.heap.size,0,none⟩) hl0 (by show ¬ wn.heap.size=_;omega)).trans k0;have m4:W1.frozen? ⟨wn.heap.size,0,none⟩=false:=(LJ.frozen (p:=⟨wn.heap.size,0,none⟩) hl0 (by show ¬ wn.heap.size=_;omega)).trans k1;obtain ⟨W2,Uz⟩:∃ y,W1.setCell ⟨wn.heap.size,0,none⟩ (.int .i64 0)=y:=⟨_,rfl⟩;have Oe:Fr (fun i=>i=wn.heap.size) W1 W2:=by rw [<-Uz];exact (Fr.refl (fun i=>i=wn.heap.size) W1).setCell ⟨wn.heap.size,0,none⟩ _ (fun _=>rfl)
   have RY:wp.heap.size < W1.heap.size:=by have:=LJ.size;omega
   have n0:=(Oe.cell (p:=⟨wp.heap.size,0,none⟩) RY (by show ¬ wp.heap.size=_;omega)).trans m0;have n1:=(Oe.cell (p:=⟨wp.heap.size,1,none⟩) RY (by show ¬ wp.heap.size=_;omega)).trans m1;have n2:=(Oe.cell (p:=⟨wp.heap.size,2,none⟩) RY (by show ¬ wp.heap.size=_;omega)).trans m2;have n3:W2.cell? ⟨wn.heap.size,0,none⟩=some (.int .i64 0):=by rw [<-Uz];exact kK _ _ _ _ m3
   have hOf:bE w.heap.size W2 d' L':=by
    have h0:=hB0.made.own.fr LJ (fun i hi e=>by have:=(hB0.made.own.blk hi).1;omega);have h1:=h0.fr Oe (fun i hi e=>by have:=(h0.blk hi).1;omega);exact h1.mono hww
   have hFf:Fr X w W2:=by
    have h0:=FX.out _ hF0;have h1:=h0.trans LJ (fun _ _ h=>h) (D:=X) (fun i hi e=>by have e:i=wp.heap.size:=e;omega);exact h1.trans Oe (fun _ _ h=>h) (fun i hi e=>by have e:i=wn.heap.size:=e;omega)
   refine LH ?_;refine aK (fun w'=>∃ x:ak S0,w'=x.w) (by kernel_rfl) ?_;rw [hW0];clear hW0;refine yX 0 rfl (by kernel_rfl) (fun _ _ _ _ h=>nomatch h.1) (by rfl) rfl ?_;go_big_quiet_op;refine yX 1 rfl (by kernel_rfl) (fun _ _ _ _ h=>nomatch h.1) (by rfl) rfl ?_;go_big_quiet_op;refine yX 2 rfl (by kernel_rfl) (fun _ _ _ _ h=>nomatch h.1) (by rfl) rfl ?_;go_big_quiet_op;refine Oa 3 rfl (by kernel_rfl) (aj au) (fun _ _ _ _ h=>nomatch h.1) (by rfl) rfl ?_;go_big_quiet_op;refine yX 4 rfl (by kernel_rfl) (fun _ _ _ _ h=>nomatch h.1) (by rfl) rfl ?_;go_big_quiet_op;refine yX 5 rfl (by kernel_rfl) (fun _ _ _ _ h=>nomatch h.1) (by rfl) rfl ?_;go_big_quiet_op;refine yX 6 rfl (by kernel_rfl) (fun _ _ _ _ h=>nomatch h.1) (by rfl) rfl ?_;go_big_quiet_op;refine Oa 7 rfl (by kernel_rfl) (aj au) (fun _ _ _ _ h=>nomatch h.1) (by rfl) rfl ?_;go_big_quiet_op;refine aR 8 rfl (by kernel_rfl) ?_;intro K hK;go_simp;refine hK _ _ (fun _ _=>aj wX) ?_;clear hK K;refine yX 9 rfl (by kernel_rfl) (fun _ _ _ _ h=>nomatch h.1) (by rfl) rfl ?_;go_big_quiet_op;refine aR 10 rfl (by kernel_rfl) ?_;intro K hK;go_simp;refine hK _ _ (fun h=>absurd h (by decide +kernel)) ?_;clear hK K;refine bH (by kernel_rfl) ⟨rfl, ?_⟩;clear x0 x1 x2 x3 hne dH
   go_wp2_with fail
   refine Et W2 wp.heap.size wn.heap.size _ m _ _ _ rfl rfl rfl rfl rfl rfl n0 n1 n2 n3 _ ?_;unfold Hid;rw [HCH.out];exact ⟨fun _ h=>(by cases h),fun _ _ h=>(by cases h;exact ⟨L',rfl,hOf,hFf⟩)⟩
end Go.Proofs.YtiiifecfdkjmbaaGreat
