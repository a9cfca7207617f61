/- Lemmas. Lemmas. -/
import Derived.Test.YtiiifecfdkjmbaaGreatTSOwnX
import Derived.Test.YtiiifecfdkjmbaaGreatTSOwn
import Derived.Test.YtiiifecfdkjmbaaGreatTAOpen
set_option maxHeartbeats 1000000
namespace Go.Proofs.YtiiifecfdkjmbaaGreat
open _root_.Go.Proofs.Tryz hiding checked
set_option maxRecDepth 8000
open Go.RowKit Go.Shelf
open Pu
set_option linter.unusedVariables false
set_option linter.unusedSimpArgs false
theorem bG (e:Int) (w:World):Calls prog 88 #[.bool true,.int .i64 e] w fun r w'=>r=.returned (.tuple #[])/\w'=w:=by
 go_enter func88,ntmps88
 go_wp2
 go_end0
 exact ⟨rfl,rfl⟩
theorem eG (e:Int) (w:World):Calls prog 88 #[.bool false,.int .i64 e] w fun r w'=>r=.panicked (pan e)/\w'=w:=by
 go_enter func88,ntmps88
 go_wp2
 exact ⟨rfl,rfl,rfl⟩
theorem qh (w:World):Calls prog 149 #[.int .i64 0] w fun r w'=>r=.returned (.tuple #[])/\w'=w:=by
 go_enter func149,ntmps149
 go_wp2_with (go_at_call 88;refine (bG _ _).mono ?_;rintro e w' ⟨rfl,rfl⟩)
 go_end0
 exact ⟨rfl,rfl⟩
theorem qg (e:Int) (he:(e == 0)=false) (w:World):Calls prog 149 #[.int .i64 e] w fun r w'=>r=.panicked (pan e)/\w'=w:=by
 go_enter func149,ntmps149
 go_wp2_with (go_at_call 88;refine (eG _ _).mono ?_;rintro e w' ⟨rfl,rfl⟩)
 exact ⟨rfl,rfl,rfl⟩
structure aY (lo:Nat) (w:World) (p:Nat) (d:Wd) (L:Lay) (many:Int):Prop where
 made:dN lo w p d L
 lop:lo<=p
 cm:w.cell? ⟨p,3,none⟩=some (.int .i64 many)
 zm:w.frozen? ⟨p,3,none⟩=false
theorem aY.since {lo:Nat} {w w':World} {p:Nat} {d:Wd} {L:Lay} {many:Int} (h:aY lo w p d L many) (k:Since w w'):aY lo w' p d L many :=
 ⟨h.made.since k,h.lop,(k.cellAt h.made.box.lt _).trans h.cm,(k.below.frozen (p:=⟨p,3,none⟩) h.made.box.lt).trans h.zm⟩
abbrev Up (lo:Nat) (X:Nat->Prop):Nat->Prop:=fun i=>¬ i < lo\/X i
theorem Since.up {w w':World} (h:Since w w') (lo:Nat) (X:Nat->Prop):Fr (Up lo X) w w':=h.fr _
theorem Fr.aD {lo:Nat} {X:Nat->Prop} {a b c:World} (h:Fr (Up lo X) a b) (k:Fr (Up lo X) b c):Fr (Up lo X) a c:=h.trans k (fun _ _ x=>x) (fun _ _ x=>x)
def qp (lo:Nat) (X:Nat->Prop) (p:Nat) (w:World) (r:Except Int (Wd × Int)) (e:Ending) (w':World):Prop :=
 (∀ er,r=.error er->e=.panicked (pan er)/\Fr (Up lo X) w w') /\
 (∀ d' m,r=.ok (d',m)->e=.returned (.tuple #[])/\Fr (Up lo X) w w'/\∃ L',aY lo w' p d' L' m)
theorem eB {lo:Nat} {X:Nat->Prop} {p:Nat} {w:World} {er:Int} {w':World} (h:Fr (Up lo X) w w'):qp lo X p w (.error er) (.panicked (pan er)) w' :=
 ⟨fun _ e=>(by cases e;exact ⟨rfl,h⟩),fun _ _ e=>(by cases e)⟩
theorem l9 {lo:Nat} {X:Nat->Prop} {p:Nat} {w:World} {d':Wd} {m:Int} {w':World} {L':Lay} (h:Fr (Up lo X) w w') (k:aY lo w' p d' L' m):qp lo X p w (.ok (d',m)) (.returned (.tuple #[])) w' :=
 ⟨fun _ e=>(by cases e),fun _ _ e=>(by cases e;exact ⟨rfl,h,L',k⟩)⟩
theorem fH (p:Nat) (k:Int) (a:Option Addr) (n c:Nat) (w:World) (hc:w.cell? ⟨p,1,none⟩=some (.slice a n c)) :
  Calls prog 151 #[.pointer (some ⟨p,0,none⟩),.int .i64 k] w fun e w'=>e=.returned (.bool (decide (0<=k) && decide (k < (n:Int))))/\w'=w:=by
 by_cases h:0<=k
 ·go_enter func151,ntmps151
  go_wp2
  go_ret
  exact ⟨by simp [h],rfl⟩
 ·go_enter func151,ntmps151
  go_wp2
  go_ret
  exact ⟨by simp;omega,rfl⟩
theorem aY.become {lo:Nat} {w:World} {p:Nat} {d d':Wd} {L L':Lay} {many:Int} (h:aY lo w p d L many) (hO:aX (p+1) w d' L') :
  aY lo (((w.setCell ⟨p,0,none⟩ (.slice (L' (0,0,0)).a d'.groups.length (L' (0,0,0)).cap)).setCell ⟨p,1,none⟩ (.slice (L' (1,0,0)).a d'.nodes.length (L' (1,0,0)).cap)).setCell ⟨p,2,none⟩ (.slice (L' (2,0,0)).a d'.wires.length (L' (2,0,0)).cap)) p d' L' many:=by
 have hoff:¬ fU d' L' p:=fun hb=>by have:=(hO.blk hb).1;omega
 have b:=h.made.box
 have hlt:=b.lt
 have c0:=b.c0
 have c1:=b.c1
 have c2:=b.c2
 have z0:=b.z0
 have z1:=b.z1
 have z2:=b.z2
 have cm:=h.cm
 have zm:=h.zm
 refine ⟨⟨(((hO.jV (p:=⟨p,0,none⟩) hoff _).jV (p:=⟨p,1,none⟩) hoff _).jV (p:=⟨p,2,none⟩) hoff _).mono (by have:=h.lop;omega), ?_,hoff⟩,h.lop, ?_, ?_⟩
 ·exact ⟨zQ4 hlt (gM w p _ _ _).size,qY c0,qZ c1,q8 c2,(gZ _ _ _ _ _ _).trans z0,(gZ _ _ _ _ _ _).trans z1,(gZ _ _ _ _ _ _).trans z2⟩
 ·exact (IW _ _ _ _ _ (by decide)).trans cm
 ·exact (gZ _ _ _ _ _ _).trans zm
theorem rU (p:Nat) (x:WV) (e:Int) (he:(e == 0)=false) (w:World) :
  Calls prog 96 #[.pointer (some ⟨p,0,none⟩),.agg #[.slice x.ga x.gl x.gc,.slice x.na x.nl x.nc,.slice x.wa x.wl x.wc],.int .i64 e] w fun r w'=>r=.panicked (pan e)/\Since w w':=by
 go_enter func96,ntmps96
 go_wp2_with (go_at_call 149;refine (qg _ he _).mono ?_;rintro e w' ⟨rfl,rfl⟩)
 exact ⟨rfl,rfl,(Since.refl _).alloc _⟩
theorem uX {lo:Nat} {w:World} {p:Nat} {d d':Wd} {L L':Lay} {many:Int} (h:aY lo w p d L many) (hO:aX (p+1) w d' L') :
  Calls prog 96 #[.pointer (some ⟨p,0,none⟩),bW L' d',.int .i64 0] w fun r w'=>r=.returned (.tuple #[])/\aY lo w' p d' L' many/\Fr (fun i=>i=p) w w':=by
 unfold bW
 obtain ⟨w1,hw1⟩:∃ w1,w.alloc (.cells #[.slice (L' (0,0,0)).a d'.groups.length (L' (0,0,0)).cap,.slice (L' (1,0,0)).a d'.nodes.length (L' (1,0,0)).cap,.slice (L' (2,0,0)).a d'.wires.length (L' (2,0,0)).cap] 26)=w1:=⟨_,rfl⟩
 have hS1:=ay hw1
 have q0:w1.cell? ⟨w.heap.size,0,none⟩=some (.slice (L' (0,0,0)).a d'.groups.length (L' (0,0,0)).cap):=by rw [<-hw1];simp [go_sem]
 have q1:w1.cell? ⟨w.heap.size,1,none⟩=some (.slice (L' (1,0,0)).a d'.nodes.length (L' (1,0,0)).cap):=by rw [<-hw1];simp [go_sem]
 have q2:w1.cell? ⟨w.heap.size,2,none⟩=some (.slice (L' (2,0,0)).a d'.wires.length (L' (2,0,0)).cap):=by rw [<-hw1];simp [go_sem]
 have h1:=h.since hS1
 obtain ⟨lt,c0,c1,c2,z0,z1,z2⟩:=h1.made.box
 have HB:=h1.become (hO.since hS1)
 have HF:Fr (fun i=>i=p) w (((w1.setCell ⟨p,0,none⟩ (.slice (L' (0,0,0)).a d'.groups.length (L' (0,0,0)).cap)).setCell ⟨p,1,none⟩ (.slice (L' (1,0,0)).a d'.nodes.length (L' (1,0,0)).cap)).setCell ⟨p,2,none⟩ (.slice (L' (2,0,0)).a d'.wires.length (L' (2,0,0)).cap)) :=
  (hS1.fr _).trans (gM w1 p _ _ _) (fun _ _ e=>e) (fun _ _ e=>e)
 go_enter func96,ntmps96
 go_wp2_with (go_at_call 149;refine (qh _).mono ?_;rintro e w' ⟨rfl,rfl⟩)
 go_end0
 exact ⟨rfl,HB,HF⟩
theorem jX (p:Nat) (x:WV) (k e:Int) (he:(e == 0)=false) (w:World) :
  Calls prog 90 #[.pointer (some ⟨p,0,none⟩),.agg #[.slice x.ga x.gl x.gc,.slice x.na x.nl x.nc,.slice x.wa x.wl x.wc],.int .i64 k,.int .i64 e] w fun r w'=>r=.panicked (pan e)/\Since w w':=by
 obtain ⟨w1,hw1⟩:∃ w1,w.alloc (.cells #[.slice x.ga x.gl x.gc,.slice x.na x.nl x.nc,.slice x.wa x.wl x.wc] 26)=w1:=⟨_,rfl⟩
 have hP1:bD w1 w.heap.size x:=by rw [<-hw1];exact bD.new w x _
 obtain ⟨lt,q0,q1,q2⟩:=hP1
 have hS1:=ay hw1
 go_enter func90,ntmps90
 go_wp2_with (go_at_call 96;refine (rU p x e he w1).mono ?_;rintro e w' ⟨rfl,hS2⟩)
 exact ⟨rfl,rfl,hS1.trans hS2⟩
theorem Ib {a b:Int} (ha:0<=a/\a<=100000) (hb:0<=b/\b<=100000):IntKind.i64.wrap (a+b)=a+b:=IntWalk.i64_in _ (by omega)
theorem lH {lo:Nat} {w:World} {p:Nat} {d d':Wd} {L L':Lay} {many:Int} (k:Int) (hm:0<=many/\many<=100000) (hk:0<=k/\k<=100000) (h:aY lo w p d L many) (hO:aX (p+1) w d' L') :
  Calls prog 90 #[.pointer (some ⟨p,0,none⟩),bW L' d',.int .i64 k,.int .i64 0] w fun r w'=>r=.returned (.tuple #[])/\aY lo w' p d' L' (many+k)/\Fr (fun i=>i=p) w w':=by
 obtain ⟨w1,hw1⟩:∃ w1,w.alloc (.cells #[.slice (L' (0,0,0)).a d'.groups.length (L' (0,0,0)).cap,.slice (L' (1,0,0)).a d'.nodes.length (L' (1,0,0)).cap,.slice (L' (2,0,0)).a d'.wires.length (L' (2,0,0)).cap] 26)=w1:=⟨_,rfl⟩
 have hS1:=ay hw1
 have q0:w1.cell? ⟨w.heap.size,0,none⟩=some (.slice (L' (0,0,0)).a d'.groups.length (L' (0,0,0)).cap):=by rw [<-hw1];simp [go_sem]
 have q1:w1.cell? ⟨w.heap.size,1,none⟩=some (.slice (L' (1,0,0)).a d'.nodes.length (L' (1,0,0)).cap):=by rw [<-hw1];simp [go_sem]
 have q2:w1.cell? ⟨w.heap.size,2,none⟩=some (.slice (L' (2,0,0)).a d'.wires.length (L' (2,0,0)).cap):=by rw [<-hw1];simp [go_sem]
 have hadd:=Ib hm hk
 have hBe:=uX (h.since hS1) (hO.since hS1)
 unfold bW at hBe ⊢
 go_enter func90,ntmps90
 go_wp2_with (go_at_call 96;refine hBe.mono ?_;rintro e w2 ⟨rfl,hB2,hF2⟩;have cm:=hB2.cm;have zm:=hB2.zm)
 go_end0
 have hp:=hB2.made.box.lt
 have hFr:Fr (fun i=>i=p) w (w2.setCell ⟨p,3,none⟩ (.int .i64 (many+k))):=((hS1.fr (fun i=>i=p)).trans hF2 (fun _ _ e=>e) (fun _ _ e=>e)).setCell ⟨p,3,none⟩ _ (fun _=>rfl)
 have hF3:Fr (fun i=>i=p) w2 (w2.setCell ⟨p,3,none⟩ (.int .i64 (many+k))):=(Fr.refl (fun i=>i=p) w2).setCell ⟨p,3,none⟩ _ (fun _=>rfl)
 have hB:=hB2.made.box
 refine ⟨rfl,⟨⟨hB2.made.own.jV hB2.made.off _, ?_,hB2.made.off⟩,hB2.lop, ?_, ?_⟩,hFr⟩
 ·exact ⟨zQ4 hp hF3.size,(bB _ _ _ (by decide)).trans hB.c0,(bB _ _ _ (by decide)).trans hB.c1,(bB _ _ _ (by decide)).trans hB.c2,by rw [World.frozen?_setCell];exact hB.z0,by rw [World.frozen?_setCell];exact hB.z1,by rw [World.frozen?_setCell];exact hB.z2⟩
 ·exact World.cell?_setCell_same' _ _ _ (by rw [cm];rfl)
 ·rw [World.frozen?_setCell];exact zm
end Go.Proofs.YtiiifecfdkjmbaaGreat
set_option maxHeartbeats 1000000
namespace Go.Proofs.YtiiifecfdkjmbaaGreat
open _root_.Go.Proofs.Tryz hiding checked
set_option maxRecDepth 8000
open Go.RowKit Go.Shelf
open Pu
set_option linter.unusedVariables false
set_option linter.unusedSimpArgs false
set_option maxRecDepth 20000 in
theorem Dr (p:Addr) (x e:Int) (w:World) (hc:w.cell? p=some (.int .i64 x)) (hz:w.frozen? p=false) :
  CallsDIn Fence.wide 0 prog 148 #[.pointer (some p)] (.panicking (pan e)) w fun r u' w' =>
   r=.returned (.tuple #[])/\u'=.panicking [{ v:=.iface 27 (.int .i64 e),recovered:=true }]/\w'=w.setCell p (.int .i64 e):=by
 have hta:=um e
 refine callsDIn_of_wpSIn func148 rfl trivial fun c₀ cs hu=>?_
 apply wpSIn_seq
 apply wpSIn_region
 simp [wpOpsSIn,go_sem,recoverD,hu,ntmps148,Exit.thenS]
 refine wpSIn_of_wpIn rfl ((wpIn_wide (n:=0)).2 ?_)
 simp only [Array.replicate_succ,Array.replicate_zero,List.push_toArray,List.append_toArray,List.nil_append,List.cons_append,zQ7,zQ9,zQ8]
 go_wp2
 exact ⟨rfl,_,rfl,_,results_none rfl _ _ _,rfl,rfl,rfl⟩
theorem Bo (p:Addr) (w:World) :
  CallsDIn Fence.wide 0 prog 148 #[.pointer (some p)] .returning w fun r u' w'=>r=.returned (.tuple #[])/\u'=.returning/\w'=w:=by
 refine callsDIn_of_wpSIn func148 rfl trivial fun c₀ cs hu=>?_
 apply wpSIn_seq
 apply wpSIn_region
 simp [wpOpsSIn,go_sem,recoverD,hu,ntmps148,Exit.thenS]
 refine wpSIn_of_wpIn rfl ((wpIn_wide (n:=0)).2 ?_)
 simp only [Array.replicate_succ,Array.replicate_zero,List.push_toArray,List.append_toArray,List.nil_append,List.cons_append,zQ7,zQ9,zQ8]
 go_wp2
 obtain ⟨c1,c2,c3,c4,c5,c6,c7⟩:=c₀
 subst hu
 exact ⟨rfl,_,rfl,_,results_none rfl _ _ _,rfl,rfl,rfl⟩
theorem uo (y:World) (bo be:Nat) (tmps:Array Value) (h4:tmps[4]? = some (.pointer (some ⟨bo,0,none⟩))) (h5:tmps[5]? = some (.int .i64 0)) (h6:tmps[6]? = some (.pointer (some ⟨be,0,none⟩))) (x e:Int)
  (c0:y.cell? ⟨bo,0,none⟩=some (.slice none 0 0)) (c1:y.cell? ⟨bo,1,none⟩=some (.slice none 0 0)) (c2:y.cell? ⟨bo,2,none⟩=some (.slice none 0 0)) (hne:be≠bo) (hc:y.cell? ⟨be,0,none⟩=some (.int .i64 x)) (hz:y.frozen? ⟨be,0,none⟩=false)
  (R:Ending->World->Prop) (hR:R (.returned (.tuple #[.agg #[.slice none 0 0,.slice none 0 0,.slice none 0 0],.int .i64 0,.int .i64 e])) (y.setCell ⟨be,0,none⟩ (.int .i64 e))) :
  LeavesInM Fence.wide 0 prog Tryz.f85 tmps R [{ target:=.fn (.func 148) #[.pointer (some ⟨be,0,none⟩)],args:=#[] }] (.panicking (pan e)) y:=by
 refine ⟨by simp,.inr ⟨fun h=>(by cases h),_,_,148,#[.pointer (some ⟨be,0,none⟩)],rfl,by simp [go_sem,invoke],fun _ _=>trivial, ?_⟩⟩
 refine (Dr ⟨be,0,none⟩ x e y hc hz).mono ?_
 rintro r u' w'' ⟨rfl,rfl,rfl⟩
 refine ⟨_, ?_,hR⟩
 have hc':(y.setCell ⟨be,0,none⟩ (.int .i64 e)).cell? ⟨be,0,none⟩=some (.int .i64 e):=World.cell?_setCell_same' _ _ _ (by rw [hc];rfl)
 have hF:Fr (fun i=>i=be) y (y.setCell ⟨be,0,none⟩ (.int .i64 e)):=(Fr.refl (fun i=>i=be) y).setCell ⟨be,0,none⟩ _ (fun _=>rfl)
 have d0:(y.setCell ⟨be,0,none⟩ (.int .i64 e)).cell? ⟨bo,0,none⟩=some (.slice none 0 0):=(World.cell?_setCell_far y ⟨be,0,none⟩ ⟨bo,0,none⟩ _ hne).trans c0
 have d1:(y.setCell ⟨be,0,none⟩ (.int .i64 e)).cell? ⟨bo,1,none⟩=some (.slice none 0 0):=(World.cell?_setCell_far y ⟨be,0,none⟩ ⟨bo,1,none⟩ _ hne).trans c1
 have d2:(y.setCell ⟨be,0,none⟩ (.int .i64 e)).cell? ⟨bo,2,none⟩=some (.slice none 0 0):=(World.cell?_setCell_far y ⟨be,0,none⟩ ⟨bo,2,none⟩ _ hne).trans c2
 simp [results,Tryz.f85,go_sem,h4,h5,h6,hc',d0,d1,d2]
theorem Bp (y:World) (bo be:Nat) (tmps:Array Value) (m:Int) (a b c:Value) (s0:a.oneCell'=true) (s1:b.oneCell'=true) (s2:c.oneCell'=true) (h4:tmps[4]? = some (.pointer (some ⟨bo,0,none⟩))) (h5:tmps[5]? = some (.int .i64 m)) (h6:tmps[6]? = some (.pointer (some ⟨be,0,none⟩)))
  (c0:y.cell? ⟨bo,0,none⟩=some a) (c1:y.cell? ⟨bo,1,none⟩=some b) (c2:y.cell? ⟨bo,2,none⟩=some c) (hc:y.cell? ⟨be,0,none⟩=some (.int .i64 0))
  (R:Ending->World->Prop) (hR:R (.returned (.tuple #[.agg #[a,b,c],.int .i64 m,.int .i64 0])) y) :
  LeavesInM Fence.wide 0 prog Tryz.f85 tmps R [{ target:=.fn (.func 148) #[.pointer (some ⟨be,0,none⟩)],args:=#[] }] .returning y:=by
 refine ⟨by simp,.inr ⟨fun h=>(by cases h),_,_,148,#[.pointer (some ⟨be,0,none⟩)],rfl,by simp [go_sem,invoke],fun _ _=>trivial, ?_⟩⟩
 refine (Bo ⟨be,0,none⟩ y).mono ?_
 rintro r u' w'' ⟨rfl,rfl,rfl⟩
 refine ⟨_, ?_,hR⟩
 simp [results,Tryz.f85,go_sem,h4,h5,h6,hc,c0,c1,c2]
def LZ (X:Nat->Prop) (w:World) (r:Except Int (Wd × Int)) (e:Ending) (w':World):Prop :=
 (∀ er,r=.error er->e=.returned (.tuple #[.agg #[.slice none 0 0,.slice none 0 0,.slice none 0 0],.int .i64 0,.int .i64 er])/\Fr X w w') /\
 (∀ d' m,r=.ok (d',m)->∃ L,e=.returned (.tuple #[bW L d',.int .i64 m,.int .i64 0])/\aX w.heap.size w' d' L/\Fr X w w')
theorem Hr {P:Program} {Q:Exit->Act->World->Prop} {c:Code} {a:Act} {w:World} (h:c.wp P (fun e a' w'=>e=.normal/\Q .normal a' w') a w):c.wp P Q a w :=
 wp_mono h (fun e a w h=>by obtain ⟨rfl,h⟩:=h;exact h)
attribute [local go_sem] Oper.semAt_some
theorem jY (x:WV) (d:Wd) (K:Nat) (caps:Array Value) (X:Nat->Prop) (w:World) (hW:WAt w x d) (hX:∀ i,X i->i < w.heap.size) (r:Except Int (Wd × Int))
  (heg:∀ args w,(callFunc K args).run prog w=.ok (.enter K args) w)
  (L8:aM d=0->∀ (lo p:Nat) (L:Lay) (w1:World),w.heap.size<=lo->Since w w1->aY lo w1 p d L 0->Calls prog K (#[.pointer (some ⟨p,0,none⟩)]++caps) w1 fun e w'=>Hid (qp lo X p w1 r e w')) :
  Calls prog 85 #[.agg #[.slice x.ga x.gl x.gc,.slice x.na x.nl x.nc,.slice x.wa x.wl x.wc],.func (.func K) #[] caps] w fun e w'=>Hid (LZ X w (checked d r) e w'):=by
 obtain ⟨ga,gl,gc,na,nl,nc,wa,wl,wc⟩:=x
 dsimp only
 obtain ⟨wp,hwp⟩:∃ wp,w.alloc (.cells #[.slice ga gl gc,.slice na nl nc,.slice wa wl wc] 26)=wp:=⟨_,rfl⟩
 have hPp:bD wp w.heap.size ⟨ga,gl,gc,na,nl,nc,wa,wl,wc⟩:=by rw [<-hwp];exact bD.new w ⟨ga,gl,gc,na,nl,nc,wa,wl,wc⟩ _
 have hSp:=ay hwp
 obtain ⟨wn,hwn⟩:∃ w1,wp.alloc (.cells #[.slice none 0 0,.slice none 0 0,.slice none 0 0] 26)=w1:=⟨_,rfl⟩
 have Po:aL wn wp.heap.size:=by rw [<-hwn];exact aL.new wp _
 have QW:=ay hwn
 obtain ⟨w1,hw1⟩:∃ w1,wn.alloc (.cells #[.int .i64 0] 27)=w1:=⟨_,rfl⟩
 have Pp:=ay hw1
 have hNB:=Po.since Pp
 have gN:=QW.trans Pp
 have hP1:=hPp.since gN
 have hS1:=hSp.trans gN
 have hW1:=hW.since hS1
 have q0:w1.cell? ⟨wn.heap.size,0,none⟩=some (.int .i64 0):=by rw [<-hw1];simp [go_sem]
 have q1:w1.frozen? ⟨wn.heap.size,0,none⟩=false:=by rw [<-hw1];simp [go_sem]
 have hql:wn.heap.size < w1.heap.size:=by rw [<-hw1];simp
 have hnl:wp.heap.size < wn.heap.size:=Po.lt
 have hwl:w.heap.size<=wp.heap.size:=hSp.size
 have p0:=hP1.c0
 have p1:=hP1.c1
 have p2:=hP1.c2
 dsimp only at p0 p1 p2
 have PF:Hid (∀ y,Since w1 y->bD y w.heap.size ⟨ga,gl,gc,na,nl,nc,wa,wl,wc⟩):=fun y hy=>hP1.since hy
 have QF:Hid (∀ y,Since w1 y->y.cell? ⟨wn.heap.size,0,none⟩=some (.int .i64 0)/\y.frozen? ⟨wn.heap.size,0,none⟩=false/\aL y wp.heap.size):=fun y hy =>
  ⟨(hy.cellAt hql _).trans q0,(hy.below.frozen (p:=⟨wn.heap.size,0,none⟩) hql).trans q1,hNB.since hy⟩
 have hmf:∀ (fn:Fn) (first cap:Array Value) (w:World),(Instr.makeFunc fn first cap).run prog w=.ok (.func fn first cap) w:=fun _ _ _ _=>rfl
 clear hW
 refine jG func85 rfl ?_
 simp only [ntmps85,List.size_toArray,List.length_cons,List.length_nil,Nat.reduceAdd,Nat.reduceSub,Array.replicate_succ,Array.replicate_zero,List.push_toArray,List.append_toArray,List.nil_append,List.cons_append]
 refine bC ?_
 cases hE:(aM d == 0)
 ·have HF:Hid (checked d r=.error (aM d)):=by
   have:¬ aM d=0:=by simpa using hE
   unfold Hid checked;rw [if_neg this]
  go_wp2_with (first
   | (go_at_call 39;refine (jB ⟨ga,gl,gc,na,nl,nc,wa,wl,wc⟩ d w1 hW1).mono ?_;rintro e w2 ⟨rfl,hS2⟩)
   | (go_at_call 149;refine (qg _ hE _).mono ?_;rintro e w3 ⟨rfl,hw3⟩;obtain rfl:=hw3.symm))
  obtain ⟨e0,e1,e2⟩:=QF.out _ hS2
  refine uo w2 wp.heap.size wn.heap.size _ rfl rfl rfl 0 (aM d) e2.c0 e2.c1 e2.c2 (by omega) e0 e1 _ ?_
  unfold Hid
  rw [HF.out]
  exact ⟨fun er h=>(by cases h;exact ⟨rfl,((hS1.trans hS2).fr X).setCell ⟨wn.heap.size,0,none⟩ _ (fun h=>by have h:wn.heap.size < w.heap.size:=h;omega)⟩),fun _ _ h=>(by cases h)⟩
 ·have HE:Hid (aM d=0):=by unfold Hid;simpa using hE
  go_wp2_with (first
   | (go_at_call 39;refine (jB ⟨ga,gl,gc,na,nl,nc,wa,wl,wc⟩ d w1 hW1).mono ?_;rw [HE.out];rintro e w2 ⟨rfl,hS2⟩;obtain ⟨lt2,f0,f1,f2⟩:=PF.out _ hS2;dsimp only at f0 f1 f2)
   | (go_at_call 149;refine (qh _).mono ?_;rintro e w3 ⟨rfl,hw3⟩;obtain rfl:=hw3.symm)
   | (go_at_call 150;refine (EJ ⟨ga,gl,gc,na,nl,nc,wa,wl,wc⟩ d w2 (hW1.since hS2) (tZ ((cu d).1 HE.out))).mono ?_;rintro e w3 ⟨L,rfl,hO,hS3⟩;dsimp only [bW]))
  obtain ⟨w4,hw4⟩:∃ y,w3.alloc (.cells #[.slice (L (0,0,0)).a d.groups.length (L (0,0,0)).cap,.slice (L (1,0,0)).a d.nodes.length (L (1,0,0)).cap,.slice (L (2,0,0)).a d.wires.length (L (2,0,0)).cap,.int .i64 0] 102)=y:=⟨_,rfl⟩
  rw [hw4]
  have hS4:=ay hw4
  have hB4:aY w2.heap.size w4 w3.heap.size d L 0:=by
   refine ⟨⟨hO.since hS4, ?_,fun hb=>by have:=(hO.blk hb).2;omega⟩,hS3.size, ?_, ?_⟩
   ·rw [<-hw4];constructor <;> simp [go_sem]
   ·rw [<-hw4];simp [go_sem]
   ·rw [<-hw4];simp [go_sem]
  have Gw:=(hS2.trans hS3).trans hS4
  have h12:=hS2.size
  have hww:=zQ5 hS1.size h12
  clear hw4 hw1 hwp hwn p0 p1 p2 f0 f1 f2
  have HC:=L8 HE.out w2.heap.size w3.heap.size L w4 hww (hS1.trans Gw) hB4
  obtain ⟨e0,e1,e2⟩:=QF.out _ Gw
  have hlq:wn.heap.size < w4.heap.size:=zQ4 hql Gw.size
  have hlp:wp.heap.size < w4.heap.size:=by omega
  have hUq:¬ Up w2.heap.size X wn.heap.size:=by rintro (h | h);omega;(have:=hX _ h;omega)
  have hUp:¬ Up w2.heap.size X wp.heap.size:=by rintro (h | h);omega;(have:=hX _ h;omega)
  have FX:Hid (∀ y,Fr (Up w2.heap.size X) w4 y->Fr X w y):=fun y hy=>((hS1.trans Gw).fr X).trans hy (fun _ _ h=>h) (fun i hi h=>by
   rcases h with h | h
   ·omega
   ·exact h)
  have KF:Hid (∀ y,Fr (Up w2.heap.size X) w4 y->y.cell? ⟨wn.heap.size,0,none⟩=some (.int .i64 0)/\y.frozen? ⟨wn.heap.size,0,none⟩=false/\(y.cell? ⟨wp.heap.size,0,none⟩=some (.slice none 0 0)/\y.cell? ⟨wp.heap.size,1,none⟩=some (.slice none 0 0)/\y.cell? ⟨wp.heap.size,2,none⟩=some (.slice none 0 0))/\(y.frozen? ⟨wp.heap.size,0,none⟩=false/\y.frozen? ⟨wp.heap.size,1,none⟩=false/\y.frozen? ⟨wp.heap.size,2,none⟩=false)):=fun y hy =>
   ⟨(hy.cell (p:=⟨wn.heap.size,0,none⟩) hlq hUq).trans e0,(hy.frozen (p:=⟨wn.heap.size,0,none⟩) hlq hUq).trans e1,⟨(hy.cell (p:=⟨wp.heap.size,0,none⟩) hlp hUp).trans e2.c0,(hy.cell (p:=⟨wp.heap.size,1,none⟩) hlp hUp).trans e2.c1,(hy.cell (p:=⟨wp.heap.size,2,none⟩) hlp hUp).trans e2.c2⟩,
    ⟨(hy.frozen (p:=⟨wp.heap.size,0,none⟩) hlp hUp).trans e2.z0,(hy.frozen (p:=⟨wp.heap.size,1,none⟩) hlp hUp).trans e2.z1,(hy.frozen (p:=⟨wp.heap.size,2,none⟩) hlp hUp).trans e2.z2⟩⟩
  clear e0 e1 e2 q0 q1
  have HCH:Hid (checked d r=r):=by unfold Hid checked;rw [if_pos HE.out]
  refine HC.mono ?_
  clear HC L8
  rintro e w5 hR
  cases r with
  | error er =>
   obtain ⟨rfl,hF5⟩:=hR.out.1 er rfl
   obtain ⟨k0,k1,⟨k2,k3,k4⟩,_⟩:=KF.out _ hF5
   refine uo w5 wp.heap.size wn.heap.size _ rfl rfl rfl 0 er k2 k3 k4 (by omega) k0 k1 _ ?_
   unfold Hid
   rw [HCH.out]
   exact ⟨fun er' h=>(by cases h;exact ⟨rfl,(FX.out _ hF5).setCell ⟨wn.heap.size,0,none⟩ _ (fun h=>by have h:wn.heap.size < w.heap.size:=h;omega)⟩),fun _ _ h=>(by cases h)⟩
  | ok dm =>
   obtain ⟨d',m⟩:=dm
   obtain ⟨rfl,hF5,L',hB5⟩:=hR.out.2 d' m rfl
   clear hR
   dsimp only
   go_wp2_with fail
   obtain ⟨W0,hW0⟩:∃ y,w5.drew=y:=⟨_,rfl⟩
   have hs0:=aO hW0
   have hF0:Fr (Up w2.heap.size X) w4 W0:=hF5.aD (hs0.up _ _)
   have hB0:=hB5.since hs0
   obtain ⟨k0,k1,⟨k2,k3,k4⟩,⟨y0,y1,y2⟩⟩:=KF.out _ hF0
   have b:=hB0.made.box
   obtain ⟨S0,hS0⟩:∃ S0:World->Prop,∀ w',S0 w'↔w'.heap[w3.heap.size]? = W0.heap[w3.heap.size]?:=⟨_,fun _=>Iff.rfl⟩
   have bS:=aH w
   have x0:∀ y:aj S0,y.w.cell? ⟨w3.heap.size,0,none⟩=some (.slice (L' (0,0,0)).a d'.groups.length (L' (0,0,0)).cap):=fun y=>(World.cell?_of_block (a:=⟨w3.heap.size,0,none⟩) ((hS0 _).1 y.h)).trans b.c0
   have x1:∀ y:aj S0,y.w.cell? ⟨w3.heap.size,1,none⟩=some (.slice (L' (1,0,0)).a d'.nodes.length (L' (1,0,0)).cap):=fun y=>(World.cell?_of_block (a:=⟨w3.heap.size,1,none⟩) ((hS0 _).1 y.h)).trans b.c1
   have x2:∀ y:aj S0,y.w.cell? ⟨w3.heap.size,2,none⟩=some (.slice (L' (2,0,0)).a d'.wires.length (L' (2,0,0)).cap):=fun y=>(World.cell?_of_block (a:=⟨w3.heap.size,2,none⟩) ((hS0 _).1 y.h)).trans b.c2
   have x3:∀ y:aj S0,y.w.cell? ⟨w3.heap.size,3,none⟩=some (.int .i64 m):=fun y=>(World.cell?_of_block (a:=⟨w3.heap.size,3,none⟩) ((hS0 _).1 y.h)).trans hB0.cm
   have ak:=(hS0 W0).2 rfl
   have hne:Nonempty (aj S0):=⟨⟨_,ak⟩⟩
   have RL:w2.heap.size<=w3.heap.size:=hS3.size
   obtain ⟨W1,K4⟩:∃ y,((W0.setCell ⟨wp.heap.size,0,none⟩ (.slice (L' (0,0,0)).a d'.groups.length (L' (0,0,0)).cap)).setCell ⟨wp.heap.size,1,none⟩ (.slice (L' (1,0,0)).a d'.nodes.length (L' (1,0,0)).cap)).setCell ⟨wp.heap.size,2,none⟩ (.slice (L' (2,0,0)).a d'.wires.length (L' (2,0,0)).cap)=y:=⟨_,rfl⟩
   have Ht:Fr (fun i=>i=wp.heap.size) W0 W1:=by rw [<-K4];exact gM W0 wp.heap.size _ _ _
   have hl0:wn.heap.size < W0.heap.size:=by have:=hF0.size;omega
   have hl3:w3.heap.size < W0.heap.size:=b.lt
   have oo:S0 W1:=(hS0 W1).2 (Ht.block w3.heap.size hl3 (by omega))
   have m0:W1.cell? ⟨wp.heap.size,0,none⟩=some (.slice (L' (0,0,0)).a d'.groups.length (L' (0,0,0)).cap):=by rw [<-K4];exact qY k2
   have m1:W1.cell? ⟨wp.heap.size,1,none⟩=some (.slice (L' (1,0,0)).a d'.nodes.length (L' (1,0,0)).cap):=by rw [<-K4];exact qZ k3
   have m2:W1.cell? ⟨wp.heap.size,2,none⟩=some (.slice (L' (2,0,0)).a d'.wires.length (L' (2,0,0)).cap):=by rw [<-K4];exact q8 k4
   have m3:W1.cell? ⟨wn.heap.size,0,none⟩=some (.int .i64 0):=(Ht.cell (p:=⟨wn.heap.size,0,none⟩) hl0 (by show ¬ wn.heap.size=_;omega)).trans k0
   have m4:W1.frozen? ⟨wn.heap.size,0,none⟩=false:=(Ht.frozen (p:=⟨wn.heap.size,0,none⟩) hl0 (by show ¬ wn.heap.size=_;omega)).trans k1
   obtain ⟨W2,Pq⟩:∃ y,W1.setCell ⟨wn.heap.size,0,none⟩ (.int .i64 0)=y:=⟨_,rfl⟩
   have JR:Fr (fun i=>i=wn.heap.size) W1 W2:=by rw [<-Pq];exact (Fr.refl (fun i=>i=wn.heap.size) W1).setCell ⟨wn.heap.size,0,none⟩ _ (fun _=>rfl)
   have Ny:wp.heap.size < W1.heap.size:=by have:=Ht.size;omega
   have n0:=(JR.cell (p:=⟨wp.heap.size,0,none⟩) Ny (by show ¬ wp.heap.size=_;omega)).trans m0
   have n1:=(JR.cell (p:=⟨wp.heap.size,1,none⟩) Ny (by show ¬ wp.heap.size=_;omega)).trans m1
   have n2:=(JR.cell (p:=⟨wp.heap.size,2,none⟩) Ny (by show ¬ wp.heap.size=_;omega)).trans m2
   have n3:W2.cell? ⟨wn.heap.size,0,none⟩=some (.int .i64 0):=by rw [<-Pq];exact jD _ _ _ _ m3
   have hOf:aX w.heap.size W2 d' L':=by
    have h0:=hB0.made.own.fr Ht (fun i hi e=>by have:=(hB0.made.own.blk hi).1;omega)
    have h1:=h0.fr JR (fun i hi e=>by have:=(h0.blk hi).1;omega)
    exact h1.mono hww
   have hFf:Fr X w W2:=by
    have h0:=FX.out _ hF0
    have h1:=h0.trans Ht (fun _ _ h=>h) (D:=X) (fun i hi e=>by have e:i=wp.heap.size:=e;omega)
    exact h1.trans JR (fun _ _ h=>h) (fun i hi e=>by have e:i=wn.heap.size:=e;omega)
   refine Hr ?_
   refine aI (fun w'=>∃ x:aj S0,w'=x.w) (by kernel_rfl) ?_
   rw [hW0]
   clear hW0
   refine vJ 0 rfl (by kernel_rfl) (fun _ _ _ _ h=>nomatch h.1) (by rfl) rfl ?_
   go_big_quiet_op
   refine vJ 1 rfl (by kernel_rfl) (fun _ _ _ _ h=>nomatch h.1) (by rfl) rfl ?_
   go_big_quiet_op
   refine vJ 2 rfl (by kernel_rfl) (fun _ _ _ _ h=>nomatch h.1) (by rfl) rfl ?_
   go_big_quiet_op
   refine JM 3 rfl (by kernel_rfl) (ah ak) (fun _ _ _ _ h=>nomatch h.1) (by rfl) rfl ?_
   go_big_quiet_op
   refine vJ 4 rfl (by kernel_rfl) (fun _ _ _ _ h=>nomatch h.1) (by rfl) rfl ?_
   go_big_quiet_op
   refine vJ 5 rfl (by kernel_rfl) (fun _ _ _ _ h=>nomatch h.1) (by rfl) rfl ?_
   go_big_quiet_op
   refine vJ 6 rfl (by kernel_rfl) (fun _ _ _ _ h=>nomatch h.1) (by rfl) rfl ?_
   go_big_quiet_op
   refine JM 7 rfl (by kernel_rfl) (ah ak) (fun _ _ _ _ h=>nomatch h.1) (by rfl) rfl ?_
   go_big_quiet_op
   refine aK 8 rfl (by kernel_rfl) ?_
   intro K hK
   go_simp
   refine hK _ _ (fun _ _=>ah oo) ?_
   clear hK K
   refine vJ 9 rfl (by kernel_rfl) (fun _ _ _ _ h=>nomatch h.1) (by rfl) rfl ?_
   go_big_quiet_op
   refine aK 10 rfl (by kernel_rfl) ?_
   intro K hK
   go_simp
   refine hK _ _ (fun h=>absurd h (by decide +kernel)) ?_
   clear hK K
   refine aW (by kernel_rfl) ⟨rfl, ?_⟩
   clear x0 x1 x2 x3 hne bS
   go_wp2_with fail
   refine Bp W2 wp.heap.size wn.heap.size _ m _ _ _ rfl rfl rfl rfl rfl rfl n0 n1 n2 n3 _ ?_
   unfold Hid
   rw [HCH.out]
   exact ⟨fun _ h=>(by cases h),fun _ _ h=>(by cases h;exact ⟨L',rfl,hOf,hFf⟩)⟩
end Go.Proofs.YtiiifecfdkjmbaaGreat
