/- Lemmas. -/
import Derived.Test.YtiiifecfdkjmbaaSOwnX
set_option maxHeartbeats 1000000
namespace Go.Proofs.Ytiiifecfdkjmbaa
open _root_.Go.Proofs.Try
set_option maxRecDepth 8000
open Go.RowKit Go.Shelf
open Pu
set_option linter.unusedVariables false
set_option linter.unusedSimpArgs false
theorem bB (e:Int) (w:World):Calls prog 60 #[.bool true,.int .i64 e] w fun r w'=>r=.returned (.tuple #[])/\w'=w:=by
 go_enter func60,ntmps60
 go_wp2
 go_end0
 exact ⟨rfl,rfl⟩
theorem dW (e:Int) (w:World):Calls prog 60 #[.bool false,.int .i64 e] w fun r w'=>r=.panicked (pan e)/\w'=w:=by
 go_enter func60,ntmps60
 go_wp2
 exact ⟨rfl,rfl,rfl⟩
theorem oD (w:World):Calls prog 59 #[.int .i64 0] w fun r w'=>r=.returned (.tuple #[])/\w'=w:=by
 go_enter func59,ntmps59
 go_wp2_with (go_at_call 60;refine (bB _ _).mono ?_;rintro e w' ⟨rfl,rfl⟩)
 go_end0
 exact ⟨rfl,rfl⟩
theorem oC (e:Int) (he:(e == 0)=false) (w:World):Calls prog 59 #[.int .i64 e] w fun r w'=>r=.panicked (pan e)/\w'=w:=by
 go_enter func59,ntmps59
 go_wp2_with (go_at_call 60;refine (dW _ _).mono ?_;rintro e w' ⟨rfl,rfl⟩)
 exact ⟨rfl,rfl,rfl⟩
structure aU (lo:Nat) (w:World) (p:Nat) (d:Wd) (L:Lay) (many:Int):Prop where
 made:dL lo w p d L
 lop:lo<=p
 cm:w.cell? ⟨p,3,none⟩=some (.int .i64 many)
 zm:w.frozen? ⟨p,3,none⟩=false
theorem aU.since {lo:Nat} {w w':World} {p:Nat} {d:Wd} {L:Lay} {many:Int} (h:aU lo w p d L many) (k:Since w w'):aU lo w' p d L many :=
 ⟨h.made.since k,h.lop,(k.cellAt h.made.box.lt _).trans h.cm,(k.below.frozen (p:=⟨p,3,none⟩) h.made.box.lt).trans h.zm⟩
abbrev Up (lo:Nat) (X:Nat->Prop):Nat->Prop:=fun i=>¬ i < lo\/X i
theorem Since.up {w w':World} (h:Since w w') (lo:Nat) (X:Nat->Prop):Fr (Up lo X) w w':=h.fr _
theorem Fr.aC {lo:Nat} {X:Nat->Prop} {a b c:World} (h:Fr (Up lo X) a b) (k:Fr (Up lo X) b c):Fr (Up lo X) a c:=h.trans k (fun _ _ x=>x) (fun _ _ x=>x)
def oM (lo:Nat) (X:Nat->Prop) (p:Nat) (w:World) (r:Except Int (Wd × Int)) (e:Ending) (w':World):Prop :=
 (∀ er,r=.error er->e=.panicked (pan er)/\Fr (Up lo X) w w') /\
 (∀ d' m,r=.ok (d',m)->e=.returned (.tuple #[])/\Fr (Up lo X) w w'/\∃ L',aU lo w' p d' L' m)
theorem dU {lo:Nat} {X:Nat->Prop} {p:Nat} {w:World} {er:Int} {w':World} (h:Fr (Up lo X) w w'):oM lo X p w (.error er) (.panicked (pan er)) w' :=
 ⟨fun _ e=>(by cases e;exact ⟨rfl,h⟩),fun _ _ e=>(by cases e)⟩
theorem kN {lo:Nat} {X:Nat->Prop} {p:Nat} {w:World} {d':Wd} {m:Int} {w':World} {L':Lay} (h:Fr (Up lo X) w w') (k:aU lo w' p d' L' m):oM lo X p w (.ok (d',m)) (.returned (.tuple #[])) w' :=
 ⟨fun _ e=>(by cases e),fun _ _ e=>(by cases e;exact ⟨rfl,h,L',k⟩)⟩
theorem eO (p:Nat) (k:Int) (a:Option Addr) (n c:Nat) (w:World) (hc:w.cell? ⟨p,1,none⟩=some (.slice a n c)) :
  Calls prog 121 #[.pointer (some ⟨p,0,none⟩),.int .i64 k] w fun e w'=>e=.returned (.bool (decide (0<=k) && decide (k < (n:Int))))/\w'=w:=by
 by_cases h:0<=k
 ·go_enter func121,ntmps121
  go_wp2
  go_ret
  exact ⟨by simp [h],rfl⟩
 ·go_enter func121,ntmps121
  go_wp2
  go_ret
  exact ⟨by simp;omega,rfl⟩
theorem aU.become {lo:Nat} {w:World} {p:Nat} {d d':Wd} {L L':Lay} {many:Int} (h:aU lo w p d L many) (hO:aS (p+1) w d' L') :
  aU lo (((w.setCell ⟨p,0,none⟩ (.slice (L' (0,0,0)).a d'.groups.length (L' (0,0,0)).cap)).setCell ⟨p,1,none⟩ (.slice (L' (1,0,0)).a d'.nodes.length (L' (1,0,0)).cap)).setCell ⟨p,2,none⟩ (.slice (L' (2,0,0)).a d'.wires.length (L' (2,0,0)).cap)) p d' L' many:=by
 have hoff:¬ fI d' L' p:=fun hb=>by have:=(hO.blk hb).1;omega
 have b:=h.made.box
 have hlt:=b.lt
 have c0:=b.c0
 have c1:=b.c1
 have c2:=b.c2
 have z0:=b.z0
 have z1:=b.z1
 have z2:=b.z2
 have cm:=h.cm
 have zm:=h.zm
 refine ⟨⟨(((hO.kY (p:=⟨p,0,none⟩) hoff _).kY (p:=⟨p,1,none⟩) hoff _).kY (p:=⟨p,2,none⟩) hoff _).mono (by have:=h.lop;omega), ?_,hoff⟩,h.lop, ?_, ?_⟩
 ·exact ⟨zQ4 hlt (gP w p _ _ _).size,p8 c0,p9 c1,qd c2,(gH _ _ _ _ _ _).trans z0,(gH _ _ _ _ _ _).trans z1,(gH _ _ _ _ _ _).trans z2⟩
 ·exact (F8 _ _ _ _ _ (by decide)).trans cm
 ·exact (gH _ _ _ _ _ _).trans zm
theorem qD (p:Nat) (x:WV) (e:Int) (he:(e == 0)=false) (w:World) :
  Calls prog 123 #[.pointer (some ⟨p,0,none⟩),.agg #[.slice x.ga x.gl x.gc,.slice x.na x.nl x.nc,.slice x.wa x.wl x.wc],.int .i64 e] w fun r w'=>r=.panicked (pan e)/\Since w w':=by
 go_enter func123,ntmps123
 go_wp2_with (go_at_call 59;refine (oC _ he _).mono ?_;rintro e w' ⟨rfl,rfl⟩)
 exact ⟨rfl,rfl,(Since.refl _).alloc _⟩
theorem tq {lo:Nat} {w:World} {p:Nat} {d d':Wd} {L L':Lay} {many:Int} (h:aU lo w p d L many) (hO:aS (p+1) w d' L') :
  Calls prog 123 #[.pointer (some ⟨p,0,none⟩),bQ L' d',.int .i64 0] w fun r w'=>r=.returned (.tuple #[])/\aU lo w' p d' L' many/\Fr (fun i=>i=p) w w':=by
 unfold bQ
 obtain ⟨w1,hw1⟩:∃ w1,w.alloc (.cells #[.slice (L' (0,0,0)).a d'.groups.length (L' (0,0,0)).cap,.slice (L' (1,0,0)).a d'.nodes.length (L' (1,0,0)).cap,.slice (L' (2,0,0)).a d'.wires.length (L' (2,0,0)).cap] 26)=w1:=⟨_,rfl⟩
 have hS1:=av hw1
 have q0:w1.cell? ⟨w.heap.size,0,none⟩=some (.slice (L' (0,0,0)).a d'.groups.length (L' (0,0,0)).cap):=by rw [<-hw1];simp [go_sem]
 have q1:w1.cell? ⟨w.heap.size,1,none⟩=some (.slice (L' (1,0,0)).a d'.nodes.length (L' (1,0,0)).cap):=by rw [<-hw1];simp [go_sem]
 have q2:w1.cell? ⟨w.heap.size,2,none⟩=some (.slice (L' (2,0,0)).a d'.wires.length (L' (2,0,0)).cap):=by rw [<-hw1];simp [go_sem]
 have h1:=h.since hS1
 obtain ⟨lt,c0,c1,c2,z0,z1,z2⟩:=h1.made.box
 have HB:=h1.become (hO.since hS1)
 have HF:Fr (fun i=>i=p) w (((w1.setCell ⟨p,0,none⟩ (.slice (L' (0,0,0)).a d'.groups.length (L' (0,0,0)).cap)).setCell ⟨p,1,none⟩ (.slice (L' (1,0,0)).a d'.nodes.length (L' (1,0,0)).cap)).setCell ⟨p,2,none⟩ (.slice (L' (2,0,0)).a d'.wires.length (L' (2,0,0)).cap)) :=
  (hS1.fr _).trans (gP w1 p _ _ _) (fun _ _ e=>e) (fun _ _ e=>e)
 go_enter func123,ntmps123
 go_wp2_with (go_at_call 59;refine (oD _).mono ?_;rintro e w' ⟨rfl,rfl⟩)
 go_end0
 exact ⟨rfl,HB,HF⟩
theorem jm (p:Nat) (x:WV) (k e:Int) (he:(e == 0)=false) (w:World) :
  Calls prog 93 #[.pointer (some ⟨p,0,none⟩),.agg #[.slice x.ga x.gl x.gc,.slice x.na x.nl x.nc,.slice x.wa x.wl x.wc],.int .i64 k,.int .i64 e] w fun r w'=>r=.panicked (pan e)/\Since w w':=by
 obtain ⟨w1,hw1⟩:∃ w1,w.alloc (.cells #[.slice x.ga x.gl x.gc,.slice x.na x.nl x.nc,.slice x.wa x.wl x.wc] 26)=w1:=⟨_,rfl⟩
 have hP1:bX w1 w.heap.size x:=by rw [<-hw1];exact bX.new w x _
 obtain ⟨lt,q0,q1,q2⟩:=hP1
 have hS1:=av hw1
 go_enter func93,ntmps93
 go_wp2_with (go_at_call 123;refine (qD p x e he w1).mono ?_;rintro e w' ⟨rfl,hS2⟩)
 exact ⟨rfl,rfl,hS1.trans hS2⟩
theorem FB {a b:Int} (ha:0<=a/\a<=100000) (hb:0<=b/\b<=100000):IntKind.i64.wrap (a+b)=a+b:=IntWalk.i64_in _ (by omega)
theorem j6 {lo:Nat} {w:World} {p:Nat} {d d':Wd} {L L':Lay} {many:Int} (k:Int) (hm:0<=many/\many<=100000) (hk:0<=k/\k<=100000) (h:aU lo w p d L many) (hO:aS (p+1) w d' L') :
  Calls prog 93 #[.pointer (some ⟨p,0,none⟩),bQ L' d',.int .i64 k,.int .i64 0] w fun r w'=>r=.returned (.tuple #[])/\aU lo w' p d' L' (many+k)/\Fr (fun i=>i=p) w w':=by
 obtain ⟨w1,hw1⟩:∃ w1,w.alloc (.cells #[.slice (L' (0,0,0)).a d'.groups.length (L' (0,0,0)).cap,.slice (L' (1,0,0)).a d'.nodes.length (L' (1,0,0)).cap,.slice (L' (2,0,0)).a d'.wires.length (L' (2,0,0)).cap] 26)=w1:=⟨_,rfl⟩
 have hS1:=av hw1
 have q0:w1.cell? ⟨w.heap.size,0,none⟩=some (.slice (L' (0,0,0)).a d'.groups.length (L' (0,0,0)).cap):=by rw [<-hw1];simp [go_sem]
 have q1:w1.cell? ⟨w.heap.size,1,none⟩=some (.slice (L' (1,0,0)).a d'.nodes.length (L' (1,0,0)).cap):=by rw [<-hw1];simp [go_sem]
 have q2:w1.cell? ⟨w.heap.size,2,none⟩=some (.slice (L' (2,0,0)).a d'.wires.length (L' (2,0,0)).cap):=by rw [<-hw1];simp [go_sem]
 have hadd:=FB hm hk
 have hBe:=tq (h.since hS1) (hO.since hS1)
 unfold bQ at hBe ⊢
 go_enter func93,ntmps93
 go_wp2_with (go_at_call 123;refine hBe.mono ?_;rintro e w2 ⟨rfl,hB2,hF2⟩;have cm:=hB2.cm;have zm:=hB2.zm)
 go_end0
 have hp:=hB2.made.box.lt
 have hFr:Fr (fun i=>i=p) w (w2.setCell ⟨p,3,none⟩ (.int .i64 (many+k))):=((hS1.fr (fun i=>i=p)).trans hF2 (fun _ _ e=>e) (fun _ _ e=>e)).setCell ⟨p,3,none⟩ _ (fun _=>rfl)
 have hF3:Fr (fun i=>i=p) w2 (w2.setCell ⟨p,3,none⟩ (.int .i64 (many+k))):=(Fr.refl (fun i=>i=p) w2).setCell ⟨p,3,none⟩ _ (fun _=>rfl)
 have hB:=hB2.made.box
 refine ⟨rfl,⟨⟨hB2.made.own.kY hB2.made.off _, ?_,hB2.made.off⟩,hB2.lop, ?_, ?_⟩,hFr⟩
 ·exact ⟨zQ4 hp hF3.size,(aV _ _ _ (by decide)).trans hB.c0,(aV _ _ _ (by decide)).trans hB.c1,(aV _ _ _ (by decide)).trans hB.c2,by rw [World.frozen?_setCell];exact hB.z0,by rw [World.frozen?_setCell];exact hB.z1,by rw [World.frozen?_setCell];exact hB.z2⟩
 ·exact World.cell?_setCell_same' _ _ _ (by rw [cm];rfl)
 ·rw [World.frozen?_setCell];exact zm
end Go.Proofs.Ytiiifecfdkjmbaa
