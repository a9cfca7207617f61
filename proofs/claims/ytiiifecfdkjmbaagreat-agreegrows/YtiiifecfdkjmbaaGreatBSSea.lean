/- Contracts of sea.Must, Pass, IsNode, Become, Count and Hold, in a sea that holds a world of its own; conditions: the node is there. -/
import Derived.Test.YtiiifecfdkjmbaaGreatBSOwnX
namespace Go.Proofs.YtiiifecfdkjmbaaGreat
set_option maxRecDepth 8000
open Go.RowKit Go.Shelf
open _root_.Go.Proofs.YtiiifecfdkjmbaaGreat.Pure
set_option linter.unusedVariables false
set_option linter.unusedSimpArgs false
theorem dn (e:Int) (w:World):Calls Tryz.prog 88 #[.bool true,.int .i64 e] w fun r w'=>r=.returned (.tuple #[])∧w'=w:=by
 go_enter Tryz.func88,Tryz.ntmps88
 go_wp2
 go_end0
 exact ⟨rfl,rfl⟩
theorem fZ (e:Int) (w:World):Calls Tryz.prog 88 #[.bool false,.int .i64 e] w fun r w'=>r=.panicked (pan e)∧w'=w:=by
 go_enter Tryz.func88,Tryz.ntmps88
 go_wp2
 exact ⟨rfl,rfl,rfl⟩
theorem ug (w:World):Calls Tryz.prog 149 #[.int .i64 0] w fun r w'=>r=.returned (.tuple #[])∧w'=w:=by
 go_enter Tryz.func149,Tryz.ntmps149
 go_wp2_with (go_at_call 88;refine (dn _ _).mono ?_;rintro e w' ⟨rfl,rfl⟩)
 go_end0
 exact ⟨rfl,rfl⟩
theorem uf (e:Int) (he:(e == 0)=false) (w:World):Calls Tryz.prog 149 #[.int .i64 e] w fun r w'=>r=.panicked (pan e)∧w'=w:=by
 go_enter Tryz.func149,Tryz.ntmps149
 go_wp2_with (go_at_call 88;refine (fZ _ _).mono ?_;rintro e w' ⟨rfl,rfl⟩)
 exact ⟨rfl,rfl,rfl⟩
structure cB (lo:Nat) (w:World) (p:Nat) (d:Wd) (L:Lay) (many:Int):Prop where
 made:bM lo w p d L
 lop:lo≤p
 cm:w.cell? ⟨p,3,none⟩=some (.int .i64 many)
 zm:w.frozen? ⟨p,3,none⟩=false
theorem cB.since {lo:Nat} {w w':World} {p:Nat} {d:Wd} {L:Lay} {many:Int} (h:cB lo w p d L many) (k:Since w w'):cB lo w' p d L many :=
 ⟨h.made.since k,h.lop,(k.cellAt h.made.box.lt _).trans h.cm,(k.below.frozen (p:=⟨p,3,none⟩) h.made.box.lt).trans h.zm⟩
abbrev Up (lo:Nat) (X:Nat→Prop):Nat→Prop:=fun i=>¬ i < lo∨X i
theorem Since.up {w w':World} (h:Since w w') (lo:Nat) (X:Nat→Prop):Fr (Up lo X) w w':=h.fr _
theorem Fr.aI {lo:Nat} {X:Nat→Prop} {a b c:World} (h:Fr (Up lo X) a b) (k:Fr (Up lo X) b c):Fr (Up lo X) a c:=h.trans k (fun _ _ x=>x) (fun _ _ x=>x)
def uq (lo:Nat) (X:Nat→Prop) (p:Nat) (w:World) (r:Except Int (Wd × Int)) (e:Ending) (w':World):Prop :=
 (∀ er,r=.error er→e=.panicked (pan er)∧Fr (Up lo X) w w') ∧
 (∀ d' m,r=.ok (d',m)→e=.returned (.tuple #[])∧Fr (Up lo X) w w'∧∃ L',cB lo w' p d' L' m)
theorem fP {lo:Nat} {X:Nat→Prop} {p:Nat} {w:World} {er:Int} {w':World} (h:Fr (Up lo X) w w'):uq lo X p w (.error er) (.panicked (pan er)) w' :=
 ⟨fun _ e=>(by cases e;exact ⟨rfl,h⟩),fun _ _ e=>(by cases e)⟩
theorem oK {lo:Nat} {X:Nat→Prop} {p:Nat} {w:World} {d':Wd} {m:Int} {w':World} {L':Lay} (h:Fr (Up lo X) w w') (k:cB lo w' p d' L' m):uq lo X p w (.ok (d',m)) (.returned (.tuple #[])) w' :=
 ⟨fun _ e=>(by cases e),fun _ _ e=>(by cases e;exact ⟨rfl,h,L',k⟩)⟩
theorem gT (p:Nat) (k:Int) (a:Option Addr) (n c:Nat) (w:World) (hc:w.cell? ⟨p,1,none⟩=some (.slice a n c)) :
  Calls Tryz.prog 151 #[.pointer (some ⟨p,0,none⟩),.int .i64 k] w fun e w'=>e=.returned (.bool (decide (0≤k) && decide (k < (n:Int))))∧w'=w:=by
 by_cases h:0≤k
 ·go_enter Tryz.func151,Tryz.ntmps151
  go_wp2
  go_ret
  exact ⟨by simp [h],rfl⟩
 ·go_enter Tryz.func151,Tryz.ntmps151
  go_wp2
  go_ret
  exact ⟨by simp;omega,rfl⟩
theorem cB.become {lo:Nat} {w:World} {p:Nat} {d d':Wd} {L L':Lay} {many:Int} (h:cB lo w p d L many) (hO:aT (p+1) w d' L') :
  cB lo (((w.setCell ⟨p,0,none⟩ (.slice (L' (0,0,0)).a d'.groups.length (L' (0,0,0)).cap)).setCell ⟨p,1,none⟩ (.slice (L' (1,0,0)).a d'.nodes.length (L' (1,0,0)).cap)).setCell ⟨p,2,none⟩ (.slice (L' (2,0,0)).a d'.wires.length (L' (2,0,0)).cap)) p d' L' many:=by
 have hoff:¬ gJ d' L' p:=fun hb=>by have:=(hO.blk hb).1;omega
 have b:=h.made.box
 have hlt:=b.lt
 have c0:=b.c0
 have c1:=b.c1
 have c2:=b.c2
 have z0:=b.z0
 have z1:=b.z1
 have z2:=b.z2
 have cm:=h.cm
 have zm:=h.zm
 refine ⟨⟨(((hO.jS (p:=⟨p,0,none⟩) hoff _).jS (p:=⟨p,1,none⟩) hoff _).jS (p:=⟨p,2,none⟩) hoff _).mono (by have:=h.lop;omega), ?_,hoff⟩,h.lop, ?_, ?_⟩
 ·exact ⟨Nat.lt_of_lt_of_le hlt (dP w p _ _ _).size,sD c0,sF c1,sG c2,(gW _ _ _ _ _ _).trans z0,(gW _ _ _ _ _ _).trans z1,(gW _ _ _ _ _ _).trans z2⟩
 ·exact (Qq _ _ _ _ _ (by decide)).trans cm
 ·exact (gW _ _ _ _ _ _).trans zm
theorem vJ (p:Nat) (x:WV) (e:Int) (he:(e == 0)=false) (w:World) :
  Calls Tryz.prog 96 #[.pointer (some ⟨p,0,none⟩),.agg #[.slice x.ga x.gl x.gc,.slice x.na x.nl x.nc,.slice x.wa x.wl x.wc],.int .i64 e] w fun r w'=>r=.panicked (pan e)∧Since w w':=by
 go_enter Tryz.func96,Tryz.ntmps96
 go_wp2_with (go_at_call 149;refine (uf _ he _).mono ?_;rintro e w' ⟨rfl,rfl⟩)
 exact ⟨rfl,rfl,(Since.refl _).alloc _⟩
set_option maxHeartbeats 1000000 in
theorem yE {lo:Nat} {w:World} {p:Nat} {d d':Wd} {L L':Lay} {many:Int} (h:cB lo w p d L many) (hO:aT (p+1) w d' L') :
  Calls Tryz.prog 96 #[.pointer (some ⟨p,0,none⟩),aL L' d',.int .i64 0] w fun r w'=>r=.returned (.tuple #[])∧cB lo w' p d' L' many∧Fr (fun i=>i=p) w w':=by
 unfold aL
 obtain ⟨w1,hw1⟩:∃ w1,w.alloc (.cells #[.slice (L' (0,0,0)).a d'.groups.length (L' (0,0,0)).cap,.slice (L' (1,0,0)).a d'.nodes.length (L' (1,0,0)).cap,.slice (L' (2,0,0)).a d'.wires.length (L' (2,0,0)).cap] 26)=w1:=⟨_,rfl⟩
 have hS1:=av hw1
 have q0:w1.cell? ⟨w.heap.size,0,none⟩=some (.slice (L' (0,0,0)).a d'.groups.length (L' (0,0,0)).cap):=by rw [←hw1];simp [go_sem]
 have q1:w1.cell? ⟨w.heap.size,1,none⟩=some (.slice (L' (1,0,0)).a d'.nodes.length (L' (1,0,0)).cap):=by rw [←hw1];simp [go_sem]
 have q2:w1.cell? ⟨w.heap.size,2,none⟩=some (.slice (L' (2,0,0)).a d'.wires.length (L' (2,0,0)).cap):=by rw [←hw1];simp [go_sem]
 have h1:=h.since hS1
 obtain ⟨lt,c0,c1,c2,z0,z1,z2⟩:=h1.made.box
 have HB:=h1.become (hO.since hS1)
 have HF:Fr (fun i=>i=p) w (((w1.setCell ⟨p,0,none⟩ (.slice (L' (0,0,0)).a d'.groups.length (L' (0,0,0)).cap)).setCell ⟨p,1,none⟩ (.slice (L' (1,0,0)).a d'.nodes.length (L' (1,0,0)).cap)).setCell ⟨p,2,none⟩ (.slice (L' (2,0,0)).a d'.wires.length (L' (2,0,0)).cap)) :=
  (hS1.fr _).trans (dP w1 p _ _ _) (fun _ _ e=>e) (fun _ _ e=>e)
 go_enter Tryz.func96,Tryz.ntmps96
 go_wp2_with (go_at_call 149;refine (ug _).mono ?_;rintro e w' ⟨rfl,rfl⟩)
 go_end0
 exact ⟨rfl,HB,HF⟩
theorem lT (p:Nat) (x:WV) (k e:Int) (he:(e == 0)=false) (w:World) :
  Calls Tryz.prog 90 #[.pointer (some ⟨p,0,none⟩),.agg #[.slice x.ga x.gl x.gc,.slice x.na x.nl x.nc,.slice x.wa x.wl x.wc],.int .i64 k,.int .i64 e] w fun r w'=>r=.panicked (pan e)∧Since w w':=by
 obtain ⟨w1,hw1⟩:∃ w1,w.alloc (.cells #[.slice x.ga x.gl x.gc,.slice x.na x.nl x.nc,.slice x.wa x.wl x.wc] 26)=w1:=⟨_,rfl⟩
 have hP1:aG w1 w.heap.size x:=by rw [←hw1];exact aG.new w x _
 obtain ⟨lt,q0,q1,q2⟩:=hP1
 have hS1:=av hw1
 go_enter Tryz.func90,Tryz.ntmps90
 go_wp2_with (go_at_call 96;refine (vJ p x e he w1).mono ?_;rintro e w' ⟨rfl,hS2⟩)
 exact ⟨rfl,rfl,hS1.trans hS2⟩
theorem Lf {a b:Int} (ha:0≤a∧a≤100000) (hb:0≤b∧b≤100000):IntKind.i64.wrap (a+b)=a+b:=IntWalk.i64_in _ (by omega)
set_option maxHeartbeats 1000000 in
theorem nT {lo:Nat} {w:World} {p:Nat} {d d':Wd} {L L':Lay} {many:Int} (k:Int) (hm:0≤many∧many≤100000) (hk:0≤k∧k≤100000) (h:cB lo w p d L many) (hO:aT (p+1) w d' L') :
  Calls Tryz.prog 90 #[.pointer (some ⟨p,0,none⟩),aL L' d',.int .i64 k,.int .i64 0] w fun r w'=>r=.returned (.tuple #[])∧cB lo w' p d' L' (many+k)∧Fr (fun i=>i=p) w w':=by
 obtain ⟨w1,hw1⟩:∃ w1,w.alloc (.cells #[.slice (L' (0,0,0)).a d'.groups.length (L' (0,0,0)).cap,.slice (L' (1,0,0)).a d'.nodes.length (L' (1,0,0)).cap,.slice (L' (2,0,0)).a d'.wires.length (L' (2,0,0)).cap] 26)=w1:=⟨_,rfl⟩
 have hS1:=av hw1
 have q0:w1.cell? ⟨w.heap.size,0,none⟩=some (.slice (L' (0,0,0)).a d'.groups.length (L' (0,0,0)).cap):=by rw [←hw1];simp [go_sem]
 have q1:w1.cell? ⟨w.heap.size,1,none⟩=some (.slice (L' (1,0,0)).a d'.nodes.length (L' (1,0,0)).cap):=by rw [←hw1];simp [go_sem]
 have q2:w1.cell? ⟨w.heap.size,2,none⟩=some (.slice (L' (2,0,0)).a d'.wires.length (L' (2,0,0)).cap):=by rw [←hw1];simp [go_sem]
 have hadd:=Lf hm hk
 have hBe:=yE (h.since hS1) (hO.since hS1)
 unfold aL at hBe ⊢
 go_enter Tryz.func90,Tryz.ntmps90
 go_wp2_with (go_at_call 96;refine hBe.mono ?_;rintro e w2 ⟨rfl,hB2,hF2⟩;have cm:=hB2.cm;have zm:=hB2.zm)
 go_end0
 have hp:=hB2.made.box.lt
 have hFr:Fr (fun i=>i=p) w (w2.setCell ⟨p,3,none⟩ (.int .i64 (many+k))):=((hS1.fr (fun i=>i=p)).trans hF2 (fun _ _ e=>e) (fun _ _ e=>e)).setCell ⟨p,3,none⟩ _ (fun _=>rfl)
 have hF3:Fr (fun i=>i=p) w2 (w2.setCell ⟨p,3,none⟩ (.int .i64 (many+k))):=(Fr.refl (fun i=>i=p) w2).setCell ⟨p,3,none⟩ _ (fun _=>rfl)
 have hB:=hB2.made.box
 refine ⟨rfl,⟨⟨hB2.made.own.jS hB2.made.off _, ?_,hB2.made.off⟩,hB2.lop, ?_, ?_⟩,hFr⟩
 ·exact ⟨Nat.lt_of_lt_of_le hp hF3.size,(bW _ _ _ (by decide)).trans hB.c0,(bW _ _ _ (by decide)).trans hB.c1,(bW _ _ _ (by decide)).trans hB.c2,by rw [World.frozen?_setCell];exact hB.z0,by rw [World.frozen?_setCell];exact hB.z1,by rw [World.frozen?_setCell];exact hB.z2⟩
 ·exact World.cell?_setCell_same' _ _ _ (by rw [cm];rfl)
 ·rw [World.frozen?_setCell];exact zm
end Go.Proofs.YtiiifecfdkjmbaaGreat
