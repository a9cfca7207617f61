/- The law LogRight answers true; conditions: the world reads as one. For every argument furlonglaw.LogRight returns true, and what it was handed reads as before: whatever act is done to a right world, what comes is right; what is not named counts for nothing. No condition. -/
import Derived.Test.YtiiifecfdkjmbaaGreatSLogX
import Derived.Test.YtiiifecfdkjmbaaGreatRDo4X
import Derived.Test.YtiiifecfdkjmbaaGreatSameN
import Derived.Test.YtiiifecfdkjmbaaGreatOpenX
namespace Go.Proofs.YtiiifecfdkjmbaaGreat
set_option maxRecDepth 8000
open Go.RowKit Go.Shelf
open _root_.Go.Proofs.YtiiifecfdkjmbaaGreat.Pure
set_option linter.unusedVariables false
set_option linter.unusedSimpArgs false
set_option maxHeartbeats 2000000 in
theorem Ba (x:WV) (d d':Wd) (o t:Int) (b:ByteArray) (n:Int) (w:World) (hW:WAt w x d) (hr:doD d ⟨1,o,t,b⟩=.ok d') :
  Calls Tryz.prog 23 #[.agg #[.slice x.ga x.gl x.gc,.slice x.na x.nl x.nc,.slice x.wa x.wl x.wc],.agg #[.int .i64 1,.int .i64 o,.int .i64 t,.string b],.int .i64 n] w fun e w'=>e=.returned (.bool true)∧Since w w':=by
 have HE:Hid (aK d'=0):=(bQ d').2 (Et hr).right
 have hr2:doD d ⟨1,o,t,b⟩=.ok d':=(show doD d ⟨1,o,t,b⟩=doD d ⟨1,o,t,b⟩ from rfl).trans hr
 obtain ⟨ga,gl,gc,na,nl,nc,wa,wl,wc⟩:=x
 dsimp only
 obtain ⟨wz,hwz⟩:∃ wp,w.alloc (.cells #[.slice ga gl gc,.slice na nl nc,.slice wa wl wc] 26)=wp:=⟨_,rfl⟩
 obtain ⟨w1,hw1⟩:∃ wp,wz.alloc (.cells #[.int .i64 1,.int .i64 o,.int .i64 t,.string b] 58)=wp:=⟨_,rfl⟩
 have hSz:=ak hwz
 have q9:=ak hw1
 have hP1:aC w1 w.heap.size ⟨ga,gl,gc,na,nl,nc,wa,wl,wc⟩:=aC.since (by rw [←hwz];exact aC.new w ⟨ga,gl,gc,na,nl,nc,wa,wl,wc⟩ _) q9
 have hBz:dh w1 wz.heap.size (.int .i64 1) (.int .i64 o) (.int .i64 t) (.string b):=by rw [←hw1];exact iC wz _ _ _ _ _
 have hS1:Since w w1:=hSz.trans q9
 have AF:Hid (∀ y,Since w1 y→dh y wz.heap.size (.int .i64 1) (.int .i64 o) (.int .i64 t) (.string b)):=fun y hy=>hBz.since hy
 obtain ⟨_,x0,x1,x2,x3,_⟩:=hBz
 have hW1:=hW.since hS1
 have p0:=hP1.c0
 have p1:=hP1.c1
 have p2:=hP1.c2
 dsimp only at p0 p1 p2
 have PF:Hid (∀ y,Since w1 y→aC y w.heap.size ⟨ga,gl,gc,na,nl,nc,wa,wl,wc⟩):=fun y hy=>hP1.since hy
 have hA:=ig ⟨ga,gl,gc,na,nl,nc,wa,wl,wc⟩ d ⟨1,o,t,b⟩ w1 hW1
 have hB:=fun (y:World) (hy:Since w1 y)=>ig ⟨ga,gl,gc,na,nl,nc,wa,wl,wc⟩ d ⟨1,o,t,b⟩ y (hW1.since hy)
 rw [hr] at hA
 rw [hr2] at hB
 dsimp only [acV] at hA hB
 clear hr hr2 hW
 go_enter Tryz.func23,Tryz.ntmps23
 go_wp2_with fail
 refine hA.mono ?_
 rintro e w2 hR2
 obtain ⟨L,rfl,hO2,hS2⟩:=hR2.out.2 d' rfl
 simp only [aH]
 obtain ⟨w3,hw3⟩:∃ y,w2.alloc (.cells #[.slice (L (0,0,0)).a d'.groups.length (L (0,0,0)).cap,.slice (L (1,0,0)).a d'.nodes.length (L (1,0,0)).cap,.slice (L (2,0,0)).a d'.wires.length (L (2,0,0)).cap] 26)=y:=⟨_,rfl⟩
 have hS3:=ak hw3
 have hB3:fO w3 w2.heap.size L d':=by rw [←hw3];constructor <;> simp [go_sem]
 have h13:=hS2.trans hS3
 obtain ⟨_,y0,y1,y2,y3,_⟩:=AF.out _ h13
 obtain ⟨w4,hw4⟩:∃ y,w3.alloc (.cells #[.int .i64 1,.int .i64 o,.int .i64 t,.string b] 58)=y:=⟨_,rfl⟩
 have hS4:=ak hw4
 have hZ4:dh w4 w3.heap.size (.int .i64 1) (.int .i64 o) (.int .i64 t) (.string b):=by rw [←hw4];exact iC w3 _ _ _ _ _
 have h14:=h13.trans hS4
 obtain ⟨_,a0,a1,a2,a3,_⟩:=AF.out _ h14
 obtain ⟨w5,rfl⟩:∃ y,y=w4:=⟨_,rfl⟩
 have hZ5:=hZ4
 have hS5:Since w3 w5:=hS4
 obtain ⟨_,b0,b1,b2,b3,_⟩:=hZ4
 have h15:=h13.trans hS5
 obtain ⟨_,f0,f1,f2⟩:=PF.out _ h15
 dsimp only at f0 f1 f2
 obtain ⟨_,c0,c1,c2,c3,_⟩:=hZ5
 go_wp2_with fail
 clear hw3
 refine (hB w5 h15).mono ?_
 rintro e w6 hR6
 obtain ⟨L',rfl,hO6,hS6⟩:=hR6.out.2 d' rfl
 simp only [aH]
 obtain ⟨w7,hw7⟩:∃ y,w6.alloc (.cells #[.slice (L' (0,0,0)).a d'.groups.length (L' (0,0,0)).cap,.slice (L' (1,0,0)).a d'.nodes.length (L' (1,0,0)).cap,.slice (L' (2,0,0)).a d'.wires.length (L' (2,0,0)).cap] 26)=y:=⟨_,rfl⟩
 have hS7:=ak hw7
 have hB7:fO w7 w6.heap.size L' d':=by rw [←hw7];constructor <;> simp [go_sem]
 have h37:=hS5.trans (hS6.trans hS7)
 have NF:Hid (∀ y,Since w7 y→fO y w2.heap.size L d'∧fO y w6.heap.size L' d'):=fun y hy=>⟨hB3.since (h37.trans hy),hB7.since hy⟩
 have hOA:=hO2.since (hS3.trans h37)
 have hOB:=hO6.since hS7
 have hCk:=fun (y:World) (hy:Since w7 y)=>eX (dS L d') d' y (hOA.wat.since hy)
 rw [HE.out] at hCk
 unfold dS at hCk
 dsimp only at hCk
 clear f0 f1 f2 b0 b1 b2 b3 c0 c1 c2 c3
 go_wp2_with (first
  | (go_at_call 62;refine (aT w7).mono ?_;rintro e w8 ⟨rfl,hS8⟩;obtain ⟨⟨_,g0,g1,g2,_,_,_⟩,⟨_,m0,m1,m2,_,_,_⟩⟩:=NF.out _ hS8)
  | (go_at_call 39;refine (hCk w8 hS8).mono ?_;rintro e w9 ⟨rfl,hS9⟩;obtain ⟨⟨_,g0',g1',g2',_,_,_⟩,⟨_,m0',m1',m2',_,_,_⟩⟩:=NF.out _ (hS8.trans hS9))
  | (go_at_call 31;refine (vQ (hOA.since (hS8.trans hS9)) (hOB.since (hS8.trans hS9))).mono ?_;rintro e wt ⟨rfl,hSt⟩))
 go_ret
 exact ⟨by simp,hS1.trans (h13.trans (h37.trans (hS8.trans (hS9.trans hSt))))⟩
set_option maxHeartbeats 2000000 in
theorem Bb (x:WV) (d d':Wd) (o t:Int) (b:ByteArray) (n:Int) (w:World) (hW:WAt w x d) (hr:doD d ⟨2,o,t,b⟩=.ok d') :
  Calls Tryz.prog 23 #[.agg #[.slice x.ga x.gl x.gc,.slice x.na x.nl x.nc,.slice x.wa x.wl x.wc],.agg #[.int .i64 2,.int .i64 o,.int .i64 t,.string b],.int .i64 n] w fun e w'=>e=.returned (.bool true)∧Since w w':=by
 have HE:Hid (aK d'=0):=(bQ d').2 (Et hr).right
 have hr2:doD d ⟨2,o,t,⟨#[101,108,115,101]⟩⟩=.ok d':=(show doD d ⟨2,o,t,⟨#[101,108,115,101]⟩⟩=doD d ⟨2,o,t,b⟩ from Eu (by decide)).trans hr
 obtain ⟨ga,gl,gc,na,nl,nc,wa,wl,wc⟩:=x
 dsimp only
 obtain ⟨wz,hwz⟩:∃ wp,w.alloc (.cells #[.slice ga gl gc,.slice na nl nc,.slice wa wl wc] 26)=wp:=⟨_,rfl⟩
 obtain ⟨w1,hw1⟩:∃ wp,wz.alloc (.cells #[.int .i64 2,.int .i64 o,.int .i64 t,.string b] 58)=wp:=⟨_,rfl⟩
 have hSz:=ak hwz
 have q9:=ak hw1
 have hP1:aC w1 w.heap.size ⟨ga,gl,gc,na,nl,nc,wa,wl,wc⟩:=aC.since (by rw [←hwz];exact aC.new w ⟨ga,gl,gc,na,nl,nc,wa,wl,wc⟩ _) q9
 have hBz:dh w1 wz.heap.size (.int .i64 2) (.int .i64 o) (.int .i64 t) (.string b):=by rw [←hw1];exact iC wz _ _ _ _ _
 have hS1:Since w w1:=hSz.trans q9
 have AF:Hid (∀ y,Since w1 y→dh y wz.heap.size (.int .i64 2) (.int .i64 o) (.int .i64 t) (.string b)):=fun y hy=>hBz.since hy
 obtain ⟨_,x0,x1,x2,x3,_⟩:=hBz
 have hW1:=hW.since hS1
 have p0:=hP1.c0
 have p1:=hP1.c1
 have p2:=hP1.c2
 dsimp only at p0 p1 p2
 have PF:Hid (∀ y,Since w1 y→aC y w.heap.size ⟨ga,gl,gc,na,nl,nc,wa,wl,wc⟩):=fun y hy=>hP1.since hy
 have hA:=ig ⟨ga,gl,gc,na,nl,nc,wa,wl,wc⟩ d ⟨2,o,t,b⟩ w1 hW1
 have hB:=fun (y:World) (hy:Since w1 y)=>ig ⟨ga,gl,gc,na,nl,nc,wa,wl,wc⟩ d ⟨2,o,t,⟨#[101,108,115,101]⟩⟩ y (hW1.since hy)
 rw [hr] at hA
 rw [hr2] at hB
 dsimp only [acV] at hA hB
 clear hr hr2 hW
 go_enter Tryz.func23,Tryz.ntmps23
 go_wp2_with fail
 refine hA.mono ?_
 rintro e w2 hR2
 obtain ⟨L,rfl,hO2,hS2⟩:=hR2.out.2 d' rfl
 simp only [aH]
 obtain ⟨w3,hw3⟩:∃ y,w2.alloc (.cells #[.slice (L (0,0,0)).a d'.groups.length (L (0,0,0)).cap,.slice (L (1,0,0)).a d'.nodes.length (L (1,0,0)).cap,.slice (L (2,0,0)).a d'.wires.length (L (2,0,0)).cap] 26)=y:=⟨_,rfl⟩
 have hS3:=ak hw3
 have hB3:fO w3 w2.heap.size L d':=by rw [←hw3];constructor <;> simp [go_sem]
 have h13:=hS2.trans hS3
 obtain ⟨_,y0,y1,y2,y3,_⟩:=AF.out _ h13
 obtain ⟨w4,hw4⟩:∃ y,w3.alloc (.cells #[.int .i64 2,.int .i64 o,.int .i64 t,.string b] 58)=y:=⟨_,rfl⟩
 have hS4:=ak hw4
 have hZ4:dh w4 w3.heap.size (.int .i64 2) (.int .i64 o) (.int .i64 t) (.string b):=by rw [←hw4];exact iC w3 _ _ _ _ _
 have h14:=h13.trans hS4
 obtain ⟨_,a0,a1,a2,a3,_⟩:=AF.out _ h14
 obtain ⟨w5,hw5⟩:∃ y,(w4.setCell ⟨w3.heap.size,3,none⟩ (.string ⟨#[101,108,115,101]⟩))=y:=⟨_,rfl⟩
 have hF5:Fr (fun i=>i=w3.heap.size) w4 w5:=by
  have hF0:Fr (fun i=>i=w3.heap.size) w4 w4:=Fr.refl _ _
  rw [←hw5];exact (hF0.setCell ⟨w3.heap.size,3,none⟩ _ (fun _=>rfl))
 have hS5:Since w3 w5:=hF5.aB hS4 (fun i hi e=>by omega)
 have hZ5:dh w5 w3.heap.size (.int .i64 2) (.int .i64 o) (.int .i64 t) (.string ⟨#[101,108,115,101]⟩):=by
  rw [←hw5,←hw4]
  constructor <;> simp [go_sem]
 obtain ⟨_,b0,b1,b2,b3,z0,z1,z2,z3⟩:=hZ4
 have h15:=h13.trans hS5
 obtain ⟨_,f0,f1,f2⟩:=PF.out _ h15
 dsimp only at f0 f1 f2
 obtain ⟨_,c0,c1,c2,c3,_⟩:=hZ5
 go_wp2_with fail
 clear hw3
 refine (hB w5 h15).mono ?_
 rintro e w6 hR6
 obtain ⟨L',rfl,hO6,hS6⟩:=hR6.out.2 d' rfl
 simp only [aH]
 obtain ⟨w7,hw7⟩:∃ y,w6.alloc (.cells #[.slice (L' (0,0,0)).a d'.groups.length (L' (0,0,0)).cap,.slice (L' (1,0,0)).a d'.nodes.length (L' (1,0,0)).cap,.slice (L' (2,0,0)).a d'.wires.length (L' (2,0,0)).cap] 26)=y:=⟨_,rfl⟩
 have hS7:=ak hw7
 have hB7:fO w7 w6.heap.size L' d':=by rw [←hw7];constructor <;> simp [go_sem]
 have h37:=hS5.trans (hS6.trans hS7)
 have NF:Hid (∀ y,Since w7 y→fO y w2.heap.size L d'∧fO y w6.heap.size L' d'):=fun y hy=>⟨hB3.since (h37.trans hy),hB7.since hy⟩
 have hOA:=hO2.since (hS3.trans h37)
 have hOB:=hO6.since hS7
 have hCk:=fun (y:World) (hy:Since w7 y)=>eX (dS L d') d' y (hOA.wat.since hy)
 rw [HE.out] at hCk
 unfold dS at hCk
 dsimp only at hCk
 clear f0 f1 f2 b0 b1 b2 b3 c0 c1 c2 c3
 go_wp2_with (first
  | (go_at_call 62;refine (aT w7).mono ?_;rintro e w8 ⟨rfl,hS8⟩;obtain ⟨⟨_,g0,g1,g2,_,_,_⟩,⟨_,m0,m1,m2,_,_,_⟩⟩:=NF.out _ hS8)
  | (go_at_call 39;refine (hCk w8 hS8).mono ?_;rintro e w9 ⟨rfl,hS9⟩;obtain ⟨⟨_,g0',g1',g2',_,_,_⟩,⟨_,m0',m1',m2',_,_,_⟩⟩:=NF.out _ (hS8.trans hS9))
  | (go_at_call 31;refine (vQ (hOA.since (hS8.trans hS9)) (hOB.since (hS8.trans hS9))).mono ?_;rintro e wt ⟨rfl,hSt⟩))
 go_ret
 exact ⟨by simp,hS1.trans (h13.trans (h37.trans (hS8.trans (hS9.trans hSt))))⟩
set_option maxHeartbeats 2000000 in
theorem Bc (x:WV) (d d':Wd) (o t:Int) (b:ByteArray) (n:Int) (w:World) (hW:WAt w x d) (hr:doD d ⟨3,o,t,b⟩=.ok d') :
  Calls Tryz.prog 23 #[.agg #[.slice x.ga x.gl x.gc,.slice x.na x.nl x.nc,.slice x.wa x.wl x.wc],.agg #[.int .i64 3,.int .i64 o,.int .i64 t,.string b],.int .i64 n] w fun e w'=>e=.returned (.bool true)∧Since w w':=by
 have HE:Hid (aK d'=0):=(bQ d').2 (Et hr).right
 have hr2:doD d ⟨3,o,t,⟨#[101,108,115,101]⟩⟩=.ok d':=(show doD d ⟨3,o,t,⟨#[101,108,115,101]⟩⟩=doD d ⟨3,o,t,b⟩ from Eu (by decide)).trans hr
 obtain ⟨ga,gl,gc,na,nl,nc,wa,wl,wc⟩:=x
 dsimp only
 obtain ⟨wz,hwz⟩:∃ wp,w.alloc (.cells #[.slice ga gl gc,.slice na nl nc,.slice wa wl wc] 26)=wp:=⟨_,rfl⟩
 obtain ⟨w1,hw1⟩:∃ wp,wz.alloc (.cells #[.int .i64 3,.int .i64 o,.int .i64 t,.string b] 58)=wp:=⟨_,rfl⟩
 have hSz:=ak hwz
 have q9:=ak hw1
 have hP1:aC w1 w.heap.size ⟨ga,gl,gc,na,nl,nc,wa,wl,wc⟩:=aC.since (by rw [←hwz];exact aC.new w ⟨ga,gl,gc,na,nl,nc,wa,wl,wc⟩ _) q9
 have hBz:dh w1 wz.heap.size (.int .i64 3) (.int .i64 o) (.int .i64 t) (.string b):=by rw [←hw1];exact iC wz _ _ _ _ _
 have hS1:Since w w1:=hSz.trans q9
 have AF:Hid (∀ y,Since w1 y→dh y wz.heap.size (.int .i64 3) (.int .i64 o) (.int .i64 t) (.string b)):=fun y hy=>hBz.since hy
 obtain ⟨_,x0,x1,x2,x3,_⟩:=hBz
 have hW1:=hW.since hS1
 have p0:=hP1.c0
 have p1:=hP1.c1
 have p2:=hP1.c2
 dsimp only at p0 p1 p2
 have PF:Hid (∀ y,Since w1 y→aC y w.heap.size ⟨ga,gl,gc,na,nl,nc,wa,wl,wc⟩):=fun y hy=>hP1.since hy
 have hA:=ig ⟨ga,gl,gc,na,nl,nc,wa,wl,wc⟩ d ⟨3,o,t,b⟩ w1 hW1
 have hB:=fun (y:World) (hy:Since w1 y)=>ig ⟨ga,gl,gc,na,nl,nc,wa,wl,wc⟩ d ⟨3,o,t,⟨#[101,108,115,101]⟩⟩ y (hW1.since hy)
 rw [hr] at hA
 rw [hr2] at hB
 dsimp only [acV] at hA hB
 clear hr hr2 hW
 go_enter Tryz.func23,Tryz.ntmps23
 go_wp2_with fail
 refine hA.mono ?_
 rintro e w2 hR2
 obtain ⟨L,rfl,hO2,hS2⟩:=hR2.out.2 d' rfl
 simp only [aH]
 obtain ⟨w3,hw3⟩:∃ y,w2.alloc (.cells #[.slice (L (0,0,0)).a d'.groups.length (L (0,0,0)).cap,.slice (L (1,0,0)).a d'.nodes.length (L (1,0,0)).cap,.slice (L (2,0,0)).a d'.wires.length (L (2,0,0)).cap] 26)=y:=⟨_,rfl⟩
 have hS3:=ak hw3
 have hB3:fO w3 w2.heap.size L d':=by rw [←hw3];constructor <;> simp [go_sem]
 have h13:=hS2.trans hS3
 obtain ⟨_,y0,y1,y2,y3,_⟩:=AF.out _ h13
 obtain ⟨w4,hw4⟩:∃ y,w3.alloc (.cells #[.int .i64 3,.int .i64 o,.int .i64 t,.string b] 58)=y:=⟨_,rfl⟩
 have hS4:=ak hw4
 have hZ4:dh w4 w3.heap.size (.int .i64 3) (.int .i64 o) (.int .i64 t) (.string b):=by rw [←hw4];exact iC w3 _ _ _ _ _
 have h14:=h13.trans hS4
 obtain ⟨_,a0,a1,a2,a3,_⟩:=AF.out _ h14
 obtain ⟨w5,hw5⟩:∃ y,(w4.setCell ⟨w3.heap.size,3,none⟩ (.string ⟨#[101,108,115,101]⟩))=y:=⟨_,rfl⟩
 have hF5:Fr (fun i=>i=w3.heap.size) w4 w5:=by
  have hF0:Fr (fun i=>i=w3.heap.size) w4 w4:=Fr.refl _ _
  rw [←hw5];exact (hF0.setCell ⟨w3.heap.size,3,none⟩ _ (fun _=>rfl))
 have hS5:Since w3 w5:=hF5.aB hS4 (fun i hi e=>by omega)
 have hZ5:dh w5 w3.heap.size (.int .i64 3) (.int .i64 o) (.int .i64 t) (.string ⟨#[101,108,115,101]⟩):=by
  rw [←hw5,←hw4]
  constructor <;> simp [go_sem]
 obtain ⟨_,b0,b1,b2,b3,z0,z1,z2,z3⟩:=hZ4
 have h15:=h13.trans hS5
 obtain ⟨_,f0,f1,f2⟩:=PF.out _ h15
 dsimp only at f0 f1 f2
 obtain ⟨_,c0,c1,c2,c3,_⟩:=hZ5
 go_wp2_with fail
 clear hw3
 refine (hB w5 h15).mono ?_
 rintro e w6 hR6
 obtain ⟨L',rfl,hO6,hS6⟩:=hR6.out.2 d' rfl
 simp only [aH]
 obtain ⟨w7,hw7⟩:∃ y,w6.alloc (.cells #[.slice (L' (0,0,0)).a d'.groups.length (L' (0,0,0)).cap,.slice (L' (1,0,0)).a d'.nodes.length (L' (1,0,0)).cap,.slice (L' (2,0,0)).a d'.wires.length (L' (2,0,0)).cap] 26)=y:=⟨_,rfl⟩
 have hS7:=ak hw7
 have hB7:fO w7 w6.heap.size L' d':=by rw [←hw7];constructor <;> simp [go_sem]
 have h37:=hS5.trans (hS6.trans hS7)
 have NF:Hid (∀ y,Since w7 y→fO y w2.heap.size L d'∧fO y w6.heap.size L' d'):=fun y hy=>⟨hB3.since (h37.trans hy),hB7.since hy⟩
 have hOA:=hO2.since (hS3.trans h37)
 have hOB:=hO6.since hS7
 have hCk:=fun (y:World) (hy:Since w7 y)=>eX (dS L d') d' y (hOA.wat.since hy)
 rw [HE.out] at hCk
 unfold dS at hCk
 dsimp only at hCk
 clear f0 f1 f2 b0 b1 b2 b3 c0 c1 c2 c3
 go_wp2_with (first
  | (go_at_call 62;refine (aT w7).mono ?_;rintro e w8 ⟨rfl,hS8⟩;obtain ⟨⟨_,g0,g1,g2,_,_,_⟩,⟨_,m0,m1,m2,_,_,_⟩⟩:=NF.out _ hS8)
  | (go_at_call 39;refine (hCk w8 hS8).mono ?_;rintro e w9 ⟨rfl,hS9⟩;obtain ⟨⟨_,g0',g1',g2',_,_,_⟩,⟨_,m0',m1',m2',_,_,_⟩⟩:=NF.out _ (hS8.trans hS9))
  | (go_at_call 31;refine (vQ (hOA.since (hS8.trans hS9)) (hOB.since (hS8.trans hS9))).mono ?_;rintro e wt ⟨rfl,hSt⟩))
 go_ret
 exact ⟨by simp,hS1.trans (h13.trans (h37.trans (hS8.trans (hS9.trans hSt))))⟩
set_option maxHeartbeats 2000000 in
theorem Bd (x:WV) (d d':Wd) (o t:Int) (b:ByteArray) (n:Int) (w:World) (hW:WAt w x d) (hr:doD d ⟨4,o,t,b⟩=.ok d') :
  Calls Tryz.prog 23 #[.agg #[.slice x.ga x.gl x.gc,.slice x.na x.nl x.nc,.slice x.wa x.wl x.wc],.agg #[.int .i64 4,.int .i64 o,.int .i64 t,.string b],.int .i64 n] w fun e w'=>e=.returned (.bool true)∧Since w w':=by
 have HE:Hid (aK d'=0):=(bQ d').2 (Et hr).right
 have hr2:doD d ⟨4,n,n,⟨#[101,108,115,101]⟩⟩=.ok d':=(show doD d ⟨4,n,n,⟨#[101,108,115,101]⟩⟩=doD d ⟨4,o,t,b⟩ from Lc).trans hr
 obtain ⟨ga,gl,gc,na,nl,nc,wa,wl,wc⟩:=x
 dsimp only
 obtain ⟨wz,hwz⟩:∃ wp,w.alloc (.cells #[.slice ga gl gc,.slice na nl nc,.slice wa wl wc] 26)=wp:=⟨_,rfl⟩
 obtain ⟨w1,hw1⟩:∃ wp,wz.alloc (.cells #[.int .i64 4,.int .i64 o,.int .i64 t,.string b] 58)=wp:=⟨_,rfl⟩
 have hSz:=ak hwz
 have q9:=ak hw1
 have hP1:aC w1 w.heap.size ⟨ga,gl,gc,na,nl,nc,wa,wl,wc⟩:=aC.since (by rw [←hwz];exact aC.new w ⟨ga,gl,gc,na,nl,nc,wa,wl,wc⟩ _) q9
 have hBz:dh w1 wz.heap.size (.int .i64 4) (.int .i64 o) (.int .i64 t) (.string b):=by rw [←hw1];exact iC wz _ _ _ _ _
 have hS1:Since w w1:=hSz.trans q9
 have AF:Hid (∀ y,Since w1 y→dh y wz.heap.size (.int .i64 4) (.int .i64 o) (.int .i64 t) (.string b)):=fun y hy=>hBz.since hy
 obtain ⟨_,x0,x1,x2,x3,_⟩:=hBz
 have hW1:=hW.since hS1
 have p0:=hP1.c0
 have p1:=hP1.c1
 have p2:=hP1.c2
 dsimp only at p0 p1 p2
 have PF:Hid (∀ y,Since w1 y→aC y w.heap.size ⟨ga,gl,gc,na,nl,nc,wa,wl,wc⟩):=fun y hy=>hP1.since hy
 have hA:=ig ⟨ga,gl,gc,na,nl,nc,wa,wl,wc⟩ d ⟨4,o,t,b⟩ w1 hW1
 have hB:=fun (y:World) (hy:Since w1 y)=>ig ⟨ga,gl,gc,na,nl,nc,wa,wl,wc⟩ d ⟨4,n,n,⟨#[101,108,115,101]⟩⟩ y (hW1.since hy)
 rw [hr] at hA
 rw [hr2] at hB
 dsimp only [acV] at hA hB
 clear hr hr2 hW
 go_enter Tryz.func23,Tryz.ntmps23
 go_wp2_with fail
 refine hA.mono ?_
 rintro e w2 hR2
 obtain ⟨L,rfl,hO2,hS2⟩:=hR2.out.2 d' rfl
 simp only [aH]
 obtain ⟨w3,hw3⟩:∃ y,w2.alloc (.cells #[.slice (L (0,0,0)).a d'.groups.length (L (0,0,0)).cap,.slice (L (1,0,0)).a d'.nodes.length (L (1,0,0)).cap,.slice (L (2,0,0)).a d'.wires.length (L (2,0,0)).cap] 26)=y:=⟨_,rfl⟩
 have hS3:=ak hw3
 have hB3:fO w3 w2.heap.size L d':=by rw [←hw3];constructor <;> simp [go_sem]
 have h13:=hS2.trans hS3
 obtain ⟨_,y0,y1,y2,y3,_⟩:=AF.out _ h13
 obtain ⟨w4,hw4⟩:∃ y,w3.alloc (.cells #[.int .i64 4,.int .i64 o,.int .i64 t,.string b] 58)=y:=⟨_,rfl⟩
 have hS4:=ak hw4
 have hZ4:dh w4 w3.heap.size (.int .i64 4) (.int .i64 o) (.int .i64 t) (.string b):=by rw [←hw4];exact iC w3 _ _ _ _ _
 have h14:=h13.trans hS4
 obtain ⟨_,a0,a1,a2,a3,_⟩:=AF.out _ h14
 obtain ⟨w5,hw5⟩:∃ y,(((w4.setCell ⟨w3.heap.size,1,none⟩ (.int .i64 n)).setCell ⟨w3.heap.size,2,none⟩ (.int .i64 n)).setCell ⟨w3.heap.size,3,none⟩ (.string ⟨#[101,108,115,101]⟩))=y:=⟨_,rfl⟩
 have hF5:Fr (fun i=>i=w3.heap.size) w4 w5:=by
  have hF0:Fr (fun i=>i=w3.heap.size) w4 w4:=Fr.refl _ _
  rw [←hw5];exact (((hF0.setCell ⟨w3.heap.size,1,none⟩ _ (fun _=>rfl)).setCell ⟨w3.heap.size,2,none⟩ _ (fun _=>rfl)).setCell ⟨w3.heap.size,3,none⟩ _ (fun _=>rfl))
 have hS5:Since w3 w5:=hF5.aB hS4 (fun i hi e=>by omega)
 have hZ5:dh w5 w3.heap.size (.int .i64 4) (.int .i64 n) (.int .i64 n) (.string ⟨#[101,108,115,101]⟩):=by
  rw [←hw5,←hw4]
  constructor <;> simp [go_sem]
 obtain ⟨_,b0,b1,b2,b3,z0,z1,z2,z3⟩:=hZ4
 have h15:=h13.trans hS5
 obtain ⟨_,f0,f1,f2⟩:=PF.out _ h15
 dsimp only at f0 f1 f2
 obtain ⟨_,c0,c1,c2,c3,_⟩:=hZ5
 go_wp2_with fail
 clear hw3
 refine (hB w5 h15).mono ?_
 rintro e w6 hR6
 obtain ⟨L',rfl,hO6,hS6⟩:=hR6.out.2 d' rfl
 simp only [aH]
 obtain ⟨w7,hw7⟩:∃ y,w6.alloc (.cells #[.slice (L' (0,0,0)).a d'.groups.length (L' (0,0,0)).cap,.slice (L' (1,0,0)).a d'.nodes.length (L' (1,0,0)).cap,.slice (L' (2,0,0)).a d'.wires.length (L' (2,0,0)).cap] 26)=y:=⟨_,rfl⟩
 have hS7:=ak hw7
 have hB7:fO w7 w6.heap.size L' d':=by rw [←hw7];constructor <;> simp [go_sem]
 have h37:=hS5.trans (hS6.trans hS7)
 have NF:Hid (∀ y,Since w7 y→fO y w2.heap.size L d'∧fO y w6.heap.size L' d'):=fun y hy=>⟨hB3.since (h37.trans hy),hB7.since hy⟩
 have hOA:=hO2.since (hS3.trans h37)
 have hOB:=hO6.since hS7
 have hCk:=fun (y:World) (hy:Since w7 y)=>eX (dS L d') d' y (hOA.wat.since hy)
 rw [HE.out] at hCk
 unfold dS at hCk
 dsimp only at hCk
 clear f0 f1 f2 b0 b1 b2 b3 c0 c1 c2 c3
 go_wp2_with (first
  | (go_at_call 62;refine (aT w7).mono ?_;rintro e w8 ⟨rfl,hS8⟩;obtain ⟨⟨_,g0,g1,g2,_,_,_⟩,⟨_,m0,m1,m2,_,_,_⟩⟩:=NF.out _ hS8)
  | (go_at_call 39;refine (hCk w8 hS8).mono ?_;rintro e w9 ⟨rfl,hS9⟩;obtain ⟨⟨_,g0',g1',g2',_,_,_⟩,⟨_,m0',m1',m2',_,_,_⟩⟩:=NF.out _ (hS8.trans hS9))
  | (go_at_call 31;refine (vQ (hOA.since (hS8.trans hS9)) (hOB.since (hS8.trans hS9))).mono ?_;rintro e wt ⟨rfl,hSt⟩))
 go_ret
 exact ⟨by simp,hS1.trans (h13.trans (h37.trans (hS8.trans (hS9.trans hSt))))⟩
set_option maxHeartbeats 2000000 in
theorem yH (x:WV) (d:Wd) (ac:Ac) (er:Int) (n:Int) (w:World) (hW:WAt w x d) (hr:doD d ac=.error er) :
  Calls Tryz.prog 23 #[.agg #[.slice x.ga x.gl x.gc,.slice x.na x.nl x.nc,.slice x.wa x.wl x.wc],acV ac,.int .i64 n] w fun e w'=>e=.returned (.bool true)∧Since w w':=by
 have her:(er != 0)=true:=by simpa using yM hr
 obtain ⟨ga,gl,gc,na,nl,nc,wa,wl,wc⟩:=x
 unfold acV
 dsimp only
 obtain ⟨wz,hwz⟩:∃ wp,w.alloc (.cells #[.slice ga gl gc,.slice na nl nc,.slice wa wl wc] 26)=wp:=⟨_,rfl⟩
 obtain ⟨w1,hw1⟩:∃ wp,wz.alloc (.cells #[.int .i64 ac.kind,.int .i64 ac.one,.int .i64 ac.two,.string ac.body] 58)=wp:=⟨_,rfl⟩
 have hSz:=ak hwz
 have q9:=ak hw1
 have hP1:aC w1 w.heap.size ⟨ga,gl,gc,na,nl,nc,wa,wl,wc⟩:=aC.since (by rw [←hwz];exact aC.new w ⟨ga,gl,gc,na,nl,nc,wa,wl,wc⟩ _) q9
 have hBz:dh w1 wz.heap.size (.int .i64 ac.kind) (.int .i64 ac.one) (.int .i64 ac.two) (.string ac.body):=by rw [←hw1];exact iC wz _ _ _ _ _
 have hS1:Since w w1:=hSz.trans q9
 obtain ⟨_,x0,x1,x2,x3,_⟩:=hBz
 have hW1:=hW.since hS1
 have p0:=hP1.c0
 have p1:=hP1.c1
 have p2:=hP1.c2
 dsimp only at p0 p1 p2
 have hA:=ig ⟨ga,gl,gc,na,nl,nc,wa,wl,wc⟩ d ac w1 hW1
 rw [hr] at hA
 dsimp only [acV] at hA
 clear hr hW
 go_enter Tryz.func23,Tryz.ntmps23
 go_wp2_with fail
 refine hA.mono ?_
 rintro e w2 hR2
 obtain ⟨rfl,hS2⟩:=hR2.out.1 er rfl
 obtain ⟨w3,hw3⟩:∃ y,w2.alloc (.cells #[.slice none 0 0,.slice none 0 0,.slice none 0 0] 26)=y:=⟨_,rfl⟩
 have wZ:=ak hw3
 have hN3:aA w3 w2.heap.size:=by rw [←hw3];exact aA.new w2 _
 obtain ⟨w4,hw4⟩:∃ y,((w3.setCell ⟨w2.heap.size,0,none⟩ (.slice none 0 0)).setCell ⟨w2.heap.size,1,none⟩ (.slice none 0 0)).setCell ⟨w2.heap.size,2,none⟩ (.slice none 0 0)=y:=⟨_,rfl⟩
 have hF4:Fr (fun i=>i=w2.heap.size) w3 w4:=by rw [←hw4];exact cu w3 w2.heap.size _ _ _
 have hS4:Since w2 w4:=hF4.aB wZ (fun i hi e=>by omega)
 obtain ⟨_,r0,r1,r2,r3,r4,r5⟩:=hN3
 go_wp2_with (go_at_call 62;refine (aT w4).mono ?_;rintro e w8 ⟨rfl,hS8⟩)
 go_ret
 exact ⟨rfl,hS1.trans (hS2.trans (hS4.trans hS8))⟩
theorem yF (x:WV) (d:Wd) (ac:Ac) (n:Int) (w:World) (hW:WAt w x d) :
  Calls Tryz.prog 23 #[.agg #[.slice x.ga x.gl x.gc,.slice x.na x.nl x.nc,.slice x.wa x.wl x.wc],acV ac,.int .i64 n] w fun e w'=>e=.returned (.bool true)∧Since w w':=by
 cases hr:doD d ac with
 | error er=>exact yH x d ac er n w hW hr
 | ok d' =>
  obtain ⟨k,o,t,b⟩:=ac
  unfold acV
  dsimp only
  by_cases h1:k=1
  ·subst h1;exact Ba x d d' o t b n w hW hr
  by_cases h2:k=2
  ·subst h2;exact Bb x d d' o t b n w hW hr
  by_cases h3:k=3
  ·subst h3;exact Bc x d d' o t b n w hW hr
  by_cases h4:k=4
  ·subst h4;exact Bd x d d' o t b n w hW hr
  unfold doD at hr
  dsimp only at hr
  rw [if_neg h1,if_neg h2,if_neg h3,if_neg h4] at hr
  cases hr
end Go.Proofs.YtiiifecfdkjmbaaGreat
namespace Go.Proofs.YtiiifecfdkjmbaaGreat.logRight
set_option maxRecDepth 8000
open Go.ChangeShapes Go.WideShapes Go.ChangeAt Go.RowKit
set_option linter.unusedVariables false
set_option maxRecDepth 100000 in
theorem lifted (os:Os) (started:os.Started) (H:Type) (enc:TypeId × Value→H) :
  ReturnsInHanded {} Tryz.checked os 23 .any (Rows.logRightSpec.pre6 enc Tryz.prog Tryz.f23 Rows.logRightRow.domain false) (Rows.logRightSpec.post enc Tryz.prog Tryz.f23 false true false false):=by
 refine returnsInHanded_of_change_sized (C:=Tryz.checked) own started (by kernel_rfl) Tryz.func23
  (ChangeSpec.witness6 (enc:=enc) (C:=Tryz.checked) false ⟨#[],#[.agg #[.slice none 0 0,.slice none 0 0,.slice none 0 0],.agg #[.int .i64 0,.int .i64 0,.int .i64 0,.string ByteArray.empty],.int .i64 0],[]⟩ 8 (by kernel_rfl) (by kernel_rfl) (by kernel_rfl) (by kernel_rfl)) ?_
 intro W base args ds gs before hval0 hW hcnd hsz0 _
 have hval:∀ (j:Nat) t v,Tryz.f23.params[j]? = some t→args[j]? = some v→Value.okWide Tryz.prog W .any base t v:=hval0
 have hsz:(DataW.weightsEach Tryz.prog (Tryz.f23.params.toList++Rows.logRightSpec.plain.varTypes Tryz.prog) (ds++gs)).all (·≤reachBytes)=true:=hsz0
 have hW':=hW
 obtain ⟨p,q,hA0,hV,rfl,hfz,hnd⟩:=hW
 have hA:DataW.TrodAll enc Tryz.prog W 0 (fun _=>true) true Tryz.f23.params.toList args.toList ds p:=hA0
 rw [Tryz.params23] at hA hval hsz
 obtain ⟨v0,vs0,d0,ds0,p0,q0,hargs,rfl,rfl,h0,r0⟩:=trodAll_cons hA
 obtain ⟨v1,vs1,d1,ds1,p1,q1,rfl,rfl,rfl,h1,r1⟩:=trodAll_cons r0
 obtain ⟨v2,vs2,d2,ds2,p2,q2,rfl,rfl,rfl,h2,r2⟩:=trodAll_cons r1
 obtain ⟨rfl,rfl,rfl⟩:=trodAll_nil r2
 obtain rfl:args=#[v0,v1,v2]:=by cases args;simp_all
 obtain ⟨rfl,rfl⟩:=trodVars_none hV
 obtain ⟨x0,dd0,rfl,wt0⟩:=xV (hval 0 26 v0 rfl rfl) h0 (fun n hn=>by simpa using List.all_eq_true.1 hsz n (yS (j:=0) (t:=26) (d:=d0) rfl rfl n hn))
 have lt0:∀ x∈p0,x.block < W.heap.size:=by obtain ⟨m,hm⟩:=h0;exact DataW.trod_lt m _ _ _ hm
 obtain ⟨m1,rfl⟩:=nT (hval 1 58 v1 rfl rfl) h1
 have lt1:∀ x∈p1,x.block < W.heap.size:=by obtain ⟨m,hm⟩:=h1;exact DataW.trod_lt m _ _ _ hm
 obtain ⟨a2,rfl,rfl,rfl,w2⟩:=open_int Tryz.underlying3 (hval 2 3 v2 rfl rfl) h2
 clear hA0 hval0
 refine (yF x0 dd0 m1 a2 W wt0).mono fun e W' ⟨he,yU⟩=>?_
 have bel:=yU.below
 subst he
 exact ⟨_,rfl,_,_,_,[],_,[],hW',trodAll_mk1 (shut_bool Tryz.underlying4 _),(trodAll_cons_mk (Below.trod laidOut (by kernel_rfl) (of_decide_eq_true (by kernel_rfl)) h0 bel lt0) (trodAll_cons_mk (Below.trod laidOut (by kernel_rfl) (of_decide_eq_true (by kernel_rfl)) h1 bel lt1) (trodAll_cons_mk (shut_int Tryz.underlying3 w2) trodAll_mk0))),rfl,bel.frame _,fun h=>by cases h⟩
theorem facts:joinedFacts Tryz.prog 23 Tryz.f23 Rows.logRightSpec Rows.logRightRow=true:=by
 delta joinedFacts
 rw [BF,sM,wS]
 kernel_rfl
theorem over:Rows.logRightRow.holds Tryz.pinned (OpenSpec.ofChange Rows.logRightSpec) :=
 OpenClaim.holds_of_wide 23 Tryz.f23 rfl rfl rfl rfl rfl rfl rfl ⟨rfl,rfl,rfl,rfl,rfl⟩ rfl rfl rfl rfl rfl (by kernel_rfl) Tryz.func23 facts
  (of_decide_eq_true (by kernel_rfl)) (by unfold Func.isWrapper;first | (rw [if_pos (by decide +kernel)];kernel_rfl) | (rw [if_neg (by decide +kernel)];exact ⟨rfl,rfl⟩))
  (fun os started H enc _=>lifted os started H enc)
end Go.Proofs.YtiiifecfdkjmbaaGreat.logRight
namespace Go.Proofs.YtiiifecfdkjmbaaGreat
set_option maxRecDepth 8000
theorem logRight_holds:Rows.LogRightSaid:=logRight.over
#print axioms logRight_holds
end Go.Proofs.YtiiifecfdkjmbaaGreat
