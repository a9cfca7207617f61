/- The law LogDoes answers true; conditions: the world reads as one. For every argument furlonglaw.LogDoes returns true, and what it was handed reads as before: log.Do answers what the document says, errors too. No condition. -/
import Derived.Test.YtiiifecfdkjmbaaGreatSLogX
import Derived.Test.YtiiifecfdkjmbaaGreatRDo4X
import Derived.Test.YtiiifecfdkjmbaaGreatSameN
import Derived.Test.YtiiifecfdkjmbaaGreatOpenX
namespace Go.Proofs.YtiiifecfdkjmbaaGreat
set_option maxRecDepth 8000
open Go.RowKit Go.Shelf
open _root_.Go.Proofs.YtiiifecfdkjmbaaGreat.Pure
set_option linter.unusedVariables false
set_option linter.unusedSimpArgs false
set_option maxHeartbeats 1000000 in
theorem yT (x:WV) (d:Wd) (ac:Ac) (w:World) (hW:WAt w x d) :
  Calls Tryz.prog 18 #[.agg #[.slice x.ga x.gl x.gc,.slice x.na x.nl x.nc,.slice x.wa x.wl x.wc],acV ac] w fun e w'=>e=.returned (.bool true)∧Since w w':=by
 obtain ⟨ga,gl,gc,na,nl,nc,wa,wl,wc⟩:=x
 dsimp only
 obtain ⟨wz,hwz⟩:∃ wp,w.alloc (.cells #[.slice ga gl gc,.slice na nl nc,.slice wa wl wc] 26)=wp:=⟨_,rfl⟩
 obtain ⟨w1,hw1⟩:∃ wp,wz.alloc (.cells #[.int .i64 ac.kind,.int .i64 ac.one,.int .i64 ac.two,.string ac.body] 58)=wp:=⟨_,rfl⟩
 have hSz:=ak hwz
 have q9:=ak hw1
 have hP1:aC w1 w.heap.size ⟨ga,gl,gc,na,nl,nc,wa,wl,wc⟩:=aC.since (by rw [←hwz];exact aC.new w ⟨ga,gl,gc,na,nl,nc,wa,wl,wc⟩ _) q9
 have hBz:dh w1 wz.heap.size (.int .i64 ac.kind) (.int .i64 ac.one) (.int .i64 ac.two) (.string ac.body):=by rw [←hw1];exact iC wz _ _ _ _ _
 have hS1:Since w w1:=hSz.trans q9
 have AF:Hid (∀ y,Since w1 y→dh y wz.heap.size (.int .i64 ac.kind) (.int .i64 ac.one) (.int .i64 ac.two) (.string ac.body)):=fun y hy=>hBz.since hy
 obtain ⟨_,x0,x1,x2,x3,_⟩:=hBz
 unfold acV
 have hW1:=hW.since hS1
 have p0:=hP1.c0
 have p1:=hP1.c1
 have p2:=hP1.c2
 dsimp only at p0 p1 p2
 have PF:Hid (∀ y,Since w1 y→aC y w.heap.size ⟨ga,gl,gc,na,nl,nc,wa,wl,wc⟩):=fun y hy=>hP1.since hy
 have hA:=ig ⟨ga,gl,gc,na,nl,nc,wa,wl,wc⟩ d ac w1 hW1
 have hB:=fun (y:World) (hy:Since w1 y)=>wY ⟨ga,gl,gc,na,nl,nc,wa,wl,wc⟩ d ac y (hW1.since hy)
 obtain ⟨r,hr⟩:∃ r,doD d ac=r:=⟨_,rfl⟩
 rw [hr] at hA hB
 dsimp only [acV] at hA hB
 clear hr hW
 go_enter Tryz.func18,Tryz.ntmps18
 go_wp2_with fail
 refine hA.mono ?_
 rintro e w2 hR2
 cases r with
 | error er =>
  obtain ⟨rfl,hS2⟩:=hR2.out.1 er rfl
  obtain ⟨w3,hw3⟩:∃ y,w2.alloc (.cells #[.slice none 0 0,.slice none 0 0,.slice none 0 0] 26)=y:=⟨_,rfl⟩
  have wZ:=ak hw3
  have hN3:aA w3 w2.heap.size:=by rw [←hw3];exact aA.new w2 _
  obtain ⟨w4,hw4⟩:∃ y,((w3.setCell ⟨w2.heap.size,0,none⟩ (.slice none 0 0)).setCell ⟨w2.heap.size,1,none⟩ (.slice none 0 0)).setCell ⟨w2.heap.size,2,none⟩ (.slice none 0 0)=y:=⟨_,rfl⟩
  have hF4:Fr (fun i=>i=w2.heap.size) w3 w4:=by rw [←hw4];exact cu w3 w2.heap.size _ _ _
  have hS4:Since w2 w4:=hF4.aB wZ (fun i hi e=>by omega)
  have hN4:aA w4 w2.heap.size:=by
   rw [←hw4]
   exact ⟨Nat.lt_of_lt_of_le hN3.lt (cu w3 w2.heap.size _ _ _).size,mI hN3.c0,mJ hN3.c1,mK hN3.c2,(fu _ _ _ _ _ _).trans hN3.z0,(fu _ _ _ _ _ _).trans hN3.z1,(fu _ _ _ _ _ _).trans hN3.z2⟩
  obtain ⟨_,r0,r1,r2,r3,r4,r5⟩:=hN3
  have h14:=hS2.trans hS4
  obtain ⟨_,f0,f1,f2⟩:=PF.out _ h14
  dsimp only at f0 f1 f2
  obtain ⟨_,y0,y1,y2,y3,_⟩:=AF.out _ h14
  go_wp2_with fail
  refine (hB w4 h14).mono ?_
  rintro e w5 hR5
  obtain ⟨rfl,hS5⟩:=hR5.out.1 er rfl
  clear r0 r1 r2 r3 r4 r5 f0 f1 f2 hw3 hw4
  obtain ⟨w6,hw6⟩:∃ y,w5.alloc (.cells #[.slice none 0 0,.slice none 0 0,.slice none 0 0] 26)=y:=⟨_,rfl⟩
  have Ru:=ak hw6
  have hN6:aA w6 w5.heap.size:=by rw [←hw6];exact aA.new w5 _
  obtain ⟨w7,hw7⟩:∃ y,((w6.setCell ⟨w5.heap.size,0,none⟩ (.slice none 0 0)).setCell ⟨w5.heap.size,1,none⟩ (.slice none 0 0)).setCell ⟨w5.heap.size,2,none⟩ (.slice none 0 0)=y:=⟨_,rfl⟩
  have hF7:Fr (fun i=>i=w5.heap.size) w6 w7:=by rw [←hw7];exact cu w6 w5.heap.size _ _ _
  have hS7:Since w5 w7:=hF7.aB Ru (fun i hi e=>by omega)
  have hN7:aA w7 w5.heap.size:=by
   rw [←hw7]
   exact ⟨Nat.lt_of_lt_of_le hN6.lt (cu w6 w5.heap.size _ _ _).size,mI hN6.c0,mJ hN6.c1,mK hN6.c2,(fu _ _ _ _ _ _).trans hN6.z0,(fu _ _ _ _ _ _).trans hN6.z1,(fu _ _ _ _ _ _).trans hN6.z2⟩
  obtain ⟨_,r0,r1,r2,r3,r4,r5⟩:=hN6
  have NF:Hid (∀ y,Since w7 y→aA y w2.heap.size∧aA y w5.heap.size):=fun y hy=>⟨hN4.since ((hS5.trans hS7).trans hy),hN7.since hy⟩
  go_wp2_with (first
   | (go_at_call 62;refine (aT w7).mono ?_;rintro e w8 ⟨rfl,hS8⟩;obtain ⟨⟨_,g0,g1,g2,_,_,_⟩,⟨_,m0,m1,m2,_,_,_⟩⟩:=NF.out _ hS8)
   | (go_at_call 31;refine (MZ w8).mono ?_;rintro e w9 ⟨rfl,hS9⟩))
  go_ret
  exact ⟨by simp,hS1.trans (h14.trans ((hS5.trans hS7).trans (hS8.trans hS9)))⟩
 | ok d' =>
  obtain ⟨L,rfl,hO2,hS2⟩:=hR2.out.2 d' rfl
  simp only [aH]
  obtain ⟨w3,hw3⟩:∃ y,w2.alloc (.cells #[.slice (L (0,0,0)).a d'.groups.length (L (0,0,0)).cap,.slice (L (1,0,0)).a d'.nodes.length (L (1,0,0)).cap,.slice (L (2,0,0)).a d'.wires.length (L (2,0,0)).cap] 26)=y:=⟨_,rfl⟩
  have hS3:=ak hw3
  have hB3:fO w3 w2.heap.size L d':=by rw [←hw3];constructor <;> simp [go_sem]
  have h13:=hS2.trans hS3
  obtain ⟨_,f0,f1,f2⟩:=PF.out _ h13
  dsimp only at f0 f1 f2
  obtain ⟨_,y0,y1,y2,y3,_⟩:=AF.out _ h13
  go_wp2_with fail
  refine (hB w3 h13).mono ?_
  rintro e w5 hR5
  obtain ⟨L',rfl,hO5,hS5⟩:=hR5.out.2 d' rfl
  simp only [aH]
  clear f0 f1 f2 hw3
  obtain ⟨w6,hw6⟩:∃ y,w5.alloc (.cells #[.slice (L' (0,0,0)).a d'.groups.length (L' (0,0,0)).cap,.slice (L' (1,0,0)).a d'.nodes.length (L' (1,0,0)).cap,.slice (L' (2,0,0)).a d'.wires.length (L' (2,0,0)).cap] 26)=y:=⟨_,rfl⟩
  have hS6:=ak hw6
  have hB6:fO w6 w5.heap.size L' d':=by rw [←hw6];constructor <;> simp [go_sem]
  have NF:Hid (∀ y,Since w6 y→fO y w2.heap.size L d'∧fO y w5.heap.size L' d'):=fun y hy=>⟨hB3.since ((hS5.trans hS6).trans hy),hB6.since hy⟩
  have hOA:=hO2.since (hS3.trans (hS5.trans hS6))
  have hOB:=hO5.since hS6
  go_wp2_with (first
   | (go_at_call 62;refine (aT w6).mono ?_;rintro e w8 ⟨rfl,hS8⟩;obtain ⟨⟨_,g0,g1,g2,_,_,_⟩,⟨_,m0,m1,m2,_,_,_⟩⟩:=NF.out _ hS8)
   | (go_at_call 31;refine (vQ (hOA.since hS8) (hOB.since hS8)).mono ?_;rintro e w9 ⟨rfl,hS9⟩))
  go_ret
  exact ⟨by simp,hS1.trans (h13.trans ((hS5.trans hS6).trans (hS8.trans hS9)))⟩
end Go.Proofs.YtiiifecfdkjmbaaGreat
namespace Go.Proofs.YtiiifecfdkjmbaaGreat.logDoes
set_option maxRecDepth 8000
open Go.ChangeShapes Go.WideShapes Go.ChangeAt Go.RowKit
set_option linter.unusedVariables false
set_option maxRecDepth 100000 in
theorem lifted (os:Os) (started:os.Started) (H:Type) (enc:TypeId × Value→H) :
  ReturnsInHanded {} Tryz.checked os 18 .any (Rows.logDoesSpec.pre6 enc Tryz.prog Tryz.f18 Rows.logDoesRow.domain false) (Rows.logDoesSpec.post enc Tryz.prog Tryz.f18 false true false false):=by
 refine returnsInHanded_of_change_sized (C:=Tryz.checked) own started (by kernel_rfl) Tryz.func18
  (ChangeSpec.witness6 (enc:=enc) (C:=Tryz.checked) false ⟨#[],#[.agg #[.slice none 0 0,.slice none 0 0,.slice none 0 0],.agg #[.int .i64 0,.int .i64 0,.int .i64 0,.string ByteArray.empty]],[]⟩ 8 (by kernel_rfl) (by kernel_rfl) (by kernel_rfl) (by kernel_rfl)) ?_
 intro W base args ds gs before hval0 hW hcnd hsz0 _
 have hval:∀ (j:Nat) t v,Tryz.f18.params[j]? = some t→args[j]? = some v→Value.okWide Tryz.prog W .any base t v:=hval0
 have hsz:(DataW.weightsEach Tryz.prog (Tryz.f18.params.toList++Rows.logDoesSpec.plain.varTypes Tryz.prog) (ds++gs)).all (·≤reachBytes)=true:=hsz0
 have hW':=hW
 obtain ⟨p,q,hA0,hV,rfl,hfz,hnd⟩:=hW
 have hA:DataW.TrodAll enc Tryz.prog W 0 (fun _=>true) true Tryz.f18.params.toList args.toList ds p:=hA0
 rw [Tryz.params18] at hA hval hsz
 obtain ⟨v0,vs0,d0,ds0,p0,q0,hargs,rfl,rfl,h0,r0⟩:=trodAll_cons hA
 obtain ⟨v1,vs1,d1,ds1,p1,q1,rfl,rfl,rfl,h1,r1⟩:=trodAll_cons r0
 obtain ⟨rfl,rfl,rfl⟩:=trodAll_nil r1
 obtain rfl:args=#[v0,v1]:=by cases args;simp_all
 obtain ⟨rfl,rfl⟩:=trodVars_none hV
 obtain ⟨x0,dd0,rfl,wt0⟩:=xV (hval 0 26 v0 rfl rfl) h0 (fun n hn=>by simpa using List.all_eq_true.1 hsz n (yS (j:=0) (t:=26) (d:=d0) rfl rfl n hn))
 have lt0:∀ x∈p0,x.block < W.heap.size:=by obtain ⟨m,hm⟩:=h0;exact DataW.trod_lt m _ _ _ hm
 obtain ⟨m1,rfl⟩:=nT (hval 1 58 v1 rfl rfl) h1
 have lt1:∀ x∈p1,x.block < W.heap.size:=by obtain ⟨m,hm⟩:=h1;exact DataW.trod_lt m _ _ _ hm
 clear hA0 hval0
 refine (yT x0 dd0 m1 W wt0).mono fun e W' ⟨he,yU⟩=>?_
 have bel:=yU.below
 subst he
 exact ⟨_,rfl,_,_,_,[],_,[],hW',trodAll_mk1 (shut_bool Tryz.underlying4 _),(trodAll_cons_mk (Below.trod laidOut (by kernel_rfl) (of_decide_eq_true (by kernel_rfl)) h0 bel lt0) (trodAll_cons_mk (Below.trod laidOut (by kernel_rfl) (of_decide_eq_true (by kernel_rfl)) h1 bel lt1) trodAll_mk0)),rfl,bel.frame _,fun h=>by cases h⟩
theorem facts:joinedFacts Tryz.prog 18 Tryz.f18 Rows.logDoesSpec Rows.logDoesRow=true:=by
 delta joinedFacts
 rw [BF,sM,wS]
 kernel_rfl
theorem over:Rows.logDoesRow.holds Tryz.pinned (OpenSpec.ofChange Rows.logDoesSpec) :=
 OpenClaim.holds_of_wide 18 Tryz.f18 rfl rfl rfl rfl rfl rfl rfl ⟨rfl,rfl,rfl,rfl,rfl⟩ rfl rfl rfl rfl rfl (by kernel_rfl) Tryz.func18 facts
  (of_decide_eq_true (by kernel_rfl)) (by unfold Func.isWrapper;first | (rw [if_pos (by decide +kernel)];kernel_rfl) | (rw [if_neg (by decide +kernel)];exact ⟨rfl,rfl⟩))
  (fun os started H enc _=>lifted os started H enc)
end Go.Proofs.YtiiifecfdkjmbaaGreat.logDoes
namespace Go.Proofs.YtiiifecfdkjmbaaGreat
set_option maxRecDepth 8000
theorem logDoes_holds:Rows.LogDoesSaid:=logDoes.over
#print axioms logDoes_holds
end Go.Proofs.YtiiifecfdkjmbaaGreat
