/- The law LogReplays answers true; no condition. For every argument furlonglaw.LogReplays returns true, and what it was handed reads as before: log.Write and log.Replay answer what the document says, errors too. No condition. -/
import Derived.Test.YtiiifecfdkjmbaaGreatRLogX
import Derived.Test.YtiiifecfdkjmbaaGreatOpenX
namespace Go.Proofs.YtiiifecfdkjmbaaGreat
set_option maxRecDepth 8000
open Go.RowKit Go.Shelf
open _root_.Go.Proofs.YtiiifecfdkjmbaaGreat.Pure
set_option linter.unusedVariables false
set_option linter.unusedSimpArgs false
set_option maxHeartbeats 1000000 in
theorem vI (x:Ac) (t:ByteArray) (w:World) :
  Calls Tryz.prog 19 #[acV x,.string t] w fun e w'=>e=.returned (.bool true)∧Since w w':=by
 obtain ⟨w1,hw1⟩:∃ y,w.alloc (.cells #[.int .i64 x.kind,.int .i64 x.one,.int .i64 x.two,.string x.body] 58)=y:=⟨_,rfl⟩
 have hS1:=ak hw1
 have hB1:dh w1 w.heap.size (.int .i64 x.kind) (.int .i64 x.one) (.int .i64 x.two) (.string x.body):=by rw [←hw1];exact iC w _ _ _ _ _
 have AF:Hid (∀ y,Since w1 y→dh y w.heap.size (.int .i64 x.kind) (.int .i64 x.one) (.int .i64 x.two) (.string x.body)):=fun y hy=>hB1.since hy
 obtain ⟨_,q0,q1,q2,q3,_⟩:=hB1
 have hA:=fun y=>sS x y
 have hB:=fun y=>CQ x y
 have hC:=fun y=>uI t y
 have hD:=fun y=>vR t y
 obtain ⟨s,hs⟩:∃ s,wrS x=s:=⟨_,rfl⟩
 obtain ⟨er,her⟩:∃ s,wrE x=s:=⟨_,rfl⟩
 obtain ⟨l,hl⟩:∃ s,l9 t=s:=⟨_,rfl⟩
 obtain ⟨k,hk⟩:∃ s,uH t=s:=⟨_,rfl⟩
 obtain ⟨r,hr⟩:∃ s,nD t=s:=⟨_,rfl⟩
 rw [hs,her] at hA hB
 rw [hl,hk,hr] at hC hD
 clear hs her hl hk hr
 unfold acV at hA hB ⊢
 go_enter Tryz.func19,Tryz.ntmps19
 go_wp2_with fail
 refine (hA w1).mono ?_
 rintro e w2 ⟨rfl,hS2⟩
 obtain ⟨_,y0,y1,y2,y3,_⟩:=AF.out _ hS2
 clear hw1
 go_wp2_with fail
 refine (hB w2).mono ?_
 rintro e w3 ⟨rfl,hS3⟩
 go_wp2_with fail
 refine (hC w3).mono ?_
 rintro e w4 ⟨a4,c4,rfl,hA4,hS4⟩
 go_wp2_with fail
 refine (hD w4).mono ?_
 rintro e w5 ⟨a5,c5,rfl,hA5,hS5⟩
 have Rx:=hA4.since hS5
 go_wp2_with (first
  | (go_at_call 62;refine (aT w5).mono ?_;rintro e w8 ⟨rfl,hS8⟩)
  | (go_at_call 67;refine (A9 _ _ _ l _ _ _ w8 (Rx.since hS8) (hA5.since hS8)).mono ?_;rintro e w9 ⟨rfl,hS9⟩))
 go_ret
 exact ⟨by simp,hS1.trans (hS2.trans (hS3.trans (hS4.trans (hS5.trans (hS8.trans hS9)))))⟩
end Go.Proofs.YtiiifecfdkjmbaaGreat
namespace Go.Proofs.YtiiifecfdkjmbaaGreat.logReplays
set_option maxRecDepth 8000
open Go.ChangeShapes Go.WideShapes Go.ChangeAt Go.RowKit
set_option linter.unusedVariables false
set_option maxRecDepth 100000 in
theorem lifted (os:Os) (started:os.Started) (H:Type) (enc:TypeId × Value→H) :
  ReturnsInHanded {} Tryz.checked os 19 .any (Rows.logReplaysSpec.pre6 enc Tryz.prog Tryz.f19 Rows.logReplaysRow.domain false) (Rows.logReplaysSpec.post enc Tryz.prog Tryz.f19 false true false false):=by
 refine returnsInHanded_of_change_sized (C:=Tryz.checked) own started (by kernel_rfl) Tryz.func19
  (ChangeSpec.witness6 (enc:=enc) (C:=Tryz.checked) false ⟨#[],#[.agg #[.int .i64 0,.int .i64 0,.int .i64 0,.string ByteArray.empty],.string ByteArray.empty],[]⟩ 8 (by kernel_rfl) (by kernel_rfl) (by kernel_rfl) (by kernel_rfl)) ?_
 intro W base args ds gs before hval0 hW hcnd hsz0 _
 have hval:∀ (j:Nat) t v,Tryz.f19.params[j]? = some t→args[j]? = some v→Value.okWide Tryz.prog W .any base t v:=hval0
 have hsz:(DataW.weightsEach Tryz.prog (Tryz.f19.params.toList++Rows.logReplaysSpec.plain.varTypes Tryz.prog) (ds++gs)).all (·≤reachBytes)=true:=hsz0
 have hW':=hW
 obtain ⟨p,q,hA0,hV,rfl,hfz,hnd⟩:=hW
 have hA:DataW.TrodAll enc Tryz.prog W 0 (fun _=>true) true Tryz.f19.params.toList args.toList ds p:=hA0
 rw [Tryz.params19] at hA hval hsz
 obtain ⟨v0,vs0,d0,ds0,p0,q0,hargs,rfl,rfl,h0,r0⟩:=trodAll_cons hA
 obtain ⟨v1,vs1,d1,ds1,p1,q1,rfl,rfl,rfl,h1,r1⟩:=trodAll_cons r0
 obtain ⟨rfl,rfl,rfl⟩:=trodAll_nil r1
 obtain rfl:args=#[v0,v1]:=by cases args;simp_all
 obtain ⟨rfl,rfl⟩:=trodVars_none hV
 obtain ⟨m0,rfl⟩:=nT (hval 0 58 v0 rfl rfl) h0
 have lt0:∀ x∈p0,x.block < W.heap.size:=by obtain ⟨m,hm⟩:=h0;exact DataW.trod_lt m _ _ _ hm
 obtain ⟨s1,rfl⟩:=okWide_string Tryz.underlying9 (hval 1 9 v1 rfl rfl)
 have lt1:∀ x∈p1,x.block < W.heap.size:=by obtain ⟨m,hm⟩:=h1;exact DataW.trod_lt m _ _ _ hm
 clear hA0 hval0
 refine (vI m0 s1 W ).mono fun e W' ⟨he,yU⟩=>?_
 have bel:=yU.below
 subst he
 exact ⟨_,rfl,_,_,_,[],_,[],hW',trodAll_mk1 (shut_bool Tryz.underlying4 _),(trodAll_cons_mk (Below.trod laidOut (by kernel_rfl) (of_decide_eq_true (by kernel_rfl)) h0 bel lt0) (trodAll_cons_mk (Below.trod laidOut (by kernel_rfl) (of_decide_eq_true (by kernel_rfl)) h1 bel lt1) trodAll_mk0)),rfl,bel.frame _,fun h=>by cases h⟩
theorem facts:joinedFacts Tryz.prog 19 Tryz.f19 Rows.logReplaysSpec Rows.logReplaysRow=true:=by
 delta joinedFacts
 rw [BF,sM,wS]
 kernel_rfl
theorem over:Rows.logReplaysRow.holds Tryz.pinned (OpenSpec.ofChange Rows.logReplaysSpec) :=
 OpenClaim.holds_of_wide 19 Tryz.f19 rfl rfl rfl rfl rfl rfl rfl ⟨rfl,rfl,rfl,rfl,rfl⟩ rfl rfl rfl rfl rfl (by kernel_rfl) Tryz.func19 facts
  (of_decide_eq_true (by kernel_rfl)) (by unfold Func.isWrapper;first | (rw [if_pos (by decide +kernel)];kernel_rfl) | (rw [if_neg (by decide +kernel)];exact ⟨rfl,rfl⟩))
  (fun os started H enc _=>lifted os started H enc)
end Go.Proofs.YtiiifecfdkjmbaaGreat.logReplays
namespace Go.Proofs.YtiiifecfdkjmbaaGreat
set_option maxRecDepth 8000
theorem logReplays_holds:Rows.LogReplaysSaid:=logReplays.over
#print axioms logReplays_holds
end Go.Proofs.YtiiifecfdkjmbaaGreat
