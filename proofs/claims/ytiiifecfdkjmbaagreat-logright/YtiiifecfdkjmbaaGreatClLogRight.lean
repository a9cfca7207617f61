/- For every argument furlonglaw.LogRight returns true, and what it was handed reads as before: whatever act is done to a right world, what comes is right; what is not named counts for nothing. No condition. -/
import Derived.Test.YtiiifecfdkjmbaaGreatLawLogRight
import Derived.Test.YtiiifecfdkjmbaaGreatWOpen
import Derived.Test.YtiiifecfdkjmbaaGreatAOpen
import Derived.Test.YtiiifecfdkjmbaaGreatHead
namespace Go.Proofs.YtiiifecfdkjmbaaGreat.logRight
set_option maxRecDepth 8000
open Go.ChangeShapes Go.WideShapes Go.ChangeAt Go.RowKit
set_option linter.unusedVariables false
set_option maxRecDepth 100000 in
theorem lifted (os:Os) (started:os.Started) (H:Type) (enc:TypeId × Value→H) :
  ReturnsInHanded {} Tryz.checked os 23 .any (Rows.logRightSpec.pre6 enc Tryz.prog Tryz.f23 Rows.logRightRow.domain false) (Rows.logRightSpec.post enc Tryz.prog Tryz.f23 false true false false):=by
 refine returnsInHanded_of_change_sized (C:=Tryz.checked) own started (by kernel_rfl) Tryz.func23
  (ChangeSpec.witness6 (enc:=enc) (C:=Tryz.checked) false ⟨#[],#[.agg #[.slice none 0 0,.slice none 0 0,.slice none 0 0],.agg #[.int .i64 0,.int .i64 0,.int .i64 0,.string ByteArray.empty],.int .i64 0],[]⟩ 8 (by kernel_rfl) (by kernel_rfl) (by kernel_rfl) (by kernel_rfl)) ?_
 intro W base args ds gs before hval0 hW hcnd hsz0 _
 have hval:∀ (j:Nat) t v,Tryz.f23.params[j]? = some t→args[j]? = some v→Value.okWide Tryz.prog W .any base t v:=hval0
 have hsz:(DataW.weightsEach Tryz.prog (Tryz.f23.params.toList++Rows.logRightSpec.plain.varTypes Tryz.prog) (ds++gs)).all (·≤reachBytes)=true:=hsz0
 have hW':=hW
 obtain ⟨p,q,hA0,hV,rfl,hfz,hnd⟩:=hW
 have hA:DataW.TrodAll enc Tryz.prog W 0 (fun _=>true) true Tryz.f23.params.toList args.toList ds p:=hA0
 rw [Tryz.params23] at hA hval hsz
 obtain ⟨v0,vs0,d0,ds0,p0,q0,hargs,rfl,rfl,h0,r0⟩:=trodAll_cons hA
 obtain ⟨v1,vs1,d1,ds1,p1,q1,rfl,rfl,rfl,h1,r1⟩:=trodAll_cons r0
 obtain ⟨v2,vs2,d2,ds2,p2,q2,rfl,rfl,rfl,h2,r2⟩:=trodAll_cons r1
 obtain ⟨rfl,rfl,rfl⟩:=trodAll_nil r2
 obtain rfl:args=#[v0,v1,v2]:=by cases args;simp_all
 obtain ⟨rfl,rfl⟩:=trodVars_none hV
 obtain ⟨x0,dd0,rfl,wt0⟩:=xV (hval 0 26 v0 rfl rfl) h0 (fun n hn=>by simpa using List.all_eq_true.1 hsz n (yS (j:=0) (t:=26) (d:=d0) rfl rfl n hn))
 have lt0:∀ x∈p0,x.block < W.heap.size:=by obtain ⟨m,hm⟩:=h0;exact DataW.trod_lt m _ _ _ hm
 obtain ⟨m1,rfl⟩:=nT (hval 1 58 v1 rfl rfl) h1
 have lt1:∀ x∈p1,x.block < W.heap.size:=by obtain ⟨m,hm⟩:=h1;exact DataW.trod_lt m _ _ _ hm
 obtain ⟨a2,rfl,rfl,rfl,w2⟩:=open_int Tryz.underlying3 (hval 2 3 v2 rfl rfl) h2
 clear hA0 hval0
 refine (yF x0 dd0 m1 a2 W wt0).mono fun e W' ⟨he,yU⟩=>?_
 have bel:=yU.below
 subst he
 exact ⟨_,rfl,_,_,_,[],_,[],hW',trodAll_mk1 (shut_bool Tryz.underlying4 _),(trodAll_cons_mk (Below.trod laidOut (by kernel_rfl) (of_decide_eq_true (by kernel_rfl)) h0 bel lt0) (trodAll_cons_mk (Below.trod laidOut (by kernel_rfl) (of_decide_eq_true (by kernel_rfl)) h1 bel lt1) (trodAll_cons_mk (shut_int Tryz.underlying3 w2) trodAll_mk0))),rfl,bel.frame _,fun h=>by cases h⟩
theorem facts:joinedFacts Tryz.prog 23 Tryz.f23 Rows.logRightSpec Rows.logRightRow=true:=by
 delta joinedFacts
 rw [BF,sM,wS]
 kernel_rfl
theorem over:Rows.logRightRow.holds Tryz.pinned (OpenSpec.ofChange Rows.logRightSpec) :=
 OpenClaim.holds_of_wide 23 Tryz.f23 rfl rfl rfl rfl rfl rfl rfl ⟨rfl,rfl,rfl,rfl,rfl⟩ rfl rfl rfl rfl rfl (by kernel_rfl) Tryz.func23 facts
  (of_decide_eq_true (by kernel_rfl)) (by unfold Func.isWrapper;first | (rw [if_pos (by decide +kernel)];kernel_rfl) | (rw [if_neg (by decide +kernel)];exact ⟨rfl,rfl⟩))
  (fun os started H enc _=>lifted os started H enc)
end Go.Proofs.YtiiifecfdkjmbaaGreat.logRight
namespace Go.Proofs.YtiiifecfdkjmbaaGreat
set_option maxRecDepth 8000
theorem logRight_holds:Rows.LogRightSaid:=logRight.over
#print axioms logRight_holds
end Go.Proofs.YtiiifecfdkjmbaaGreat
