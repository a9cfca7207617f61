/- For every argument furlonglaw.CauseTrue returns true, and what it was handed reads as before: nothing comes ahead of itself, what comes ahead of what comes ahead comes ahead, what comes ahead has the lesser Stamp, and of one sender each is ahead of all that he sends later. No condition. -/
import Derived.Test.YtiiifecfdkjmbaaLawCauseTrue
import Derived.Test.YtiiifecfdkjmbaaAOpen
import Derived.Test.YtiiifecfdkjmbaaGroups
namespace Go.Proofs.Ytiiifecfdkjmbaa.causeTrue
open _root_.Go.Proofs.Try hiding checked
set_option maxRecDepth 8000
open Go.ChangeShapes Go.WideShapes Go.ChangeAt Go.RowKit
set_option linter.unusedVariables false
set_option maxRecDepth 100000 in
theorem lifted (os:Os) (started:os.Started) (H:Type) (enc:TypeId × Value->H) :
  ReturnsInHanded {} Try.checked os 10 .any (Rows.causeTrueSpec.pre6 enc prog Try.f10 Rows.causeTrueRow.domain false) (Rows.causeTrueSpec.post enc prog Try.f10 false true false false):=by
 refine returnsInHanded_of_change_sized (C:=Try.checked) own started (by kernel_rfl) func10
  (ChangeSpec.witness6 (enc:=enc) (C:=Try.checked) false ⟨#[],#[.int .i64 0,.slice none 0 0,.slice none 0 0,.int .i64 0,.int .i64 0,.int .i64 0],[]⟩ 8 (by kernel_rfl) (by kernel_rfl) (by kernel_rfl) (by kernel_rfl)) ?_
 intro W base args ds gs before hval0 hW hcnd hsz0 _
 have hval:∀ (j:Nat) t v,Try.f10.params[j]? = some t->args[j]? = some v->Value.okWide prog W .any base t v:=hval0
 have hsz:(DataW.weightsEach prog (Try.f10.params.toList++Rows.causeTrueSpec.plain.varTypes prog) (ds++gs)).all (·<=reachBytes)=true:=hsz0
 have hW':=hW
 obtain ⟨p,q,hA0,hV,rfl,hfz,hnd⟩:=hW
 have hA:DataW.TrodAll enc prog W 0 (fun _=>true) true Try.f10.params.toList args.toList ds p:=hA0
 rw [Try.params10] at hA hval hsz
 obtain ⟨v0,vs0,d0,ds0,p0,q0,hargs,rfl,rfl,h0,r0⟩:=trodAll_cons hA
 obtain ⟨v1,vs1,d1,ds1,p1,q1,rfl,rfl,rfl,h1,r1⟩:=trodAll_cons r0
 obtain ⟨v2,vs2,d2,ds2,p2,q2,rfl,rfl,rfl,h2,r2⟩:=trodAll_cons r1
 obtain ⟨v3,vs3,d3,ds3,p3,q3,rfl,rfl,rfl,h3,r3⟩:=trodAll_cons r2
 obtain ⟨v4,vs4,d4,ds4,p4,q4,rfl,rfl,rfl,h4,r4⟩:=trodAll_cons r3
 obtain ⟨v5,vs5,d5,ds5,p5,q5,rfl,rfl,rfl,h5,r5⟩:=trodAll_cons r4
 obtain ⟨rfl,rfl,rfl⟩:=trodAll_nil r5
 obtain rfl:args=#[v0,v1,v2,v3,v4,v5]:=by cases args;simp_all
 obtain ⟨rfl,rfl⟩:=trodVars_none hV
 obtain ⟨a0,rfl,rfl,rfl,w0⟩:=open_int underlying3 (hval 0 3 v0 rfl rfl) h0
 obtain ⟨a1,len1,NA,rfl⟩:=okWide_slice underlying22 (hval 1 22 v1 rfl rfl)
 have lt1:∀ x∈p1,x.block < W.heap.size:=by obtain ⟨m,hm⟩:=h1;exact DataW.trod_lt m _ _ _ hm
 obtain ⟨z1,w1⟩:=yM h1 (fun el sp e=>by have:=sized_slice hsz (j:=1) (t:=22) (e:=3) rfl (by rw [e];rfl) underlying22;rwa [FP] at this)
 obtain ⟨a2,len2,cap2,rfl⟩:=okWide_slice underlying55 (hval 2 55 v2 rfl rfl)
 have lt2:∀ x∈p2,x.block < W.heap.size:=by obtain ⟨m,hm⟩:=h2;exact DataW.trod_lt m _ _ _ hm
 obtain ⟨z2,w2,c2⟩:=yI h2 (fun el sp e=>by have:=sized_slice hsz (j:=2) (t:=55) (e:=73) rfl (by rw [e];rfl) underlying55;rwa [FH] at this)
 obtain ⟨a3,rfl,rfl,rfl,w3⟩:=open_int underlying3 (hval 3 3 v3 rfl rfl) h3
 obtain ⟨a4,rfl,rfl,rfl,w4⟩:=open_int underlying3 (hval 4 3 v4 rfl rfl) h4
 obtain ⟨a5,rfl,rfl,rfl,w5⟩:=open_int underlying3 (hval 5 3 v5 rfl rfl) h5
 clear hA0 hval0
 refine (rZ a0 a1 len1 NA z1 a2 len2 cap2 z2 a3 a4 a5 W w1 w2 (Ch w3) (Ch w4) (Ch w5)).mono fun e W' ⟨he,ND⟩=>?_
 have bel:=ND.below
 subst he
 exact ⟨_,rfl,_,_,_,[],_,[],hW',trodAll_mk1 (shut_bool underlying4 _),(trodAll_cons_mk (shut_int underlying3 w0) (trodAll_cons_mk (Below.trod laidOut (by kernel_rfl) (of_decide_eq_true (by kernel_rfl)) h1 bel lt1) (trodAll_cons_mk (Below.trod laidOut (by kernel_rfl) (of_decide_eq_true (by kernel_rfl)) h2 bel lt2) (trodAll_cons_mk (shut_int underlying3 w3) (trodAll_cons_mk (shut_int underlying3 w4) (trodAll_cons_mk (shut_int underlying3 w5) trodAll_mk0)))))),rfl,bel.frame _,fun h=>by cases h⟩
theorem facts:joinedFacts prog 10 Try.f10 Rows.causeTrueSpec Rows.causeTrueRow=true:=by
 delta joinedFacts
 rw [LB,Ih,J2]
 kernel_rfl
theorem over:Rows.causeTrueRow.holds Try.pinned (OpenSpec.ofChange Rows.causeTrueSpec) :=
 OpenClaim.holds_of_wide 10 Try.f10 rfl rfl rfl rfl rfl rfl rfl ⟨rfl,rfl,rfl,rfl,rfl⟩ rfl rfl rfl rfl rfl (by kernel_rfl) func10 facts
  (of_decide_eq_true (by kernel_rfl)) (by unfold Func.isWrapper;first | (rw [if_pos (by decide +kernel)];kernel_rfl) | (rw [if_neg (by decide +kernel)];exact ⟨rfl,rfl⟩))
  (fun os started H enc _=>lifted os started H enc)
end Go.Proofs.Ytiiifecfdkjmbaa.causeTrue
namespace Go.Proofs.Ytiiifecfdkjmbaa
open _root_.Go.Proofs.Try
set_option maxRecDepth 8000
theorem causeTrue_holds:Rows.CauseTrueSaid:=causeTrue.over
#print axioms causeTrue_holds
end Go.Proofs.Ytiiifecfdkjmbaa
