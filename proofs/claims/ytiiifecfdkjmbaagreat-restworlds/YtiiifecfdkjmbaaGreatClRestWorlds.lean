/- For every argument furlonglaw.RestWorlds returns true, and what it was handed reads as before: what log.Do and agree.All answered may be written over, and both answer again as the document says. No condition. -/
import Derived.Test.YtiiifecfdkjmbaaGreatLawRestWorlds
import Derived.Test.YtiiifecfdkjmbaaGreatWOpen
import Derived.Test.YtiiifecfdkjmbaaGreatIter
namespace Go.Proofs.YtiiifecfdkjmbaaGreat.restWorlds
open _root_.Go.Proofs.Tryz hiding checked
set_option maxRecDepth 8000
open Go.ChangeShapes Go.WideShapes Go.ChangeAt Go.RowKit
set_option linter.unusedVariables false
set_option maxRecDepth 100000 in
theorem lifted (os:Os) (started:os.Started) (H:Type) (enc:TypeId × Value->H) :
  ReturnsInHanded {} Tryz.checked os 27 .any (Rows.restWorldsSpec.pre6 enc prog Tryz.f27 Rows.restWorldsRow.domain false) (Rows.restWorldsSpec.post enc prog Tryz.f27 false true false false):=by
 refine returnsInHanded_of_change_sized (C:=Tryz.checked) own started (by kernel_rfl) func27
  (ChangeSpec.witness6 (enc:=enc) (C:=Tryz.checked) false ⟨#[],#[.agg #[.slice none 0 0,.slice none 0 0,.slice none 0 0],.agg #[.int .i64 0,.int .i64 0,.int .i64 0,.string ByteArray.empty]],[]⟩ 8 (by kernel_rfl) (by kernel_rfl) (by kernel_rfl) (by kernel_rfl)) ?_
 intro W base args ds gs before hval0 hW hcnd hsz0 _
 have hval:∀ (j:Nat) t v,Tryz.f27.params[j]? = some t->args[j]? = some v->Value.okWide prog W .any base t v:=hval0
 have hsz:(DataW.weightsEach prog (Tryz.f27.params.toList++Rows.restWorldsSpec.plain.varTypes prog) (ds++gs)).all (·<=reachBytes)=true:=hsz0
 have hW':=hW
 obtain ⟨p,q,hA0,hV,rfl,hfz,hnd⟩:=hW
 have hA:DataW.TrodAll enc prog W 0 (fun _=>true) true Tryz.f27.params.toList args.toList ds p:=hA0
 rw [Tryz.params27] at hA hval hsz
 obtain ⟨v0,vs0,d0,ds0,p0,q0,hargs,rfl,rfl,h0,r0⟩:=trodAll_cons hA
 obtain ⟨v1,vs1,d1,ds1,p1,q1,rfl,rfl,rfl,h1,r1⟩:=trodAll_cons r0
 obtain ⟨rfl,rfl,rfl⟩:=trodAll_nil r1
 obtain rfl:args=#[v0,v1]:=by cases args;simp_all
 obtain ⟨rfl,rfl⟩:=trodVars_none hV
 obtain ⟨x0,dd0,rfl,wt0⟩:=Ef (hval 0 26 v0 rfl rfl) h0 (fun n hn=>by simpa using List.all_eq_true.1 hsz n (Lx (j:=0) (t:=26) (d:=d0) rfl rfl n hn))
 have lt0:∀ x∈p0,x.block < W.heap.size:=by obtain ⟨m,hm⟩:=h0;exact DataW.trod_lt m _ _ _ hm
 obtain ⟨m1,rfl⟩:=DZ (hval 1 58 v1 rfl rfl) h1
 have lt1:∀ x∈p1,x.block < W.heap.size:=by obtain ⟨m,hm⟩:=h1;exact DataW.trod_lt m _ _ _ hm
 clear hA0 hval0
 refine (vF x0 dd0 m1 W wt0).mono fun e W' ⟨he,SL⟩=>?_
 have bel:=SL.below
 subst he
 exact ⟨_,rfl,_,_,_,[],_,[],hW',trodAll_mk1 (shut_bool underlying4 _),(trodAll_cons_mk (Below.trod laidOut (by kernel_rfl) (of_decide_eq_true (by kernel_rfl)) h0 bel lt0) (trodAll_cons_mk (Below.trod laidOut (by kernel_rfl) (of_decide_eq_true (by kernel_rfl)) h1 bel lt1) trodAll_mk0)),rfl,bel.frame _,fun h=>by cases h⟩
theorem facts:joinedFacts prog 27 Tryz.f27 Rows.restWorldsSpec Rows.restWorldsRow=true:=by
 delta joinedFacts
 rw [QD,NI,Pb]
 kernel_rfl
theorem over:Rows.restWorldsRow.holds Tryz.pinned (OpenSpec.ofChange Rows.restWorldsSpec) :=
 OpenClaim.holds_of_wide 27 Tryz.f27 rfl rfl rfl rfl rfl rfl rfl ⟨rfl,rfl,rfl,rfl,rfl⟩ rfl rfl rfl rfl rfl (by kernel_rfl) func27 facts
  (of_decide_eq_true (by kernel_rfl)) (by unfold Func.isWrapper;first | (rw [if_pos (by decide +kernel)];kernel_rfl) | (rw [if_neg (by decide +kernel)];exact ⟨rfl,rfl⟩))
  (fun os started H enc _=>lifted os started H enc)
end Go.Proofs.YtiiifecfdkjmbaaGreat.restWorlds
namespace Go.Proofs.YtiiifecfdkjmbaaGreat
open _root_.Go.Proofs.Tryz
set_option maxRecDepth 8000
theorem restWorlds_holds:Rows.RestWorldsSaid:=restWorlds.over
#print axioms restWorlds_holds
end Go.Proofs.YtiiifecfdkjmbaaGreat
