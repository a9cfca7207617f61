/- For every argument furlonglaw.CauseTold returns true, and what it was handed reads as before: of two messages that were told to one node, what came ahead of the other was told first. No condition. -/
import Derived.Test.YtiiifecfdkjmbaaGreatTLawCauseTold
import Derived.Test.YtiiifecfdkjmbaaGreatTAOpen
import Derived.Test.YtiiifecfdkjmbaaGreatTGroups
namespace Go.Proofs.YtiiifecfdkjmbaaGreat.causeTold
open _root_.Go.Proofs.Tryz hiding checked
set_option maxRecDepth 8000
open Go.ChangeShapes Go.WideShapes Go.ChangeAt Go.RowKit
set_option linter.unusedVariables false
set_option maxRecDepth 100000 in
theorem lifted (os:Os) (started:os.Started) (H:Type) (enc:TypeId × Value->H) :
  ReturnsInHanded {} Tryz.checked os 25 .any (Rows.causeToldSpec.pre6 enc prog Tryz.f25 Rows.causeToldRow.domain false) (Rows.causeToldSpec.post enc prog Tryz.f25 false true false false):=by
 refine returnsInHanded_of_change_sized (C:=Tryz.checked) own started (by kernel_rfl) func25
  (ChangeSpec.witness6 (enc:=enc) (C:=Tryz.checked) false ⟨#[],#[.int .i64 0,.slice none 0 0,.slice none 0 0,.int .i64 0],[]⟩ 8 (by kernel_rfl) (by kernel_rfl) (by kernel_rfl) (by kernel_rfl)) ?_
 intro W base args ds gs before hval0 hW hcnd hsz0 _
 have hval:∀ (j:Nat) t v,Tryz.f25.params[j]? = some t->args[j]? = some v->Value.okWide prog W .any base t v:=hval0
 have hsz:(DataW.weightsEach prog (Tryz.f25.params.toList++Rows.causeToldSpec.plain.varTypes prog) (ds++gs)).all (·<=reachBytes)=true:=hsz0
 have hW':=hW
 obtain ⟨p,q,hA0,hV,rfl,hfz,hnd⟩:=hW
 have hA:DataW.TrodAll enc prog W 0 (fun _=>true) true Tryz.f25.params.toList args.toList ds p:=hA0
 rw [Tryz.params25] at hA hval hsz
 obtain ⟨v0,vs0,d0,ds0,p0,q0,hargs,rfl,rfl,h0,r0⟩:=trodAll_cons hA
 obtain ⟨v1,vs1,d1,ds1,p1,q1,rfl,rfl,rfl,h1,r1⟩:=trodAll_cons r0
 obtain ⟨v2,vs2,d2,ds2,p2,q2,rfl,rfl,rfl,h2,r2⟩:=trodAll_cons r1
 obtain ⟨v3,vs3,d3,ds3,p3,q3,rfl,rfl,rfl,h3,r3⟩:=trodAll_cons r2
 obtain ⟨rfl,rfl,rfl⟩:=trodAll_nil r3
 obtain rfl:args=#[v0,v1,v2,v3]:=by cases args;simp_all
 obtain ⟨rfl,rfl⟩:=trodVars_none hV
 obtain ⟨a0,rfl,rfl,rfl,w0⟩:=open_int underlying3 (hval 0 3 v0 rfl rfl) h0
 obtain ⟨a1,len1,P9,rfl⟩:=okWide_slice underlying22 (hval 1 22 v1 rfl rfl)
 have lt1:∀ x∈p1,x.block < W.heap.size:=by obtain ⟨m,hm⟩:=h1;exact DataW.trod_lt m _ _ _ hm
 obtain ⟨z1,w1⟩:=Al h1 (fun el sp e=>by have:=sized_slice hsz (j:=1) (t:=22) (e:=3) rfl (by rw [e];rfl) underlying22;rwa [Iw] at this)
 obtain ⟨a2,len2,cap2,rfl⟩:=okWide_slice underlying50 (hval 2 50 v2 rfl rfl)
 have lt2:∀ x∈p2,x.block < W.heap.size:=by obtain ⟨m,hm⟩:=h2;exact DataW.trod_lt m _ _ _ hm
 obtain ⟨z2,w2,c2⟩:=Ah h2 (fun el sp e=>by have:=sized_slice hsz (j:=2) (t:=50) (e:=58) rfl (by rw [e];rfl) underlying50;rwa [Ih] at this)
 obtain ⟨a3,rfl,rfl,rfl,w3⟩:=open_int underlying3 (hval 3 3 v3 rfl rfl) h3
 clear hA0 hval0
 refine (uG a0 a1 len1 P9 z1 a2 len2 cap2 z2 a3 W w1 w2 (Mk w3)).mono fun e W' ⟨he,Qa⟩=>?_
 have bel:=Qa.below
 subst he
 exact ⟨_,rfl,_,_,_,[],_,[],hW',trodAll_mk1 (shut_bool underlying4 _),(trodAll_cons_mk (shut_int underlying3 w0) (trodAll_cons_mk (Below.trod laidOut (by kernel_rfl) (of_decide_eq_true (by kernel_rfl)) h1 bel lt1) (trodAll_cons_mk (Below.trod laidOut (by kernel_rfl) (of_decide_eq_true (by kernel_rfl)) h2 bel lt2) (trodAll_cons_mk (shut_int underlying3 w3) trodAll_mk0)))),rfl,bel.frame _,fun h=>by cases h⟩
theorem facts:joinedFacts prog 25 Tryz.f25 Rows.causeToldSpec Rows.causeToldRow=true:=by
 delta joinedFacts
 rw [Ob,Ki,Ml]
 kernel_rfl
theorem over:Rows.causeToldRow.holds Tryz.pinned (OpenSpec.ofChange Rows.causeToldSpec) :=
 OpenClaim.holds_of_wide 25 Tryz.f25 rfl rfl rfl rfl rfl rfl rfl ⟨rfl,rfl,rfl,rfl,rfl⟩ rfl rfl rfl rfl rfl (by kernel_rfl) func25 facts
  (of_decide_eq_true (by kernel_rfl)) (by unfold Func.isWrapper;first | (rw [if_pos (by decide +kernel)];kernel_rfl) | (rw [if_neg (by decide +kernel)];exact ⟨rfl,rfl⟩))
  (fun os started H enc _=>lifted os started H enc)
end Go.Proofs.YtiiifecfdkjmbaaGreat.causeTold
namespace Go.Proofs.YtiiifecfdkjmbaaGreat
open _root_.Go.Proofs.Tryz hiding checked
set_option maxRecDepth 8000
theorem causeTold_holds:Rows.CauseToldSaid:=causeTold.over
#print axioms causeTold_holds
end Go.Proofs.YtiiifecfdkjmbaaGreat
