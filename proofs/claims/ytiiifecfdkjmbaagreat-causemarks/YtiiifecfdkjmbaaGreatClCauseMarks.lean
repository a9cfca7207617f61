/- For every argument furlonglaw.CauseMarks returns true, and what it was handed reads as before: Mark answers just what the document says, errors too, whatever it is handed. No condition. -/
import Derived.Test.YtiiifecfdkjmbaaGreatLawCauseMarks
import Derived.Test.YtiiifecfdkjmbaaGreatAOpen
import Derived.Test.YtiiifecfdkjmbaaGreatIter
namespace Go.Proofs.YtiiifecfdkjmbaaGreat.causeMarks
open _root_.Go.Proofs.Tryz hiding checked
set_option maxRecDepth 8000
open Go.ChangeShapes Go.WideShapes Go.ChangeAt Go.RowKit
set_option linter.unusedVariables false
set_option maxRecDepth 100000 in
theorem lifted (os:Os) (started:os.Started) (H:Type) (enc:TypeId × Value->H) :
  ReturnsInHanded {} Tryz.checked os 24 .any (Rows.causeMarksSpec.pre6 enc prog Tryz.f24 Rows.causeMarksRow.domain false) (Rows.causeMarksSpec.post enc prog Tryz.f24 false true false false):=by
 refine returnsInHanded_of_change_sized (C:=Tryz.checked) own started (by kernel_rfl) func24
  (ChangeSpec.witness6 (enc:=enc) (C:=Tryz.checked) false ⟨#[],#[.int .i64 0,.slice none 0 0,.slice none 0 0],[]⟩ 8 (by kernel_rfl) (by kernel_rfl) (by kernel_rfl) (by kernel_rfl)) ?_
 intro W base args ds gs before hval0 hW hcnd hsz0 _;have hval:∀ (j:Nat) t v,Tryz.f24.params[j]? = some t->args[j]? = some v->Value.okWide prog W .any base t v:=hval0;have hsz:(DataW.weightsEach prog (Tryz.f24.params.toList++Rows.causeMarksSpec.plain.varTypes prog) (ds++gs)).all (·<=reachBytes)=true:=hsz0;have hW':=hW;obtain ⟨p,q,hA0,hV,rfl,hfz,hnd⟩:=hW;have hA:DataW.TrodAll enc prog W 0 (fun _=>true) true Tryz.f24.params.toList args.toList ds p:=hA0;rw [Tryz.params24] at hA hval hsz;obtain ⟨v0,vs0,d0,ds0,p0,q0,hargs,rfl,rfl,h0,r0⟩:=trodAll_cons hA;obtain ⟨v1,vs1,d1,ds1,p1,q1,rfl,rfl,rfl,h1,r1⟩:=trodAll_cons r0;obtain ⟨v2,vs2,d2,ds2,p2,q2,rfl,rfl,rfl,h2,r2⟩:=trodAll_cons r1;obtain ⟨rfl,rfl,rfl⟩:=trodAll_nil r2;obtain rfl:args=#[v0,v1,v2]:=by cases args;simp_all
 obtain ⟨rfl,rfl⟩:=trodVars_none hV;obtain ⟨a0,rfl,rfl,rfl,w0⟩:=open_int underlying3 (hval 0 3 v0 rfl rfl) h0;obtain ⟨a1,len1,U3,rfl⟩:=okWide_slice underlying22 (hval 1 22 v1 rfl rfl);have lt1:∀ x∈p1,x.block < W.heap.size:=by obtain ⟨m,hm⟩:=h1;exact DataW.trod_lt m _ _ _ hm
 obtain ⟨z1,w1⟩:=Di h1 (fun el sp e=>by have:=sized_slice hsz (j:=1) (t:=22) (e:=3) rfl (by rw [e];rfl) underlying22;rwa [Mi] at this);obtain ⟨a2,len2,cap2,rfl⟩:=okWide_slice underlying50 (hval 2 50 v2 rfl rfl);have lt2:∀ x∈p2,x.block < W.heap.size:=by obtain ⟨m,hm⟩:=h2;exact DataW.trod_lt m _ _ _ hm
 obtain ⟨z2,w2,c2⟩:=Dc h2 (fun el sp e=>by have:=sized_slice hsz (j:=2) (t:=50) (e:=58) rfl (by rw [e];rfl) underlying50;rwa [Ma] at this);clear hA0 hval0;refine (wI a0 a1 len1 U3 z1 a2 len2 cap2 z2 W w1 w2).mono fun e W' ⟨he,U4⟩=>?_;have bel:=U4.below;subst he;exact ⟨_,rfl,_,_,_,[],_,[],hW',trodAll_mk1 (shut_bool underlying4 _),(trodAll_cons_mk (shut_int underlying3 w0) (trodAll_cons_mk (Below.trod laidOut (by kernel_rfl) (of_decide_eq_true (by kernel_rfl)) h1 bel lt1) (trodAll_cons_mk (Below.trod laidOut (by kernel_rfl) (of_decide_eq_true (by kernel_rfl)) h2 bel lt2) trodAll_mk0))),rfl,bel.frame _,fun h=>by cases h⟩
theorem facts:joinedFacts prog 24 Tryz.f24 Rows.causeMarksSpec Rows.causeMarksRow=true:=by
 delta joinedFacts
 rw [Sr,OB,QC]
 kernel_rfl
theorem over:Rows.causeMarksRow.holds Tryz.pinned (OpenSpec.ofChange Rows.causeMarksSpec) :=
 OpenClaim.holds_of_wide 24 Tryz.f24 rfl rfl rfl rfl rfl rfl rfl ⟨rfl,rfl,rfl,rfl,rfl⟩ rfl rfl rfl rfl rfl (by kernel_rfl) func24 facts
  (of_decide_eq_true (by kernel_rfl)) (by unfold Func.isWrapper;first | (rw [if_pos (by decide +kernel)];kernel_rfl) | (rw [if_neg (by decide +kernel)];exact ⟨rfl,rfl⟩))
  (fun os started H enc _=>lifted os started H enc)
end Go.Proofs.YtiiifecfdkjmbaaGreat.causeMarks
namespace Go.Proofs.YtiiifecfdkjmbaaGreat
open _root_.Go.Proofs.Tryz hiding checked
set_option maxRecDepth 8000
theorem causeMarks_holds:Rows.CauseMarksSaid:=causeMarks.over
#print axioms causeMarks_holds
end Go.Proofs.YtiiifecfdkjmbaaGreat
