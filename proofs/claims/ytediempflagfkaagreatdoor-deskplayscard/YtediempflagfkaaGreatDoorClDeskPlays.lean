/- For every argument furlonglaw.DeskPlays returns true, and what it was handed reads as before; condition: what start-up lays stands as the program's text lays it (the card ties it). -/
import Derived.Test.YtediempflagfkaaGreatDoorLawDesk
import Derived.Test.YtediempflagfkaaGreatDoorOpen
import Derived.Test.YtediempflagfkaaGreatDoorHead
import Derived.Test.YtediempflagfkaaGreatDoorTie
import Derived.Test.YtediempflagfkaaGreatDoorCards
import Derived.LaidMore
import Derived.LaidHandle
import Derived.Stop.LaidErr
import Derived.Stop.Joined
import Derived.Lib.LaidTab
set_option linter.unusedVariables false
set_option linter.unusedSimpArgs false
set_option linter.unnecessarySimpa false
namespace Go.Proofs.YtediempflagfkaaGreatDoor.deskPlays
open _root_.Go.Proofs.Tryz hiding checked
set_option maxRecDepth 8000
open Go.ChangeShapes Go.WideShapes Go.ChangeAt Go.RowKit
theorem UA:(prog.globals[3]?).map (·.type)=some 46:=by kernel_rfl
theorem UC:(prog.globals[2]?).map (·.type)=some 46:=by kernel_rfl
theorem UD:(prog.globals[1]?).map (·.type)=some 154:=by kernel_rfl
theorem star : "*" ++ "errors.errorString" = "*errors.errorString" := by decide
theorem R5 (u : TypeId) (h : prog.typeName? 3 u = some "*errors.errorString") : u = 200 :=
 typeName_ptr_named (nm := "errors.errorString") (by rw [star]; kernel_rfl) (by kernel_rfl) (by decide) u (by rw [star]; exact h)
theorem cE:prog.cellsOf 202=1:=by kernel_rfl
theorem cS:prog.cellsOf 9=1:=by kernel_rfl
theorem IQ{W:World}(h:laidMetH prog Rows.deskPlaysRow.laid W):Tb W:=by
 rw[MakeChecks.laidMetH_plain prog Rows.deskPlaysRow.laid W (by kernel_rfl)]at h;have h2:=h.tail.tail;have h3:=h2.tail;have h4:=h3.tail;obtain⟨a3,s3,e3,_⟩:=laid_sentinel h3 Kw UA underlying46 R5 underlying200 underlying202 rfl rfl underlying9 cE cS;obtain⟨a4,s4,e4,_⟩:=laid_sentinel h4 Qi UC underlying46 R5 underlying200 underlying202 rfl rfl underlying9 cE cS;exact⟨Lib.tabIs_of_head Qj UD underlying154 underlying123 (by kernel_rfl) (by kernel_rfl) h2,⟨_,_,e4⟩,⟨_,_,e3⟩⟩
theorem Nj(os:Os)(args:Array Value):laidMetH prog Rows.deskPlaysRow.laid ((World.doorLaid prog 62 os).forCall (fun _ _=>0) ⟨#[],args,[]⟩).memory :=
 laidMetH_of_parts3 (fuel:=8) (laidMet_of_run' 8 (by kernel_rfl) (by kernel_rfl)) (by kernel_rfl) (by kernel_rfl)
set_option maxRecDepth 100000 in
theorem lifted(os:Os)(started:os.Started)(H:Type)(enc:TypeId × Value->H) :
  ReturnsInHanded {} Tryz.checked os 3 .any (fun w args=>(Rows.deskPlaysSpec.pre enc prog Tryz.f3 [] false w args/\laidMetH prog Rows.deskPlaysRow.laid w)/\sizedMet enc prog Tryz.f3 (OpenSpec.ofChange Rows.deskPlaysSpec) false w args) (Rows.deskPlaysSpec.post enc prog Tryz.f3 false true false false):=by
 refine returnsInHanded_of_change_and (C:=Tryz.checked) (X:=fun w _=>laidMetH prog Rows.deskPlaysRow.laid w) (fun _ _ _ hh h=>h.of_heap hh) own started (by kernel_rfl) func3
  (ChangeSpec.witness_shaped (enc:=enc) (C:=Tryz.checked) (os:=os) (X:=fun w _=>laidMetH prog Rows.deskPlaysRow.laid w) false (World.doorLaid prog 62 os) #[.int .i64 0,.slice none 0 0,.string ByteArray.empty] 8 rfl (World.shaped_of_RefB (by kernel_rfl) (by kernel_rfl)) (by kernel_rfl) (by kernel_rfl) (by kernel_rfl) (Nj os _)) ?_
 intro W base args ds gs before hval0 hW hcnd hsz0 hL _;have hval:∀(j:Nat) t v,Tryz.f3.params[j]? = some t->args[j]? = some v->Value.okWide prog W .any base t v:=hval0;have hsz:(DataW.weightsEach prog (Tryz.f3.params.toList++Rows.deskPlaysSpec.plain.varTypes prog) (ds++gs)).all (·<=reachBytes)=true:=hsz0;have hW':=hW;obtain⟨p,q,hA0,hV,rfl,hfz,hnd⟩:=hW;have hA:DataW.TrodAll enc prog W 0 (fun _=>true) true Tryz.f3.params.toList args.toList ds p:=hA0;rw[Tryz.params3]at hA hval hsz;obtain⟨v0,vs0,d0,ds0,p0,q0,hargs,rfl,rfl,h0,r0⟩:=trodAll_cons hA;obtain⟨v1,vs1,d1,ds1,p1,q1,rfl,rfl,rfl,h1,r1⟩:=trodAll_cons r0;obtain⟨v2,vs2,d2,ds2,p2,q2,rfl,rfl,rfl,h2,r2⟩:=trodAll_cons r1;obtain⟨rfl,rfl,rfl⟩:=trodAll_nil r2;obtain rfl:args=#[v0,v1,v2]:=by cases args;simp_all
 obtain⟨rfl,rfl⟩:=trodVars_none hV;obtain⟨a0,rfl,rfl,rfl,w0⟩:=open_int underlying3 (hval 0 3 v0 rfl rfl) h0;obtain⟨a1,len1,UE,rfl⟩:=okWide_slice underlying22 (hval 1 22 v1 rfl rfl);have lt1:∀x∈p1,x.block < W.heap.size:=by obtain⟨m,hm⟩:=h1;exact DataW.trod_lt m _ _ _ hm
 obtain⟨z1,w1⟩:=Ed h1 (fun el sp e=>by have:=sized_slice hsz (j:=1) (t:=22) (e:=3) rfl (by rw[e];rfl) underlying22;rwa[Nk]at this);obtain⟨s2,rfl,ed2,ep2,hm2⟩:=ChangeMaps.open_string underlying9 (hval 2 9 v2 rfl rfl) h2
 have hz2:s2.size<=140737488355328:=by
  have k:=sized_string hsz (j:=2) (t:=9) (bytes:=s2.data.toList) rfl (by rw[ed2];rfl);rw[Array.length_toList]at k;have k2:=reachBytes_lt;have k3:s2.size=s2.data.size:=rfl;omega
 have lt2:∀x∈p2,x.block < W.heap.size:=by obtain⟨m,hm⟩:=h2;exact DataW.trod_lt m _ _ _ hm
 clear hA0 hval0;refine(FL a0 a1 len1 UE z1 s2 W w1 hz2 (IQ hL)).mono fun e W' ⟨he,UF⟩=>?_;have bel:=UF.below;subst he;exact⟨_,rfl,_,_,_,[],_,[],hW',trodAll_mk1 (shut_bool underlying4 _),(trodAll_cons_mk (shut_int underlying3 w0) (trodAll_cons_mk (Below.trod laidOut (by kernel_rfl) (of_decide_eq_true (by kernel_rfl)) h1 bel lt1) (trodAll_cons_mk (Below.trod laidOut (by kernel_rfl) (of_decide_eq_true (by kernel_rfl)) h2 bel lt2) trodAll_mk0))),rfl,bel.frame _,fun h=>by cases h⟩
theorem facts:joinedFacts prog 3 Tryz.f3 Rows.deskPlaysSpec Rows.deskPlaysRow=true:=by
 delta joinedFacts
 rw[R6,Pm,QH]
 kernel_rfl
theorem over:Rows.deskPlaysRow.holds Tryz.pinned (OpenSpec.ofChange Rows.deskPlaysSpec) :=
 OpenClaim.holds_of_wide 3 Tryz.f3 rfl rfl rfl rfl rfl rfl rfl ⟨rfl,rfl,rfl,rfl,rfl⟩ rfl rfl rfl rfl rfl (by kernel_rfl) func3 facts
  (of_decide_eq_true (by kernel_rfl)) (by unfold Func.isWrapper;first | (rw[if_pos (by decide +kernel)];kernel_rfl) | (rw[if_neg (by decide +kernel)];exact⟨rfl,rfl⟩))
  (fun os started H enc _=>lifted os started H enc)
end Go.Proofs.YtediempflagfkaaGreatDoor.deskPlays
namespace Go.Proofs.YtediempflagfkaaGreatDoor
open _root_.Go.Proofs.Tryz hiding checked
set_option maxRecDepth 8000
theorem Cq:Rows.DeskPlaysSaid:=deskPlays.over
theorem deskPlaysCard_holds:Rows.DeskPlaysCardSaid :=
 Claim7.holds_tied_plain_at .later [] [.data, .data, .data, .sentinel, .sentinel] true (true, "a36a7b71cfaf23910e759581fa1c742dbb1c9094f9c212da18236f72d010d67a") true
  Cq (fun _ h=>by cases h) (by kernel_rfl) (fun _ h=>by cases h) deskPlays_row_tie rfl ⟨rfl,rfl⟩ (by kernel_rfl) rfl
  (fun f fn hf hfn=>by
   obtain rfl : f = 3 := Option.some.inj ((show prog.funcNamed "furlong/furlonglaw.DeskPlays" = some 3 by kernel_rfl).symm.trans hf) |>.symm
   obtain rfl:fn=Tryz.f3:=(Option.some.inj (func3.symm.trans hfn)).symm
   exact⟨by kernel_rfl,fun j t ht=>by
    rw[Tryz.params3]at ht;have hm:t∈[3,22,9]:=by simpa using Array.mem_of_getElem? ht
    have hall:([3,22,9].all fun u=>!prog.wantsStandIn u)=true:=by kernel_rfl
    exact(show prog.wantsStandIn t=false by simpa using List.all_eq_true.1 hall t hm)⟩)
  (by kernel_rfl)
#print axioms deskPlaysCard_holds
end Go.Proofs.YtediempflagfkaaGreatDoor
