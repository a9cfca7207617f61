/- Lemmas. Lemmas. -/
import Derived.Test.YtediempflagfkaaGreatDoorOwnX
import Derived.Maps.RangeRun
set_option linter.unusedVariables false
set_option linter.unusedSimpArgs false
set_option linter.unnecessarySimpa false
namespace Go.Proofs.YtediempflagfkaaGreatDoor
set_option maxRecDepth 8000
open Go.RowKit Go.Shelf
structure KB (n b:Nat) (A B:World):Prop where
 below:Below n A B
 same:B.heap[b]? = A.heap[b]?
theorem KB.trans{n b:Nat}{A B C:World}(h:KB n b A B)(k:KB n b B C):KB n b A C:=⟨h.below.trans k.below,k.same.trans h.same⟩
theorem KB.iD{n b:Nat}{A B:World}(h:ak A B)(hn:n<=A.heap.size)(hb:b < A.heap.size):KB n b A B:=⟨h.below.mono hn,h.below.block b hb⟩
theorem KB.cell{n b:Nat}{A B:World}(h:KB n b A B)(o:Nat):B.cell? ⟨b,o,none⟩=A.cell? ⟨b,o,none⟩:=World.cell?_of_block h.same
def Pf(Q:Exit->Act->World->Prop):Exit->Act->World->Prop
 | .ret,a,w=>Q .ret a w
 | _,_,_=>False
theorem IJ{P:Program}{c:Code}{Q:Exit->Act->World->Prop}{a:Act}{w:World}(h:c.wp P (Pf Q) a w):c.wp P Q a w:=by
 refine wp_mono h ?_;intro e a w hq
 match e,hq with
 | .ret,hq=>exact hq
open Go.ChangeMaps (setBlock)
end Go.Proofs.YtediempflagfkaaGreatDoor
namespace Go.Proofs.YtediempflagfkaaGreatDoor
set_option maxRecDepth 8000
open Go.RowKit Go.Shelf
theorem Fr.put{A:World}{l:Nat}(o:Obj):Fr (fun k=>k=l) A (A.putObj l o):=⟨rfl,rfl,rfl,by simp,fun k _ hn=>World.putObj_heap_other hn⟩
def Si{α:Type}(P:Program)(m:Nat)(g:Nat)(lb:Array Value)(encs:α->Array Value)(b:Nat)(E:Nat->α->Prop)(N:Nat)(w:World):Prop :=
 ∀(l:Nat) (J:Nat->World->Prop) (W:World),ak w W->(∀i A B,J i A->Fr (fun k=>k=b) A B->J i B) ->
  (∀i x W1,J i W1->i < N->E i x->YieldAt Fence.wide (m - 1) P l (encs x) W1 fun e W'=>e=.returned (.bool true)/\J (i+1) W'/\KB 0 b W1 W') ->
  J 0 W ->
  CallsIn Fence.wide m P g (#[.func (.yield l) #[] #[]]++lb) W fun e W'=>∃v,e=.returned v/\J N W'
def TM(bj:Nat)(I:Nat->World->Prop)(i:Nat)(W:World):Exit->Act->World->Prop
 | .normal,_,W'=>NC W W'/\KB 0 bj W W'/\I (i+1) W'
 | _,_,_=>False
theorem Js{α:Type}{P:Program}{f0:FuncId}{fn:Func}(hf:P.funcs[f0]? = some fn){g:Operand}{ps:Array Tmp}{assign body:Code}{Q:Exit->Act->World->Prop}{a:Act}{w:World}
  {gf:Nat} {lb:Array Value} (hg:a.eval g=.func (.func gf) #[] lb) (eg:∀args w,(callFunc gf args).run P w=.ok (.enter gf args) w)
  {m:Nat} {encs:α->Array Value} {bj:Nat} {E:Nat->α->Prop} {N:Nat} (hbj:bj < w.heap.size) (hseq:Si P m gf lb encs bj E N w) (hps:∀x,(encs x).size=ps.size)
  (I:Nat->World->Prop) (hI:∀i A B,I i A->Fr (fun k=>k=bj\/k=w.heap.size+1) A B->I i B) (h0:I 0 w)
  (J7:∀(l i:Nat) (x:α) (W:World),w.heap.size+1 < W.heap.size->I i W->i < N->E i x ->
   assign.wpIn (Fence.wide.inRound l) (m - 1) P (Exit.then (fun a' W1=>ak W W1/\∀W',w.heap.size+1 < W'.heap.size->Fr (fun k=>k=w.heap.size+1) W1 W'->body.wpIn (Fence.wide.inRound l) (m - 1) P (TM bj I i W') a' W') (fun _ _ _=>False)) { tmps:=(ps.zip (encs x)).foldl (fun t (p,v)=>t.setIfInBounds p v) a.tmps,defers:=[] } W)
  (hdone:∀(D:Nat) (W:World),w.heap.size<=D->I N W->W.heap[D]? = some (.deferred (some []))->Q .normal { a with defers:={ target:=.collected D,args:=#[] }::a.defers } W) :
  wpF P f0 (Code.rangeFunc g ps assign body) Q a w:=by
 intro b k cs hro hb;obtain⟨rc,hrc⟩:∃rc:LoopState->Loop,rc=fun st=>{ state:=st,pending:=none,fn:=f0,tmps:=a.tmps,params:=ps,assign,body,defers:=w.heap.size }:=⟨_,rfl⟩;obtain⟨W1,hW1⟩:∃W1,(w.alloc (.deferred (some []))).alloc (.loop (rc .ready))=W1:=⟨_,rfl⟩;have hS1:ak w W1:=by rw[<-hW1];exact((ak.refl w).alloc _).alloc _
 have hL1:W1.heap[w.heap.size+1]? = some (.loop (rc .ready)):=by
  rw[<-hW1];have:=World.alloc_heap_new (w.alloc (.deferred (some []))) (.loop (rc .ready));rwa[World.size_alloc]at this
 have hK1:W1.heap[w.heap.size]? = some (.deferred (some [])):=by
  rw[<-hW1];exact(Below.heap_alloc _ _ _ (by simp)).trans (World.alloc_heap_new w _)
 have hsz1:w.heap.size<=W1.heap.size:=hS1.size
 have he:(Instr.enterLoop b.fn a.tmps ps assign body b.roundOf).run P w=.ok (w.heap.size+1,[{ target:=.collected w.heap.size,args:=#[] }]) W1:=by
  rw[hro,hb,<-hW1,hrc];exact run_enterLoop_outer _ _ _ _ _
 have hres:(resolve a.eval (rangeCall g (w.heap.size+1)) 0).run P W1=.ok { target:=.fn (.func gf) lb,args:=#[.func (.yield (w.heap.size+1)) #[] #[]] } W1:=by
  simp only[resolve,hg];simp[go_sem]
 have hinv:(invoke (.fn (.func gf) lb) #[.func (.yield (w.heap.size+1)) #[] #[]]).run P W1=.ok (.enter gf (#[.func (.yield (w.heap.size+1)) #[] #[]]++lb)) W1:=by simp[invoke,go_sem,eg]
 have henter:=stepR_rangeFunc (P:=P) (b:=b) (a:=a) (k:=k) (cs:=cs) (w:=w) he hres hinv
 have hcall:=hseq (w.heap.size+1)
  (fun i W=>w.heap.size<=W.heap.size/\I i W/\W.heap[w.heap.size+1]? = some (.loop (rc .ready))/\W.heap[w.heap.size]? = some (.deferred (some [])))
  W1 hS1 (fun i A B hA hS=>⟨zQ5 hA.1 hS.size,hI i A B hA.2.1 (hS.mono (fun _ _ x=>.inl x)),(hS.block _ (zQ3.1 hA.2.2.1).1 (by omega)).trans hA.2.2.1,(hS.block _ (zQ3.1 hA.2.2.2).1 (by omega)).trans hA.2.2.2⟩)
  (by
   rintro i x W ⟨hsz,hi,hl,hk⟩ hiN hx;have hlt:w.heap.size+1 < W.heap.size:=(zQ3.1 hl).1;have hy:=run_yield (P:=P) (args:=encs x) hl (by rw[hrc];exact hps x);have er:(rc .ready).fn=f0/\(rc .ready).assign=assign/\(rc .ready).body=body/\(rc .ready).params=ps/\(rc .ready).tmps=a.tmps:=by rw[hrc];exact⟨rfl,rfl,rfl,rfl,rfl⟩
   rw[er.1,er.2.1,er.2.2.1,er.2.2.2.1,er.2.2.2.2]at hy;refine⟨_,_,_,_,hy,K9 hf (wpIn_mono (J7 _ i x W hlt hi hiN hx) ?_)⟩;intro e0 a0 W0 hp0
   match e0,hp0 with
   | .normal,⟨Mt,hb0⟩ =>
   have hl0:W0.heap[w.heap.size+1]? = some (.loop (rc .ready)):=Mt.block hl;have hk0:W0.heap[w.heap.size]? = some (.deferred (some [])):=Mt.block hk;have Vw:w.heap.size+1 < W0.heap.size:=(zQ3.1 hl0).1
   have k2:KX w.heap.size none W0 (W0.putObj (w.heap.size+1) (.loop { rc .ready with state:=.busy })):=KX.put _ hl0 rfl (by omega)
   have hl2:(W0.putObj (w.heap.size+1) (.loop { rc .ready with state:=.busy })).heap[w.heap.size+1]? = some (.loop { rc .ready with state:=.busy }):=World.putObj_heap_same Vw
   have hk2:(W0.putObj (w.heap.size+1) (.loop { rc .ready with state:=.busy })).heap[w.heap.size]? = some (.deferred (some [])):=(World.putObj_heap_other (by omega)).trans hk0
   refine⟨_,run_beginRound hl0 (by rw[hrc]),wpIn_mono (hb0 _ (by simp only[World.putObj_size];omega) (Fr.put _)) ?_⟩;intro e a3 W3 hp
   match e,hp with
   | .normal,⟨hn3,hx3,hi3⟩ =>
    have hl3:=hn3 _ _ hl2 rfl;have hend:=run_endRound (P:=P) none hl3;have k4:KX w.heap.size none W3 (W3.putObj (w.heap.size+1) (.loop (rc .ready))):=KX.put _ hl3 rfl (by omega);refine⟨_,_,hend,rfl,⟨?_,hI _ _ _ hi3 (Fr.mono (B:=fun k=>k=w.heap.size+1) ?_ (fun _ _ x=>.inr x)), ?_, ?_⟩, ?_⟩
    ·have:=hx3.below.size;simp only[World.putObj_size]at this ⊢;omega
    ·exact Fr.put _
    ·rw[hrc]at hl3 ⊢;exact World.putObj_heap_same (zQ3.1 hl3).1
    ·exact(World.putObj_heap_other (by omega)).trans (hn3 _ _ hk2 rfl)
    ·refine(KB.iD Mt (by omega) (by omega)).trans (KB.trans ⟨k2.below.mono (Nat.zero_le _),World.putObj_heap_other (by omega)⟩ (hx3.trans ?_));rw[hrc]at k4 ⊢;exact⟨k4.below.mono (Nat.zero_le _),World.putObj_heap_other (by omega)⟩)
  ⟨hsz1,hI _ _ _ h0 (hS1.fr _),hL1,hK1⟩
 obtain⟨e,w3,fr,hR,hsteps,hfn,hleave⟩:=hcall.2 (b.atR { a with defers:={ target:=.collected w.heap.size,args:=#[] }::a.defers } (.inRangeFunc (w.heap.size+1)::k)::cs) (room_wide _)
 obtain⟨v,rfl,hsz,hi,hl,hk⟩:=hR
 ·have hend:=run_endLoop (P:=P) hl (by rw[hrc];simp)
  have k4:KX w.heap.size none w3 (w3.putObj (w.heap.size+1) (.loop { rc .ready with state:=.exhausted })):=KX.put _ hl rfl (by omega)
  refine⟨.normal,_,_,hdone _ _ (Nat.le_refl _) (hI _ _ _ hi ((Fr.put (.loop { rc .ready with state:=.exhausted })).mono (fun _ _ x=>.inr x))) ((World.putObj_heap_other (by omega)).trans hk), ?_⟩
  have hp0:(rc .ready).pending=none:=by rw[hrc]
  replace hend:=hend.trans (congrArg (fun p=>Result.ok p (w3.putObj (w.heap.size+1) (.loop { rc .ready with state:=.exhausted }))) hp0)
  have h9:step P (lone fr (b.atR { a with defers:={ target:=.collected w.heap.size,args:=#[] }::a.defers } (.inRangeFunc (w.heap.size+1)::k)::cs) w3)=.next (lone (b.atR { a with defers:={ target:=.collected w.heap.size,args:=#[] }::a.defers } (.endRangeFunc (w.heap.size+1)::k)) cs w3):=by
   rw[<-finish_atR_inRangeFunc (w.heap.size+1) v];exact step_leave_returned hleave
  exact .head (fenced_wide P _) henter (StepsIn.trans hsteps (.head (fenced_wide P _) h9 (.one (fenced_wide P _) (stepR_endRangeFunc hend))))
end Go.Proofs.YtediempflagfkaaGreatDoor
