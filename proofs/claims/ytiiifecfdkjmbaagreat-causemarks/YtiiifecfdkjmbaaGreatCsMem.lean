/- Lemmas. Lemmas. -/
import Derived.Test.YtiiifecfdkjmbaaGreatOwnX
import Derived.Maps.RangeRun
import Derived.Test.YtiiifecfdkjmbaaGreatSOwnX
import Derived.Test.YtiiifecfdkjmbaaGreatPureY
namespace Go.Proofs.YtiiifecfdkjmbaaGreat
open _root_.Go.Proofs.Tryz hiding checked
set_option maxRecDepth 8000
open Go.RowKit Go.Shelf
structure KB (n b:Nat) (A B:World):Prop where
 below:Below n A B
 same:B.heap[b]? = A.heap[b]?
theorem KB.refl (n b:Nat) (A:World):KB n b A A:=⟨Below.refl _ _,rfl⟩
theorem KB.trans {n b:Nat} {A B C:World} (h:KB n b A B) (k:KB n b B C):KB n b A C:=⟨h.below.trans k.below,k.same.trans h.same⟩
theorem KB.dR {n b:Nat} {A B:World} (h:Since A B) (hn:n<=A.heap.size) (hb:b < A.heap.size):KB n b A B:=⟨h.below.mono hn,h.below.block b hb⟩
theorem KB.cell {n b:Nat} {A B:World} (h:KB n b A B) (o:Nat):B.cell? ⟨b,o,none⟩=A.cell? ⟨b,o,none⟩:=World.cell?_of_block h.same
def NCa (n:Nat) (A B:World):Prop:=∀ (k:Nat) (o:Obj),n<=k->A.heap[k]? = some o->o.isCells=false->B.heap[k]? = some o
theorem NCa.refl (n:Nat) (A:World):NCa n A A:=fun _ _ _ h _=>h
theorem NCa.trans {n:Nat} {A B C:World} (h:NCa n A B) (k:NCa n B C):NCa n A C:=fun i o hi ho hc=>k i o hi (h i o hi ho hc) hc
theorem NCa.dR {n:Nat} {A B:World} (h:Since A B):NCa n A B:=fun _ _ _ hk _=>h.block hk
structure KH (n0 bj base:Nat) (A B:World):Prop where
 kb:KB n0 bj A B
 nc:NCa base A B
theorem KH.refl (n0 bj base:Nat) (A:World):KH n0 bj base A A:=⟨KB.refl _ _ _,NCa.refl _ _⟩
theorem KH.trans {n0 bj base:Nat} {A B C:World} (h:KH n0 bj base A B) (k:KH n0 bj base B C):KH n0 bj base A C:=⟨h.kb.trans k.kb,h.nc.trans k.nc⟩
theorem KH.dR {n0 bj base:Nat} {A B:World} (h:Since A B) (hn:n0<=A.heap.size) (hb:bj < A.heap.size):KH n0 bj base A B:=⟨KB.dR h hn hb,NCa.dR h⟩
def mI:Obj->Bool
 | .map _ _=>true
 | o=>o.isCells
theorem EI {o:Obj} (h:o.isCells=true):mI o=true:=by cases o <;> simp_all [mI,Obj.isCells]
structure KM (n:Nat) (A B:World):Prop where
 below:Below n A B
 keep:∀ (k:Nat) (o:Obj),A.heap[k]? = some o->mI o=true->B.heap[k]? = some o
theorem KM.dR {n:Nat} {A B:World} (h:Since A B) (hn:n<=A.heap.size):KM n A B:=⟨h.below.mono hn,fun _ _ hk _=>h.block hk⟩
theorem KM.put {n:Nat} {A:World} {l:Nat} {o:Obj} (o':Obj) (hl:A.heap[l]? = some o) (ho:mI o=false) (hn:n<=l):KM n A (A.putObj l o'):=by
 refine ⟨⟨rfl,rfl,rfl,by simp,fun k hk=>World.putObj_heap_other (by omega)⟩,fun k o1 hk hc=>?_⟩;by_cases e:k=l
 ·subst e;rw [hl] at hk;obtain rfl:=Option.some.inj hk;rw [ho] at hc;cases hc
 ·exact (World.putObj_heap_other e).trans hk
theorem KM.weak {n m:Nat} {A B:World} (h:KM n A B) (hm:m<=n):KM m A B:=⟨h.below.mono hm,h.keep⟩
theorem KM.kx {n:Nat} {A B:World} (h:KM n A B):KX n none A B:=⟨h.below,fun k o hk hc _=>h.keep k o hk (EI hc)⟩
theorem KM.cell {n:Nat} {A B:World} (h:KM n A B) {p:Addr} {v:Value} (hc:A.cell? p=some v):B.cell? p=some v:=h.kx.cell hc (by simp)
theorem KM.fr {n:Nat} {A B:World} (h:KM n A B):Fr (fun i=>¬ i < n/\∀ o,A.heap[i]? = some o->mI o=false) A B:=by
 refine ⟨h.below.os,h.below.tape,h.below.output,h.below.size,fun i hi hB=>?_⟩;by_cases hn:i < n
 ·exact h.below.block i hn
 ·obtain ⟨o,ho⟩:∃ o,A.heap[i]? = some o:=⟨_,Array.getElem?_eq_getElem hi⟩;cases hk:mI o
  ·exact absurd ⟨hn,fun o' ho'=>by rw [ho] at ho';obtain rfl:=Option.some.inj ho';exact hk⟩ hB
  ·rw [ho];exact h.keep i o ho hk
def Qy {α:Type} (P:Program) (m:Nat) (g:Nat) (lb:Array Value) (encs:α->Array Value) (Kp:World->World->Prop) (R:List α->α->Prop) (Fin:List α->Prop) (w:World):Prop :=
 ∀ (l:Nat) (J:List α->World->Prop) (Jp:List PanicEntry->World->Prop) (W:World),Since w W->(∀ h A B,J h A->KM W.heap.size A B->J h B) ->
  (∀ h x W1,J h W1->R h x->YieldAt Fence.wide (m - 1) P l (encs x) W1 fun e W' =>
   (e=.returned (.bool true)/\J (h++[x]) W'/\Kp W1 W')\/(∃ ch,e=.panicked ch/\Jp ch W')) ->
  J [] W ->
  CallsIn Fence.wide m P g (#[.func (.yield l) #[] #[]]++lb) W fun e W'=>(∃ v h,e=.returned v/\Fin h/\J h W')\/(∃ ch,e=.panicked ch/\Jp ch W')
def Qz {α:Type} (n0 bj base:Nat) (I:List α->World->Prop) (Ip:List PanicEntry->World->Prop) (h:List α) (W:World):Exit->Act->World->Prop
 | .normal,_,W'=>KH n0 bj base W W'/\I h W'
 | .panic ch,a,W'=>a.defers=[]/\NCa base W W'/\Ip ch W'
 | _,_,_=>False
theorem G9 {α:Type} {P:Program} {f0:FuncId} {fn:Func} (hf:P.funcs[f0]? = some fn) {g:Operand} {ps:Array Tmp} {assign body:Code} {Q:Exit->Act->World->Prop} {a:Act} {w:World}
  {gf:Nat} {lb:Array Value} (hg:a.eval g=.func (.func gf) #[] lb) (eg:∀ args w,(callFunc gf args).run P w=.ok (.enter gf args) w)
  {m:Nat} {encs:α->Array Value} {n0 bj:Nat} {R:List α->α->Prop} {Fin:List α->Prop} (hn0:n0<=w.heap.size) (hbj:bj < w.heap.size) (hseq:Qy P m gf lb encs (KH n0 bj w.heap.size) R Fin w) (hps:∀ x,(encs x).size=ps.size)
  (I:List α->World->Prop) (Ip:List PanicEntry->World->Prop) (hI:∀ h A B,I h A->KM w.heap.size A B->I h B) (h0:I [] w)
  (He:∀ (l:Nat) (h:List α) (x:α) (W:World),w.heap.size<=W.heap.size->I h W->R h x ->
   assign.wpIn (Fence.wide.inRound l) (m - 1) P (Exit.then (fun a' W1=>Since W W1/\∀ W',w.heap.size<=W'.heap.size->KM w.heap.size W1 W'->body.wpIn (Fence.wide.inRound l) (m - 1) P (Qz n0 bj w.heap.size I Ip (h++[x]) W') a' W') (fun _ _ _=>False)) { tmps:=(ps.zip (encs x)).foldl (fun t (p,v)=>t.setIfInBounds p v) a.tmps,defers:=[] } W)
  (hdone:∀ (D:Nat) (h:List α) (W:World),w.heap.size<=D->Fin h->I h W->W.heap[D]? = some (.deferred (some []))->Q .normal { a with defers:={ target:=.collected D,args:=#[] }::a.defers } W)
  (QA:∀ (D:Nat) (ch:List PanicEntry) (W:World),w.heap.size<=D->Ip ch W->W.heap[D]? = some (.deferred (some []))->Q (.panic ch) { a with defers:={ target:=.collected D,args:=#[] }::a.defers } W) :
  wpF P f0 (Code.rangeFunc g ps assign body) Q a w:=by
 intro b k cs hro hb;obtain ⟨rc,hrc⟩:∃ rc:LoopState->Loop,rc=fun st=>{ state:=st,pending:=none,fn:=f0,tmps:=a.tmps,params:=ps,assign,body,defers:=w.heap.size }:=⟨_,rfl⟩;obtain ⟨W1,hW1⟩:∃ W1,(w.alloc (.deferred (some []))).alloc (.loop (rc .ready))=W1:=⟨_,rfl⟩;have hS1:Since w W1:=by rw [<-hW1];exact ((Since.refl w).alloc _).alloc _
 have hL1:W1.heap[w.heap.size+1]? = some (.loop (rc .ready)):=by
  rw [<-hW1];have:=World.alloc_heap_new (w.alloc (.deferred (some []))) (.loop (rc .ready));rwa [World.size_alloc] at this
 have hK1:W1.heap[w.heap.size]? = some (.deferred (some [])):=by
  rw [<-hW1];exact (Below.heap_alloc _ _ _ (by simp)).trans (World.alloc_heap_new w _)
 have hsz1:w.heap.size<=W1.heap.size:=hS1.size
 have he:(Instr.enterLoop b.fn a.tmps ps assign body b.roundOf).run P w=.ok (w.heap.size+1,[{ target:=.collected w.heap.size,args:=#[] }]) W1:=by
  rw [hro,hb,<-hW1,hrc];exact run_enterLoop_outer _ _ _ _ _
 have hres:(resolve a.eval (rangeCall g (w.heap.size+1)) 0).run P W1=.ok { target:=.fn (.func gf) lb,args:=#[.func (.yield (w.heap.size+1)) #[] #[]] } W1:=by
  simp only [resolve,hg];simp [go_sem]
 have hinv:(invoke (.fn (.func gf) lb) #[.func (.yield (w.heap.size+1)) #[] #[]]).run P W1=.ok (.enter gf (#[.func (.yield (w.heap.size+1)) #[] #[]]++lb)) W1:=by simp [invoke,go_sem,eg]
 have henter:=stepR_rangeFunc (P:=P) (b:=b) (a:=a) (k:=k) (cs:=cs) (w:=w) he hres hinv
 have hcall:=hseq (w.heap.size+1)
  (fun h W=>w.heap.size<=W.heap.size/\I h W/\W.heap[w.heap.size+1]? = some (.loop (rc .ready))/\W.heap[w.heap.size]? = some (.deferred (some [])))
  (fun ch W=>Ip ch W/\W.heap[w.heap.size]? = some (.deferred (some [])))
  W1 hS1 (fun h A B hA hS=>⟨zQ5 hA.1 hS.below.size,hI h A B hA.2.1 (hS.weak hsz1),(hS.below.block _ (by have:=(zQ3.1 hL1).1;omega)).trans hA.2.2.1,(hS.below.block _ (by have:=(zQ3.1 hL1).1;omega)).trans hA.2.2.2⟩)
  (by
   rintro h x W ⟨hsz,hi,hl,hk⟩ hx;have hlt:w.heap.size+1 < W.heap.size:=(zQ3.1 hl).1;have hy:=run_yield (P:=P) (args:=encs x) hl (by rw [hrc];exact hps x);have er:(rc .ready).fn=f0/\(rc .ready).assign=assign/\(rc .ready).body=body/\(rc .ready).params=ps/\(rc .ready).tmps=a.tmps:=by rw [hrc];exact ⟨rfl,rfl,rfl,rfl,rfl⟩
   rw [er.1,er.2.1,er.2.2.1,er.2.2.2.1,er.2.2.2.2] at hy;refine ⟨_,_,_,_,hy,Jz hf (wpIn_mono (He _ h x W hsz hi hx) ?_)⟩;intro e0 a0 W0 hp0
   match e0,hp0 with
   | .normal,⟨Hf,hb0⟩ =>
   have hl0:W0.heap[w.heap.size+1]? = some (.loop (rc .ready)):=Hf.block hl;have hk0:W0.heap[w.heap.size]? = some (.deferred (some [])):=Hf.block hk;have U1:w.heap.size+1 < W0.heap.size:=(zQ3.1 hl0).1
   have k2:KM w.heap.size W0 (W0.putObj (w.heap.size+1) (.loop { rc .ready with state:=.busy })):=KM.put _ hl0 rfl (by omega)
   have hl2:(W0.putObj (w.heap.size+1) (.loop { rc .ready with state:=.busy })).heap[w.heap.size+1]? = some (.loop { rc .ready with state:=.busy }):=World.putObj_heap_same U1
   have hk2:(W0.putObj (w.heap.size+1) (.loop { rc .ready with state:=.busy })).heap[w.heap.size]? = some (.deferred (some [])):=(World.putObj_heap_other (by omega)).trans hk0
   refine ⟨_,run_beginRound hl0 (by rw [hrc]),wpIn_mono (hb0 _ (by simp only [World.putObj_size];omega) k2) ?_⟩;intro e a3 W3 hp
   match e,hp with
   | .normal,⟨⟨hx3,hn3⟩,hi3⟩ =>
    have hl3:=hn3 _ _ (by omega) hl2 rfl;have hend:=run_endRound (P:=P) none hl3;have k4:KM w.heap.size W3 (W3.putObj (w.heap.size+1) (.loop (rc .ready))):=KM.put _ hl3 rfl (by omega);refine ⟨_,_,hend,.inl ⟨rfl,⟨?_,hI _ _ _ hi3 ?_, ?_, ?_⟩, ?_⟩⟩
    ·have:=hx3.below.size;simp only [World.putObj_size] at this ⊢;omega
    ·rw [hrc] at k4 ⊢;exact k4
    ·rw [hrc] at hl3 ⊢;exact World.putObj_heap_same (zQ3.1 hl3).1
    ·exact (World.putObj_heap_other (by omega)).trans (hn3 _ _ (by omega) hk2 rfl)
    ·constructor
     ·refine (KB.dR Hf (by omega) (by omega)).trans (KB.trans ⟨k2.below.mono hn0,World.putObj_heap_other (by omega)⟩ (hx3.trans ?_));rw [hrc] at k4 ⊢;exact ⟨k4.below.mono hn0,World.putObj_heap_other (by omega)⟩
     ·intro j o hj ho hc;have ho0:=Hf.block ho;by_cases hjl:j=w.heap.size+1
      ·subst hjl;rw [hl0] at ho0;obtain rfl:=Option.some.inj ho0;rw [hrc] at hl3 ⊢;exact World.putObj_heap_same (zQ3.1 hl3).1
      ·exact (World.putObj_heap_other hjl).trans (hn3 j _ hj ((World.putObj_heap_other hjl).trans ho0) hc)
   | .panic ch,⟨hd,hn3,hp3⟩=>exact ⟨hd,.inr ⟨ch,rfl,hp3,hn3 _ _ (by omega) hk2 rfl⟩⟩)
  ⟨hsz1,hI _ _ _ h0 (KM.dR hS1 (Nat.le_refl _)),hL1,hK1⟩
 obtain ⟨e,w3,fr,hR,hsteps,hfn,hleave⟩:=hcall.2 (b.atR { a with defers:={ target:=.collected w.heap.size,args:=#[] }::a.defers } (.inRangeFunc (w.heap.size+1)::k)::cs) (room_wide _)
 rcases hR with ⟨v,hh,rfl,hfin,hsz,hi,hl,hk⟩ | ⟨ch,rfl,hi,hk⟩
 ·have hend:=run_endLoop (P:=P) hl (by rw [hrc];simp)
  have k4:KM w.heap.size w3 (w3.putObj (w.heap.size+1) (.loop { rc .ready with state:=.exhausted })):=KM.put _ hl rfl (by omega)
  refine ⟨.normal,_,_,hdone _ _ _ (Nat.le_refl _) hfin (hI _ _ _ hi k4) ((World.putObj_heap_other (by omega)).trans hk), ?_⟩;have hp0:(rc .ready).pending=none:=by rw [hrc]
  replace hend:=hend.trans (congrArg (fun p=>Result.ok p (w3.putObj (w.heap.size+1) (.loop { rc .ready with state:=.exhausted }))) hp0)
  have h9:step P (lone fr (b.atR { a with defers:={ target:=.collected w.heap.size,args:=#[] }::a.defers } (.inRangeFunc (w.heap.size+1)::k)::cs) w3)=.next (lone (b.atR { a with defers:={ target:=.collected w.heap.size,args:=#[] }::a.defers } (.endRangeFunc (w.heap.size+1)::k)) cs w3):=by
   rw [<-finish_atR_inRangeFunc (w.heap.size+1) v];exact step_leave_returned hleave
  exact .head (fenced_wide P _) henter (StepsIn.trans hsteps (.head (fenced_wide P _) h9 (.one (fenced_wide P _) (stepR_endRangeFunc hend))))
 ·refine ⟨.panic ch,_,w3,QA _ _ _ (Nat.le_refl _) hi hk,.inRangeFunc (w.heap.size+1)::k,.head (fenced_wide P _) henter (StepsIn.trans hsteps (.one (fenced_wide P _) ?_))⟩;rw [<-Frame.raise_atR];exact step_leave_panicked hleave
def Ov (Q:Exit->Act->World->Prop):Exit->Act->World->Prop
 | .ret,a,w=>Q .ret a w
 | _,_,_=>False
theorem Hg {P:Program} {c:Code} {Q:Exit->Act->World->Prop} {a:Act} {w:World} (h:c.wp P (Ov Q) a w):c.wp P Q a w:=by
 refine wp_mono h ?_;intro e a w hq
 match e,hq with
 | .ret,hq=>exact hq
open Go.ChangeMaps (setBlock)
set_option linter.unusedVariables false
set_option linter.unusedSimpArgs false
def mgV (m:Mg):Value:=.agg #[.int .i64 m.fr,.int .i64 m.gr,.int .i64 m.st,.bool m.nul,.string m.body]
theorem uJ (a b:Mg) (w:World):(Op.equal 42 (mgV a) (mgV b)).run prog w=.ok (eU a b) w:=by
 show (Op.equalIn 10000 42 (mgV a) (mgV b)).run prog w=.ok (eU a b) w;obtain ⟨af,ag,at1,an,ab⟩:=a;obtain ⟨bf,bg,bt,bn,bb⟩:=b;simp only [eU,mgV]
 by_cases h1:af=bf <;> by_cases h2:ag=bg <;> by_cases h3:at1=bt <;> by_cases h4:an=bn <;> by_cases h5:ab.toList=bb.toList <;>
  simp [go_sem,underlying42,h1,h2,h3,h4,h5,beq_toListBytes]
theorem kU (em:Bool) (n:Nat) (t:TypeId) (v:Value) (w:World) (h:(∃ k,prog.underlying t=some (.int k))\/prog.underlying t=some .bool\/prog.underlying t=some .string):(Instr.checkKey em (n+1) t v).run prog w=.ok () w:=by
 unfold Instr.checkKey
 rcases h with ⟨k,h⟩ | h | h <;> simp [run_underlying h]
theorem xS (em:Bool) (n:Nat) (m:Mg) (w:World):(Instr.checkKey em (n+1+1) 42 (mgV m)).run prog w=.ok () w:=by
 unfold Instr.checkKey;have hi:∀ (v:Value) (w:World),(Instr.checkKey em (n+1) 3 v).run prog w=.ok () w:=fun v w=>kU em n _ v w (.inl ⟨.i64,underlying3⟩);have hb:∀ (v:Value) (w:World),(Instr.checkKey em (n+1) 4 v).run prog w=.ok () w:=fun v w=>kU em n _ v w (.inr (.inl underlying4));have hs:∀ (v:Value) (w:World),(Instr.checkKey em (n+1) 9 v).run prog w=.ok () w:=fun v w=>kU em n _ v w (.inr (.inr underlying9));simp [mgV,run_underlying underlying42,hi,hb,hs,go_sem]
theorem jJ (em:Bool) (m:Mg) (w:World):(Instr.checkKey em 10000 42 (mgV m)).run prog w=.ok () w:=xS em 9998 m w
def iD:Nat->List Mg->List MapEntry
 | _,[]=>[]
 | k,m::r=>⟨mgV m,.agg #[],k⟩::iD (k+1) r
def ents (ms:List Mg):Array MapEntry:=(iD 0 ms).toArray
theorem wm:∀ (ms:List Mg) (k i:Nat),(iD k ms)[i]? = (ms[i]?).map fun m=>⟨mgV m,.agg #[],k+i⟩
 | [],_,_=>by simp [iD]
 | m::r,k,0=>by simp [iD]
 | m::r,k,i+1=>by
  simp only [iD,List.getElem?_cons_succ,wm r (k+1) i];rw [show k+1+i=k+(i+1) from by omega]
theorem uK:∀ (ms:List Mg) (k:Nat) (m:Mg),iD k (ms++[m])=iD k ms++[⟨mgV m,.agg #[],k+ms.length⟩]
 | [],k,m=>by simp [iD]
 | x::r,k,m=>by
  simp only [List.cons_append,iD,uK r (k+1) m,List.length_cons];rw [show k+1+r.length=k+(r.length+1) from by omega]
theorem Kg (ms:List Mg) (m:Mg):ents (ms++[m])=(ents ms).push ⟨mgV m,.agg #[],ms.length⟩:=by
 unfold ents;rw [uK,Nat.zero_add];simp
theorem wD (ms:List Mg) (i:Nat):(ents ms)[i]? = (ms[i]?).map fun m=>⟨mgV m,.agg #[],i⟩:=by
 unfold ents;rw [List.getElem?_toArray,wm,Nat.zero_add]
theorem qI (m:Mg):eU m m=true:=(dV m m).2 rfl
theorem rJ (m:Mg):∀ (ms:List Mg) (k i:Nat) (w:World),
  (m∉ms/\(Instr.findAsking 42 (mgV m) (iD k ms) i).run prog w=.ok none w)\/∃ j,ms[j]? = some m/\(Instr.findAsking 42 (mgV m) (iD k ms) i).run prog w=.ok (some (i+j,.agg #[])) w
 | [],k,i,w=>.inl ⟨by simp,rfl⟩
 | x::r,k,i,w=>by
  unfold iD Instr.findAsking;simp only [Sem.run_bind,uJ];by_cases h:m=x
  ·subst h
   right
   refine ⟨0,rfl, ?_⟩;rw [qI];rfl
  ·have hs:eU m x=false:=by rw [<-Bool.not_eq_true,dV];exact h
   rcases rJ m r (k+1) (i+1) w with ⟨h1,h2⟩ | ⟨j,h1,h2⟩
   ·left
    refine ⟨by simp [h,h1], ?_⟩;rw [hs];exact h2
   ·right
    refine ⟨j+1,by simpa using h1, ?_⟩;rw [hs,show i+(j+1)=i+1+j from by omega];exact h2
theorem rC (m:Mg) (ms:List Mg) (w:World) :
  (m∉ms/\(Instr.findKey 42 (mgV m) (ents ms).toList).run prog w=.ok none w)\/∃ j,ms[j]? = some m/\(Instr.findKey 42 (mgV m) (ents ms).toList).run prog w=.ok (some (j,.agg #[])) w:=by
 unfold Instr.findKey ents;simp only [Sem.run_bind,run_underlying underlying42,Result.andThen_ok]
 cases ms with
 | nil=>exact .inl ⟨by simp,rfl⟩
 | cons x r =>
  have hn:∀ fs,Instr.findNow (.struct fs) (mgV m) (iD 0 (x::r)) 0=none:=fun fs=>rfl;rw [hn];have:=rJ m (x::r) 0 0 w;simp only [Nat.zero_add] at this;exact this
theorem BF (m:Mg) (w:World):(Instr.keyThatStays (mgV m) (mgV m)).run prog w=.ok (mgV m) w:=by
 have h:Instr.sameBits 10000 (mgV m) (mgV m)=true:=by
  show Instr.sameBits (9999+1) (mgV m) (mgV m)=true;unfold Instr.sameBits mgV;simp [Instr.sameBits,beq_toListBytes]
 unfold Instr.keyThatStays;rw [h];rfl
def iN (w:World) (r:Nat) (ms:List Mg):Prop:=w.heap[r]? = some (.map (ents ms) ms.length)
def gP (ms:List Mg) (m:Mg):List Mg:=if ms.any (eU m) then ms else ms++[m]
theorem nK (ms:List Mg) (m:Mg):ms.any (eU m)=true↔m∈ms:=by
 rw [List.any_eq_true];constructor
 ·rintro ⟨x,hx,h⟩;rw [(dV m x).1 h];exact hx
 ·intro h;exact ⟨m,h,qI m⟩
theorem run_setObj_map {w:World} {r:Nat} {es:Array MapEntry} {c:Nat} (hr:w.heap[r]? = some (.map es c)) (o':Obj):(setObj r o').run prog w=.ok () (w.putObj r o'):=by
 simp [setObj,Sem.run,hr,World.putObj]
theorem EJ {es:Array MapEntry} {j:Nat} {e:MapEntry} (h:es[j]? = some e):(es.modify j fun x=>{ x with key:=e.key,val:=e.val })=es:=by
 refine Array.ext_getElem? fun i=>?_;rw [Array.getElem?_modify];split
 ·rename_i hij;subst hij;rw [h];rfl
 ·rfl
theorem wG {w:World} {r:Nat} {ms:List Mg} {T:TypeId} {E:TypeId} (hT:prog.underlying T=some (.map 42 E)) (h:iN w r ms) (m:Mg) :
  (Instr.mapUpdate T (.map (some r)) (mgV m) (.agg #[])).run prog w=.ok () (w.putObj r (.map (ents (gP ms m)) (gP ms m).length)):=by
 have hg:(getObj r).run prog w=.ok (.map (ents ms) ms.length) w:=by unfold iN at h;simp [getObj,Sem.run,h]
 unfold Instr.mapUpdate;simp only [Sem.run_bind,run_underlying hT,Result.andThen_ok,hg,jJ];rcases rC m ms w with ⟨h1,h2⟩ | ⟨j,h1,h2⟩
 ·have ha:gP ms m=ms++[m]:=by
   unfold gP;rw [if_neg (by rw [nK];exact h1)]
  rw [h2,ha];simp only [Result.andThen_ok];rw [run_setObj_map h,Kg,List.length_append];rfl
 ·have ha:gP ms m=ms:=by
   unfold gP;rw [if_pos (by rw [nK];exact List.mem_of_getElem? h1)]
  have he:(ents ms)[j]? = some ⟨mgV m,.agg #[],j⟩:=by rw [wD,h1];rfl
  rw [h2,ha];simp only [Result.andThen_ok,he,Option.map_some,Option.getD_some,Sem.run_bind,BF];rw [run_setObj_map h];have:=EJ he;dsimp only at this;rw [this]
theorem Cg {w:World} {r:Nat} {ms ms':List Mg} (h:iN w r ms):iN (w.putObj r (.map (ents ms') ms'.length)) r ms' :=
 World.putObj_heap_same (zQ3.1 h).1
theorem zx {w:World} {r:Nat} {ms:List Mg} {T:TypeId} (E:TypeId) (hT:prog.underlying T=some (.map 42 E)) (hz:(zeroValue E).run prog w=.ok (.agg #[]) w) (h:iN w r ms) (m:Mg) :
  (Instr.lookup T (.map (some r)) (mgV m) true).run prog w=.ok (.tuple #[.agg #[],.bool (ms.any (eU m))]) w:=by
 have hg:(getObj r).run prog w=.ok (.map (ents ms) ms.length) w:=by unfold iN at h;simp [getObj,Sem.run,h]
 unfold Instr.lookup;simp only [Sem.run_bind,run_underlying hT,Result.andThen_ok,hg,jJ,Sem.run_pure];rcases rC m ms w with ⟨h1,h2⟩ | ⟨j,h1,h2⟩
 ·have ha:ms.any (eU m)=false:=by rw [<-Bool.not_eq_true,nK];exact h1
  rw [h2,ha];simp only [Result.andThen_ok,Sem.run_bind,hz,Sem.run_pure];rfl
 ·have ha:ms.any (eU m)=true:=by rw [nK];exact List.mem_of_getElem? h1
  rw [h2,ha];simp only [Result.andThen_ok,Sem.run_bind,Sem.run_pure];rfl
theorem mJ (w:World) (r:Nat) (o:Obj):setBlock w r o=w.putObj r o:=rfl
def pq (ms:List Mg) (seen:Array Nat):List Mg:=seen.toList.filterMap fun i=>ms[i]?
theorem EK {ms:List Mg} {e:MapEntry} (h:e∈(ents ms).toList):∃ i m,ms[i]? = some m/\e=⟨mgV m,.agg #[],i⟩:=by
 obtain ⟨i,hi⟩:=List.mem_iff_getElem?.1 h;rw [Array.getElem?_toList,wD] at hi
 cases hm:ms[i]? with
 | none=>rw [hm] at hi;cases hi
 | some m=>rw [hm] at hi;exact ⟨i,m,hm,(Option.some.inj hi).symm⟩
theorem Kh (ms:List Mg):(ents ms).toList.map (·.born)=List.range ms.length:=by
 refine List.ext_getElem? fun i=>?_;rw [List.getElem?_map,Array.getElem?_toList,wD];by_cases h:i < ms.length
 ·rw [zQ1 h];simp [h]
 ·rw [List.getElem?_eq_none (by omega)];simp [h]
theorem Me (ms:List Mg):∀ x∈(ents ms).toList,x.born < ms.length:=fun x hx=>by
 obtain ⟨i,m,hm,rfl⟩:=EK hx;exact (zQ2.1 hm).1
def zy (n it:Nat) (w:World):Nat:=match w.heap[it]? with | some (.mapIter _ _ seen _)=>n - seen.size | _=>0
theorem Ch {n it:Nat} {w:World} {m:Option Nat} {s c:Nat} {seen:Array Nat} (h:w.heap[it]? = some (.mapIter m s seen c)):zy n it w=n - seen.size:=by unfold zy;rw [h]
structure Seen (ms:List Mg) (seen:Array Nat):Prop where
 lt:∀ i∈seen.toList,i < ms.length
 nd:seen.toList.Nodup
theorem xU:∀ (n:Nat) (l:List Nat),l.Nodup->(∀ i∈l,i < n)->l.length<=n
 | 0,l,_,h=>by
  cases l with
  | nil=>simp
  | cons a r=>exact absurd (h a (by simp)) (by omega)
 | n+1,l,hd,h=>by
  by_cases hn:n∈l
  ·have h1:=xU n (l.erase n) (hd.erase n) (fun i hi=>by
    have hne:i≠n:=fun e=>by subst e;exact (hd.not_mem_erase) hi
    have:=h i (List.mem_of_mem_erase hi);omega)
   rw [List.length_erase_of_mem hn] at h1;omega
  ·have:=xU n l hd (fun i hi=>by
    have hne:i≠n:=fun e=>by subst e;exact hn hi
    have:=h i hi;omega)
   omega
theorem Ki {ms:List Mg} {seen:Array Nat} (h:Seen ms seen):seen.size<=ms.length:=by
 have:=xU ms.length seen.toList h.nd h.lt;simpa using this
theorem Kj {ms:List Mg} {seen:Array Nat} (h:Seen ms seen) {i:Nat} (hi:i < ms.length) (hn:i∉seen.toList):Seen ms (seen.push i):=by
 constructor
 ·intro j hj;simp at hj;rcases hj with h1 | rfl
  ·exact h.lt j (by simpa using h1)
  ·exact hi
 ·rw [Array.toList_push,List.nodup_append];refine ⟨h.nd,by simp, ?_⟩;intro a ha b hb;simp at hb;rintro rfl;exact hn (hb ▸ ha)
theorem Kk {ms:List Mg} {seen:Array Nat} {i:Nat} {m:Mg} (hm:ms[i]? = some m):pq ms (seen.push i)=pq ms seen++[m]:=by
 unfold pq;rw [Array.toList_push,List.filterMap_append];simp [hm]
theorem Ci:∀ ms:List Mg,(List.range ms.length).filterMap (fun i=>ms[i]?)=ms
 | []=>rfl
 | x::r=>by
  have ih:=Ci r;rw [List.length_cons,List.range_succ_eq_map,List.filterMap_cons,List.filterMap_map];have:((fun i=>(x::r)[i]?) ∘ Nat.succ)=fun i=>r[i]?:=by funext i;simp
  rw [this,ih];simp
theorem Mf {ms:List Mg} {seen:Array Nat} (h:Seen ms seen) (hall:∀ i,i < ms.length->i∈seen.toList):(pq ms seen).Perm ms:=by
 have hp:seen.toList.Perm (List.range ms.length):=by
  refine (List.perm_ext_iff_of_nodup h.nd List.nodup_range).2 fun i=>?_;rw [List.mem_range];exact ⟨h.lt i,hall i⟩
 have:=hp.filterMap (fun i=>ms[i]?);unfold pq;refine this.trans ?_;have e:=Ci ms;rw [e]
theorem Mh {ms:List Mg} {seen:Array Nat} {e:MapEntry} (h:e∈(leftOf (ents ms) seen).toList):∃ i m,ms[i]? = some m/\e=⟨mgV m,.agg #[],i⟩/\i∉seen.toList/\e∈(ents ms).toList:=by
 unfold leftOf at h;simp only [Array.toList_filter,List.mem_filter] at h;obtain ⟨h1,h2⟩:=h;obtain ⟨i,m,hm,rfl⟩:=EK h1;refine ⟨i,m,hm,rfl, ?_,h1⟩;simpa using h2
theorem Kl {ms:List Mg} {seen:Array Nat} (h:(leftOf (ents ms) seen).size=0):∀ i,i < ms.length->i∈seen.toList:=by
 intro i hi;obtain ⟨m,hm⟩:∃ m,ms[i]? = some m:=⟨_,zQ1 hi⟩
 have hmem:(⟨mgV m,.agg #[],i⟩:MapEntry)∈(ents ms).toList:=by
  refine List.mem_iff_getElem?.2 ⟨i, ?_⟩;rw [Array.getElem?_toList,wD,hm];rfl
 have he:(leftOf (ents ms) seen)=#[]:=Array.eq_empty_of_size_eq_zero h;unfold leftOf at he;rw [Array.filter_eq_empty_iff] at he;have:=he _ (by simpa using hmem);simpa using this
end Go.Proofs.YtiiifecfdkjmbaaGreat
namespace Go.Proofs.YtiiifecfdkjmbaaGreat
open _root_.Go.Proofs.Tryz hiding checked
set_option maxRecDepth 8000
open Go.RowKit Go.Shelf
open Pu
set_option linter.unusedVariables false
set_option linter.unusedSimpArgs false
def pG:Nat->List (Mg × Nat)->List MapEntry
 | _,[]=>[]
 | k,x::r=>⟨mgV x.1,.map (some x.2),k⟩::pG (k+1) r
def rE (ks:List (Mg × Nat)):Array MapEntry:=(pG 0 ks).toArray
theorem yN:∀ (ks:List (Mg × Nat)) (k:Nat) (x:Mg × Nat),pG k (ks++[x])=pG k ks++[⟨mgV x.1,.map (some x.2),k+ks.length⟩]
 | [],k,x=>by simp [pG]
 | y::r,k,x=>by
  simp only [List.cons_append,pG,yN r (k+1) x,List.length_cons];rw [show k+1+r.length=k+(r.length+1) from by omega]
theorem H9 (ks:List (Mg × Nat)) (x:Mg × Nat):rE (ks++[x])=(rE ks).push ⟨mgV x.1,.map (some x.2),ks.length⟩:=by
 unfold rE;rw [yN,Nat.zero_add];simp
theorem wO (m:Mg):∀ (ks:List (Mg × Nat)) (k i:Nat) (w:World),
  (m∉ks.map Prod.fst/\(Instr.findAsking 42 (mgV m) (pG k ks) i).run prog w=.ok none w)\/∃ j p,ks[j]? = some (m,p)/\(Instr.findAsking 42 (mgV m) (pG k ks) i).run prog w=.ok (some (i+j,.map (some p))) w
 | [],k,i,w=>.inl ⟨by simp,rfl⟩
 | x::r,k,i,w=>by
  unfold pG Instr.findAsking;simp only [Sem.run_bind,uJ];by_cases h:m=x.1
  ·right
   refine ⟨0,x.2,by rw [h];rfl, ?_⟩;rw [h,qI];rfl
  ·have hs:eU m x.1=false:=by rw [<-Bool.not_eq_true,dV];exact h
   rcases wO m r (k+1) (i+1) w with ⟨h1,h2⟩ | ⟨j,p,h1,h2⟩
   ·left
    refine ⟨by rw [List.map_cons,List.mem_cons];rintro (e | e);exact h e;exact h1 e, ?_⟩;rw [hs];exact h2
   ·right
    refine ⟨j+1,p,by simpa using h1, ?_⟩;rw [hs,show i+(j+1)=i+1+j from by omega];exact h2
theorem wQ (m:Mg) (ks:List (Mg × Nat)) (w:World) :
  (m∉ks.map Prod.fst/\(Instr.findKey 42 (mgV m) (rE ks).toList).run prog w=.ok none w)\/∃ j p,ks[j]? = some (m,p)/\(Instr.findKey 42 (mgV m) (rE ks).toList).run prog w=.ok (some (j,.map (some p))) w:=by
 unfold Instr.findKey rE;simp only [Sem.run_bind,run_underlying underlying42,Result.andThen_ok]
 cases ks with
 | nil=>exact .inl ⟨by simp,rfl⟩
 | cons x r =>
  have hn:∀ fs,Instr.findNow (.struct fs) (mgV m) (pG 0 (x::r)) 0=none:=fun fs=>rfl;rw [hn];have:=wO m (x::r) 0 0 w;simp only [Nat.zero_add] at this;exact this
def MapAt (w:World) (r:Nat) (ks:List (Mg × Nat)):Prop:=w.heap[r]? = some (.map (rE ks) ks.length)
theorem JG:∀ {ks:List (Mg × Nat)},(ks.map Prod.fst).Nodup->∀ {m:Mg} {p q:Nat},(m,p)∈ks->(m,q)∈ks->p=q
 | [],_,_,_,_,h,_=>by cases h
 | x::r,hd,m,p,q,h,k=>by
  rw [List.map_cons,List.nodup_cons] at hd;rw [List.mem_cons] at h k
  rcases h with h | h <;> rcases k with k | k
  ·rw [<-h] at k;injection k with _ e;exact e.symm
  ·rw [<-h] at hd;exact absurd (List.mem_map.2 ⟨_,k,rfl⟩) hd.1
  ·rw [<-k] at hd;exact absurd (List.mem_map.2 ⟨_,h,rfl⟩) hd.1
  ·exact JG hd.2 h k
theorem uL {w:World} {r:Nat} {ks:List (Mg × Nat)} {T E:TypeId} (hT:prog.underlying T=some (.map 42 E)) (h:MapAt w r ks) (hd:(ks.map Prod.fst).Nodup) {m:Mg} {p:Nat} (hm:(m,p)∈ks) :
  (Instr.lookup T (.map (some r)) (mgV m) false).run prog w=.ok (.map (some p)) w:=by
 have hg:(getObj r).run prog w=.ok (.map (rE ks) ks.length) w:=by unfold MapAt at h;simp [getObj,Sem.run,h]
 unfold Instr.lookup;simp only [Sem.run_bind,run_underlying hT,Result.andThen_ok,hg,jJ,Sem.run_pure];rcases wQ m ks w with ⟨h1,h2⟩ | ⟨j,q,h1,h2⟩
 ·exact absurd (List.mem_map.2 ⟨_,hm,rfl⟩) h1
 ·have e:=JG hd hm (List.mem_of_getElem? h1);subst e;rw [h2];simp only [Result.andThen_ok,Sem.run_bind,Sem.run_pure];rfl
theorem BK {w:World} {r:Nat} {ks:List (Mg × Nat)} {T E:TypeId} (hT:prog.underlying T=some (.map 42 E)) (h:MapAt w r ks) {m:Mg} (hm:m∉ks.map Prod.fst) (p:Nat) :
  (Instr.mapUpdate T (.map (some r)) (mgV m) (.map (some p))).run prog w=.ok () (w.putObj r (.map (rE (ks++[(m,p)])) (ks++[(m,p)]).length)):=by
 have hg:(getObj r).run prog w=.ok (.map (rE ks) ks.length) w:=by unfold MapAt at h;simp [getObj,Sem.run,h]
 unfold Instr.mapUpdate;simp only [Sem.run_bind,run_underlying hT,Result.andThen_ok,hg,jJ];rcases wQ m ks w with ⟨h1,h2⟩ | ⟨j,q,h1,h2⟩
 ·rw [h2];simp only [Result.andThen_ok];rw [run_setObj_map h,H9,List.length_append];rfl
 ·exact absurd (List.mem_map.2 ⟨_,List.mem_of_getElem? h1,rfl⟩) hm
structure SM where
 sl:Sl
 sent:List Mg
 ra:Nat
 ks:List (Mg × Nat)
 pl:Sl
 ps:List Nat
 cont:Nat->List Mg
def SM.sets (M:SM):List Nat:=M.ks.map Prod.snd++M.ps
def SB (B:Nat) (M:SM) (i:Nat):Prop:=i=B\/i=M.ra\/M.pl.blk=some i\/M.sl.blk=some i\/i∈M.sets
def NK (lo:Nat) (W:World) (i:Nat):Prop:=lo<=i/\∀ o,W.heap[i]? = some o->mI o=false
theorem frS {lo:Nat} {S S' X:Nat->Prop} {W W' W'':World} (k:Fr X W W') (k':Fr (fun i=>S' i\/NK lo W' i) W' W'') (hX:∀ i,i < W.heap.size->X i->S i) (hS:∀ i,i < W.heap.size->S' i->S i):Fr (fun i=>S i\/NK lo W i) W W'' :=
 k.trans k' (fun i hi hx=>.inl (hX i hi hx)) (fun i hi h=>h.elim (fun s=>.inl (hS i hi s)) (fun nk=>by
  by_cases hx:X i
  ·exact .inl (hX i hi hx)
  ·exact .inr ⟨nk.1,fun o ho=>nk.2 o ((k.block i hi hx).trans ho)⟩))
structure fT (lo:Nat) (W:World) (B:Nat) (x:WV) (d:Wd) (M:SM):Prop where
 bl:lo<=B
 bh:B < W.heap.size
 c0:W.cell? ⟨B,0,none⟩=some (.slice x.ga x.gl x.gc)
 c1:W.cell? ⟨B,1,none⟩=some (.slice x.na x.nl x.nc)
 c2:W.cell? ⟨B,2,none⟩=some (.slice x.wa x.wl x.wc)
 c3:W.cell? ⟨B,3,none⟩=some (.slice M.sl.a M.sent.length M.sl.cap)
 c4:W.cell? ⟨B,4,none⟩=some (.map (some M.ra))
 c5:W.cell? ⟨B,5,none⟩=some (.slice M.pl.a M.ps.length M.pl.cap)
 z:∀ o,o < 6->W.frozen? ⟨B,o,none⟩=false
 row:Row W lo 5 M.sl M.sent.length (flat M.sent)
 pow:Row W lo 1 M.pl M.ps.length (M.ps.map fun p=>.map (some p))
 ral:lo<=M.ra
 map:MapAt W M.ra M.ks
 set:∀ r,r∈M.sets->lo<=r/\iN W r (M.cont r)
 nd:M.sets.Nodup
 hra:M.ra∉M.sets
 sne:∀ b,M.sl.blk=some b->b≠B/\b≠M.ra/\b∉M.sets/\M.pl.blk≠some b
 pne:∀ b,M.pl.blk=some b->b≠B/\b≠M.ra/\b∉M.sets
 bne:B≠M.ra/\B∉M.sets
 wat:∀ W',Fr (fun i=>SB B M i\/NK lo W i) W W'->WAt W' x d
section
variable {lo:Nat} {W W':World} {B:Nat} {x:WV} {d:Wd} {M:SM}
theorem fT.oC (h:fT lo W B x d M) {r:Nat} (hr:r∈M.sets):r < W.heap.size:=(zQ3.1 (h.set r hr).2).1
theorem fT.blk (h:fT lo W B x d M) {i:Nat} (hi:SB B M i):lo<=i/\i < W.heap.size:=by
 rcases hi with rfl | rfl | hi | hi | hi
 ·exact ⟨h.bl,h.bh⟩
 ·exact ⟨h.ral,(zQ3.1 h.map).1⟩
 ·exact ⟨(h.pow.dJ hi).2.1,(h.pow.dJ hi).2.2.1⟩
 ·exact ⟨(h.row.dJ hi).2.1,(h.row.dJ hi).2.2.1⟩
 ·exact ⟨(h.set _ hi).1,h.oC hi⟩
theorem fT.fr (h:fT lo W B x d M) {X:Nat->Prop} (k:Fr X W W') (hX:∀ i,SB B M i->¬ X i) (hw:∀ W'',Fr (fun i=>SB B M i\/NK lo W' i) W' W''->WAt W'' x d):fT lo W' B x d M:=by
 have hb:=h.bh;have e:∀ i,SB B M i->W'.heap[i]? = W.heap[i]?:=fun i hi=>k.block i (h.blk hi).2 (hX i hi);have c:∀ o,W'.cell? ⟨B,o,none⟩=W.cell? ⟨B,o,none⟩:=fun o=>World.cell?_of_block (a:=⟨B,o,none⟩) (e B (.inl rfl));have f:∀ o,W'.frozen? ⟨B,o,none⟩=W.frozen? ⟨B,o,none⟩:=fun o=>World.frozen?_of_block (a:=⟨B,o,none⟩) (e B (.inl rfl))
 exact ⟨h.bl,zQ4 hb k.size,(c 0).trans h.c0,(c 1).trans h.c1,(c 2).trans h.c2,(c 3).trans h.c3,(c 4).trans h.c4,(c 5).trans h.c5,fun o ho=>(f o).trans (h.z o ho),
  h.row.kept k.size (fun b hb=>e b (.inr (.inr (.inr (.inl hb))))),h.pow.kept k.size (fun b hb=>e b (.inr (.inr (.inl hb)))),h.ral,(e _ (.inr (.inl rfl))).trans h.map,
  fun r hr=>⟨(h.set r hr).1,(e r (.inr (.inr (.inr (.inr hr))))).trans (h.set r hr).2⟩,h.nd,h.hra,h.sne,h.pne,h.bne,hw⟩
theorem fT.since (h:fT lo W B x d M) (k:Since W W'):fT lo W' B x d M :=
 h.fr (k.fr fun _=>False) (fun _ _ f=>f) (fun W'' k'=>h.wat W'' (frS (k.fr fun _=>False) k' (fun _ _ f=>f.elim) (fun _ _ f=>f)))
theorem fT.wAt (h:fT lo W B x d M):WAt W x d:=h.wat W (Fr.refl _ _)
theorem Fr.put (W:World) (r:Nat) (o:Obj):Fr (fun i=>i=r) W (W.putObj r o) :=
 ⟨rfl,rfl,rfl,by simp,fun i _ hi=>World.putObj_heap_other hi⟩
theorem fT.Mv (h:fT lo W B x d M) {r:Nat} (hr:r∈M.sets) (ms:List Mg) (k:Fr (fun i=>i=r) W W') (hs:iN W' r ms):fT lo W' B x d { M with cont:=fun i=>if i=r then ms else M.cont i }:=by
 have hrl:=h.oC hr;have hBr:B≠r:=fun e=>h.bne.2 (e ▸ hr);have hRr:M.ra≠r:=fun e=>h.hra (e ▸ hr);have e:∀ i,i≠r->i < W.heap.size->W'.heap[i]? = W.heap[i]?:=fun i hi hl=>k.block i hl hi;have c:∀ o,W'.cell? ⟨B,o,none⟩=W.cell? ⟨B,o,none⟩:=fun o=>World.cell?_of_block (a:=⟨B,o,none⟩) (e B hBr h.bh);have f:∀ o,W'.frozen? ⟨B,o,none⟩=W.frozen? ⟨B,o,none⟩:=fun o=>World.frozen?_of_block (a:=⟨B,o,none⟩) (e B hBr h.bh);have EL:=(zQ3.1 h.map).1
 refine ⟨h.bl,zQ4 h.bh k.size,(c 0).trans h.c0,(c 1).trans h.c1,(c 2).trans h.c2,(c 3).trans h.c3,(c 4).trans h.c4,(c 5).trans h.c5,fun o ho=>(f o).trans (h.z o ho),
  h.row.fr k (fun b hb he=>(h.sne b hb).2.2.1 (he ▸ hr)),h.pow.fr k (fun b hb he=>(h.pne b hb).2.2 (he ▸ hr)),h.ral,(e _ hRr EL).trans h.map,
  fun q hq=>⟨(h.set q hq).1, ?_⟩,h.nd,h.hra,h.sne,h.pne,h.bne,fun W'' k'=>h.wat W'' (frS k k' (fun i _ hi=>hi ▸ .inr (.inr (.inr (.inr hr)))) (fun _ _ hi=>hi))⟩
 by_cases hq':q=r
 ·subst hq';simp only [if_true];exact hs
 ·simp only [hq',if_false];exact (e q hq' (h.oC hq)).trans (h.set q hq).2
theorem fT.addKey (h:fT lo W B x d M) (m:Mg) (ms:List Mg) {W1:World} (h1:W.alloc (.map (ents ms) ms.length)=W1) (h2:W1.putObj M.ra (.map (rE (M.ks++[(m,W.heap.size)])) (M.ks++[(m,W.heap.size)]).length)=W') (hlo:lo<=W.heap.size) :
  fT lo W' B x d { M with ks:=M.ks++[(m,W.heap.size)],cont:=fun i=>if i=W.heap.size then ms else M.cont i }:=by
 have EL:=(zQ3.1 h.map).1;have k:Fr (fun i=>i=M.ra) W W':=by rw [<-h2,<-h1];exact (((Since.refl W).alloc _).fr fun _=>False).trans (Fr.put _ _ _) (fun _ _ f=>f.elim) (fun _ _ f=>f)
 have hS1:=ay h1;have hl1:W.heap.size < W1.heap.size:=by rw [<-h1];simp
 have hl2:W1.heap.size=W'.heap.size:=by rw [<-h2];simp
 have hnew:W'.heap[W.heap.size]? = some (.map (ents ms) ms.length):=by
  rw [<-h2];refine (World.putObj_heap_other (by omega)).trans ?_;rw [<-h1];exact World.alloc_heap_new W _
 have e:∀ i,i≠M.ra->i < W.heap.size->W'.heap[i]? = W.heap[i]?:=fun i hi hl=>k.block i hl hi;have c:∀ o,W'.cell? ⟨B,o,none⟩=W.cell? ⟨B,o,none⟩:=fun o=>World.cell?_of_block (a:=⟨B,o,none⟩) (e B h.bne.1 h.bh);have f:∀ o,W'.frozen? ⟨B,o,none⟩=W.frozen? ⟨B,o,none⟩:=fun o=>World.frozen?_of_block (a:=⟨B,o,none⟩) (e B h.bne.1 h.bh)
 have hmem:∀ q,q∈SM.sets { M with ks:=M.ks++[(m,W.heap.size)],cont:=fun i=>if i=W.heap.size then ms else M.cont i }↔q∈M.sets\/q=W.heap.size:=by
  intro q;unfold SM.sets;simp only [List.map_append,List.map_cons,List.map_nil,List.mem_append,List.mem_singleton];constructor
  ·rintro ((a | a) | a)
   ·exact .inl (.inl a)
   ·exact .inr a
   ·exact .inl (.inr a)
  ·rintro ((a | a) | a)
   ·exact .inl (.inl a)
   ·exact .inr a
   ·exact .inl (.inr a)
 have hnot:∀ q,q∈M.sets->q≠W.heap.size:=fun q hq e=>by have:=h.oC hq;omega
 refine ⟨h.bl,zQ4 h.bh k.size,(c 0).trans h.c0,(c 1).trans h.c1,(c 2).trans h.c2,(c 3).trans h.c3,(c 4).trans h.c4,(c 5).trans h.c5,fun o ho=>(f o).trans (h.z o ho),
  h.row.fr k (fun b hb he=>(h.sne b hb).2.1 he),h.pow.fr k (fun b hb he=>(h.pne b hb).2.1 he),h.ral, ?_,fun q hq=>?_, ?_, ?_,fun b hb=>?_,fun b hb=>?_,⟨h.bne.1,fun hb=>?_⟩,fun W'' k'=>h.wat W'' (frS k k' (fun i _ hi=>.inr (.inl hi)) (fun i hl hi=>?_))⟩
 ·unfold MapAt;rw [<-h2];exact World.putObj_heap_same (by omega)
 ·rcases (hmem q).1 hq with hq | rfl
  ·refine ⟨(h.set q hq).1, ?_⟩;simp only [hnot q hq,if_false];exact (e q (fun e=>h.hra (e ▸ hq)) (h.oC hq)).trans (h.set q hq).2
  ·simp only [if_true];exact ⟨hlo,hnew⟩
 ·have hnd:=h.nd;unfold SM.sets at hnd ⊢;rw [List.map_append,List.append_assoc];rw [List.nodup_append] at hnd ⊢;refine ⟨hnd.1, ?_,fun a ha b hb=>?_⟩
  ·rw [List.map_cons,List.map_nil,List.singleton_append,List.nodup_cons];exact ⟨fun hc=>hnot _ (List.mem_append.2 (.inr hc)) rfl,hnd.2.1⟩
  ·rw [List.map_cons,List.map_nil,List.singleton_append,List.mem_cons] at hb;rcases hb with rfl | hb
   ·exact hnot a (List.mem_append.2 (.inl ha))
   ·exact hnd.2.2 a ha b hb
 ·intro hc;rcases (hmem _).1 hc with hc | hc
  ·exact h.hra hc
  ·have hc':M.ra=W.heap.size:=hc;omega
 ·obtain ⟨q1,q2,q3,q4⟩:=h.sne b hb;refine ⟨q1,q2,fun hc=>?_,q4⟩;rcases (hmem _).1 hc with hc | hc
  ·exact q3 hc
  ·have:=(h.row.dJ hb).2.2.1;omega
 ·obtain ⟨q1,q2,q3⟩:=h.pne b hb;refine ⟨q1,q2,fun hc=>?_⟩;rcases (hmem _).1 hc with hc | hc
  ·exact q3 hc
  ·have:=(h.pow.dJ hb).2.2.1;omega
 ·rcases (hmem _).1 hb with hc | hc
  ·exact h.bne.2 hc
  ·have:=h.bh;omega
 ·rcases hi with hi | hi | hi | hi | hi
  ·exact .inl hi
  ·exact .inr (.inl hi)
  ·exact .inr (.inr (.inl hi))
  ·exact .inr (.inr (.inr (.inl hi)))
  ·rcases (hmem _).1 hi with hc | hc
   ·exact .inr (.inr (.inr (.inr hc)))
   ·omega
theorem fT.push (h:fT lo W B x d M) (m:Mg) {W1:World} {sl':Sl} (hR:Row W1 lo 5 sl' (M.sent.length+1) (flat M.sent++flat [m])) (hF:Fr (fun i=>M.sl.blk=some i) W W1) (hB:sl'=M.sl\/∃ q,sl'.blk=some q/\W.heap.size<=q)
  (h2:W1.setCell ⟨B,3,none⟩ (.slice sl'.a (M.sent.length+1) sl'.cap)=W'):fT lo W' B x d { M with sl:=sl',sent:=M.sent++[m] }:=by
 have k2:Fr (fun i=>i=B) W1 W':=by rw [<-h2];exact (Fr.refl _ _).setCell ⟨B,3,none⟩ _ (fun _=>rfl)
 have k:Fr (fun i=>i=B\/M.sl.blk=some i) W W':=hF.trans k2 (fun _ _ a=>.inr a) (fun _ _ a=>.inl a);have hBs:¬ M.sl.blk=some B:=fun e=>(h.sne B e).1 rfl;have WY:B < W1.heap.size:=zQ4 h.bh hF.size;have c1:∀ o,W1.cell? ⟨B,o,none⟩=W.cell? ⟨B,o,none⟩:=fun o=>hF.cell (p:=⟨B,o,none⟩) h.bh hBs;have c:∀ o,o≠3->W'.cell? ⟨B,o,none⟩=W.cell? ⟨B,o,none⟩:=fun o ho=>by rw [<-h2,bJ _ _ _ (Ne.symm ho)];exact c1 o
 have f:∀ o,W'.frozen? ⟨B,o,none⟩=W.frozen? ⟨B,o,none⟩:=fun o=>by rw [<-h2,World.frozen?_setCell];exact hF.frozen (p:=⟨B,o,none⟩) h.bh hBs
 have EL:=(zQ3.1 h.map).1;have e:∀ i,i≠B->M.sl.blk≠some i->i < W.heap.size->W'.heap[i]? = W.heap[i]?:=fun i h1 h2 hl=>k.block i hl (fun a=>a.elim h1 h2)
 have hnb:sl'.blk≠some B:=by
  rcases hB with rfl | ⟨q,hq,hle⟩
  ·exact hBs
  ·intro e;rw [e] at hq;have:=Option.some.inj hq;have:=h.bh;omega
 have hnew:∀ b,sl'.blk=some b->M.sl.blk=some b\/W.heap.size<=b:=by
  intro b hb;rcases hB with rfl | ⟨q,hq,hle⟩
  ·exact .inl hb
  ·right;rw [hb] at hq;have:=Option.some.inj hq;omega
 have SF:∀ b,M.pl.blk=some b->b≠B/\M.sl.blk≠some b:=fun b hb=>⟨(h.pne b hb).1,fun hs=>(h.sne b hs).2.2.2 hb⟩
 refine ⟨h.bl,zQ4 h.bh k.size,(c 0 (by decide)).trans h.c0,(c 1 (by decide)).trans h.c1,(c 2 (by decide)).trans h.c2, ?_,(c 4 (by decide)).trans h.c4,(c 5 (by decide)).trans h.c5,fun o ho=>(f o).trans (h.z o ho),
  ?_, ?_,h.ral,(e _ (Ne.symm h.bne.1) (fun hs=>(h.sne _ hs).2.1 rfl) EL).trans h.map,fun q hq=>⟨(h.set q hq).1,(e q (fun e=>h.bne.2 (e ▸ hq)) (fun hs=>(h.sne _ hs).2.2.1 hq) (h.oC hq)).trans (h.set q hq).2⟩,h.nd,h.hra,fun b hb=>?_,h.pne,h.bne,fun W'' k'=>h.wat W'' (frS k k' (fun i _ hi=>?_) (fun i hl hi=>?_))⟩
 ·rw [<-h2];have:=kK W1 B 3 (.slice sl'.a (M.sent.length+1) sl'.cap) ((c1 3).trans h.c3);rw [this];simp
 ·have e1:(M.sent++[m]).length=M.sent.length+1:=by simp
  have e2:flat (M.sent++[m])=flat M.sent++flat [m]:=by unfold flat;rw [List.flatMap_append]
  show Row W' lo 5 sl' (M.sent++[m]).length (flat (M.sent++[m]));rw [e1,e2];exact hR.fr k2 (fun b hb he=>hnb (he ▸ hb))
 ·exact h.pow.fr k (fun b hb hc=>hc.elim (SF b hb).1 (SF b hb).2)
 ·have hb':sl'.blk=some b:=hb;refine ⟨fun e=>hnb (e ▸ hb'), ?_⟩;rcases hnew b hb' with hs | hge
  ·exact ⟨(h.sne b hs).2.1,(h.sne b hs).2.2.1,(h.sne b hs).2.2.2⟩
  ·refine ⟨fun e=>by have e':b=M.ra:=e;omega,fun hc=>by have:=h.oC hc;omega,fun hp=>?_⟩;have:=(h.pow.dJ hp).2.2.1;omega
 ·rcases hi with hi | hi
  ·exact .inl hi
  ·exact .inr (.inr (.inr (.inl hi)))
 ·rcases hi with hi | hi | hi | hi | hi
  ·exact .inl hi
  ·exact .inr (.inl hi)
  ·exact .inr (.inr (.inl hi))
  ·rcases hnew i hi with hs | hge
   ·exact .inr (.inr (.inr (.inl hs)))
   ·omega
  ·exact .inr (.inr (.inr (.inr hi)))
theorem fT.world (h:fT lo W B x d M) {v:WV} {d':Wd} (hw:∀ W'',Fr (fun i=>SB B M i\/NK lo W i) W W''->WAt W'' v d') (h2:y8 W B (.slice v.ga v.gl v.gc) (.slice v.na v.nl v.nc) (.slice v.wa v.wl v.wc)=W'):fT lo W' B v d' M:=by
 have k:Fr (fun i=>i=B) W W':=by rw [<-h2];exact dN _ _ _ _ _
 have c:∀ o,2 < o->W'.cell? ⟨B,o,none⟩=W.cell? ⟨B,o,none⟩:=fun o ho=>by rw [<-h2];exact MF _ _ _ _ _ ho
 have f:∀ o,W'.frozen? ⟨B,o,none⟩=W.frozen? ⟨B,o,none⟩:=fun o=>by rw [<-h2];exact gT _ _ _ _ _ _
 have EL:=(zQ3.1 h.map).1;have e:∀ i,i≠B->i < W.heap.size->W'.heap[i]? = W.heap[i]?:=fun i h1 hl=>k.block i hl h1
 refine ⟨h.bl,zQ4 h.bh k.size,by rw [<-h2];exact pI h.c0,by rw [<-h2];exact pJ h.c1,by rw [<-h2];exact pK h.c2,(c 3 (by decide)).trans h.c3,(c 4 (by decide)).trans h.c4,(c 5 (by decide)).trans h.c5,fun o ho=>(f o).trans (h.z o ho),
  h.row.fr k (fun b hb he=>(h.sne b hb).1 he),h.pow.fr k (fun b hb he=>(h.pne b hb).1 he),h.ral,(e _ (Ne.symm h.bne.1) EL).trans h.map,fun q hq=>⟨(h.set q hq).1,(e q (fun e=>h.bne.2 (e ▸ hq)) (h.oC hq)).trans (h.set q hq).2⟩,h.nd,h.hra,h.sne,h.pne,h.bne,fun W'' k'=>hw W'' (frS k k' (fun i _ hi=>.inl hi) (fun _ _ hi=>hi))⟩
end
theorem vv {W:World} {b o:Nat} {v:Value} (h:W.cell? ⟨b,o,none⟩=some v):∃ ob,W.heap[b]? = some ob/\mI ob=true:=by
 unfold World.cell? at h;split at h
 ·rename_i hb;exact ⟨_,hb,rfl⟩
 ·cases h
theorem lS {W:World} {lo sz:Nat} {s:Sl} {n:Nat} {xs:List Value} (h:Row W lo sz s n xs) (hz:0 < sz) {b:Nat} (hb:s.blk=some b):∃ ob,W.heap[b]? = some ob/\mI ob=true:=by
 obtain ⟨hc,_,_,off,e⟩:=h.dJ hb;obtain ⟨b',o',e',_,_,hx,_⟩:=h.body hc;rw [e] at e';cases e';obtain ⟨v,hv⟩:=Option.isSome_iff_exists.1 (hx 0 (Nat.mul_pos hc hz)).1;exact vv hv
theorem fT.keeps {lo:Nat} {W:World} {B:Nat} {x:WV} {d:Wd} {M:SM} (h:fT lo W B x d M) {i:Nat} (hi:SB B M i):∃ o,W.heap[i]? = some o/\mI o=true:=by
 rcases hi with rfl | rfl | hi | hi | hi
 ·exact vv h.c0
 ·exact ⟨_,h.map,rfl⟩
 ·exact lS h.pow (by decide) hi
 ·exact lS h.row (by decide) hi
 ·exact ⟨_,(h.set _ hi).2,rfl⟩
theorem fT.km {lo n:Nat} {W W':World} {B:Nat} {x:WV} {d:Wd} {M:SM} (h:fT lo W B x d M) (k:KM n W W') (hn:lo<=n):fT lo W' B x d M:=by
 refine h.fr k.fr (fun i hi hx=>?_) (fun W'' k'=>h.wat W'' (k.fr.trans k' (fun i hi hx=>.inr ⟨by omega,hx.2⟩) (fun i hi hx=>hx.elim .inl (fun nk=>?_))))
 ·obtain ⟨o,ho,hk⟩:=h.keeps hi;rw [hx.2 o ho] at hk;cases hk
 ·refine .inr ⟨nk.1,fun o ho=>?_⟩;cases hk:mI o
  ·rfl
  ·have:=nk.2 o (k.keep i o ho hk);rw [hk] at this;cases this
structure wL (s:Sc) (M:SM):Prop where
 sent:M.sent=s.sent
 keys:M.ks.map Prod.fst=s.sent
 ahead:∀ m r,(m,r)∈M.ks->∀ y,y∈M.cont r↔s.ahead m y=true
 past:∀ k p,M.ps[k]? = some p->∀ y,y∈M.cont p↔s.past k y=true
end Go.Proofs.YtiiifecfdkjmbaaGreat
