/- Lemmas. -/
import Derived.Test.YtiiifecfdkjmbaaGreatTOwnX
import Derived.Maps.RangeRun
namespace Go.Proofs.YtiiifecfdkjmbaaGreat
open _root_.Go.Proofs.Tryz hiding checked
set_option maxRecDepth 8000
open Go.RowKit Go.Shelf
structure KB (n b:Nat) (A B:World):Prop where
 below:Below n A B
 same:B.heap[b]? = A.heap[b]?
theorem KB.refl (n b:Nat) (A:World):KB n b A A:=⟨Below.refl _ _,rfl⟩
theorem KB.trans {n b:Nat} {A B C:World} (h:KB n b A B) (k:KB n b B C):KB n b A C:=⟨h.below.trans k.below,k.same.trans h.same⟩
theorem KB.cZ {n b:Nat} {A B:World} (h:Since A B) (hn:n<=A.heap.size) (hb:b < A.heap.size):KB n b A B:=⟨h.below.mono hn,h.below.block b hb⟩
theorem KB.cell {n b:Nat} {A B:World} (h:KB n b A B) (o:Nat):B.cell? ⟨b,o,none⟩=A.cell? ⟨b,o,none⟩:=World.cell?_of_block h.same
def NCa (n:Nat) (A B:World):Prop:=∀ (k:Nat) (o:Obj),n<=k->A.heap[k]? = some o->o.isCells=false->B.heap[k]? = some o
theorem NCa.refl (n:Nat) (A:World):NCa n A A:=fun _ _ _ h _=>h
theorem NCa.trans {n:Nat} {A B C:World} (h:NCa n A B) (k:NCa n B C):NCa n A C:=fun i o hi ho hc=>k i o hi (h i o hi ho hc) hc
theorem NCa.cZ {n:Nat} {A B:World} (h:Since A B):NCa n A B:=fun _ _ _ hk _=>h.block hk
structure KH (n0 bj base:Nat) (A B:World):Prop where
 kb:KB n0 bj A B
 nc:NCa base A B
theorem KH.refl (n0 bj base:Nat) (A:World):KH n0 bj base A A:=⟨KB.refl _ _ _,NCa.refl _ _⟩
theorem KH.trans {n0 bj base:Nat} {A B C:World} (h:KH n0 bj base A B) (k:KH n0 bj base B C):KH n0 bj base A C:=⟨h.kb.trans k.kb,h.nc.trans k.nc⟩
theorem KH.cZ {n0 bj base:Nat} {A B:World} (h:Since A B) (hn:n0<=A.heap.size) (hb:bj < A.heap.size):KH n0 bj base A B:=⟨KB.cZ h hn hb,NCa.cZ h⟩
def kD:Obj->Bool
 | .map _ _=>true
 | o=>o.isCells
theorem BI {o:Obj} (h:o.isCells=true):kD o=true:=by cases o <;> simp_all [kD,Obj.isCells]
structure KM (n:Nat) (A B:World):Prop where
 below:Below n A B
 keep:∀ (k:Nat) (o:Obj),A.heap[k]? = some o->kD o=true->B.heap[k]? = some o
theorem KM.cZ {n:Nat} {A B:World} (h:Since A B) (hn:n<=A.heap.size):KM n A B:=⟨h.below.mono hn,fun _ _ hk _=>h.block hk⟩
theorem KM.put {n:Nat} {A:World} {l:Nat} {o:Obj} (o':Obj) (hl:A.heap[l]? = some o) (ho:kD o=false) (hn:n<=l):KM n A (A.putObj l o'):=by
 refine ⟨⟨rfl,rfl,rfl,by simp,fun k hk=>World.putObj_heap_other (by omega)⟩,fun k o1 hk hc=>?_⟩
 by_cases e:k=l
 ·subst e;rw [hl] at hk;obtain rfl:=Option.some.inj hk;rw [ho] at hc;cases hc
 ·exact (World.putObj_heap_other e).trans hk
theorem KM.weak {n m:Nat} {A B:World} (h:KM n A B) (hm:m<=n):KM m A B:=⟨h.below.mono hm,h.keep⟩
theorem KM.kx {n:Nat} {A B:World} (h:KM n A B):KX n none A B:=⟨h.below,fun k o hk hc _=>h.keep k o hk (BI hc)⟩
theorem KM.cell {n:Nat} {A B:World} (h:KM n A B) {p:Addr} {v:Value} (hc:A.cell? p=some v):B.cell? p=some v:=h.kx.cell hc (by simp)
theorem KM.fr {n:Nat} {A B:World} (h:KM n A B):Fr (fun i=>¬ i < n/\∀ o,A.heap[i]? = some o->kD o=false) A B:=by
 refine ⟨h.below.os,h.below.tape,h.below.output,h.below.size,fun i hi hB=>?_⟩
 by_cases hn:i < n
 ·exact h.below.block i hn
 ·obtain ⟨o,ho⟩:∃ o,A.heap[i]? = some o:=⟨_,Array.getElem?_eq_getElem hi⟩
  cases hk:kD o
  ·exact absurd ⟨hn,fun o' ho'=>by rw [ho] at ho';obtain rfl:=Option.some.inj ho';exact hk⟩ hB
  ·rw [ho];exact h.keep i o ho hk
def Md {α:Type} (P:Program) (m:Nat) (g:Nat) (lb:Array Value) (encs:α->Array Value) (Kp:World->World->Prop) (R:List α->α->Prop) (Fin:List α->Prop) (w:World):Prop :=
 ∀ (l:Nat) (J:List α->World->Prop) (Jp:List PanicEntry->World->Prop) (W:World),Since w W->(∀ h A B,J h A->KM W.heap.size A B->J h B) ->
  (∀ h x W1,J h W1->R h x->YieldAt Fence.wide (m - 1) P l (encs x) W1 fun e W' =>
   (e=.returned (.bool true)/\J (h++[x]) W'/\Kp W1 W')\/(∃ ch,e=.panicked ch/\Jp ch W')) ->
  J [] W ->
  CallsIn Fence.wide m P g (#[.func (.yield l) #[] #[]]++lb) W fun e W'=>(∃ v h,e=.returned v/\Fin h/\J h W')\/(∃ ch,e=.panicked ch/\Jp ch W')
def Me {α:Type} (n0 bj base:Nat) (I:List α->World->Prop) (Ip:List PanicEntry->World->Prop) (h:List α) (W:World):Exit->Act->World->Prop
 | .normal,_,W'=>KH n0 bj base W W'/\I h W'
 | .panic ch,a,W'=>a.defers=[]/\NCa base W W'/\Ip ch W'
 | _,_,_=>False
theorem DL {α:Type} {P:Program} {f0:FuncId} {fn:Func} (hf:P.funcs[f0]? = some fn) {g:Operand} {ps:Array Tmp} {assign body:Code} {Q:Exit->Act->World->Prop} {a:Act} {w:World}
  {gf:Nat} {lb:Array Value} (hg:a.eval g=.func (.func gf) #[] lb) (eg:∀ args w,(callFunc gf args).run P w=.ok (.enter gf args) w)
  {m:Nat} {encs:α->Array Value} {n0 bj:Nat} {R:List α->α->Prop} {Fin:List α->Prop} (hn0:n0<=w.heap.size) (hbj:bj < w.heap.size) (hseq:Md P m gf lb encs (KH n0 bj w.heap.size) R Fin w) (hps:∀ x,(encs x).size=ps.size)
  (I:List α->World->Prop) (Ip:List PanicEntry->World->Prop) (hI:∀ h A B,I h A->KM w.heap.size A B->I h B) (h0:I [] w)
  (DN:∀ (l:Nat) (h:List α) (x:α) (W:World),w.heap.size<=W.heap.size->I h W->R h x ->
   assign.wpIn (Fence.wide.inRound l) (m - 1) P (Exit.then (fun a' W1=>Since W W1/\∀ W',w.heap.size<=W'.heap.size->KM w.heap.size W1 W'->body.wpIn (Fence.wide.inRound l) (m - 1) P (Me n0 bj w.heap.size I Ip (h++[x]) W') a' W') (fun _ _ _=>False)) { tmps:=(ps.zip (encs x)).foldl (fun t (p,v)=>t.setIfInBounds p v) a.tmps,defers:=[] } W)
  (hdone:∀ (D:Nat) (h:List α) (W:World),w.heap.size<=D->Fin h->I h W->W.heap[D]? = some (.deferred (some []))->Q .normal { a with defers:={ target:=.collected D,args:=#[] }::a.defers } W)
  (Mf:∀ (D:Nat) (ch:List PanicEntry) (W:World),w.heap.size<=D->Ip ch W->W.heap[D]? = some (.deferred (some []))->Q (.panic ch) { a with defers:={ target:=.collected D,args:=#[] }::a.defers } W) :
  wpF P f0 (Code.rangeFunc g ps assign body) Q a w:=by
 intro b k cs hro hb
 obtain ⟨rc,hrc⟩:∃ rc:LoopState->Loop,rc=fun st=>{ state:=st,pending:=none,fn:=f0,tmps:=a.tmps,params:=ps,assign,body,defers:=w.heap.size }:=⟨_,rfl⟩
 obtain ⟨W1,hW1⟩:∃ W1,(w.alloc (.deferred (some []))).alloc (.loop (rc .ready))=W1:=⟨_,rfl⟩
 have hS1:Since w W1:=by rw [<-hW1];exact ((Since.refl w).alloc _).alloc _
 have hL1:W1.heap[w.heap.size+1]? = some (.loop (rc .ready)):=by
  rw [<-hW1];have:=World.alloc_heap_new (w.alloc (.deferred (some []))) (.loop (rc .ready));rwa [World.size_alloc] at this
 have hK1:W1.heap[w.heap.size]? = some (.deferred (some [])):=by
  rw [<-hW1];exact (Below.heap_alloc _ _ _ (by simp)).trans (World.alloc_heap_new w _)
 have hsz1:w.heap.size<=W1.heap.size:=hS1.size
 have he:(Instr.enterLoop b.fn a.tmps ps assign body b.roundOf).run P w=.ok (w.heap.size+1,[{ target:=.collected w.heap.size,args:=#[] }]) W1:=by
  rw [hro,hb,<-hW1,hrc];exact run_enterLoop_outer _ _ _ _ _
 have hres:(resolve a.eval (rangeCall g (w.heap.size+1)) 0).run P W1=.ok { target:=.fn (.func gf) lb,args:=#[.func (.yield (w.heap.size+1)) #[] #[]] } W1:=by
  simp only [resolve,hg];simp [go_sem]
 have hinv:(invoke (.fn (.func gf) lb) #[.func (.yield (w.heap.size+1)) #[] #[]]).run P W1=.ok (.enter gf (#[.func (.yield (w.heap.size+1)) #[] #[]]++lb)) W1:=by simp [invoke,go_sem,eg]
 have henter:=stepR_rangeFunc (P:=P) (b:=b) (a:=a) (k:=k) (cs:=cs) (w:=w) he hres hinv
 have hcall:=hseq (w.heap.size+1)
  (fun h W=>w.heap.size<=W.heap.size/\I h W/\W.heap[w.heap.size+1]? = some (.loop (rc .ready))/\W.heap[w.heap.size]? = some (.deferred (some [])))
  (fun ch W=>Ip ch W/\W.heap[w.heap.size]? = some (.deferred (some [])))
  W1 hS1 (fun h A B hA hS=>⟨zQ5 hA.1 hS.below.size,hI h A B hA.2.1 (hS.weak hsz1),(hS.below.block _ (by have:=(zQ3.1 hL1).1;omega)).trans hA.2.2.1,(hS.below.block _ (by have:=(zQ3.1 hL1).1;omega)).trans hA.2.2.2⟩)
  (by
   rintro h x W ⟨hsz,hi,hl,hk⟩ hx
   have hlt:w.heap.size+1 < W.heap.size:=(zQ3.1 hl).1
   have hy:=run_yield (P:=P) (args:=encs x) hl (by rw [hrc];exact hps x)
   have er:(rc .ready).fn=f0/\(rc .ready).assign=assign/\(rc .ready).body=body/\(rc .ready).params=ps/\(rc .ready).tmps=a.tmps:=by rw [hrc];exact ⟨rfl,rfl,rfl,rfl,rfl⟩
   rw [er.1,er.2.1,er.2.2.1,er.2.2.2.1,er.2.2.2.2] at hy
   refine ⟨_,_,_,_,hy,ER hf (wpIn_mono (DN _ h x W hsz hi hx) ?_)⟩
   intro e0 a0 W0 hp0
   match e0,hp0 with
   | .normal,⟨DR,hb0⟩ =>
   have hl0:W0.heap[w.heap.size+1]? = some (.loop (rc .ready)):=DR.block hl
   have hk0:W0.heap[w.heap.size]? = some (.deferred (some [])):=DR.block hk
   have P5:w.heap.size+1 < W0.heap.size:=(zQ3.1 hl0).1
   have k2:KM w.heap.size W0 (W0.putObj (w.heap.size+1) (.loop { rc .ready with state:=.busy })):=KM.put _ hl0 rfl (by omega)
   have hl2:(W0.putObj (w.heap.size+1) (.loop { rc .ready with state:=.busy })).heap[w.heap.size+1]? = some (.loop { rc .ready with state:=.busy }):=World.putObj_heap_same P5
   have hk2:(W0.putObj (w.heap.size+1) (.loop { rc .ready with state:=.busy })).heap[w.heap.size]? = some (.deferred (some [])):=(World.putObj_heap_other (by omega)).trans hk0
   refine ⟨_,run_beginRound hl0 (by rw [hrc]),wpIn_mono (hb0 _ (by simp only [World.putObj_size];omega) k2) ?_⟩
   intro e a3 W3 hp
   match e,hp with
   | .normal,⟨⟨hx3,hn3⟩,hi3⟩ =>
    have hl3:=hn3 _ _ (by omega) hl2 rfl
    have hend:=run_endRound (P:=P) none hl3
    have k4:KM w.heap.size W3 (W3.putObj (w.heap.size+1) (.loop (rc .ready))):=KM.put _ hl3 rfl (by omega)
    refine ⟨_,_,hend,.inl ⟨rfl,⟨?_,hI _ _ _ hi3 ?_, ?_, ?_⟩, ?_⟩⟩
    ·have:=hx3.below.size;simp only [World.putObj_size] at this ⊢;omega
    ·rw [hrc] at k4 ⊢;exact k4
    ·rw [hrc] at hl3 ⊢;exact World.putObj_heap_same (zQ3.1 hl3).1
    ·exact (World.putObj_heap_other (by omega)).trans (hn3 _ _ (by omega) hk2 rfl)
    ·constructor
     ·refine (KB.cZ DR (by omega) (by omega)).trans (KB.trans ⟨k2.below.mono hn0,World.putObj_heap_other (by omega)⟩ (hx3.trans ?_))
      rw [hrc] at k4 ⊢;exact ⟨k4.below.mono hn0,World.putObj_heap_other (by omega)⟩
     ·intro j o hj ho hc
      have ho0:=DR.block ho
      by_cases hjl:j=w.heap.size+1
      ·subst hjl
       rw [hl0] at ho0
       obtain rfl:=Option.some.inj ho0
       rw [hrc] at hl3 ⊢;exact World.putObj_heap_same (zQ3.1 hl3).1
      ·exact (World.putObj_heap_other hjl).trans (hn3 j _ hj ((World.putObj_heap_other hjl).trans ho0) hc)
   | .panic ch,⟨hd,hn3,hp3⟩=>exact ⟨hd,.inr ⟨ch,rfl,hp3,hn3 _ _ (by omega) hk2 rfl⟩⟩)
  ⟨hsz1,hI _ _ _ h0 (KM.cZ hS1 (Nat.le_refl _)),hL1,hK1⟩
 obtain ⟨e,w3,fr,hR,hsteps,hfn,hleave⟩:=hcall.2 (b.atR { a with defers:={ target:=.collected w.heap.size,args:=#[] }::a.defers } (.inRangeFunc (w.heap.size+1)::k)::cs) (room_wide _)
 rcases hR with ⟨v,hh,rfl,hfin,hsz,hi,hl,hk⟩ | ⟨ch,rfl,hi,hk⟩
 ·have hend:=run_endLoop (P:=P) hl (by rw [hrc];simp)
  have k4:KM w.heap.size w3 (w3.putObj (w.heap.size+1) (.loop { rc .ready with state:=.exhausted })):=KM.put _ hl rfl (by omega)
  refine ⟨.normal,_,_,hdone _ _ _ (Nat.le_refl _) hfin (hI _ _ _ hi k4) ((World.putObj_heap_other (by omega)).trans hk), ?_⟩
  have hp0:(rc .ready).pending=none:=by rw [hrc]
  replace hend:=hend.trans (congrArg (fun p=>Result.ok p (w3.putObj (w.heap.size+1) (.loop { rc .ready with state:=.exhausted }))) hp0)
  have h9:step P (lone fr (b.atR { a with defers:={ target:=.collected w.heap.size,args:=#[] }::a.defers } (.inRangeFunc (w.heap.size+1)::k)::cs) w3)=.next (lone (b.atR { a with defers:={ target:=.collected w.heap.size,args:=#[] }::a.defers } (.endRangeFunc (w.heap.size+1)::k)) cs w3):=by
   rw [<-finish_atR_inRangeFunc (w.heap.size+1) v];exact step_leave_returned hleave
  exact .head (fenced_wide P _) henter (StepsIn.trans hsteps (.head (fenced_wide P _) h9 (.one (fenced_wide P _) (stepR_endRangeFunc hend))))
 ·refine ⟨.panic ch,_,w3,Mf _ _ _ (Nat.le_refl _) hi hk,.inRangeFunc (w.heap.size+1)::k,.head (fenced_wide P _) henter (StepsIn.trans hsteps (.one (fenced_wide P _) ?_))⟩
  rw [<-Frame.raise_atR];exact step_leave_panicked hleave
def Ka (Q:Exit->Act->World->Prop):Exit->Act->World->Prop
 | .ret,a,w=>Q .ret a w
 | _,_,_=>False
theorem DT {P:Program} {c:Code} {Q:Exit->Act->World->Prop} {a:Act} {w:World} (h:c.wp P (Ka Q) a w):c.wp P Q a w:=by
 refine wp_mono h ?_
 intro e a w hq
 match e,hq with
 | .ret,hq=>exact hq
open Go.ChangeMaps (setBlock)
set_option linter.unusedVariables false
set_option linter.unusedSimpArgs false
def mgV (m:Mg):Value:=.agg #[.int .i64 m.fr,.int .i64 m.gr,.int .i64 m.st,.bool m.nul,.string m.body]
theorem qx (a b:Mg) (w:World):(Op.equal 42 (mgV a) (mgV b)).run prog w=.ok (dX a b) w:=by
 show (Op.equalIn 10000 42 (mgV a) (mgV b)).run prog w=.ok (dX a b) w
 obtain ⟨af,ag,at1,an,ab⟩:=a
 obtain ⟨bf,bg,bt,bn,bb⟩:=b
 simp only [dX,mgV]
 by_cases h1:af=bf <;> by_cases h2:ag=bg <;> by_cases h3:at1=bt <;> by_cases h4:an=bn <;> by_cases h5:ab.toList=bb.toList <;>
  simp [go_sem,underlying42,h1,h2,h3,h4,h5,beq_toListBytes]
theorem jA (em:Bool) (n:Nat) (t:TypeId) (v:Value) (w:World) (h:(∃ k,prog.underlying t=some (.int k))\/prog.underlying t=some .bool\/prog.underlying t=some .string):(Instr.checkKey em (n+1) t v).run prog w=.ok () w:=by
 unfold Instr.checkKey
 rcases h with ⟨k,h⟩ | h | h <;> simp [run_underlying h]
theorem uy (em:Bool) (n:Nat) (m:Mg) (w:World):(Instr.checkKey em (n+1+1) 42 (mgV m)).run prog w=.ok () w:=by
 unfold Instr.checkKey
 have hi:∀ (v:Value) (w:World),(Instr.checkKey em (n+1) 3 v).run prog w=.ok () w:=fun v w=>jA em n _ v w (.inl ⟨.i64,underlying3⟩)
 have hb:∀ (v:Value) (w:World),(Instr.checkKey em (n+1) 4 v).run prog w=.ok () w:=fun v w=>jA em n _ v w (.inr (.inl underlying4))
 have hs:∀ (v:Value) (w:World),(Instr.checkKey em (n+1) 9 v).run prog w=.ok () w:=fun v w=>jA em n _ v w (.inr (.inr underlying9))
 simp [mgV,run_underlying underlying42,hi,hb,hs,go_sem]
theorem iH (em:Bool) (m:Mg) (w:World):(Instr.checkKey em 10000 42 (mgV m)).run prog w=.ok () w:=uy em 9998 m w
def fQ:Nat->List Mg->List MapEntry
 | _,[]=>[]
 | k,m::r=>⟨mgV m,.agg #[],k⟩::fQ (k+1) r
def ents (ms:List Mg):Array MapEntry:=(fQ 0 ms).toArray
theorem sD:∀ (ms:List Mg) (k i:Nat),(fQ k ms)[i]? = (ms[i]?).map fun m=>⟨mgV m,.agg #[],k+i⟩
 | [],_,_=>by simp [fQ]
 | m::r,k,0=>by simp [fQ]
 | m::r,k,i+1=>by
  simp only [fQ,List.getElem?_cons_succ,sD r (k+1) i]
  rw [show k+1+i=k+(i+1) from by omega]
theorem qy:∀ (ms:List Mg) (k:Nat) (m:Mg),fQ k (ms++[m])=fQ k ms++[⟨mgV m,.agg #[],k+ms.length⟩]
 | [],k,m=>by simp [fQ]
 | x::r,k,m=>by
  simp only [List.cons_append,fQ,qy r (k+1) m,List.length_cons]
  rw [show k+1+r.length=k+(r.length+1) from by omega]
theorem FJ (ms:List Mg) (m:Mg):ents (ms++[m])=(ents ms).push ⟨mgV m,.agg #[],ms.length⟩:=by
 unfold ents
 rw [qy,Nat.zero_add]
 simp
theorem sG (ms:List Mg) (i:Nat):(ents ms)[i]? = (ms[i]?).map fun m=>⟨mgV m,.agg #[],i⟩:=by
 unfold ents
 rw [List.getElem?_toArray,sD,Nat.zero_add]
theorem jR (m:Mg):dX m m=true:=(dY m m).2 rfl
theorem oz (m:Mg):∀ (ms:List Mg) (k i:Nat) (w:World),
  (m∉ms/\(Instr.findAsking 42 (mgV m) (fQ k ms) i).run prog w=.ok none w)\/∃ j,ms[j]? = some m/\(Instr.findAsking 42 (mgV m) (fQ k ms) i).run prog w=.ok (some (i+j,.agg #[])) w
 | [],k,i,w=>.inl ⟨by simp,rfl⟩
 | x::r,k,i,w=>by
  unfold fQ Instr.findAsking
  simp only [Sem.run_bind,qx]
  by_cases h:m=x
  ·subst h
   right
   refine ⟨0,rfl, ?_⟩
   rw [jR]
   rfl
  ·have hs:dX m x=false:=by rw [<-Bool.not_eq_true,dY];exact h
   rcases oz m r (k+1) (i+1) w with ⟨h1,h2⟩ | ⟨j,h1,h2⟩
   ·left
    refine ⟨by simp [h,h1], ?_⟩
    rw [hs]
    exact h2
   ·right
    refine ⟨j+1,by simpa using h1, ?_⟩
    rw [hs,show i+(j+1)=i+1+j from by omega]
    exact h2
theorem nX (m:Mg) (ms:List Mg) (w:World) :
  (m∉ms/\(Instr.findKey 42 (mgV m) (ents ms).toList).run prog w=.ok none w)\/∃ j,ms[j]? = some m/\(Instr.findKey 42 (mgV m) (ents ms).toList).run prog w=.ok (some (j,.agg #[])) w:=by
 unfold Instr.findKey ents
 simp only [Sem.run_bind,run_underlying underlying42,Result.andThen_ok]
 cases ms with
 | nil=>exact .inl ⟨by simp,rfl⟩
 | cons x r =>
  have hn:∀ fs,Instr.findNow (.struct fs) (mgV m) (fQ 0 (x::r)) 0=none:=fun fs=>rfl
  rw [hn]
  have:=oz m (x::r) 0 0 w
  simp only [Nat.zero_add] at this
  exact this
theorem yS (m:Mg) (w:World):(Instr.keyThatStays (mgV m) (mgV m)).run prog w=.ok (mgV m) w:=by
 have h:Instr.sameBits 10000 (mgV m) (mgV m)=true:=by
  show Instr.sameBits (9999+1) (mgV m) (mgV m)=true
  unfold Instr.sameBits mgV
  simp [Instr.sameBits,beq_toListBytes]
 unfold Instr.keyThatStays
 rw [h]
 rfl
def gD (w:World) (r:Nat) (ms:List Mg):Prop:=w.heap[r]? = some (.map (ents ms) ms.length)
def eu (ms:List Mg) (m:Mg):List Mg:=if ms.any (dX m) then ms else ms++[m]
theorem ko (ms:List Mg) (m:Mg):ms.any (dX m)=true↔m∈ms:=by
 rw [List.any_eq_true]
 constructor
 ·rintro ⟨x,hx,h⟩;rw [(dY m x).1 h];exact hx
 ·intro h;exact ⟨m,h,jR m⟩
theorem run_setObj_map {w:World} {r:Nat} {es:Array MapEntry} {c:Nat} (hr:w.heap[r]? = some (.map es c)) (o':Obj):(setObj r o').run prog w=.ok () (w.putObj r o'):=by
 simp [setObj,Sem.run,hr,World.putObj]
theorem BJ {es:Array MapEntry} {j:Nat} {e:MapEntry} (h:es[j]? = some e):(es.modify j fun x=>{ x with key:=e.key,val:=e.val })=es:=by
 refine Array.ext_getElem? fun i=>?_
 rw [Array.getElem?_modify]
 split
 ·rename_i hij;subst hij;rw [h];rfl
 ·rfl
theorem sH {w:World} {r:Nat} {ms:List Mg} {T:TypeId} {E:TypeId} (hT:prog.underlying T=some (.map 42 E)) (h:gD w r ms) (m:Mg) :
  (Instr.mapUpdate T (.map (some r)) (mgV m) (.agg #[])).run prog w=.ok () (w.putObj r (.map (ents (eu ms m)) (eu ms m).length)):=by
 have hg:(getObj r).run prog w=.ok (.map (ents ms) ms.length) w:=by unfold gD at h;simp [getObj,Sem.run,h]
 unfold Instr.mapUpdate
 simp only [Sem.run_bind,run_underlying hT,Result.andThen_ok,hg,iH]
 rcases nX m ms w with ⟨h1,h2⟩ | ⟨j,h1,h2⟩
 ·have ha:eu ms m=ms++[m]:=by
   unfold eu
   rw [if_neg (by rw [ko];exact h1)]
  rw [h2,ha]
  simp only [Result.andThen_ok]
  rw [run_setObj_map h,FJ,List.length_append]
  rfl
 ·have ha:eu ms m=ms:=by
   unfold eu
   rw [if_pos (by rw [ko];exact List.mem_of_getElem? h1)]
  have he:(ents ms)[j]? = some ⟨mgV m,.agg #[],j⟩:=by rw [sG,h1];rfl
  rw [h2,ha]
  simp only [Result.andThen_ok,he,Option.map_some,Option.getD_some,Sem.run_bind,yS]
  rw [run_setObj_map h]
  have:=BJ he
  dsimp only at this
  rw [this]
theorem zn {w:World} {r:Nat} {ms ms':List Mg} (h:gD w r ms):gD (w.putObj r (.map (ents ms') ms'.length)) r ms' :=
 World.putObj_heap_same (zQ3.1 h).1
theorem vY {w:World} {r:Nat} {ms:List Mg} {T:TypeId} (E:TypeId) (hT:prog.underlying T=some (.map 42 E)) (hz:(zeroValue E).run prog w=.ok (.agg #[]) w) (h:gD w r ms) (m:Mg) :
  (Instr.lookup T (.map (some r)) (mgV m) true).run prog w=.ok (.tuple #[.agg #[],.bool (ms.any (dX m))]) w:=by
 have hg:(getObj r).run prog w=.ok (.map (ents ms) ms.length) w:=by unfold gD at h;simp [getObj,Sem.run,h]
 unfold Instr.lookup
 simp only [Sem.run_bind,run_underlying hT,Result.andThen_ok,hg,iH,Sem.run_pure]
 rcases nX m ms w with ⟨h1,h2⟩ | ⟨j,h1,h2⟩
 ·have ha:ms.any (dX m)=false:=by rw [<-Bool.not_eq_true,ko];exact h1
  rw [h2,ha]
  simp only [Result.andThen_ok,Sem.run_bind,hz,Sem.run_pure]
  rfl
 ·have ha:ms.any (dX m)=true:=by rw [ko];exact List.mem_of_getElem? h1
  rw [h2,ha]
  simp only [Result.andThen_ok,Sem.run_bind,Sem.run_pure]
  rfl
theorem kE (w:World) (r:Nat) (o:Obj):setBlock w r o=w.putObj r o:=rfl
def mq (ms:List Mg) (seen:Array Nat):List Mg:=seen.toList.filterMap fun i=>ms[i]?
theorem BK {ms:List Mg} {e:MapEntry} (h:e∈(ents ms).toList):∃ i m,ms[i]? = some m/\e=⟨mgV m,.agg #[],i⟩:=by
 obtain ⟨i,hi⟩:=List.mem_iff_getElem?.1 h
 rw [Array.getElem?_toList,sG] at hi
 cases hm:ms[i]? with
 | none=>rw [hm] at hi;cases hi
 | some m=>rw [hm] at hi;exact ⟨i,m,hm,(Option.some.inj hi).symm⟩
theorem FK (ms:List Mg):(ents ms).toList.map (·.born)=List.range ms.length:=by
 refine List.ext_getElem? fun i=>?_
 rw [List.getElem?_map,Array.getElem?_toList,sG]
 by_cases h:i < ms.length
 ·rw [zQ1 h];simp [h]
 ·rw [List.getElem?_eq_none (by omega)];simp [h]
theorem Ik (ms:List Mg):∀ x∈(ents ms).toList,x.born < ms.length:=fun x hx=>by
 obtain ⟨i,m,hm,rfl⟩:=BK hx
 exact (zQ2.1 hm).1
def vZ (n it:Nat) (w:World):Nat:=match w.heap[it]? with | some (.mapIter _ _ seen _)=>n - seen.size | _=>0
theorem zo {n it:Nat} {w:World} {m:Option Nat} {s c:Nat} {seen:Array Nat} (h:w.heap[it]? = some (.mapIter m s seen c)):vZ n it w=n - seen.size:=by unfold vZ;rw [h]
structure Seen (ms:List Mg) (seen:Array Nat):Prop where
 lt:∀ i∈seen.toList,i < ms.length
 nd:seen.toList.Nodup
theorem uD:∀ (n:Nat) (l:List Nat),l.Nodup->(∀ i∈l,i < n)->l.length<=n
 | 0,l,_,h=>by
  cases l with
  | nil=>simp
  | cons a r=>exact absurd (h a (by simp)) (by omega)
 | n+1,l,hd,h=>by
  by_cases hn:n∈l
  ·have h1:=uD n (l.erase n) (hd.erase n) (fun i hi=>by
    have hne:i≠n:=fun e=>by subst e;exact (hd.not_mem_erase) hi
    have:=h i (List.mem_of_mem_erase hi)
    omega)
   rw [List.length_erase_of_mem hn] at h1
   omega
  ·have:=uD n l hd (fun i hi=>by
    have hne:i≠n:=fun e=>by subst e;exact hn hi
    have:=h i hi
    omega)
   omega
theorem FL {ms:List Mg} {seen:Array Nat} (h:Seen ms seen):seen.size<=ms.length:=by
 have:=uD ms.length seen.toList h.nd h.lt
 simpa using this
theorem FM {ms:List Mg} {seen:Array Nat} (h:Seen ms seen) {i:Nat} (hi:i < ms.length) (hn:i∉seen.toList):Seen ms (seen.push i):=by
 constructor
 ·intro j hj
  simp at hj
  rcases hj with h1 | rfl
  ·exact h.lt j (by simpa using h1)
  ·exact hi
 ·rw [Array.toList_push,List.nodup_append]
  refine ⟨h.nd,by simp, ?_⟩
  intro a ha b hb
  simp at hb
  rintro rfl
  exact hn (hb ▸ ha)
theorem FN {ms:List Mg} {seen:Array Nat} {i:Nat} {m:Mg} (hm:ms[i]? = some m):mq ms (seen.push i)=mq ms seen++[m]:=by
 unfold mq
 rw [Array.toList_push,List.filterMap_append]
 simp [hm]
theorem zq:∀ ms:List Mg,(List.range ms.length).filterMap (fun i=>ms[i]?)=ms
 | []=>rfl
 | x::r=>by
  have ih:=zq r
  rw [List.length_cons,List.range_succ_eq_map,List.filterMap_cons,List.filterMap_map]
  have:((fun i=>(x::r)[i]?) ∘ Nat.succ)=fun i=>r[i]?:=by funext i;simp
  rw [this,ih]
  simp
theorem Il {ms:List Mg} {seen:Array Nat} (h:Seen ms seen) (hall:∀ i,i < ms.length->i∈seen.toList):(mq ms seen).Perm ms:=by
 have hp:seen.toList.Perm (List.range ms.length):=by
  refine (List.perm_ext_iff_of_nodup h.nd List.nodup_range).2 fun i=>?_
  rw [List.mem_range]
  exact ⟨h.lt i,hall i⟩
 have:=hp.filterMap (fun i=>ms[i]?)
 unfold mq
 refine this.trans ?_
 have e:=zq ms
 rw [e]
theorem Im {ms:List Mg} {seen:Array Nat} {e:MapEntry} (h:e∈(leftOf (ents ms) seen).toList):∃ i m,ms[i]? = some m/\e=⟨mgV m,.agg #[],i⟩/\i∉seen.toList/\e∈(ents ms).toList:=by
 unfold leftOf at h
 simp only [Array.toList_filter,List.mem_filter] at h
 obtain ⟨h1,h2⟩:=h
 obtain ⟨i,m,hm,rfl⟩:=BK h1
 refine ⟨i,m,hm,rfl, ?_,h1⟩
 simpa using h2
theorem FP {ms:List Mg} {seen:Array Nat} (h:(leftOf (ents ms) seen).size=0):∀ i,i < ms.length->i∈seen.toList:=by
 intro i hi
 obtain ⟨m,hm⟩:∃ m,ms[i]? = some m:=⟨_,zQ1 hi⟩
 have hmem:(⟨mgV m,.agg #[],i⟩:MapEntry)∈(ents ms).toList:=by
  refine List.mem_iff_getElem?.2 ⟨i, ?_⟩
  rw [Array.getElem?_toList,sG,hm];rfl
 have he:(leftOf (ents ms) seen)=#[]:=Array.eq_empty_of_size_eq_zero h
 unfold leftOf at he
 rw [Array.filter_eq_empty_iff] at he
 have:=he _ (by simpa using hmem)
 simpa using this
end Go.Proofs.YtiiifecfdkjmbaaGreat
