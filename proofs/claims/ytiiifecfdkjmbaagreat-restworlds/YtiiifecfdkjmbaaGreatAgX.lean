/- Lemmas. -/
import Derived.Test.YtiiifecfdkjmbaaGreatSLogX
import Derived.Maps.RangeRun
import Derived.Shelf.SlSortCmp.WholeK
import Derived.Shelf.SlGeneric
import Derived.Ground.SlsfProg
import Derived.Shelf.SlSortCmp.NoneTotal
import Derived.Test.YtiiifecfdkjmbaaGreatPureY
set_option maxHeartbeats 4000000
namespace Go.Proofs.YtiiifecfdkjmbaaGreat
open _root_.Go.Proofs.Tryz
set_option maxRecDepth 8000
open Go.RowKit Go.Shelf
def NCa (n:Nat) (A B:World):Prop:=∀ (k:Nat) (o:Obj),n<=k->A.heap[k]? = some o->o.isCells=false->B.heap[k]? = some o
theorem NCa.refl (n:Nat) (A:World):NCa n A A:=fun _ _ _ h _=>h
theorem NCa.trans {n:Nat} {A B C:World} (h:NCa n A B) (k:NCa n B C):NCa n A C:=fun i o hi ho hc=>k i o hi (h i o hi ho hc) hc
theorem NCa.dD {n:Nat} {A B:World} (h:Since A B):NCa n A B:=fun _ _ _ hk _=>h.block hk
structure KH (n0 bj base:Nat) (A B:World):Prop where
 kb:KB n0 bj A B
 nc:NCa base A B
theorem KH.refl (n0 bj base:Nat) (A:World):KH n0 bj base A A:=⟨KB.refl _ _ _,NCa.refl _ _⟩
theorem KH.trans {n0 bj base:Nat} {A B C:World} (h:KH n0 bj base A B) (k:KH n0 bj base B C):KH n0 bj base A C:=⟨h.kb.trans k.kb,h.nc.trans k.nc⟩
theorem KH.dD {n0 bj base:Nat} {A B:World} (h:Since A B) (hn:n0<=A.heap.size) (hb:bj < A.heap.size):KH n0 bj base A B:=⟨KB.dD h hn hb,NCa.dD h⟩
def Lb {α:Type} (P:Program) (m:Nat) (g:Nat) (lb:Array Value) (encs:α->Array Value) (Kp:World->World->Prop) (R:List α->α->Prop) (Fin:List α->Prop) (w:World):Prop :=
 ∀ (l:Nat) (J:List α->World->Prop) (Jp:List PanicEntry->World->Prop) (W:World),Since w W->(∀ h A B,J h A->KX W.heap.size none A B->J h B) ->
  (∀ h x W1,J h W1->R h x->YieldAt Fence.wide (m - 1) P l (encs x) W1 fun e W' =>
   (e=.returned (.bool true)/\J (h++[x]) W'/\Kp W1 W')\/(∃ ch,e=.panicked ch/\Jp ch W')) ->
  J [] W ->
  CallsIn Fence.wide m P g (#[.func (.yield l) #[] #[]]++lb) W fun e W'=>(∃ v h,e=.returned v/\Fin h/\J h W')\/(∃ ch,e=.panicked ch/\Jp ch W')
def Qx {α:Type} (n0 bj base:Nat) (I:List α->World->Prop) (Ip:List PanicEntry->World->Prop) (h:List α) (W:World):Exit->Act->World->Prop
 | .normal,_,W'=>KH n0 bj base W W'/\I h W'
 | .panic ch,a,W'=>a.defers=[]/\NCa base W W'/\Ip ch W'
 | _,_,_=>False
theorem yL {α:Type} {P:Program} {f0:FuncId} {fn:Func} (hf:P.funcs[f0]? = some fn) {g:Operand} {ps:Array Tmp} {assign body:Code} {Q:Exit->Act->World->Prop} {a:Act} {w:World}
  {gf:Nat} {lb:Array Value} (hg:a.eval g=.func (.func gf) #[] lb) (eg:∀ args w,(callFunc gf args).run P w=.ok (.enter gf args) w)
  {m:Nat} {encs:α->Array Value} {n0 bj:Nat} {R:List α->α->Prop} {Fin:List α->Prop} (hn0:n0<=w.heap.size) (hbj:bj < w.heap.size) (hseq:Lb P m gf lb encs (KH n0 bj w.heap.size) R Fin w) (hps:∀ x,(encs x).size=ps.size)
  (I:List α->World->Prop) (Ip:List PanicEntry->World->Prop) (hI:∀ h A B,I h A->KX w.heap.size none A B->I h B) (h0:I [] w)
  (yM:∀ (l:Nat) (h:List α) (x:α) (W:World),w.heap.size<=W.heap.size->I h W->R h x ->
   assign.wpIn (Fence.wide.inRound l) (m - 1) P (Exit.then (fun a' W1=>Since W W1/\∀ W',w.heap.size<=W'.heap.size->KX w.heap.size none W1 W'->body.wpIn (Fence.wide.inRound l) (m - 1) P (Qx n0 bj w.heap.size I Ip (h++[x]) W') a' W') (fun _ _ _=>False)) { tmps:=(ps.zip (encs x)).foldl (fun t (p,v)=>t.setIfInBounds p v) a.tmps,defers:=[] } W)
  (hdone:∀ (D:Nat) (h:List α) (W:World),w.heap.size<=D->Fin h->I h W->W.heap[D]? = some (.deferred (some []))->Q .normal { a with defers:={ target:=.collected D,args:=#[] }::a.defers } W)
  (Lc:∀ (D:Nat) (ch:List PanicEntry) (W:World),w.heap.size<=D->Ip ch W->W.heap[D]? = some (.deferred (some []))->Q (.panic ch) { a with defers:={ target:=.collected D,args:=#[] }::a.defers } W) :
  wpF P f0 (Code.rangeFunc g ps assign body) Q a w:=by
 intro b k cs hro hb
 obtain ⟨rc,hrc⟩:∃ rc:LoopState->Loop,rc=fun st=>{ state:=st,pending:=none,fn:=f0,tmps:=a.tmps,params:=ps,assign,body,defers:=w.heap.size }:=⟨_,rfl⟩
 obtain ⟨W1,hW1⟩:∃ W1,(w.alloc (.deferred (some []))).alloc (.loop (rc .ready))=W1:=⟨_,rfl⟩
 have hS1:Since w W1:=by rw [<-hW1];exact ((Since.refl w).alloc _).alloc _
 have hL1:W1.heap[w.heap.size+1]? = some (.loop (rc .ready)):=by
  rw [<-hW1];have:=World.alloc_heap_new (w.alloc (.deferred (some []))) (.loop (rc .ready));rwa [World.size_alloc] at this
 have hK1:W1.heap[w.heap.size]? = some (.deferred (some [])):=by
  rw [<-hW1];exact (Below.heap_alloc _ _ _ (by simp)).trans (World.alloc_heap_new w _)
 have hsz1:w.heap.size<=W1.heap.size:=hS1.size
 have he:(Instr.enterLoop b.fn a.tmps ps assign body b.roundOf).run P w=.ok (w.heap.size+1,[{ target:=.collected w.heap.size,args:=#[] }]) W1:=by
  rw [hro,hb,<-hW1,hrc];exact run_enterLoop_outer _ _ _ _ _
 have hres:(resolve a.eval (rangeCall g (w.heap.size+1)) 0).run P W1=.ok { target:=.fn (.func gf) lb,args:=#[.func (.yield (w.heap.size+1)) #[] #[]] } W1:=by
  simp only [resolve,hg];simp [go_sem]
 have hinv:(invoke (.fn (.func gf) lb) #[.func (.yield (w.heap.size+1)) #[] #[]]).run P W1=.ok (.enter gf (#[.func (.yield (w.heap.size+1)) #[] #[]]++lb)) W1:=by simp [invoke,go_sem,eg]
 have henter:=stepR_rangeFunc (P:=P) (b:=b) (a:=a) (k:=k) (cs:=cs) (w:=w) he hres hinv
 have hcall:=hseq (w.heap.size+1)
  (fun h W=>w.heap.size<=W.heap.size/\I h W/\W.heap[w.heap.size+1]? = some (.loop (rc .ready))/\W.heap[w.heap.size]? = some (.deferred (some [])))
  (fun ch W=>Ip ch W/\W.heap[w.heap.size]? = some (.deferred (some [])))
  W1 hS1 (fun h A B hA hS=>⟨zQ5 hA.1 hS.below.size,hI h A B hA.2.1 (hS.weak hsz1),(hS.below.block _ (by have:=(zQ3.1 hL1).1;omega)).trans hA.2.2.1,(hS.below.block _ (by have:=(zQ3.1 hL1).1;omega)).trans hA.2.2.2⟩)
  (by
   rintro h x W ⟨hsz,hi,hl,hk⟩ hx
   have hlt:w.heap.size+1 < W.heap.size:=(zQ3.1 hl).1
   have hy:=run_yield (P:=P) (args:=encs x) hl (by rw [hrc];exact hps x)
   have er:(rc .ready).fn=f0/\(rc .ready).assign=assign/\(rc .ready).body=body/\(rc .ready).params=ps/\(rc .ready).tmps=a.tmps:=by rw [hrc];exact ⟨rfl,rfl,rfl,rfl,rfl⟩
   rw [er.1,er.2.1,er.2.2.1,er.2.2.2.1,er.2.2.2.2] at hy
   refine ⟨_,_,_,_,hy,Cm hf (wpIn_mono (yM _ h x W hsz hi hx) ?_)⟩
   intro e0 a0 W0 hp0
   match e0,hp0 with
   | .normal,⟨yN,hb0⟩ =>
   have hl0:W0.heap[w.heap.size+1]? = some (.loop (rc .ready)):=yN.block hl
   have hk0:W0.heap[w.heap.size]? = some (.deferred (some [])):=yN.block hk
   have O4:w.heap.size+1 < W0.heap.size:=(zQ3.1 hl0).1
   have k2:KX w.heap.size none W0 (W0.putObj (w.heap.size+1) (.loop { rc .ready with state:=.busy })):=KX.put _ hl0 rfl (by omega)
   have hl2:(W0.putObj (w.heap.size+1) (.loop { rc .ready with state:=.busy })).heap[w.heap.size+1]? = some (.loop { rc .ready with state:=.busy }):=World.putObj_heap_same O4
   have hk2:(W0.putObj (w.heap.size+1) (.loop { rc .ready with state:=.busy })).heap[w.heap.size]? = some (.deferred (some [])):=(World.putObj_heap_other (by omega)).trans hk0
   refine ⟨_,run_beginRound hl0 (by rw [hrc]),wpIn_mono (hb0 _ (by simp only [World.putObj_size];omega) k2) ?_⟩
   intro e a3 W3 hp
   match e,hp with
   | .normal,⟨⟨hx3,hn3⟩,hi3⟩ =>
    have hl3:=hn3 _ _ (by omega) hl2 rfl
    have hend:=run_endRound (P:=P) none hl3
    have k4:KX w.heap.size none W3 (W3.putObj (w.heap.size+1) (.loop (rc .ready))):=KX.put _ hl3 rfl (by omega)
    refine ⟨_,_,hend,.inl ⟨rfl,⟨?_,hI _ _ _ hi3 ?_, ?_, ?_⟩, ?_⟩⟩
    ·have:=hx3.below.size;simp only [World.putObj_size] at this ⊢;omega
    ·rw [hrc] at k4 ⊢;exact k4
    ·rw [hrc] at hl3 ⊢;exact World.putObj_heap_same (zQ3.1 hl3).1
    ·exact (World.putObj_heap_other (by omega)).trans (hn3 _ _ (by omega) hk2 rfl)
    ·constructor
     ·refine (KB.dD yN (by omega) (by omega)).trans (KB.trans ⟨k2.below.mono hn0,World.putObj_heap_other (by omega)⟩ (hx3.trans ?_))
      rw [hrc] at k4 ⊢;exact ⟨k4.below.mono hn0,World.putObj_heap_other (by omega)⟩
     ·intro j o hj ho hc
      have ho0:=yN.block ho
      by_cases hjl:j=w.heap.size+1
      ·subst hjl
       rw [hl0] at ho0
       obtain rfl:=Option.some.inj ho0
       rw [hrc] at hl3 ⊢;exact World.putObj_heap_same (zQ3.1 hl3).1
      ·exact (World.putObj_heap_other hjl).trans (hn3 j _ hj ((World.putObj_heap_other hjl).trans ho0) hc)
   | .panic ch,⟨hd,hn3,hp3⟩=>exact ⟨hd,.inr ⟨ch,rfl,hp3,hn3 _ _ (by omega) hk2 rfl⟩⟩)
  ⟨hsz1,hI _ _ _ h0 (KX.dD hS1 (Nat.le_refl _)),hL1,hK1⟩
 obtain ⟨e,w3,fr,hR,hsteps,hfn,hleave⟩:=hcall.2 (b.atR { a with defers:={ target:=.collected w.heap.size,args:=#[] }::a.defers } (.inRangeFunc (w.heap.size+1)::k)::cs) (room_wide _)
 rcases hR with ⟨v,hh,rfl,hfin,hsz,hi,hl,hk⟩ | ⟨ch,rfl,hi,hk⟩
 ·have hend:=run_endLoop (P:=P) hl (by rw [hrc];simp)
  have k4:KX w.heap.size none w3 (w3.putObj (w.heap.size+1) (.loop { rc .ready with state:=.exhausted })):=KX.put _ hl rfl (by omega)
  refine ⟨.normal,_,_,hdone _ _ _ (Nat.le_refl _) hfin (hI _ _ _ hi k4) ((World.putObj_heap_other (by omega)).trans hk), ?_⟩
  have hp0:(rc .ready).pending=none:=by rw [hrc]
  replace hend:=hend.trans (congrArg (fun p=>Result.ok p (w3.putObj (w.heap.size+1) (.loop { rc .ready with state:=.exhausted }))) hp0)
  have h9:step P (lone fr (b.atR { a with defers:={ target:=.collected w.heap.size,args:=#[] }::a.defers } (.inRangeFunc (w.heap.size+1)::k)::cs) w3)=.next (lone (b.atR { a with defers:={ target:=.collected w.heap.size,args:=#[] }::a.defers } (.endRangeFunc (w.heap.size+1)::k)) cs w3):=by
   rw [<-finish_atR_inRangeFunc (w.heap.size+1) v];exact step_leave_returned hleave
  exact .head (fenced_wide P _) henter (StepsIn.trans hsteps (.head (fenced_wide P _) h9 (.one (fenced_wide P _) (stepR_endRangeFunc hend))))
 ·refine ⟨.panic ch,_,w3,Lc _ _ _ (Nat.le_refl _) hi hk,.inRangeFunc (w.heap.size+1)::k,.head (fenced_wide P _) henter (StepsIn.trans hsteps (.one (fenced_wide P _) ?_))⟩
  rw [<-Frame.raise_atR];exact step_leave_panicked hleave
open Go.ChangeMaps (setBlock)
set_option linter.unusedVariables false
set_option linter.unusedSimpArgs false
def mgV (m:Mg):Value:=.agg #[.int .i64 m.fr,.int .i64 m.gr,.int .i64 m.st,.bool m.nul,.string m.body]
theorem Az (a b:Mg) (w:World):(Op.equal 42 (mgV a) (mgV b)).run prog w=.ok (dN a b) w:=by
 show (Op.equalIn 10000 42 (mgV a) (mgV b)).run prog w=.ok (dN a b) w
 obtain ⟨af,ag,at1,an,ab⟩:=a
 obtain ⟨bf,bg,bt,bn,bb⟩:=b
 simp only [dN,mgV]
 by_cases h1:af=bf <;> by_cases h2:ag=bg <;> by_cases h3:at1=bt <;> by_cases h4:an=bn <;> by_cases h5:ab.toList=bb.toList <;>
  simp [go_sem,underlying42,h1,h2,h3,h4,h5,beq_toListBytes]
theorem kD (em:Bool) (n:Nat) (t:TypeId) (v:Value) (w:World) (h:(∃ k,prog.underlying t=some (.int k))\/prog.underlying t=some .bool\/prog.underlying t=some .string):(Instr.checkKey em (n+1) t v).run prog w=.ok () w:=by
 unfold Instr.checkKey
 rcases h with ⟨k,h⟩ | h | h <;> simp [run_underlying h]
theorem wQ (em:Bool) (n:Nat) (m:Mg) (w:World):(Instr.checkKey em (n+1+1) 42 (mgV m)).run prog w=.ok () w:=by
 unfold Instr.checkKey
 have hi:∀ (v:Value) (w:World),(Instr.checkKey em (n+1) 3 v).run prog w=.ok () w:=fun v w=>kD em n _ v w (.inl ⟨.i64,underlying3⟩)
 have hb:∀ (v:Value) (w:World),(Instr.checkKey em (n+1) 4 v).run prog w=.ok () w:=fun v w=>kD em n _ v w (.inr (.inl underlying4))
 have hs:∀ (v:Value) (w:World),(Instr.checkKey em (n+1) 9 v).run prog w=.ok () w:=fun v w=>kD em n _ v w (.inr (.inr underlying9))
 simp [mgV,run_underlying underlying42,hi,hb,hs,go_sem]
theorem wR (em:Bool) (m:Mg) (w:World):(Instr.checkKey em 10000 42 (mgV m)).run prog w=.ok () w:=wQ em 9998 m w
def gW:Nat->List Mg->List MapEntry
 | _,[]=>[]
 | k,m::r=>⟨mgV m,.agg #[],k⟩::gW (k+1) r
def ents (ms:List Mg):Array MapEntry:=(gW 0 ms).toArray
theorem vk:∀ (ms:List Mg) (k i:Nat),(gW k ms)[i]? = (ms[i]?).map fun m=>⟨mgV m,.agg #[],k+i⟩
 | [],_,_=>by simp [gW]
 | m::r,k,0=>by simp [gW]
 | m::r,k,i+1=>by
  simp only [gW,List.getElem?_cons_succ,vk r (k+1) i]
  rw [show k+1+i=k+(i+1) from by omega]
theorem tH:∀ (ms:List Mg) (k:Nat) (m:Mg),gW k (ms++[m])=gW k ms++[⟨mgV m,.agg #[],k+ms.length⟩]
 | [],k,m=>by simp [gW]
 | x::r,k,m=>by
  simp only [List.cons_append,gW,tH r (k+1) m,List.length_cons]
  rw [show k+1+r.length=k+(r.length+1) from by omega]
theorem Js (ms:List Mg) (m:Mg):ents (ms++[m])=(ents ms).push ⟨mgV m,.agg #[],ms.length⟩:=by
 unfold ents
 rw [tH,Nat.zero_add]
 simp
theorem vo (ms:List Mg) (i:Nat):(ents ms)[i]? = (ms[i]?).map fun m=>⟨mgV m,.agg #[],i⟩:=by
 unfold ents
 rw [List.getElem?_toArray,vk,Nat.zero_add]
theorem pR (m:Mg):dN m m=true:=(iY m m).2 rfl
theorem qH (m:Mg):∀ (ms:List Mg) (k i:Nat) (w:World),
  (m∉ms/\(Instr.findAsking 42 (mgV m) (gW k ms) i).run prog w=.ok none w)\/∃ j,ms[j]? = some m/\(Instr.findAsking 42 (mgV m) (gW k ms) i).run prog w=.ok (some (i+j,.agg #[])) w
 | [],k,i,w=>.inl ⟨by simp,rfl⟩
 | x::r,k,i,w=>by
  unfold gW Instr.findAsking
  simp only [Sem.run_bind,Az]
  by_cases h:m=x
  ·subst h
   right
   refine ⟨0,rfl, ?_⟩
   rw [pR]
   rfl
  ·have hs:dN m x=false:=by rw [<-Bool.not_eq_true,iY];exact h
   rcases qH m r (k+1) (i+1) w with ⟨h1,h2⟩ | ⟨j,h1,h2⟩
   ·left
    refine ⟨by simp [h,h1], ?_⟩
    rw [hs]
    exact h2
   ·right
    refine ⟨j+1,by simpa using h1, ?_⟩
    rw [hs,show i+(j+1)=i+1+j from by omega]
    exact h2
theorem yj (m:Mg) (ms:List Mg) (w:World) :
  (m∉ms/\(Instr.findKey 42 (mgV m) (ents ms).toList).run prog w=.ok none w)\/∃ j,ms[j]? = some m/\(Instr.findKey 42 (mgV m) (ents ms).toList).run prog w=.ok (some (j,.agg #[])) w:=by
 unfold Instr.findKey ents
 simp only [Sem.run_bind,run_underlying underlying42,Result.andThen_ok]
 cases ms with
 | nil=>exact .inl ⟨by simp,rfl⟩
 | cons x r =>
  have hn:∀ fs,Instr.findNow (.struct fs) (mgV m) (gW 0 (x::r)) 0=none:=fun fs=>rfl
  rw [hn]
  have:=qH m (x::r) 0 0 w
  simp only [Nat.zero_add] at this
  exact this
theorem AA (m:Mg) (w:World):(Instr.keyThatStays (mgV m) (mgV m)).run prog w=.ok (mgV m) w:=by
 have h:Instr.sameBits 10000 (mgV m) (mgV m)=true:=by
  show Instr.sameBits (9999+1) (mgV m) (mgV m)=true
  unfold Instr.sameBits mgV
  simp [Instr.sameBits,beq_toListBytes]
 unfold Instr.keyThatStays
 rw [h]
 rfl
def jL (w:World) (r:Nat) (ms:List Mg):Prop:=w.heap[r]? = some (.map (ents ms) ms.length)
def dO (ms:List Mg) (m:Mg):List Mg:=if ms.any (dN m) then ms else ms++[m]
theorem vv (ms:List Mg) (m:Mg):ms.any (dN m)=true↔m∈ms:=by
 rw [List.any_eq_true]
 constructor
 ·rintro ⟨x,hx,h⟩;rw [(iY m x).1 h];exact hx
 ·intro h;exact ⟨m,h,pR m⟩
theorem run_setObj_map {w:World} {r:Nat} {es:Array MapEntry} {c:Nat} (hr:w.heap[r]? = some (.map es c)) (o':Obj):(setObj r o').run prog w=.ok () (w.putObj r o'):=by
 simp [setObj,Sem.run,hr,World.putObj]
theorem D7 {es:Array MapEntry} {j:Nat} {e:MapEntry} (h:es[j]? = some e):(es.modify j fun x=>{ x with key:=e.key,val:=e.val })=es:=by
 refine Array.ext_getElem? fun i=>?_
 rw [Array.getElem?_modify]
 split
 ·rename_i hij;subst hij;rw [h];rfl
 ·rfl
theorem vw {w:World} {r:Nat} {ms:List Mg} {T:TypeId} {E:TypeId} (hT:prog.underlying T=some (.map 42 E)) (h:jL w r ms) (m:Mg) :
  (Instr.mapUpdate T (.map (some r)) (mgV m) (.agg #[])).run prog w=.ok () (w.putObj r (.map (ents (dO ms m)) (dO ms m).length)):=by
 have hg:(getObj r).run prog w=.ok (.map (ents ms) ms.length) w:=by unfold jL at h;simp [getObj,Sem.run,h]
 unfold Instr.mapUpdate
 simp only [Sem.run_bind,run_underlying hT,Result.andThen_ok,hg,wR]
 rcases yj m ms w with ⟨h1,h2⟩ | ⟨j,h1,h2⟩
 ·have ha:dO ms m=ms++[m]:=by
   unfold dO
   rw [if_neg (by rw [vv];exact h1)]
  rw [h2,ha]
  simp only [Result.andThen_ok]
  rw [run_setObj_map h,Js,List.length_append]
  rfl
 ·have ha:dO ms m=ms:=by
   unfold dO
   rw [if_pos (by rw [vv];exact List.mem_of_getElem? h1)]
  have he:(ents ms)[j]? = some ⟨mgV m,.agg #[],j⟩:=by rw [vo,h1];rfl
  rw [h2,ha]
  simp only [Result.andThen_ok,he,Option.map_some,Option.getD_some,Sem.run_bind,AA]
  rw [run_setObj_map h]
  have:=D7 he
  dsimp only at this
  rw [this]
theorem Jt {w:World} {r:Nat} {ms ms':List Mg} (h:jL w r ms):jL (w.putObj r (.map (ents ms') ms'.length)) r ms' :=
 World.putObj_heap_same (zQ3.1 h).1
attribute [local go_sem] Oper.semAt_some
theorem F9 (x:WV) (w:World) :
  Calls prog 113 #[.agg #[.slice x.ga x.gl x.gc,.slice x.na x.nl x.nc,.slice x.wa x.wl x.wc]] w fun e w'=>e=.returned (.func (.func 169) #[] #[.pointer (some ⟨w.heap.size,0,none⟩)])/\w'=w.alloc (.cells #[.slice x.ga x.gl x.gc,.slice x.na x.nl x.nc,.slice x.wa x.wl x.wc] 26):=by
 go_enter func113,ntmps113
 go_wp2
 go_ret
 exact ⟨rfl,rfl⟩
def Ga (L:List Mg) (h:List Mg) (x:Mg):Prop:=L[h.length]? = some x/\h=L.take h.length
def toldAll (ns:List Nd):List Mg:=ns.flatMap fun nd=>nd.told
theorem Cn {ns:List Nd} {k:Nat} {nd:Nd} (h:ns[k]? = some nd):toldAll (ns.take (k+1))=toldAll (ns.take k)++nd.told:=by
 unfold toldAll;rw [List.take_add_one,h,List.flatMap_append];simp
theorem Co {ns:List Nd} {k:Nat} {nd:Nd} (h:ns[k]? = some nd) {i:Nat} {m:Mg} (hm:nd.told[i]? = some m):Ga (toldAll ns) (toldAll (ns.take k)++nd.told.take i) m:=by
 have e:toldAll ns=toldAll (ns.take k)++(nd.told++toldAll (ns.drop (k+1))):=by
  conv=>lhs;rw [yO h]
  simp [toldAll]
 have hi:=(zQ2.1 hm).1
 have hl:(toldAll (ns.take k)++nd.told.take i).length=(toldAll (ns.take k)).length+i:=by rw [List.length_append,List.length_take];omega
 constructor
 ·rw [hl,e,List.getElem?_append_right (by omega),Nat.add_sub_cancel_left,List.getElem?_append_left hi];exact hm
 ·rw [hl]
  obtain ⟨A,hA⟩:∃ A,toldAll (ns.take k)=A:=⟨_,rfl⟩
  rw [hA] at e ⊢
  rw [e,List.take_length_add_append,List.take_append_of_le_length (by omega)]
set_option maxRecDepth 100000 in
theorem Gb (m:Nat) (Bj n0 base:Nat) (w00 w:World) (h00:w00.heap.size<=n0) (SE:Since w00 w) (hn0:n0<=w.heap.size) (hBj:Bj < w.heap.size) (x:WV) (d:Wd) (hWA:WAt w00 x d)
  (c1:w.cell? ⟨Bj,1,none⟩=some (.slice x.na x.nl x.nc)) :
  Lb prog m 169 #[.pointer (some ⟨Bj,0,none⟩)] (fun x:Mg=>#[mgV x]) (KH n0 Bj base) (Ga (toldAll d.nodes)) (fun h=>h=toldAll d.nodes) w:=by
 intro l J Jp W hW hJ hY h0
 obtain ⟨ga,gl,gc,na,nl,nc,wa,wl,wc⟩:=x
 have hnl:=hWA.n.hlen
 have hnm:=hWA.n.hmax
 dsimp only at hnl hnm c1
 subst hnl
 have C:∀ W',KH n0 Bj base W W'->W.heap.size<=W'.heap.size/\W'.cell? ⟨Bj,1,none⟩=some (.slice na d.nodes.length nc)/\Since w00 W':=fun W' h =>
  ⟨h.kb.below.size,(h.kb.cell 1).trans ((hW.cellAt hBj _).trans c1),⟨(SE.trans hW).below.trans (h.kb.below.mono h00)⟩⟩
 have CF:Hid (∀ W',KH n0 Bj base W W'->W.heap.size<=W'.heap.size/\W'.cell? ⟨Bj,1,none⟩=some (.slice na d.nodes.length nc)/\Since w00 W'):=C
 obtain ⟨-,d1,-⟩:=C W (KH.refl _ _ _ _)
 have hWs:=hW.size
 have hNr:=hWA.n
 clear C hWA
 refine callsIn_of_wp func169 rfl trivial ?_ rfl
 simp only [ntmps169,List.size_toArray,List.length_cons,List.length_nil,Nat.reduceAdd,Nat.reduceSub,Array.replicate_succ,Array.replicate_zero,List.push_toArray,List.append_toArray,List.nil_append,List.cons_append]
 gi_wp2
 gi_loopw [10] (fun i wr=>∃ k:Nat,k<=d.nodes.length/\i=.int .i64 k/\J (toldAll (d.nodes.take k)) wr/\KH n0 Bj base W wr) (fun i _=>d.nodes.length - (intOf i).toNat)
 case atStart=>exact ⟨0,Nat.zero_le _,rfl,h0,KH.refl _ _ _ _⟩
 case round =>
  obtain ⟨k,hk,rfl,hJs,hB⟩:=hrel
  obtain ⟨hSr,f1,hSz⟩:=CF.out wr hB
  by_cases hlt:k < d.nodes.length
  ·obtain ⟨nd,hnd⟩:∃ nd,d.nodes[k]? = some nd:=⟨_,zQ1 hlt⟩
   obtain ⟨bn,on,rfl,hbn,hcn⟩:=hNr.cells (by omega)
   obtain ⟨k0,⟨v1,k1,la,lc,rfl,hlc,hL⟩,⟨v2,k2,ha,hc,rfl,hhc,hH⟩,⟨v3,k3,ta,tc,rfl,htc,hT⟩⟩:=hcn k nd hnd
   have j0:wr.cell? ⟨bn,on+k*4,none⟩=_:=(hSz.cellAt hbn _).trans k0
   have j1:wr.cell? ⟨bn,on+k*4+1,none⟩=_:=(hSz.cellAt hbn _).trans k1
   have j2:wr.cell? ⟨bn,on+k*4+2,none⟩=_:=(hSz.cellAt hbn _).trans k2
   have j3:wr.cell? ⟨bn,on+k*4+3,none⟩=_:=(hSz.cellAt hbn _).trans k3
   have HND:Hid (d.nodes[k]? = some nd):=hnd
   have HTK:Hid (toldAll (d.nodes.take (k+1))=toldAll (d.nodes.take k)++nd.told):=Cn hnd
   have hTm:=hT.hmax
   obtain ⟨W2,hW2⟩:∃ y,wr.alloc (.cells #[.int .i64 nd.clock,.slice la nd.last.length lc,.slice ha nd.held.length hc,.slice ta nd.told.length tc] 45)=y:=⟨_,rfl⟩
   have hS2:=au hW2
   have z3:W2.cell? ⟨wr.heap.size,3,none⟩=some (.slice ta nd.told.length tc):=by rw [<-hW2];simp [go_sem]
   have hJ2:=hJ _ _ _ hJs (KX.dD hS2 hSr)
   have hB2:=hB.trans (KH.dD (n0:=n0) (bj:=Bj) (base:=base) hS2 (by omega) (by omega))
   clear hcn hnd hL hH k0 k1 k2 k3
   gi_wp2
   clear hW2 z3 j0 j1 j2 j3
   gi_loopw [17] (fun i wr=>∃ t:Nat,t<=nd.told.length/\i=.int .i64 t/\J (toldAll (d.nodes.take k)++nd.told.take t) wr/\KH n0 Bj base W wr) (fun i _=>nd.told.length - (intOf i).toNat)
   case atStart=>exact ⟨0,Nat.zero_le _,rfl,by simpa using hJ2,hB2⟩
   case round =>
    obtain ⟨t,ht,rfl,hJt,hBt⟩:=hrel
    obtain ⟨hSt,-,hSy⟩:=CF.out wr hBt
    by_cases htl:t < nd.told.length
    ·obtain ⟨x,hx⟩:∃ x,nd.told[t]? = some x:=⟨_,zQ1 htl⟩
     obtain ⟨b,off,rfl,hbb,hcell⟩:=(hT.since hSy).cells (by omega)
     obtain ⟨e0,e1,e2,e3,e4⟩:=bJ hcell t x hx
     have HT:Hid (toldAll (d.nodes.take k)++nd.told.take (t+1)=toldAll (d.nodes.take k)++nd.told.take t++[x]):=by unfold Hid;rw [List.take_add_one,hx,List.append_assoc];rfl
     have hNX:=Co HND.out hx
     obtain ⟨W4,hW4⟩:∃ y,wr.alloc (.cells #[.int .i64 x.fr,.int .i64 x.gr,.int .i64 x.st,.bool x.nul,.string x.body] 42)=y:=⟨_,rfl⟩
     have hS4:=au hW4
     have z0:W4.cell? ⟨wr.heap.size,0,none⟩=some (.int .i64 x.fr):=by rw [<-hW4];simp [go_sem]
     have z1:W4.cell? ⟨wr.heap.size,1,none⟩=some (.int .i64 x.gr):=by rw [<-hW4];simp [go_sem]
     have z2:W4.cell? ⟨wr.heap.size,2,none⟩=some (.int .i64 x.st):=by rw [<-hW4];simp [go_sem]
     have z3:W4.cell? ⟨wr.heap.size,3,none⟩=some (.bool x.nul):=by rw [<-hW4];simp [go_sem]
     have z4:W4.cell? ⟨wr.heap.size,4,none⟩=some (.string x.body):=by rw [<-hW4];simp [go_sem]
     obtain ⟨fn,tmps,assign,body,hy,hR⟩:=hY _ x W4 (hJ _ _ _ hJt (KX.dD hS4 hSt)) hNX
     simp only [mgV] at hy
     clear hY hcell hx hNX
     gi_wp2
     refine ⟨fun h=>(by cases h), ?_⟩
     refine hR.mono ?_
     rintro e W3 (⟨rfl,hJ3,hk3⟩ | ⟨ch,rfl,hp3⟩)
     ·have hB3:KH n0 Bj base W W3:=(hBt.trans (KH.dD hS4 (by omega) (by omega))).trans hk3
      rw [<-HT.out] at hJ3
      clear hy hR z0 z1 z2 z3 z4 hW4
      gi_wp2
      go_roundw
      case rel=>exact ⟨t+1,by omega,by simp,hJ3,hB3⟩
      case measure=>simp [intOf];omega
     ·exact ⟨rfl,.inr ⟨ch,rfl,hp3⟩⟩
    ·obtain rfl:t=nd.told.length:=by omega
     rw [List.take_length,<-HTK.out] at hJt
     gi_wp2
     go_roundw
     case rel=>exact ⟨k+1,by omega,by simp,hJt,hBt⟩
     case measure=>simp [intOf];omega
  ·obtain rfl:k=d.nodes.length:=by omega
   rw [List.take_length] at hJs
   clear hNr
   gi_wp2
   go_end0
   exact .inl ⟨_,_,rfl,rfl,hJs⟩
theorem yP {n:Nat} {A B:World} {r:Nat} {ms:List Mg} (h:jL A r ms) (k:KX n none A B) (hr:r < n):jL B r ms:=(k.below.block r hr).trans h
theorem yQ (T:TypeId) (hT:prog.underlying T=some (.map 42 123)) (w:World) (r:Nat) (ms:List Mg) (h:jL w r ms) (m:Mg) (w':World) (hw:w.putObj r (.map (ents (dO ms m)) (dO ms m).length)=w') :
  (Instr.mapUpdate T (.map (some r)) (.agg #[.int .i64 m.fr,.int .i64 m.gr,.int .i64 m.st,.bool m.nul,.string m.body]) (.agg #[])).run prog w=.ok () w':=by
 rw [<-hw];exact vw hT h m
theorem Oz:prog.underlying 122=some (.map 42 123):=by kernel_rfl
theorem Cq (h:List Mg) (x:Mg):(h++[x]).foldl dO []=dO (h.foldl dO []) x:=by rw [List.foldl_append];rfl
set_option maxRecDepth 8000 in
theorem Ju (gf:Nat) (lb:Array Value) (Bj:Nat) (L:List Mg) (w:World) (hBj:Bj < w.heap.size) (eg:∀ args w,(callFunc gf args).run prog w=.ok (.enter gf args) w)
  (hseq:∀ base W,Since w W->Lb prog 1 gf lb (fun x:Mg=>#[mgV x]) (KH w.heap.size Bj base) (Ga L) (fun h=>h=L) W) :
  Calls prog 112 #[.func (.func gf) #[] lb] w fun e w'=>e=.returned (.map (some w.heap.size))/\jL w' w.heap.size (L.foldl dO [])/\Since w w':=by
 obtain ⟨w1,hw1⟩:∃ y,w.alloc (.map #[] 0)=y:=⟨_,rfl⟩
 obtain ⟨w2,hw2⟩:∃ y,w1.alloc (.cells #[.map (some w.heap.size)] 122)=y:=⟨_,rfl⟩
 have hS1:=au hw1
 have hS2:=au hw2
 have hl1:w.heap.size < w1.heap.size:=by rw [<-hw1];simp
 have hl2:w1.heap.size < w2.heap.size:=by rw [<-hw2];simp
 have hq1:w1.heap.size=w.heap.size+1:=by rw [<-hw1];simp
 have hS:=hS1.trans hS2
 have b3:w2.cell? ⟨w.heap.size+1,0,none⟩=some (.map (some w.heap.size)):=by rw [<-hq1,<-hw2];simp [go_sem]
 have hM:jL w2 w.heap.size []:=(hS2.below.block _ hl1).trans (by rw [<-hw1];exact World.alloc_heap_new w _)
 have hl3:w.heap.size+1 < w2.heap.size:=by omega
 have hmk:(Instr.makeMap 122 none).run prog w=.ok (.map (some w.heap.size)) w1:=by rw [<-hw1];rfl
 have oo:Hid (w1.heap.size=w.heap.size+1):=hq1
 clear hq1
 refine iF func112 rfl ?_
 simp only [ntmps112,List.size_toArray,List.length_cons,List.length_nil,Nat.reduceAdd,Nat.reduceSub,Array.replicate_succ,Array.replicate_zero,List.push_toArray,List.append_toArray,List.nil_append,List.cons_append]
 refine dK (bE ?_)
 go_wp2
 refine dK (bE ?_)
 go_wp2
 rw [oo.out]
 refine dK (dK (bE ?_))
 go_wp2
 refine mO ?_
 clear hw1 hw2 hmk oo
 refine yL (m:=1) (n0:=w.heap.size) (bj:=Bj) func112 (gf:=gf) (lb:=lb) rfl eg hS.size (by omega) (hseq _ w2 hS) (fun _=>rfl)
  (fun h W=>Since w W/\W.cell? ⟨w.heap.size+1,0,none⟩=some (.map (some w.heap.size))/\jL W w.heap.size (h.foldl dO []))
  (fun _ _=>False)
  (fun h A B hA hk=>⟨⟨hA.1.below.trans (hk.below.mono hS.size)⟩,hk.cell hA.2.1 (by simp),yP hA.2.2 hk (by omega)⟩)
  ⟨hS,b3,hM⟩ ?round ?done ?pan
 case pan =>
  rintro D ch W hD h hK
  exact h.elim
 case round =>
  rintro l h x W hsz ⟨hSW,c3,hMW⟩ hx
  obtain ⟨sm,hsm⟩:∃ y,h.foldl dO []=y:=⟨_,rfl⟩
  have HSN:Hid ((h++[x]).foldl dO []=dO sm x):=by unfold Hid;rw [Cq,hsm]
  rw [hsm] at hMW
  obtain ⟨PP,hPP⟩:∃ PP:World->World->Prop,∀ A B,PP A B↔(KH w.heap.size Bj w2.heap.size A B/\Since w B/\B.cell? ⟨w.heap.size+1,0,none⟩=some (.map (some w.heap.size))/\jL B w.heap.size (dO sm x)):=⟨_,fun _ _=>Iff.rfl⟩
  have HM:Hid (∀ A B,PP A B->KH w.heap.size Bj w2.heap.size A B/\Since w B/\B.cell? ⟨w.heap.size+1,0,none⟩=some (.map (some w.heap.size))/\jL B w.heap.size ((h++[x]).foldl dO [])):=fun A B hp=>by
   rw [HSN.out];exact (hPP A B).1 hp
  have HPP:Hid (∀ A B,PP A B↔_):=hPP
  clear hPP hsm hx HSN
  unfold mgV
  gi_wp2
  obtain ⟨W1,hW1⟩:∃ y,W.alloc (.cells #[.int .i64 x.fr,.int .i64 x.gr,.int .i64 x.st,.bool x.nul,.string x.body] 42)=y:=⟨_,rfl⟩
  have oo:=au hW1
  have z0:W1.cell? ⟨W.heap.size,0,none⟩=some (.int .i64 x.fr):=by rw [<-hW1];simp [go_sem]
  have z1:W1.cell? ⟨W.heap.size,1,none⟩=some (.int .i64 x.gr):=by rw [<-hW1];simp [go_sem]
  have z2:W1.cell? ⟨W.heap.size,2,none⟩=some (.int .i64 x.st):=by rw [<-hW1];simp [go_sem]
  have z3:W1.cell? ⟨W.heap.size,3,none⟩=some (.bool x.nul):=by rw [<-hW1];simp [go_sem]
  have z4:W1.cell? ⟨W.heap.size,4,none⟩=some (.string x.body):=by rw [<-hW1];simp [go_sem]
  rw [hW1]
  refine ⟨oo,fun W' hsz' hk=>?_⟩
  refine wpIn_mono (Q:=Exit.then (fun _ B=>PP W' B) (fun _ _ _=>False)) ?_ ?mono
  case mono =>
   intro e1 a1 W5 hp1
   match e1,hp1 with
   | .normal,hp =>
    obtain ⟨q1,q2,q3,q4⟩:=HM.out W' W5 hp
    exact ⟨q1,q2,q3,q4⟩
  have f0:=hk.cell z0 (by simp)
  have f1:=hk.cell z1 (by simp)
  have f2:=hk.cell z2 (by simp)
  have f3:=hk.cell z3 (by simp)
  have f4:=hk.cell z4 (by simp)
  have k3:=hk.cell ((oo.cellAt (by omega) _).trans c3) (by simp)
  have hM':jL W' w.heap.size sm:=yP ((oo.below.block _ (by omega)).trans hMW) hk (by omega)
  have Ld:Since w W':=⟨(hSW.trans oo).below.trans (hk.below.mono hS.size)⟩
  obtain ⟨W4,hW4⟩:∃ y,W'.putObj w.heap.size (.map (ents (dO sm x)) (dO sm x).length)=y:=⟨_,rfl⟩
  have hmu:=yQ 122 Oz W' w.heap.size sm hM' x W4 hW4
  have SF:Hid (PP W' W4):=by
   refine (HPP.out W' W4).2 ?_
   have hob:∀ k,k≠w.heap.size->W4.heap[k]? = W'.heap[k]?:=fun k hk=>by rw [<-hW4];exact World.putObj_heap_other hk
   have Qy:W4.heap.size=W'.heap.size:=by rw [<-hW4];simp
   have hbel:Below w.heap.size W' W4:=⟨by rw [<-hW4];rfl,by rw [<-hW4];rfl,by rw [<-hW4];rfl,by omega,fun k hk=>hob k (by omega)⟩
   refine ⟨⟨⟨hbel,hob Bj (by omega)⟩,fun k o hk ho hc=>(hob k (by omega)).trans ho⟩,⟨Ld.below.trans hbel⟩, ?_, ?_⟩
   ·exact (World.cell?_of_block (a:=⟨w.heap.size+1,0,none⟩) (hob _ (by show w.heap.size+1≠w.heap.size;omega))).trans k3
   ·rw [<-hW4];exact Jt hM'
  clear HM HPP hW1 hW4 z0 z1 z2 z3 z4 c3 hMW hk hM'
  gi_wp2
  exact SF.out
 case done =>
  rintro D h W hD rfl ⟨hSW,c3,hMW⟩ hK
  have hX:KX w2.heap.size none W (W.putObj D (.deferred none)):=KX.put (X:=none) (.deferred none) hK rfl hD
  have HF:Hid (jL (W.putObj D (.deferred none)) w.heap.size (h.foldl dO [])/\Since w (W.putObj D (.deferred none))):=⟨yP hMW hX (by omega),⟨hSW.below.trans (hX.below.mono hS.size)⟩⟩
  clear hMW
  refine bE (uj ?_)
  go_wp2
  refine ⟨by simp,.inl ⟨_,_,rfl,run_takeDeferred hK, ?_⟩⟩
  refine ⟨_,results_tmp rfl _ _ _,rfl,HF.out.1,HF.out.2⟩
open Go.ChangeMaps (setBlock)
theorem lZ (w:World) (r:Nat) (o:Obj):setBlock w r o=w.putObj r o:=rfl
def jY (ms:List Mg) (seen:Array Nat):List Mg:=seen.toList.filterMap fun i=>ms[i]?
theorem D8 {ms:List Mg} {e:MapEntry} (h:e∈(ents ms).toList):∃ i m,ms[i]? = some m/\e=⟨mgV m,.agg #[],i⟩:=by
 obtain ⟨i,hi⟩:=List.mem_iff_getElem?.1 h
 rw [Array.getElem?_toList,vo] at hi
 cases hm:ms[i]? with
 | none=>rw [hm] at hi;cases hi
 | some m=>rw [hm] at hi;exact ⟨i,m,hm,(Option.some.inj hi).symm⟩
theorem Jv (ms:List Mg):(ents ms).toList.map (·.born)=List.range ms.length:=by
 refine List.ext_getElem? fun i=>?_
 rw [List.getElem?_map,Array.getElem?_toList,vo]
 by_cases h:i < ms.length
 ·rw [zQ1 h];simp [h]
 ·rw [List.getElem?_eq_none (by omega)];simp [h]
theorem Le (ms:List Mg):∀ x∈(ents ms).toList,x.born < ms.length:=fun x hx=>by
 obtain ⟨i,m,hm,rfl⟩:=D8 hx
 exact (zQ2.1 hm).1
def wS (n it:Nat) (w:World):Nat:=match w.heap[it]? with | some (.mapIter _ _ seen _)=>n - seen.size | _=>0
theorem Bq {n it:Nat} {w:World} {m:Option Nat} {s c:Nat} {seen:Array Nat} (h:w.heap[it]? = some (.mapIter m s seen c)):wS n it w=n - seen.size:=by unfold wS;rw [h]
structure Seen (ms:List Mg) (seen:Array Nat):Prop where
 lt:∀ i∈seen.toList,i < ms.length
 nd:seen.toList.Nodup
theorem wU:∀ (n:Nat) (l:List Nat),l.Nodup->(∀ i∈l,i < n)->l.length<=n
 | 0,l,_,h=>by
  cases l with
  | nil=>simp
  | cons a r=>exact absurd (h a (by simp)) (by omega)
 | n+1,l,hd,h=>by
  by_cases hn:n∈l
  ·have h1:=wU n (l.erase n) (hd.erase n) (fun i hi=>by
    have hne:i≠n:=fun e=>by subst e;exact (hd.not_mem_erase) hi
    have:=h i (List.mem_of_mem_erase hi)
    omega)
   rw [List.length_erase_of_mem hn] at h1
   omega
  ·have:=wU n l hd (fun i hi=>by
    have hne:i≠n:=fun e=>by subst e;exact hn hi
    have:=h i hi
    omega)
   omega
theorem Jw {ms:List Mg} {seen:Array Nat} (h:Seen ms seen):seen.size<=ms.length:=by
 have:=wU ms.length seen.toList h.nd h.lt
 simpa using this
theorem Jy {ms:List Mg} {seen:Array Nat} (h:Seen ms seen) {i:Nat} (hi:i < ms.length) (hn:i∉seen.toList):Seen ms (seen.push i):=by
 constructor
 ·intro j hj
  simp at hj
  rcases hj with h1 | rfl
  ·exact h.lt j (by simpa using h1)
  ·exact hi
 ·rw [Array.toList_push,List.nodup_append]
  refine ⟨h.nd,by simp, ?_⟩
  intro a ha b hb
  simp at hb
  rintro rfl
  exact hn (hb ▸ ha)
theorem Jz {ms:List Mg} {seen:Array Nat} {i:Nat} {m:Mg} (hm:ms[i]? = some m):jY ms (seen.push i)=jY ms seen++[m]:=by
 unfold jY
 rw [Array.toList_push,List.filterMap_append]
 simp [hm]
theorem Lf {ms:List Mg} (hd:ms.Nodup) {seen:Array Nat} (h:Seen ms seen) {i:Nat} {m:Mg} (hm:ms[i]? = some m) (hn:i∉seen.toList):m∉jY ms seen:=by
 unfold jY
 intro hc
 obtain ⟨j,hj,hjm⟩:=List.mem_filterMap.1 hc
 have hi:=zQ2.1 hm
 have hj':=zQ2.1 hjm
 have:i=j:=(List.getElem_inj hd).1 (hi.2.trans hj'.2.symm)
 exact hn (this ▸ hj)
theorem Br:∀ ms:List Mg,(List.range ms.length).filterMap (fun i=>ms[i]?)=ms
 | []=>rfl
 | x::r=>by
  have ih:=Br r
  rw [List.length_cons,List.range_succ_eq_map,List.filterMap_cons,List.filterMap_map]
  have:((fun i=>(x::r)[i]?) ∘ Nat.succ)=fun i=>r[i]?:=by funext i;simp
  rw [this,ih]
  simp
theorem Lg {ms:List Mg} {seen:Array Nat} (h:Seen ms seen) (hall:∀ i,i < ms.length->i∈seen.toList):(jY ms seen).Perm ms:=by
 have hp:seen.toList.Perm (List.range ms.length):=by
  refine (List.perm_ext_iff_of_nodup h.nd List.nodup_range).2 fun i=>?_
  rw [List.mem_range]
  exact ⟨h.lt i,hall i⟩
 have:=hp.filterMap (fun i=>ms[i]?)
 unfold jY
 refine this.trans ?_
 have e:=Br ms
 rw [e]
theorem Lh {ms:List Mg} {seen:Array Nat} {e:MapEntry} (h:e∈(leftOf (ents ms) seen).toList):∃ i m,ms[i]? = some m/\e=⟨mgV m,.agg #[],i⟩/\i∉seen.toList/\e∈(ents ms).toList:=by
 unfold leftOf at h
 simp only [Array.toList_filter,List.mem_filter] at h
 obtain ⟨h1,h2⟩:=h
 obtain ⟨i,m,hm,rfl⟩:=D8 h1
 refine ⟨i,m,hm,rfl, ?_,h1⟩
 simpa using h2
theorem JA {ms:List Mg} {seen:Array Nat} (h:(leftOf (ents ms) seen).size=0):∀ i,i < ms.length->i∈seen.toList:=by
 intro i hi
 obtain ⟨m,hm⟩:∃ m,ms[i]? = some m:=⟨_,zQ1 hi⟩
 have hmem:(⟨mgV m,.agg #[],i⟩:MapEntry)∈(ents ms).toList:=by
  refine List.mem_iff_getElem?.2 ⟨i, ?_⟩
  rw [Array.getElem?_toList,vo,hm];rfl
 have he:(leftOf (ents ms) seen)=#[]:=Array.eq_empty_of_size_eq_zero h
 unfold leftOf at he
 rw [Array.filter_eq_empty_iff] at he
 have:=he _ (by simpa using hmem)
 simpa using this
theorem Li (r:Nat) (w:World) :
  Calls prog 111 #[.map (some r)] w fun e w'=>e=.returned (.func (.func 168) #[] #[.pointer (some ⟨w.heap.size,0,none⟩)])/\w'=w.alloc (.cells #[.map (some r)] 122):=by
 go_enter func111,ntmps111
 go_wp2
 go_ret
 exact ⟨rfl,rfl⟩
theorem AB {w:World} {r:Nat} {ms:List Mg} (h:jL w r ms):(Instr.range 122 (.map (some r))).run prog w=.ok (.pointer (some ⟨w.heap.size,0,none⟩)) (w.alloc (.mapIter (some r) ms.length #[] ms.length)) :=
 run_range_map w _ _ _ r _ _ Oz h
set_option maxRecDepth 100000 in
theorem Ll (m:Nat) (Bj n0 base r:Nat) (w:World) (hn0:n0<=w.heap.size) (hBj:Bj < w.heap.size) (hr:r < n0) (hbase:base<=w.heap.size) (ms:List Mg) (hnd:ms.Nodup) (hset:jL w r ms) (c0:w.cell? ⟨Bj,0,none⟩=some (.map (some r))) :
  Lb prog m 168 #[.pointer (some ⟨Bj,0,none⟩)] (fun x:Mg=>#[mgV x]) (KH n0 Bj base) (fun h x=>x∈ms/\x∉h) (fun h=>h.Perm ms) w:=by
 intro l J Jp W hW hJ hY h0
 have hWs:=hW.size
 have d0:W.cell? ⟨Bj,0,none⟩=some (.map (some r)):=(hW.cellAt hBj _).trans c0
 have Lm:jL W r ms:=(hW.below.block r (by omega)).trans hset
 have hrg:=AB Lm
 obtain ⟨W0,hW0⟩:∃ y,W.alloc (.mapIter (some r) ms.length #[] ms.length)=y:=⟨_,rfl⟩
 rw [hW0] at hrg
 have hS0:=au hW0
 have Qz:W0.heap[W.heap.size]? = some (.mapIter (some r) ms.length #[] ms.length):=by rw [<-hW0];exact World.alloc_heap_new W _
 have hl0:W.heap.size < W0.heap.size:=(zQ3.1 Qz).1
 have QA:jL W0 r ms:=(hS0.below.block r (by omega)).trans Lm
 have hJ0:J [] W0:=hJ _ _ _ h0 (KX.dD hS0 (Nat.le_refl _))
 have C:∀ y,KB n0 Bj W0 y->W0.heap.size<=y.heap.size/\jL y r ms:=fun y h=>⟨h.below.size,(h.below.block r hr).trans QA⟩
 clear hset Lm hW0
 refine callsIn_of_wp func168 rfl trivial ?_ rfl
 simp only [ntmps168,List.size_toArray,List.length_cons,List.length_nil,Nat.reduceAdd,Nat.reduceSub,Array.replicate_succ,Array.replicate_zero,List.push_toArray,List.append_toArray,List.nil_append,List.cons_append]
 gi_wp2
 clear hrg
 gi_loopw [6] (fun _ wr=>∃ seen:Array Nat,wr.heap[W.heap.size]? = some (.mapIter (some r) ms.length seen ms.length)/\Seen ms seen/\J (jY ms seen) wr/\KB n0 Bj W0 wr) (fun _ wr=>wS ms.length W.heap.size wr)
 case atStart=>exact ⟨#[],Qz,⟨by simp,by simp⟩,hJ0,KB.refl _ _ _⟩
 case round =>
  obtain ⟨seen,hit,hsn,hJs,hB⟩:=hrel
  obtain ⟨hsz,hst⟩:=C wr hB
  rcases run_next_at (P:=prog) wr 0 W.heap.size r ms.length ms.length seen (ents ms) ms.length hit hst (Le ms) (Nat.le_refl _) with ⟨hz,hrun⟩ | ⟨e,he,w1,hw1,hrun⟩
  ·have hperm:=Lg hsn (JA hz)
   obtain ⟨hh,hhe⟩:∃ y,jY ms seen=y:=⟨_,rfl⟩
   rw [hhe] at hperm hJs
   have HF:Hid (hh.Perm ms/\J hh wr):=⟨hperm,hJs⟩
   clear hz hhe hperm hJs hsn hit hst
   gi_wp2
   go_end0
   exact .inl ⟨_,hh,rfl,HF.out.1,HF.out.2⟩
  ·obtain ⟨i,x,hx,rfl,hin,hmem⟩:=Lh he
   have hi:=(zQ2.1 hx).1
   have O5:=Jy hsn hi hin
   have hsz2:=Jw O5
   rw [Array.size_push] at hsz2
   have hNX:x∈ms/\x∉jY ms seen:=⟨List.mem_of_getElem? hx,Lf hnd hsn hx hin⟩
   have hcm:=Jz (seen:=seen) hx
   dsimp only at hrun
   obtain ⟨w2,hw2⟩:∃ y,setBlock w1 W.heap.size (.mapIter (some r) ms.length (seen.push i) ms.length)=y:=⟨_,rfl⟩
   rw [hw2] at hrun
   have hsz1:w1.heap=wr.heap/\w1.os=wr.os/\w1.tape=wr.tape/\w1.output=wr.output:=by rcases hw1 with rfl | rfl <;> exact ⟨rfl,rfl,rfl,rfl⟩
   have hil:W.heap.size < wr.heap.size:=(zQ3.1 hit).1
   have hob:∀ k,k≠W.heap.size->w2.heap[k]? = wr.heap[k]?:=fun k hk=>by
    rw [<-hw2,lZ,World.putObj_heap_other hk,hsz1.1]
   have hs2:w2.heap.size=wr.heap.size:=by rw [<-hw2,lZ,World.putObj_size,hsz1.1]
   have hit2:w2.heap[W.heap.size]? = some (.mapIter (some r) ms.length (seen.push i) ms.length):=by
    rw [<-hw2,lZ];exact World.putObj_heap_same (by rw [hsz1.1];exact hil)
   have ho2:w2.os=wr.os/\w2.tape=wr.tape/\w2.output=wr.output:=by rw [<-hw2];exact hsz1.2
   have hKX:KX W.heap.size none wr w2:=by
    refine ⟨⟨ho2.1,ho2.2.1,ho2.2.2,by omega,fun k hk=>hob k (by omega)⟩,fun k o hk hc _=>?_⟩
    refine (hob k ?_).trans hk
    rintro rfl
    rw [hit] at hk;cases hk;cases hc
   have Gc:jL w2 r ms:=(hob r (by omega)).trans hst
   have hen:(Instr.entry (.pointer (some ⟨W.heap.size,0,none⟩))).run prog w2=.ok (.tuple #[mgV x,.agg #[]]) w2 :=
    run_entry_at (P:=prog) w2 W.heap.size r ms.length seen (ents ms) ms.length ⟨mgV x,.agg #[],i⟩ hit2 Gc hmem (by rw [Jv];exact List.nodup_range)
   obtain ⟨W3,hW3⟩:∃ y,w2.alloc (.cells #[.int .i64 x.fr,.int .i64 x.gr,.int .i64 x.st,.bool x.nul,.string x.body] 42)=y:=⟨_,rfl⟩
   have hS3:=au hW3
   have z0:W3.cell? ⟨w2.heap.size,0,none⟩=some (.int .i64 x.fr):=by rw [<-hW3];simp [go_sem]
   have z1:W3.cell? ⟨w2.heap.size,1,none⟩=some (.int .i64 x.gr):=by rw [<-hW3];simp [go_sem]
   have z2:W3.cell? ⟨w2.heap.size,2,none⟩=some (.int .i64 x.st):=by rw [<-hW3];simp [go_sem]
   have z3:W3.cell? ⟨w2.heap.size,3,none⟩=some (.bool x.nul):=by rw [<-hW3];simp [go_sem]
   have z4:W3.cell? ⟨w2.heap.size,4,none⟩=some (.string x.body):=by rw [<-hW3];simp [go_sem]
   have hJ3:J (jY ms seen) W3:=hJ _ _ _ (hJ _ _ _ hJs hKX) (KX.dD hS3 (by omega))
   have hit3:W3.heap[W.heap.size]? = some (.mapIter (some r) ms.length (seen.push i) ms.length):=hS3.block hit2
   obtain ⟨fn,tmps,assign,body,hy,hR⟩:=hY (jY ms seen) x W3 hJ3 hNX
   simp only [mgV] at hy hen hrun
   have HB2:Hid (∀ y,KH n0 Bj base W3 y->KB n0 Bj W0 y/\y.heap[W.heap.size]? = some (.mapIter (some r) ms.length (seen.push i) ms.length)):=fun y hy=>by
    have hk:=hy.nc _ _ (by omega) hit3 rfl
    refine ⟨⟨(hB.below.trans (hKX.below.mono (by omega))).trans ((hS3.below.mono (by omega)).trans hy.kb.below), ?_⟩,hk⟩
    have h2:w2.heap[Bj]? = wr.heap[Bj]?:=hob Bj (by omega)
    have h3:W3.heap[Bj]? = w2.heap[Bj]?:=hS3.below.block Bj (by omega)
    exact hy.kb.same.trans (h3.trans (h2.trans hB.same))
   have HIT:=Bq (n:=ms.length) hit
   have HSN:Hid (Seen ms (seen.push i)):=O5
   have HCM:Hid (jY ms (seen.push i)=jY ms seen++[x]):=hcm
   have HLT:Hid (wS ms.length W.heap.size wr=ms.length - seen.size/\seen.size+1<=ms.length):=⟨HIT,hsz2⟩
   clear hw2 hob hs2 hit2 hit3 ho2 hKX Gc hst hit hcm hsn O5 hsz2 HIT hNX hmem hx hsz1 hw1 hJ3 hJs hin he hY hS3
   gi_wp2
   refine ⟨fun h=>(by cases h), ?_⟩
   refine hR.mono ?_
   rintro e W5 (⟨rfl,hJ5,hk5⟩ | ⟨ch,rfl,hp5⟩)
   ·obtain ⟨hB5,O6⟩:=HB2.out W5 hk5
    rw [<-HCM.out] at hJ5
    have H5:=Bq (n:=ms.length) O6
    have HM5:Hid (wS ms.length W.heap.size W5 < wS ms.length W.heap.size wr):=by
     unfold Hid
     obtain ⟨h1,h2⟩:=HLT.out
     rw [H5,h1,Array.size_push];omega
    have ku:Hid (∃ seen:Array Nat,W5.heap[W.heap.size]? = some (.mapIter (some r) ms.length seen ms.length)/\Seen ms seen/\J (jY ms seen) W5/\KB n0 Bj W0 W5):=⟨_,O6,HSN.out,hJ5,hB5⟩
    clear hy hR z0 z1 z2 z3 z4 O6 hJ5 H5 hrun hen hW3
    gi_wp2
    go_roundw
    case rel=>exact ku.out
    case measure=>exact HM5.out
   ·exact ⟨rfl,.inr ⟨ch,rfl,hp5⟩⟩
end Go.Proofs.YtiiifecfdkjmbaaGreat
namespace Go.Proofs
open Go.Shelf
shelf_lay_g SlLaysF0.n6 Slsf 6 at Tryz 167 as Tryz.IV
end Go.Proofs
namespace Go.Proofs.YtiiifecfdkjmbaaGreat
open _root_.Go.Proofs.Tryz
set_option maxRecDepth 8000
open Go.RowKit Go.Shelf
open Go.Sort (grow alloc_eq_grow grow_grow SWO HoldsK PermIn SortedIn)
set_option linter.unusedVariables false
set_option linter.unusedSimpArgs false
def cfM (a b:Mg):Int:=if lessM a b then -1 else if lessM b a then 1 else 0
theorem wV (a b:Mg):lessM a b=true↔(a.st < b.st\/(a.st=b.st/\a.fr < b.fr)):=by
 unfold lessM;simp
theorem Cr (a:Mg):lessM a a=false:=by rw [<-Bool.not_eq_true,wV];omega
theorem D9 {a b c:Mg} (h:lessM a b=true) (k:lessM b c=true):lessM a c=true:=by rw [wV] at *;omega
theorem vB (a b:Mg):ltOf cfM a b=lessM a b:=by
 unfold ltOf cfM
 cases h:lessM a b
 ·cases h2:lessM b a <;> simp
 ·simp
theorem SG:SWO (ltOf cfM) where
 irrefl x:=by rw [vB];exact Cr x
 trans x y z h1 h2:=by rw [vB] at *;exact D9 h1 h2
 ntrans x y z h1 h2:=by
  rw [vB,<-Bool.not_eq_true,wV] at *;omega
theorem Bt (a b:Mg) (w:World):Calls prog 114 #[mgV a,mgV b] w fun e w'=>e=.returned (.int .i64 (cfM a b))/\∃ os,w'=grow w os:=by
 have h1:=fun y=>yR a b y
 have h2:=fun y=>yR b a y
 unfold cfM
 obtain ⟨w1,hw1⟩:∃ y,(w.alloc (.cells #[.int .i64 a.fr,.int .i64 a.gr,.int .i64 a.st,.bool a.nul,.string a.body] 42)).alloc (.cells #[.int .i64 b.fr,.int .i64 b.gr,.int .i64 b.st,.bool b.nul,.string b.body] 42)=y:=⟨_,rfl⟩
 have HG:Hid (∃ os,w1=grow w os):=⟨_,by rw [<-hw1,alloc_eq_grow,alloc_eq_grow,grow_grow]⟩
 have hS1:Since w w1:=by rw [<-hw1];exact ((Since.refl w).alloc _).alloc _
 have hl:w.heap.size+1 < w1.heap.size:=by rw [<-hw1];simp
 have a0:w1.cell? ⟨w.heap.size,0,none⟩=some (.int .i64 a.fr):=by rw [<-hw1];simp [go_sem]
 have a1:w1.cell? ⟨w.heap.size,1,none⟩=some (.int .i64 a.gr):=by rw [<-hw1];simp [go_sem]
 have a2:w1.cell? ⟨w.heap.size,2,none⟩=some (.int .i64 a.st):=by rw [<-hw1];simp [go_sem]
 have a3:w1.cell? ⟨w.heap.size,3,none⟩=some (.bool a.nul):=by rw [<-hw1];simp [go_sem]
 have a4:w1.cell? ⟨w.heap.size,4,none⟩=some (.string a.body):=by rw [<-hw1];simp [go_sem]
 have b0:w1.cell? ⟨w.heap.size+1,0,none⟩=some (.int .i64 b.fr):=by rw [<-hw1];simp [go_sem]
 have b1:w1.cell? ⟨w.heap.size+1,1,none⟩=some (.int .i64 b.gr):=by rw [<-hw1];simp [go_sem]
 have b2:w1.cell? ⟨w.heap.size+1,2,none⟩=some (.int .i64 b.st):=by rw [<-hw1];simp [go_sem]
 have b3:w1.cell? ⟨w.heap.size+1,3,none⟩=some (.bool b.nul):=by rw [<-hw1];simp [go_sem]
 have b4:w1.cell? ⟨w.heap.size+1,4,none⟩=some (.string b.body):=by rw [<-hw1];simp [go_sem]
 obtain ⟨w2,hw2⟩:∃ y,(w1.alloc (.cells #[.int .i64 a.fr,.int .i64 a.gr,.int .i64 a.st,.bool a.nul,.string a.body] 42)).alloc (.cells #[.int .i64 b.fr,.int .i64 b.gr,.int .i64 b.st,.bool b.nul,.string b.body] 42)=y:=⟨_,rfl⟩
 have HG2:Hid (∃ os,w2=grow w os):=by
  obtain ⟨os,e⟩:=HG.out
  exact ⟨_,by rw [<-hw2,alloc_eq_grow,alloc_eq_grow,grow_grow,e,grow_grow]⟩
 have hS2:Since w1 w2:=by rw [<-hw2];exact ((Since.refl w1).alloc _).alloc _
 have H1:=h1 w1
 rw [hw2] at H1
 have c:∀ p o,p < w1.heap.size->w2.cell? ⟨p,o,none⟩=w1.cell? ⟨p,o,none⟩:=fun p o h=>hS2.cellAt h o
 unfold mgV
 cases hl1:lessM a b
 ·rw [hl1] at H1
  have d0:=(c _ 0 (by omega)).trans a0
  have d1:=(c _ 1 (by omega)).trans a1
  have d2:=(c _ 2 (by omega)).trans a2
  have d3:=(c _ 3 (by omega)).trans a3
  have d4:=(c _ 4 (by omega)).trans a4
  have e0:=(c _ 0 hl).trans b0
  have e1:=(c _ 1 hl).trans b1
  have e2:=(c _ 2 hl).trans b2
  have e3:=(c _ 3 hl).trans b3
  have e4:=(c _ 4 hl).trans b4
  have H2:=h2 w2
  obtain ⟨w3,hw3⟩:∃ y,(w2.alloc (.cells #[.int .i64 b.fr,.int .i64 b.gr,.int .i64 b.st,.bool b.nul,.string b.body] 42)).alloc (.cells #[.int .i64 a.fr,.int .i64 a.gr,.int .i64 a.st,.bool a.nul,.string a.body] 42)=y:=⟨_,rfl⟩
  have HG3:Hid (∃ os,w3=grow w os):=by
   obtain ⟨os,e⟩:=HG2.out
   exact ⟨_,by rw [<-hw3,alloc_eq_grow,alloc_eq_grow,grow_grow,e,grow_grow]⟩
  rw [hw3] at H2
  clear hl1 hw2 hw3 c h1 h2
  cases hl2:lessM b a
  ·rw [hl2] at H2
   clear hl2
   go_enter func114,ntmps114
   go_wp2_with fail
   refine H1.mono ?_
   rintro e w' ⟨rfl,hw⟩
   obtain rfl:=hw.symm
   go_wp2_with fail
   refine H2.mono ?_
   rintro e w' ⟨rfl,hw⟩
   obtain rfl:=hw.symm
   go_wp2_with fail
   go_ret
   exact ⟨by simp,HG3.out⟩
  ·rw [hl2] at H2
   clear hl2
   go_enter func114,ntmps114
   go_wp2_with fail
   refine H1.mono ?_
   rintro e w' ⟨rfl,hw⟩
   obtain rfl:=hw.symm
   go_wp2_with fail
   refine H2.mono ?_
   rintro e w' ⟨rfl,hw⟩
   obtain rfl:=hw.symm
   go_wp2_with fail
   go_ret
   exact ⟨by simp,HG3.out⟩
 ·rw [hl1] at H1
  clear hl1 hw2 c h1 h2
  go_enter func114,ntmps114
  go_wp2_with fail
  refine H1.mono ?_
  rintro e w' ⟨rfl,hw⟩
  obtain rfl:=hw.symm
  go_wp2_with fail
  go_ret
  exact ⟨by simp,HG2.out⟩
theorem Lp [Inhabited Mg] (blk off size:Nat) (w:World):CmpLays prog 114 #[] Mg.cells 5 cfM blk off size w :=
 fun m os dk _ x y=>(Bt x y _).mono fun e w' ⟨he,os',hw⟩=>⟨he,0,os',hw⟩
def wW (l:List Mg):Prop:=∀ (i j:Nat) (x y:Mg),i < j->l[i]? = some x->l[j]? = some y->lessM y x=false
theorem Bu (ms:List Mg) (hd:Inhabited Mg) {j:Nat} (h:j < ms.length*5):(flat ms)[j]? = some ((Go.Sort.flatK Mg.cells 5 ms.toArray)[j]!):=by
 have hi:j / 5 < ms.length:=Nat.div_lt_of_lt_mul (by omega)
 have hr:j % 5 < 5:=Nat.mod_lt _ (by omega)
 obtain ⟨m,hm⟩:∃ m,ms[j / 5]? = some m:=⟨_,zQ1 hi⟩
 have hg:=flat_get ms (j / 5) (j % 5) m hm hr
 rw [show j / 5*5+j % 5=j from by omega] at hg
 rw [hg,Go.Sort.get_flatK Mg.cells 5 ms.toArray j (by simpa using h)]
 have e1:ms.toArray[j / 5]! = m:=by
  rw [getElem!_pos ms.toArray (j / 5) (by simpa using hi)]
  have:=zQ2.1 hm
  simpa using this.2
 rw [e1]
 have hl:j % 5 < m.cells.length:=hr
 rw [zQ1 hl,getElem!_pos m.cells (j % 5) hl]
theorem Gd {w:World} {lo b off c:Nat} {ms:List Mg} (hd:Inhabited Mg) (h:Row w lo 5 ⟨some ⟨b,off,none⟩,c⟩ ms.length (flat ms)) (hp:0 < ms.length):HoldsK Mg.cells 5 w b off ms.toArray:=by
 obtain ⟨b',off',e,_,_,hc,hx⟩:=h.body (by have:=h.cap;dsimp only at this ⊢;omega)
 cases e
 intro j hj
 have hj':j < ms.length*5:=by simpa using hj
 have hcap:=h.cap
 dsimp only at hcap
 refine ⟨hx j _ (Bu ms hd hj'),(hc j ?_).2⟩
 dsimp only
 have:ms.length*5<=c*5:=Nat.mul_le_mul_right 5 hcap
 omega
theorem msgs_of_holds {w:World} {b off:Nat} {d:Array Mg} (hd:Inhabited Mg) (h:HoldsK Mg.cells 5 w b off d) (hb:b < w.heap.size) (hm:d.size<=1000000):dI w (some ⟨b,off,none⟩) d.size d.toList:=by
 refine ⟨by simp,by omega,fun hp=>⟨b,off,rfl,hb,fun j u hu=>?_⟩⟩
 have hl:j < d.toList.length*5:=by
  have:=(zQ2.1 hu).1
  rw [bB] at this;omega
 have:=Bu d.toList hd hl
 rw [hu] at this
 have hj:=h j (by simpa using hl)
 rw [hj.1]
 simpa using this.symm
def WrM (w:World) (lo:Nat) (a:Option Addr) (n:Nat):Prop:=0 < n->∃ b off,a=some ⟨b,off,none⟩/\lo<=b/\b < w.heap.size/\∀ j,j < n*5->(w.cell? ⟨b,off+j,none⟩).isSome=true/\w.frozen? ⟨b,off+j,none⟩=false
theorem WrM.since {w w':World} {lo:Nat} {a:Option Addr} {n:Nat} (h:WrM w lo a n) (k:Since w w'):WrM w' lo a n:=fun hp=>by
 obtain ⟨b,off,e,hl,hb,hc⟩:=h hp
 refine ⟨b,off,e,hl,zQ4 hb k.size,fun j hj=>?_⟩
 rw [k.cellAt hb,(k.fr fun _=>False).frozen (p:=⟨b,off+j,none⟩) hb (fun x=>x)]
 exact hc j hj
theorem WrM.mono {w:World} {lo lo':Nat} {a:Option Addr} {n:Nat} (h:WrM w lo a n) (k:lo'<=lo):WrM w lo' a n:=fun hp=>by
 obtain ⟨b,off,e,hl,rest⟩:=h hp
 exact ⟨b,off,e,zQ5 k hl,rest⟩
theorem yS (w:World) (lo:Nat) (a:Option Addr):WrM w lo a 0:=fun h=>absurd h (by omega)
theorem wr_of_holds {w:World} {lo b off:Nat} {d:Array Mg} (hd:Inhabited Mg) (h:HoldsK Mg.cells 5 w b off d) (hl:lo<=b) (hb:b < w.heap.size):WrM w lo (some ⟨b,off,none⟩) d.size:=fun hp =>
 ⟨b,off,rfl,hl,hb,fun j hj=>by
  have hj':=h j (by simpa using hj)
  exact ⟨by rw [hj'.1];rfl,hj'.2⟩⟩
theorem oq (w:World) (blk off m:Nat) (dk:Array Mg) (os:Array Obj) (hd:Inhabited Mg) (hb:blk < w.heap.size):Fr (fun k=>k=blk) w (sortWorldK Mg.cells 5 w blk off m dk os):=by
 have hh:(sortWorldK Mg.cells 5 w blk off m dk os).heap=(w.heap.modify blk (Go.Sort.onCells (Go.Sort.putCells id off (Go.Sort.flatK Mg.cells 5 dk))))++os:=rfl
 refine ⟨rfl,rfl,rfl, ?_,fun k hk hB=>?_⟩
 ·rw [hh];simp
 ·rw [hh,Array.getElem?_append_left (by simpa using hk),Array.getElem?_modify,if_neg (fun e=>hB e.symm)]
theorem JB (b off c:Nat) (lo:Nat) (ms:List Mg) (w:World) (hR:Row w lo 5 ⟨some ⟨b,off,none⟩,c⟩ ms.length (flat ms)) (hp:0 < ms.length) (hm:ms.length<=1000) :
  Calls prog 167 #[.slice (some ⟨b,off,none⟩) ms.length c,.func (.func 114) #[] #[]] w fun e w'=>e=.returned (.tuple #[]) /\
   ∃ ms':List Mg,ms'.Perm ms/\wW ms'/\dI w' (some ⟨b,off,none⟩) ms.length ms'/\Fr (fun k=>k=b) w w'/\WrM w' lo (some ⟨b,off,none⟩) ms.length:=by
 have hd:Inhabited Mg:=⟨⟨0,0,0,false,ByteArray.empty⟩⟩
 obtain ⟨b',off',e,hlo,hbl,_,_⟩:=hR.body (by have:=hR.cap;dsimp only at this ⊢;omega)
 cases e
 have eg:∀ args w,(callFunc 114 args).run prog w=.ok (.enter 114 args) w:=enters_of func114 (by kernel_rfl) rfl
 have hcon:=AnyQ.slices_SortFunc Tryz.IV 5 Tryz.isAgg42 Tryz.sizeOf42 Mg.cells (fun _=>rfl) (fun x v hv=>by simp [Mg.cells] at hv;rcases hv with rfl | rfl | rfl | rfl | rfl <;> rfl) cfM SG 114 #[] b off c ms.toArray w eg (Lp b off _ w) (Gd hd hR hp) hbl (by simp;omega)
 change Calls prog 167 _ _ _ at hcon
 simp only [List.size_toArray] at hcon
 refine hcon.mono ?_
 rintro e w' ⟨rfl,d',n,os,hperm,hsort,rfl⟩
 obtain ⟨hs,_,hpm⟩:=hperm
 have hs':d'.size=ms.length:=by simpa using hs
 have hl:(d'.extract 0 ms.length).toList=d'.toList:=by rw [<-hs'];simp
 have hl2:(ms.toArray.extract 0 ms.length).toList=ms:=by simp
 rw [hl,hl2] at hpm
 refine ⟨rfl,d'.toList,hpm, ?_, ?_,oq w b off n d' os hd hbl, ?_⟩
 ·intro i j x y hij hx hy
  have hi:=(zQ2.1 hx)
  have hj:=(zQ2.1 hy)
  have hjl:j < d'.size:=by simpa using hj.1
  have hil:i < d'.size:=by simpa using hi.1
  have h:=hsort i j (Nat.zero_le _) hij (by omega)
  rw [vB,getElem!_pos d' j hjl,getElem!_pos d' i hil] at h
  have e1:d'[i]=x:=by simpa using hi.2
  have e2:d'[j]=y:=by simpa using hj.2
  rw [e1,e2] at h;exact h
 ·have hH:=holdsK_sortWorldK_c Mg.cells 5 w b off ms.toArray d' n os (Gd hd hR hp) hbl hs
  have Ea:b < (sortWorldK Mg.cells 5 w b off n d' os).heap.size:=zQ4 hbl (oq w b off n d' os hd hbl).size
  have:=msgs_of_holds hd hH Ea (by omega)
  rwa [hs'] at this
 ·have hH:=holdsK_sortWorldK_c Mg.cells 5 w b off ms.toArray d' n os (Gd hd hR hp) hbl hs
  have Ea:b < (sortWorldK Mg.cells 5 w b off n d' os).heap.size:=zQ4 hbl (oq w b off n d' os hd hbl).size
  have:=wr_of_holds hd hH hlo Ea
  rwa [hs'] at this
attribute [local go_sem] Oper.semAt_some
theorem Gf {W' W3:World} {o:Obj} {p bj lo i base:Nat} {sa:Option Addr} {sc:Nat} {sa':Option Addr} {sc':Nat} {v u x:Value} {ys:List Value} {w:World}
  (hpj:bj < p) (hpl:p < lo) (hlo:lo<=W'.heap.size) (hw:w.heap.size=p) (hSW:Since w W') (hbase:base=lo)
  (hF:Fr (fun k=>Sl.blk ⟨sa,sc⟩=some k) (W'.alloc o) W3) (hrb:∀ k,Sl.blk ⟨sa,sc⟩=some k->lo<=k)
  (hB:∀ k,Sl.blk ⟨sa,sc⟩=some k->∃ o v,W'.cell? ⟨k,o,none⟩=some v)
  (D:W'.cell? ⟨p,0,none⟩=some v) (E:W3.cell? ⟨p,0,none⟩=some x) (Z:W3.frozen? ⟨p,0,none⟩=false) (hR:Row W3 lo 5 ⟨sa',sc'⟩ i ys) :
  let Wf:=W3.setCell ⟨p,0,none⟩ u
  KH p bj base W' Wf/\Since w Wf/\Wf.cell? ⟨p,0,none⟩=some u/\Wf.frozen? ⟨p,0,none⟩=false/\Row Wf lo 5 ⟨sa',sc'⟩ i ys:=by
 intro Wf
 have hFf:Fr (fun k=>Sl.blk ⟨sa,sc⟩=some k\/k=p) W' Wf:=by
  refine Fr.setCell ((((Since.refl W').alloc o).fr (fun _=>False)).trans hF (fun _ _ x=>x.elim) (fun _ _ x=>.inl x)) _ _ ?_
  intro _;exact .inr rfl
 have hob:∀ k,k≠p->Wf.heap[k]? = W3.heap[k]?:=fun k h5=>Below.heap_setCell _ ⟨p,0,none⟩ u k h5
 have hs3:Wf.heap.size=W3.heap.size:=by simp [Wf]
 refine ⟨⟨⟨xR hFf (by omega) ?_,hFf.block _ (by omega) ?_⟩, ?_⟩,hFf.aA hSW ?_, ?_, ?_,hR.kept (by omega) ?_⟩
 ·rintro k hk (h | rfl)
  ·have:=hrb _ h;omega
  ·omega
 ·rintro (h | h)
  ·have:=hrb _ h;omega
  ·omega
 ·intro k o hk ho hc
  refine NC.OA hFf ?_ k o ho hc
  rintro k (h | rfl)
  ·exact hB k h
  ·exact ⟨0,_,D⟩
 ·rintro k hk (h | rfl)
  ·have:=hrb _ h;omega
  ·omega
 ·exact World.cell?_setCell_same' W3 ⟨p,0,none⟩ u (by rw [E];rfl)
 ·show (W3.setCell ⟨p,0,none⟩ u).frozen? _=false
  rw [World.frozen?_setCell];exact Z
 ·intro k hk
  have:=hR.eD k hk
  exact hob k (by omega)
theorem Lr (h:List Mg) (x:Mg):flat (h++[x])=flat h++[.int .i64 x.fr,.int .i64 x.gr,.int .i64 x.st,.bool x.nul,.string x.body]:=by
 unfold flat;rw [List.flatMap_append];simp [Mg.cells]
set_option maxRecDepth 8000 in
theorem AJ (gf:Nat) (lb:Array Value) (Bj:Nat) (ms:List Mg) (hms:ms.length<=1000) (w:World) (hBj:Bj < w.heap.size) (eg:∀ args w,(callFunc gf args).run prog w=.ok (.enter gf args) w)
  (hseq:∀ W,Since w W->Lb prog 1 gf lb (fun x:Mg=>#[mgV x]) (KH w.heap.size Bj W.heap.size) (fun h x=>x∈ms/\x∉h) (fun h=>h.Perm ms) W) :
  Calls prog 204 #[.slice none 0 0,.func (.func gf) #[] lb] w fun e w'=>∃ (h:List Mg) (a:Option Addr) (c:Nat),e=.returned (.slice a h.length c)/\h.Perm ms/\Row w' w.heap.size 5 ⟨a,c⟩ h.length (flat h)/\Since w w':=by
 obtain ⟨w1,hw1⟩:∃ y,w.alloc (.cells #[.slice none 0 0] 39)=y:=⟨_,rfl⟩
 have hS:=au hw1
 have hl1:w.heap.size < w1.heap.size:=by rw [<-hw1];simp
 have b2:w1.cell? ⟨w.heap.size,0,none⟩=some (.slice none 0 0):=by rw [<-hw1];simp [go_sem]
 have z2:w1.frozen? ⟨w.heap.size,0,none⟩=false:=by rw [<-hw1];simp [go_sem]
 refine iF func204 rfl ?_
 simp only [ntmps204,List.size_toArray,List.length_cons,List.length_nil,Nat.reduceAdd,Nat.reduceSub,Array.replicate_succ,Array.replicate_zero,List.push_toArray,List.append_toArray,List.nil_append,List.cons_append]
 refine dK (bE ?_)
 go_wp2
 refine dK (dK (bE ?_))
 go_wp2
 try rw [hw1]
 refine mO ?_
 clear hw1
 refine yL (m:=1) (n0:=w.heap.size) (bj:=Bj) func204 (gf:=gf) (lb:=lb) rfl eg hS.size (by omega) (hseq w1 hS) (fun _=>rfl)
  (fun h W=>Since w W/\(h.Nodup/\∀ y∈h,y∈ms)/\∃ sa sc,W.cell? ⟨w.heap.size,0,none⟩=some (.slice sa h.length sc)/\W.frozen? ⟨w.heap.size,0,none⟩=false/\Row W w1.heap.size 5 ⟨sa,sc⟩ h.length (flat h))
  (fun _ _=>False)
  (fun h A B hA hk=>by
   obtain ⟨hSA,hN,sa,sc,c5,f5,hR⟩:=hA
   exact ⟨⟨hSA.below.trans (hk.below.mono hS.size)⟩,hN,sa,sc,hk.cell c5 (by simp),(World.frozen?_of_block (w:=A) (sF hk c5)).trans f5,hR.kx (by omega) hk⟩)
  ⟨hS,⟨by simp,by simp⟩,none,0,b2,z2,Row.nil _ _ _⟩ ?round ?done ?pan
 case pan =>
  rintro D ch W hD h hK
  exact h.elim
 case round =>
  rintro l h x W hsz ⟨hSW,hN,sa,sc,c5,f5,hR⟩ hx
  have hlen:h.length < 1000:=by
   have h1:=List.Nodup.length_le_of_subset (l₁:=h++[x]) (l₂:=ms) (by rw [List.nodup_append];refine ⟨hN.1,by simp, ?_⟩;intro a ha b hb;simp at hb;rintro rfl;exact hx.2 (hb ▸ ha)) (fun y hy=>by
    rcases List.mem_append.1 hy with h | h
    ·exact hN.2 y h
    ·simp at h;subst h;exact hx.1)
   rw [List.length_append] at h1
   simp at h1
   omega
  have HN2:Hid ((h++[x]).Nodup/\∀ y∈h++[x],y∈ms):=by
   refine ⟨?_,fun y hy=>?_⟩
   ·rw [List.nodup_append];refine ⟨hN.1,by simp, ?_⟩;intro a ha b hb;simp at hb;rintro rfl;exact hx.2 (hb ▸ ha)
   ·rcases List.mem_append.1 hy with h | h
    ·exact hN.2 y h
    ·simp at h;subst h;exact hx.1
  obtain ⟨n,hn⟩:∃ n,h.length=n:=⟨_,rfl⟩
  obtain ⟨xs,hxs⟩:∃ f,flat h=f:=⟨_,rfl⟩
  have HTS:flat (h++[x])=xs++[.int .i64 x.fr,.int .i64 x.gr,.int .i64 x.st,.bool x.nul,.string x.body]:=by rw [Lr,hxs]
  have HLN:(h++[x]).length=n+1:=by rw [List.length_append,hn];rfl
  rw [hn] at c5 hR hlen
  rw [hxs] at hR
  obtain ⟨PP,hPP⟩:∃ PP:World->World->Prop,∀ A B,PP A B↔(KH w.heap.size Bj w1.heap.size A B/\Since w B/\∃ sa sc,B.cell? ⟨w.heap.size,0,none⟩=some (.slice sa (n+1) sc)/\B.frozen? ⟨w.heap.size,0,none⟩=false/\Row B w1.heap.size 5 ⟨sa,sc⟩ (n+1) (xs++[.int .i64 x.fr,.int .i64 x.gr,.int .i64 x.st,.bool x.nul,.string x.body])):=⟨_,fun _ _=>Iff.rfl⟩
  have HM:Hid (∀ A B,PP A B->KH w.heap.size Bj w1.heap.size A B/\(Since w B/\((h++[x]).Nodup/\∀ y∈h++[x],y∈ms)/\∃ sa sc,B.cell? ⟨w.heap.size,0,none⟩=some (.slice sa (h++[x]).length sc)/\B.frozen? ⟨w.heap.size,0,none⟩=false/\Row B w1.heap.size 5 ⟨sa,sc⟩ (h++[x]).length (flat (h++[x])))):=fun A B hp=>by
   obtain ⟨q1,q2,q3⟩:=(hPP A B).1 hp
   rw [HTS,HLN]
   exact ⟨q1,q2,HN2.out,q3⟩
  have HPP:Hid (∀ A B,PP A B↔_):=hPP
  unfold mgV
  clear hx hn hxs HTS HLN hPP hN HN2
  gi_wp2
  obtain ⟨W1,hW1⟩:∃ y,W.alloc (.cells #[.int .i64 x.fr,.int .i64 x.gr,.int .i64 x.st,.bool x.nul,.string x.body] 42)=y:=⟨_,rfl⟩
  have oo:=au hW1
  have z0:W1.cell? ⟨W.heap.size,0,none⟩=some (.int .i64 x.fr):=by rw [<-hW1];simp [go_sem]
  have z1:W1.cell? ⟨W.heap.size,1,none⟩=some (.int .i64 x.gr):=by rw [<-hW1];simp [go_sem]
  have z2':W1.cell? ⟨W.heap.size,2,none⟩=some (.int .i64 x.st):=by rw [<-hW1];simp [go_sem]
  have z3:W1.cell? ⟨W.heap.size,3,none⟩=some (.bool x.nul):=by rw [<-hW1];simp [go_sem]
  have z4:W1.cell? ⟨W.heap.size,4,none⟩=some (.string x.body):=by rw [<-hW1];simp [go_sem]
  rw [hW1]
  refine ⟨oo,fun W' hsz' hk=>?_⟩
  refine wpIn_mono (Q:=Exit.then (fun _ B=>PP W' B) (fun _ _ _=>False)) ?_ ?mono
  case mono =>
   intro e1 a1 W5 hp1
   match e1,hp1 with
   | .normal,hp=>exact HM.out W' W5 hp
  clear HM
  have hp5:w.heap.size < W.heap.size:=by omega
  have C5:=(oo.cellAt hp5 _).trans c5
  have D5:=hk.cell C5 (by simp)
  have G5:=(World.frozen?_of_block (w:=W1) (sF hk C5)).trans ((oo.below.frozen (p:=⟨w.heap.size,0,none⟩) hp5).trans f5)
  have x0:=hk.cell z0 (by simp)
  have x1:=hk.cell z1 (by simp)
  have x2:=hk.cell z2' (by simp)
  have x3:=hk.cell z3 (by simp)
  have x4:=hk.cell z4 (by simp)
  have hRW:=(hR.since oo).kx (by omega) hk
  have Ld:Since w W':=⟨(hSW.trans oo).below.trans (hk.below.mono hS.size)⟩
  have hsrc:=gP (size:=5) (T:=42) (w:=W') dP.und [.int .i64 x.fr,.int .i64 x.gr,.int .i64 x.st,.bool x.nul,.string x.body] rfl (fun u hu=>by simp at hu;rcases hu with rfl | rfl | rfl | rfl | rfl <;> rfl) 1
  have hrb:∀ k,Sl.blk ⟨sa,sc⟩=some k->w1.heap.size<=k:=fun k e=>hR.eD k e
  have O7:Hid (∀ k,Sl.blk ⟨sa,sc⟩=some k->∃ o v,W'.cell? ⟨k,o,none⟩=some v):=fun k e=>by
   obtain ⟨hp,_,_,off,e1⟩:=hRW.fA e
   obtain ⟨b',off',e2,_,_,hc,_⟩:=hRW.body hp
   rw [e1] at e2
   cases e2
   obtain ⟨u,hu⟩:=Option.isSome_iff_exists.1 (hc 0 (by omega)).1
   exact ⟨_,u,hu⟩
  clear hW1 hR c5 f5 C5 z0 z1 z2' z3 z4
  have n5:¬ Sl.blk ⟨sa,sc⟩=some w.heap.size:=fun e=>by have:=hrb _ e;omega
  gi_wp2_with (gi_at_builtin;apply Hid.out)
  unfold Hid
  refine Eb dP rfl _ _ 39 rfl rfl (hRW.since ((Since.refl W').alloc _)) rfl hsrc (by omega) (by simp;omega) ?_
  intro sa' sc' W3 hR3 hF3 hB3
  have E5:=(hF3.cell (p:=⟨w.heap.size,0,none⟩) (by simp;omega) n5).trans ((((Since.refl W').alloc _).cellAt (by omega) _).trans D5)
  have Z5:=(hF3.frozen (p:=⟨w.heap.size,0,none⟩) (by simp;omega) n5).trans ((((Since.refl W').alloc _).below.frozen (p:=⟨w.heap.size,0,none⟩) (by show w.heap.size < W'.heap.size;omega)).trans G5)
  gi_wp2
  refine (HPP.out W' _).2 ?_
  obtain ⟨q1,q2,q3,q4,q5⟩:=Gf (u:=.slice sa' (n+1) sc') hBj hl1 hsz' rfl Ld rfl hF3 hrb O7.out D5 E5 Z5 hR3
  exact ⟨q1,q2,sa',sc',q3,q4,q5⟩
 case done =>
  rintro D h W hD hperm ⟨hSW,hN,sa,sc,c5,f5,hR⟩ hK
  have hX:KX w1.heap.size none W (W.putObj D (.deferred none)):=KX.put (X:=none) (.deferred none) hK rfl hD
  have hRf:=hR.kx (by omega) hX
  have HF:Hid (h.Perm ms/\Row (W.putObj D (.deferred none)) w.heap.size 5 ⟨sa,sc⟩ h.length (flat h)/\Since w (W.putObj D (.deferred none))):=⟨hperm,hRf.mono hS.size,⟨hSW.below.trans (hX.below.mono hS.size)⟩⟩
  obtain ⟨n,hn⟩:∃ n,h.length=n:=⟨_,rfl⟩
  have HNN:Hid (h.length=n):=hn
  rw [hn] at c5
  clear hR hRf hn hperm hN
  refine bE (uj ?_)
  go_wp2
  refine ⟨by simp,.inl ⟨_,_,rfl,run_takeDeferred hK, ?_⟩⟩
  refine ⟨_,results_tmp rfl _ _ _,h,sa,sc,by rw [HNN.out];rfl,HF.out.1,HF.out.2.1,HF.out.2.2⟩
theorem Ec (gf:Nat) (lb:Array Value) (w w0:World) (ms:List Mg) (fv:Value) (hfv:fv=.func (.func gf) #[] lb)
  (hA:Calls prog 204 #[.slice none 0 0,fv] w fun e w'=>∃ (h:List Mg) (a:Option Addr) (c:Nat),e=.returned (.slice a h.length c)/\h.Perm ms/\Row w' w.heap.size 5 ⟨a,c⟩ h.length (flat h)/\Since w w') :
  Calls prog 166 #[fv] w fun e w'=>∃ (h:List Mg) (a:Option Addr) (c:Nat),e=.returned (.slice a h.length c)/\h.Perm ms/\Row w' w.heap.size 5 ⟨a,c⟩ h.length (flat h)/\Since w w':=by
 subst hfv
 go_enter func166,ntmps166
 go_wp2_with fail
 refine hA.mono ?_
 rintro e w' ⟨h,a,c,rfl,h1,h2,h3⟩
 go_wp2_with fail
 go_ret
 exact ⟨h,a,c,rfl,h1,h2,h3⟩
theorem Ls (a:Option Addr) (c:Nat) (lo:Nat) (ms:List Mg) (w:World) (hR:Row w lo 5 ⟨a,c⟩ ms.length (flat ms)) (hm:ms.length<=1000) :
  Calls prog 167 #[.slice a ms.length c,.func (.func 114) #[] #[]] w fun e w'=>e=.returned (.tuple #[]) /\
   ∃ ms':List Mg,ms'.Perm ms/\wW ms'/\dI w' a ms.length ms'/\Fr (fun k=>lo<=k) w w'/\WrM w' lo a ms.length:=by
 by_cases hp:0 < ms.length
 ·obtain ⟨b,off,e,hlb,_⟩:=hR.body (by have:=hR.cap;dsimp only at this ⊢;omega)
  dsimp only at e
  subst e
  refine (JB b off c lo ms w hR hp hm).mono ?_
  rintro e w' ⟨he,ms',h1,h2,h3,h4,h5⟩
  exact ⟨he,ms',h1,h2,h3,h4.mono (fun i _ e=>by subst e;exact hlb),h5⟩
 ·obtain rfl:ms=[]:=zQ6 (by omega)
  have hcon:=AnyF.slices_SortFunc_none { Tryz.IV with } a c (.func (.func 114) #[] #[]) w
  change Calls prog 167 _ _ _ at hcon
  refine hcon.mono ?_
  rintro e w' ⟨he,rfl⟩
  exact ⟨he,[],.nil,fun i j x y _ h=>by simp at h,⟨rfl,by simp,fun h=>absurd h (by simp)⟩,Fr.refl _ _,yS _ _ _⟩
theorem Gg (gf:Nat) (lb:Array Value) (w:World) (ms:List Mg) (hm:ms.length<=1000)
  (hA:Calls prog 204 #[.slice none 0 0,.func (.func gf) #[] lb] w fun e w'=>∃ (h:List Mg) (a:Option Addr) (c:Nat),e=.returned (.slice a h.length c)/\h.Perm ms/\Row w' w.heap.size 5 ⟨a,c⟩ h.length (flat h)/\Since w w') :
  Calls prog 110 #[.func (.func gf) #[] lb,.func (.func 114) #[] #[]] w fun e w'=>∃ (h:List Mg) (a:Option Addr) (c:Nat),e=.returned (.slice a h.length c)/\h.Perm ms/\wW h/\dI w' a h.length h/\WrM w' w.heap.size a h.length/\Since w w':=by
 have hC:=Ec gf lb w w ms _ rfl hA
 go_enter func110,ntmps110
 go_wp2_with fail
 refine hC.mono ?_
 rintro e w1 ⟨h,a,c,rfl,h1,h2,h3⟩
 have hl:=h1.length_eq
 have hS:=Ls a c w.heap.size h w1 h2 (by omega)
 obtain ⟨n,hn⟩:∃ n,h.length=n:=⟨_,rfl⟩
 have HN:Hid (h.length=n):=hn
 rw [hn] at hS ⊢
 clear hn hl h2 hC
 go_wp2_with fail
 refine hS.mono ?_
 rintro e w2 ⟨rfl,ms',g1,g2,g3,g4,g5⟩
 go_wp2_with fail
 go_ret
 have hln:ms'.length=n:=by rw [<-HN.out];exact g1.length_eq
 exact ⟨ms',a,c,by rw [hln];rfl,g1.trans h1,g2,by rw [hln];exact g3,by rw [hln];exact g5,g4.aA h3 (fun i hi e=>by omega)⟩
open Pu
theorem Gh (ms:List Mg) (m x:Mg):x∈dO ms m↔x∈ms\/x=m:=by
 unfold dO
 by_cases h:ms.any (dN m)=true
 ·rw [if_pos h]
  refine ⟨fun h=>.inl h,fun h2=>h2.elim id fun e=>?_⟩
  rw [e];exact (vv ms m).1 h
 ·rw [if_neg h];simp
theorem Ct {ms:List Mg} (m:Mg) (h:ms.Nodup):(dO ms m).Nodup:=by
 unfold dO
 by_cases ha:ms.any (dN m)=true
 ·rw [if_pos ha];exact h
 ·rw [if_neg ha,List.nodup_append]
  refine ⟨h,by simp, ?_⟩
  intro a hm b hb
  simp at hb
  rintro rfl
  exact ha ((vv ms m).2 (hb ▸ hm))
theorem yT:∀ (L ms:List Mg),ms.Nodup->(L.foldl dO ms).Nodup/\∀ x,x∈L.foldl dO ms↔x∈ms\/x∈L
 | [],ms,h=>⟨h,fun x=>by simp⟩
 | m::r,ms,h=>by
  obtain ⟨h1,h2⟩:=yT r (dO ms m) (Ct m h)
  refine ⟨h1,fun x=>?_⟩
  rw [List.foldl_cons,h2,Gh]
  simp [or_assoc]
theorem um (L:List Mg):(L.foldl dO []).Nodup:=(yT L [] (by simp)).1
theorem yU (L:List Mg) (x:Mg):x∈L.foldl dO []↔x∈L:=by rw [(yT L [] (by simp)).2];simp
theorem Lu (L:List Mg):(L.foldl dO []).length<=L.length:=List.Nodup.length_le_of_subset (um L) (fun x hx=>(yU L x).1 hx)
theorem yV (d:Wd):toldAll d.nodes=vC d:=rfl
theorem Nw {ns:List Nd} (h:∀ nd∈ns,nd.told.length<=40):(toldAll ns).length<=40*ns.length:=by
 induction ns with
 | nil=>simp [toldAll]
 | cons a r ih =>
  have:=ih (fun nd hn=>h nd (by simp [hn]))
  have h1:=h a (by simp)
  show (a.told++toldAll r).length<=_
  rw [List.length_append,List.length_cons]
  omega
theorem Lv {d:Wd} (R:Right d):(toldAll d.nodes).length<=160:=by
 obtain ⟨_,n4,_,g3⟩:=mW R.chk
 have:=Nw (ns:=d.nodes) (fun nd hn=>by
  obtain ⟨k,hk⟩:=List.getElem?_of_mem hn
  have:=R.tJ k
  rw [(show bC d k=nd.told by unfold bC;rw [hk])] at this;exact this)
 omega
theorem AL {d:Wd} {l:List Mg} (hp:l.Perm ((toldAll d.nodes).foldl dO [])) (hr:wW l) (hs:∀ i a b,l[i]? = some a->l[i+1]? = some b->cfM a b≠0):oQ d=.ok l:=by
 rw [Ny]
 refine ⟨?_,fun x=>?_⟩
 ·rw [jg]
  intro i a b ha hb
  have h1:=hr i (i+1) a b (by omega) ha hb
  have h2:=hs i a b ha hb
  unfold cfM at h2
  cases hl:lessM a b
  ·simp [hl,h1] at h2
  ·rfl
 ·rw [hp.mem_iff,yU,yV,oU]
theorem Cu {d:Wd} {l:List Mg} (hp:l.Perm ((toldAll d.nodes).foldl dO [])) {i:Nat} {a b:Mg} (ha:l[i]? = some a) (hb:l[i+1]? = some b) (h0:cfM a b=0):oQ d=.error 1:=by
 cases h:oQ d with
 | error e=>rw [(IW h).1]
 | ok l' =>
  exfalso
  obtain ⟨h1,h2⟩:=Gi h
  have hnd:l.Nodup:=hp.nodup_iff.2 (um _)
  have hne:a≠b:=by
   rintro rfl
   obtain ⟨li,e1⟩:=zQ2.1 ha
   obtain ⟨lj,e2⟩:=zQ2.1 hb
   have:=(List.getElem_inj hnd).1 (e1.trans e2.symm)
   omega
  have hmem:∀ x,x∈l->x∈l':=fun x hx=>(h2 x).2 ((oU d x).1 (by rw [<-yV,<-yU,<-hp.mem_iff];exact hx))
  have n1:lessM a b=false/\lessM b a=false:=by
   unfold cfM at h0
   cases h3:lessM a b
   ·cases h4:lessM b a
    ·exact ⟨rfl,rfl⟩
    ·simp [h3,h4] at h0
   ·simp [h3] at h0
  have hpw:=(cO _).1 h1
  obtain ⟨j,hj⟩:=List.getElem?_of_mem (hmem a (List.mem_of_getElem? ha))
  obtain ⟨k,hk⟩:=List.getElem?_of_mem (hmem b (List.mem_of_getElem? hb))
  obtain ⟨lj,hj'⟩:=zQ2.1 hj
  obtain ⟨lk,hk'⟩:=zQ2.1 hk
  rcases Nat.lt_trichotomy j k with c | c | c
  ·have:=List.pairwise_iff_getElem.1 hpw j k lj lk c
   rw [hj',hk',n1.1] at this;cases this
  ·subst c;rw [hj'] at hk';exact hne hk'
  ·have:=List.pairwise_iff_getElem.1 hpw k j lk lj c
   rw [hj',hk',n1.2] at this;cases this
def Gj (d:Wd) (n:Int):Bool:=decide (n < 0) || decide ((d.nodes.length:Int)<=n)
def Cv (d:Wd) (ns:List Int):Int:=if aD d=0 then (if ns.any (Gj d) then 4 else 0) else aD d
theorem JC (x:WV) (d:Wd) (a:Option Addr) (len cap:Nat) (ns:List Int) (w:World) (hW:WAt w x d) (hI:Ints w a len ns) :
  Calls prog 109 #[.agg #[.slice x.ga x.gl x.gc,.slice x.na x.nl x.nc,.slice x.wa x.wl x.wc],.slice a len cap] w fun e w'=>e=.returned (.int .i64 (Cv d ns))/\Since w w':=by
 obtain ⟨ga,gl,gc,na,nl,nc,wa,wl,wc⟩:=x
 have hnl:=hW.n.hlen
 dsimp only at hnl ⊢
 subst hnl
 obtain ⟨rfl,hmax,hcells⟩:=hI
 obtain ⟨w1,hw1⟩:∃ wp,w.alloc (.cells #[.slice ga gl gc,.slice na d.nodes.length nc,.slice wa wl wc] 26)=wp:=⟨_,rfl⟩
 have hP1:aG w1 w.heap.size ⟨ga,gl,gc,na,d.nodes.length,nc,wa,wl,wc⟩:=by rw [<-hw1];exact aG.new w ⟨ga,gl,gc,na,d.nodes.length,nc,wa,wl,wc⟩ _
 have hS1:=au hw1
 have PF:Hid (∀ y,Since w1 y->aG y w.heap.size ⟨ga,gl,gc,na,d.nodes.length,nc,wa,wl,wc⟩):=fun y hy=>hP1.since hy
 have hC:=kE ⟨ga,gl,gc,na,d.nodes.length,nc,wa,wl,wc⟩ d w1 (hW.since hS1)
 dsimp only at hC
 obtain ⟨_,p0,p1,p2⟩:=hP1
 dsimp only at p0 p1 p2
 obtain ⟨er,her⟩:∃ y,aD d=y:=⟨_,rfl⟩
 rw [her] at hC
 have HER:Hid (aD d=er):=her
 clear her hW
 by_cases h0:er=0
 ·subst h0
  have HA:Hid (Cv d ns=if ns.any (Gj d) then 4 else 0):=by unfold Hid Cv;rw [if_pos HER.out]
  go_enter func109,ntmps109
  go_wp2_with fail
  refine hC.mono ?_
  rintro e w2 ⟨rfl,hS2⟩
  clear hw1 p0 p1 p2
  go_wp2_with fail
  go_loopw [15] (fun i wr=>(∃ k:Nat,k<=ns.length/\i=.int .i64 k/\∀ n∈ns.take k,Gj d n=false)/\wr=w2) (fun i _=>ns.length - (intOf i).toNat)
  case atStart=>exact ⟨⟨0,Nat.zero_le _,rfl,by simp⟩,rfl⟩
  case round =>
   obtain ⟨⟨k,hk,rfl,hok⟩,hwr⟩:=hrel
   obtain rfl:=hwr.symm
   obtain ⟨_,q0,q1,q2⟩:=PF.out _ hS2
   dsimp only at q0 q1 q2
   by_cases hlt:k < ns.length
   ·obtain ⟨b,off,rfl,hb,hc⟩:=hcells (by omega)
    have hx:=(hS1.trans hS2).cellAt hb (off+k)
    rw [hc k hlt] at hx
    obtain ⟨n,hn⟩:∃ n,ns[k]? = some n:=⟨_,zQ1 hlt⟩
    rw [hn] at hx
    simp only [Option.getD_some] at hx
    have n1:(k:Int) < (ns.length:Int):=by omega
    have HT:Hid (ns.take (k+1)=ns.take k++[n]):=by unfold Hid;rw [List.take_add_one,hn];rfl
    have SH:Hid (n∈ns):=List.mem_of_getElem? hn
    clear hn hc hcells
    cases hB:Gj d n
    ·have HB:Hid (Gj d n=false):=hB
     unfold Gj at hB
     simp only [Bool.or_eq_false_iff,decide_eq_false_iff_not] at hB
     obtain ⟨hb1,hb2⟩:=hB
     go_wp2_with fail
     go_roundw
     case rel =>
      refine ⟨⟨k+1,by omega,by go_num,fun m hm=>?_⟩,trivial⟩
      rw [HT.out] at hm
      rcases List.mem_append.1 hm with h | h
      ·exact hok m h
      ·simp at h;subst h;exact HB.out
     case measure=>simp [intOf];omega
    ·have HR:Hid (Cv d ns=4):=by unfold Hid;rw [HA.out,if_pos (List.any_eq_true.2 ⟨n,SH.out,hB⟩)]
     unfold Gj at hB
     rw [Bool.or_eq_true,decide_eq_true_iff,decide_eq_true_iff] at hB
     by_cases hb1:n < 0
     ·clear hB
      go_wp2_with fail
      go_ret
      exact ⟨by rw [HR.out];rfl,hS1.trans hS2⟩
     ·have hb2:(d.nodes.length:Int)<=n:=hB.resolve_left hb1
      clear hB
      go_wp2_with fail
      go_ret
      exact ⟨by rw [HR.out];rfl,hS1.trans hS2⟩
   ·obtain rfl:k=ns.length:=by omega
    rw [List.take_length] at hok
    have HR:Hid (Cv d ns=0):=by
     unfold Hid
     rw [HA.out,if_neg]
     rw [List.any_eq_true]
     rintro ⟨n,hn,h⟩
     rw [hok n hn] at h;cases h
    clear hok hcells
    go_wp2_with fail
    go_ret
    exact ⟨by rw [HR.out];rfl,hS1.trans hS2⟩
 ·have hb:(er != 0)=true:=by simpa using h0
  have HA:Hid (Cv d ns=er):=by unfold Hid Cv;rw [HER.out,if_neg h0]
  clear h0
  go_enter func109,ntmps109
  go_wp2_with fail
  refine hC.mono ?_
  rintro e w2 ⟨rfl,hS2⟩
  go_wp2_with fail
  go_ret
  exact ⟨by rw [HA.out];rfl,hS1.trans hS2⟩
def vD (d:Wd):Int:=if aD d=0 then (match oQ d with | .ok _=>0 | .error e=>e) else aD d
def pU (d:Wd):List Mg:=if aD d=0 then (match oQ d with | .ok l=>l | .error _=>[]) else []
theorem Ed (w:World):Ints w none 0 []:=⟨rfl,by simp,fun h=>absurd h (by simp)⟩
theorem lT (w:World):dI w none 0 []:=⟨rfl,by simp,fun h=>absurd h (by simp)⟩
theorem Nz (w0:World) (a b:Mg) (v:Int) (hv:cfM a b=v) (w:World) (h:Since w0 w) :
  Calls prog 114 #[.agg #[.int .i64 a.fr,.int .i64 a.gr,.int .i64 a.st,.bool a.nul,.string a.body],.agg #[.int .i64 b.fr,.int .i64 b.gr,.int .i64 b.st,.bool b.nul,.string b.body]] w fun e w'=>e=.returned (.int .i64 v)/\Since w0 w':=by
 refine (Bt a b w).mono ?_
 rintro e w' ⟨he,os,rfl⟩
 exact ⟨by rw [<-hv];exact he,h.trans ⟨⟨rfl,rfl,rfl,by simp [Go.Sort.grow],fun k hk=>by simp [Go.Sort.grow,Array.getElem?_append_left hk]⟩⟩⟩
theorem Gl (x:WV) (d:Wd) (w:World) (hW:WAt w x d) (hr:Right d) (w3:World) (p:Nat) (h3:Since w w3) (hp:p < w3.heap.size) (c1:w3.cell? ⟨p,1,none⟩=some (.slice x.na x.nl x.nc)) :
  Calls prog 112 #[.func (.func 169) #[] #[.pointer (some ⟨p,0,none⟩)]] w3 fun e w4=>e=.returned (.map (some w3.heap.size))/\Since w3 w4/\w3.heap.size < w4.heap.size /\
   ∀ w5,w4.alloc (.cells #[.map (some w3.heap.size)] 122)=w5->Calls prog 110 #[.func (.func 168) #[] #[.pointer (some ⟨w4.heap.size,0,none⟩)],.func (.func 114) #[] #[]] w5 fun e w'=>∃ (h:List Mg) (a:Option Addr) (c:Nat),e=.returned (.slice a h.length c)/\h.Perm ((toldAll d.nodes).foldl dO [])/\wW h/\dI w' a h.length h/\WrM w' w5.heap.size a h.length/\Since w5 w':=by
 have e1:∀ args w,(callFunc 169 args).run prog w=.ok (.enter 169 args) w:=enters_of func169 (by kernel_rfl) rfl
 have e2:∀ args w,(callFunc 168 args).run prog w=.ok (.enter 168 args) w:=enters_of func168 (by kernel_rfl) rfl
 refine (Ju 169 #[.pointer (some ⟨p,0,none⟩)] p (toldAll d.nodes) w3 hp e1 (fun base W hS=>Gb 1 p w3.heap.size base w W h3.size (h3.trans hS) hS.size (zQ4 hp hS.size) x d hW ((hS.cellAt hp _).trans c1))).mono ?_
 rintro e w4 ⟨he,hset,hS4⟩
 have hr4:w3.heap.size < w4.heap.size:=(zQ3.1 hset).1
 refine ⟨he,hS4,hr4,fun w5 hw5=>?_⟩
 have hS5:=au hw5
 have hl5:w4.heap.size < w5.heap.size:=by rw [<-hw5];simp
 have c0:w5.cell? ⟨w4.heap.size,0,none⟩=some (.map (some w3.heap.size)):=by rw [<-hw5];simp [go_sem]
 have hs5:jL w5 w3.heap.size ((toldAll d.nodes).foldl dO []):=(hS5.below.block _ hr4).trans hset
 have hlen:((toldAll d.nodes).foldl dO []).length<=1000:=zQ5 (Lu _) (zQ5 (Lv hr) (by omega))
 refine Gg _ _ w5 _ hlen (AJ _ _ w4.heap.size _ hlen w5 hl5 e2 (fun W hS=>?_))
 exact Ll 1 w4.heap.size w5.heap.size W.heap.size w3.heap.size W hS.size (zQ4 hl5 hS.size) (by omega) (Nat.le_refl _) _ (um _) ((hS.below.block _ (by omega)).trans hs5) ((hS.cellAt hl5 _).trans c0)
theorem JD (x:WV) (d:Wd) (w:World) (hW:WAt w x d) :
  Calls prog 49 #[.agg #[.slice x.ga x.gl x.gc,.slice x.na x.nl x.nc,.slice x.wa x.wl x.wc]] w fun e w'=>∃ a c,e=.returned (.tuple #[.slice a (pU d).length c,.int .i64 (vD d)])/\dI w' a (pU d).length (pU d)/\WrM w' w.heap.size a (pU d).length/\Since w w':=by
 obtain ⟨ga,gl,gc,na,nl,nc,wa,wl,wc⟩:=x
 dsimp only
 obtain ⟨w1,hw1⟩:∃ wp,w.alloc (.cells #[.slice ga gl gc,.slice na nl nc,.slice wa wl wc] 26)=wp:=⟨_,rfl⟩
 have hP1:aG w1 w.heap.size ⟨ga,gl,gc,na,nl,nc,wa,wl,wc⟩:=by rw [<-hw1];exact aG.new w ⟨ga,gl,gc,na,nl,nc,wa,wl,wc⟩ _
 have hS1:=au hw1
 have PF:Hid (∀ y,Since w1 y->aG y w.heap.size ⟨ga,gl,gc,na,nl,nc,wa,wl,wc⟩):=fun y hy=>hP1.since hy
 have hC:=JC ⟨ga,gl,gc,na,nl,nc,wa,wl,wc⟩ d none 0 0 [] w1 (hW.since hS1) (Ed w1)
 dsimp only at hC
 have O8:Cv d []=aD d:=by
  unfold Cv
  by_cases h:aD d=0
  ·rw [if_pos h,h];rfl
  ·rw [if_neg h]
 rw [O8] at hC
 obtain ⟨_,p0,p1,p2⟩:=hP1
 dsimp only at p0 p1 p2
 by_cases h0:aD d=0
 ·rw [h0] at hC
  have hr:=(cu d).1 h0
  have hE:vD d=(match oQ d with | .ok _=>0 | .error e=>e):=by unfold vD;rw [if_pos h0]
  have hL:pU d=(match oQ d with | .ok l=>l | .error _=>[]):=by unfold pU;rw [if_pos h0]
  have HEL:Hid (vD d=(match oQ d with | .ok _=>0 | .error e=>e)/\pU d=(match oQ d with | .ok l=>l | .error _=>[])):=⟨hE,hL⟩
  obtain ⟨LL,hLL⟩:∃ y,pU d=y:=⟨_,rfl⟩
  obtain ⟨EE,hEE⟩:∃ y,vD d=y:=⟨_,rfl⟩
  rw [hLL,hEE]
  have HLL:Hid (pU d=LL/\vD d=EE):=⟨hLL,hEE⟩
  clear O8 h0 hE hL hLL hEE
  go_enter func49,ntmps49
  go_wp2_with fail
  refine hC.mono ?_
  rintro e w2 ⟨rfl,hS2⟩
  clear hw1 p0 p1 p2 hC
  obtain ⟨_,q0,q1,q2⟩:=PF.out _ hS2
  dsimp only at q0 q1 q2
  obtain ⟨w3,hw3⟩:∃ y,w2.alloc (.cells #[.slice ga gl gc,.slice na nl nc,.slice wa wl wc] 26)=y:=⟨_,rfl⟩
  have hS3:=au hw3
  have hl3:w2.heap.size < w3.heap.size:=by rw [<-hw3];simp
  have c13:w3.cell? ⟨w2.heap.size,1,none⟩=some (.slice na nl nc):=by rw [<-hw3];simp [go_sem]
  have hTd:=F9 ⟨ga,gl,gc,na,nl,nc,wa,wl,wc⟩ w2
  dsimp only at hTd
  rw [hw3] at hTd
  have hSO:=Gl ⟨ga,gl,gc,na,nl,nc,wa,wl,wc⟩ d w hW hr w3 w2.heap.size (hS1.trans (hS2.trans hS3)) hl3 c13
  clear hw3
  go_wp2_with fail
  refine hTd.mono ?_
  rintro e w' ⟨rfl,hw⟩
  obtain rfl:=hw.symm
  go_wp2_with fail
  refine hSO.mono ?_
  rintro e w4 ⟨rfl,hS4,hr4,hsort⟩
  obtain ⟨w5,hw5⟩:∃ y,w4.alloc (.cells #[.map (some w3.heap.size)] 122)=y:=⟨_,rfl⟩
  have hS5:=au hw5
  have hSr:=hsort w5 hw5
  have hKy:=Li w3.heap.size w4
  rw [hw5] at hKy
  clear hw5 hsort
  go_wp2_with fail
  refine hKy.mono ?_
  rintro e w' ⟨rfl,hw⟩
  obtain rfl:=hw.symm
  go_wp2_with fail
  refine hSr.mono ?_
  rintro e w6 ⟨h,a6,c6,rfl,hperm,hris,hM6,hY6,hS6⟩
  have HP:Hid (h.Perm ((toldAll d.nodes).foldl dO [])/\wW h):=⟨hperm,hris⟩
  have hmax:=hM6.hmax
  have cw:=hS1.trans (hS2.trans (hS3.trans (hS4.trans (hS5.trans hS6))))
  have HY6:Hid (WrM w6 w.heap.size a6 h.length):=hY6.mono (hS1.trans (hS2.trans (hS3.trans (hS4.trans hS5)))).size
  clear hY6
  clear hperm hris hSO hTd hKy hSr q0 q1 q2 c13
  go_wp2_with fail
  go_loopw [6] (fun i wr=>(∃ k:Nat,1<=k/\i=.int .i64 k/\(k<=h.length\/k=1)/\∀ (j:Nat) (a b:Mg),j+1 < k->h[j]? = some a->h[j+1]? = some b->cfM a b≠0)/\Since w6 wr) (fun i _=>h.length - (intOf i).toNat)
  case atStart=>exact ⟨⟨1,Nat.le_refl _,rfl,.inr rfl,fun j a b h=>by omega⟩,Since.refl w6⟩
  case round =>
   obtain ⟨wo,rfl⟩:∃ wo,wo=wr:=⟨_,rfl⟩
   obtain ⟨⟨k,hk1,rfl,hkl,hok⟩,hSr⟩:=hrel
   have HOK:Hid (∀ (j:Nat) (a b:Mg),j+1 < k->h[j]? = some a->h[j+1]? = some b->cfM a b≠0):=hok
   clear hok
   by_cases hlt:k < h.length
   ·obtain ⟨a,ha⟩:∃ a,h[k - 1]? = some a:=⟨_,zQ1 (by omega)⟩
    obtain ⟨b,hb⟩:∃ b,h[k]? = some b:=⟨_,zQ1 hlt⟩
    obtain ⟨bb,off,rfl,hbb,hcell⟩:=hM6.cells (by omega)
    obtain ⟨k0,hk0⟩:∃ k0,k=k0+1:=⟨k - 1,by omega⟩
    subst hk0
    rw [Nat.add_sub_cancel] at ha
    obtain ⟨d0,d1,d2,d3,d4⟩:=bJ hcell k0 a ha
    obtain ⟨e0,e1,e2,e3,e4⟩:=bJ hcell (k0+1) b hb
    have n1:((k0+1:Nat):Int) < (h.length:Int):=by omega
    have n2:wrap64 (((k0+1:Nat):Int) - 1)=(k0:Int):=by rw [IntWalk.wrap64_in _ (by omega)];omega
    have n3:(k0:Int) < (h.length:Int):=by omega
    have HAB:Hid (h[k0]? = some a/\h[k0+1]? = some b):=⟨ha,hb⟩
    have hnE:Nonempty (Later w6):=⟨⟨w6,Since.refl w6⟩⟩
    have hg:∀ (x:Later w6) (o:Nat),x.w.cell? ⟨bb,o,none⟩=w6.cell? ⟨bb,o,none⟩:=fun x o=>x.cell hbb
    clear hcell ha hb hM6
    obtain ⟨v,hv⟩:∃ v,cfM a b=v:=⟨_,rfl⟩
    have hOr:=Nz w6 a b v hv
    have HV:Hid (cfM a b=v):=hv
    clear hv
    by_cases hv0:v=0
    ·have hvb:(v == 0)=true:=by simpa using hv0
     have iG:Hid (oQ d=.error 1):=Cu HP.out.1 HAB.out.1 HAB.out.2 (HV.out.trans hv0)
     clear hv0
     go_wp2_with fail
     refine ak (by kernel_rfl) (by kernel_rfl) hSr ?_
     repeat (go_big_quiet_step ((go_at_call 114;exact Later.call hOr)))
     refine wpQuiet_nil ?_
     intro w9 hS9
     go_wp2_with fail
     have hl:LL=[]/\EE=1:=by
      obtain ⟨h1,h2⟩:=HEL.out
      obtain ⟨h3,h4⟩:=HLL.out
      rw [iG.out] at h1 h2
      exact ⟨h3.symm.trans h2,h4.symm.trans h1⟩
     rw [hl.1,hl.2]
     refine bodyPost_ret (v:=.tuple #[.slice none 0 0,.int .i64 1]) ?_ rfl ⟨none,0,rfl,lT _,yS _ _ _,cw.trans hS9⟩
     simp [results,results49,go_sem]
    ·have hvb:(v == 0)=false:=by simpa using hv0
     have HNX:Hid (∀ (j:Nat) (a b:Mg),j+1 < k0+1+1->h[j]? = some a->h[j+1]? = some b->cfM a b≠0):=fun j a' b' hj h1 h2=>by
      by_cases hjk:j+1 < k0+1
      ·exact HOK.out j a' b' hjk h1 h2
      ·obtain rfl:j=k0:=by omega
       rw [HAB.out.1] at h1
       rw [HAB.out.2] at h2
       cases h1
       cases h2
       rw [HV.out];exact hv0
     clear hv0
     go_wp2_with fail
     refine ak (by kernel_rfl) (by kernel_rfl) hSr ?_
     repeat (go_big_quiet_step ((go_at_call 114;exact Later.call hOr)))
     refine wpQuiet_nil ?_
     intro w9 hS9
     go_wp2_with fail
     go_roundw
     case rel=>exact ⟨⟨k0+1+1,by omega,by go_num,.inl (by omega),HNX.out⟩,hS9⟩
     case measure=>simp [intOf];omega
   ·have n1:¬ (k:Int) < (h.length:Int):=by omega
    have SI:Hid (oQ d=.ok h):=AL HP.out.1 HP.out.2 (fun i a b ha hb=>HOK.out i a b (by have:=(zQ2.1 hb).1;omega) ha hb)
    have hM9:=hM6.since hSr
    clear hM6
    go_wp2_with fail
    have hl:LL=h/\EE=0:=by
     obtain ⟨h1,h2⟩:=HEL.out
     obtain ⟨h3,h4⟩:=HLL.out
     rw [SI.out] at h1 h2
     exact ⟨h3.symm.trans h2,h4.symm.trans h1⟩
    rw [hl.1,hl.2]
    refine bodyPost_ret (v:=.tuple #[.slice a6 h.length c6,.int .i64 0]) ?_ rfl ⟨a6,⟨c6,rfl⟩,hM9,HY6.out.since hSr,cw.trans hSr⟩
    simp [results,results49,go_sem]
 ·have hE:vD d=aD d:=by unfold vD;rw [if_neg h0]
  have hL:pU d=[]:=by unfold pU;rw [if_neg h0]
  rw [hE,hL]
  obtain ⟨er,her⟩:∃ y,aD d=y:=⟨_,rfl⟩
  rw [her] at hC h0 ⊢
  have hb:(er != 0)=true:=by simpa using h0
  clear h0 hE hL O8 her
  go_enter func49,ntmps49
  go_wp2_with fail
  refine hC.mono ?_
  rintro e w2 ⟨rfl,hS2⟩
  go_wp2_with fail
  refine bodyPost_ret (v:=.tuple #[.slice none 0 0,.int .i64 er]) ?_ rfl ⟨none,0,rfl,lT _,yS _ _ _,hS1.trans hS2⟩
  simp [results,results49,go_sem]
theorem oV {d:Wd} {k:Nat} {nd:Nd} (h:d.nodes[k]? = some nd):bC d k=nd.told:=by unfold bC;rw [h]
theorem nM (a b:Mg) (v:Bool) (h:dN a b=v) (w:World):(binOp .eql 42 (.agg #[.int .i64 a.fr,.int .i64 a.gr,.int .i64 a.st,.bool a.nul,.string a.body]) (.agg #[.int .i64 b.fr,.int .i64 b.gr,.int .i64 b.st,.bool b.nul,.string b.body])).run prog w=.ok (.bool v) w:=by
 subst h
 obtain ⟨af,ag,at1,an,ab⟩:=a
 obtain ⟨bf,bg,bt,bn,bb⟩:=b
 simp only [dN]
 by_cases h1:af=bf <;> by_cases h2:ag=bg <;> by_cases h3:at1=bt <;> by_cases h4:an=bn <;> by_cases h5:ab.toList=bb.toList <;>
  simp [go_sem,underlying42,h1,h2,h3,h4,h5,beq_toListBytes]
theorem lC (a b:Mg):dN a b=dN b a:=by
 cases h:dN b a
 ·rw [<-Bool.not_eq_true,iY];rintro rfl;rw [pR] at h;cases h
 ·rw [(iY b a).1 h];exact pR _
theorem yX {l:List Mg} {m:Mg} (h:∀ x∈l,dN x m=false):jI m l=none:=by
 unfold jI;rw [List.findIdx?_eq_none_iff];exact h
theorem yY {l:List Mg} {m:Mg} {k:Nat} {x:Mg} (h:∀ y∈l.take k,dN y m=false) (hx:l[k]? = some x) (hs:dN x m=true):jI m l=some k:=by
 unfold jI
 rw [List.findIdx?_eq_some_iff_getElem]
 obtain ⟨hk,e⟩:=zQ2.1 hx
 refine ⟨hk,by rw [e];exact hs,fun j hj=>?_⟩
 have:=h (l[j]'(by omega)) (List.mem_take_iff_getElem.2 ⟨j,by omega,rfl⟩)
 simpa using this
def O9:Option Nat->Int
 | some k=>(k:Int)
 | none=>-1
theorem Qu (a:Option Addr) (n c:Nat) (ms:List Mg) (m:Mg) (w:World) (hM:dI w a n ms) :
  Calls prog 121 #[.slice a n c,.agg #[.int .i64 m.fr,.int .i64 m.gr,.int .i64 m.st,.bool m.nul,.string m.body]] w fun e w'=>e=.returned (.int .i64 (O9 (jI m ms)))/\Since w w':=by
 obtain ⟨rfl,hm,hc⟩:=hM
 obtain ⟨R,hR⟩:∃ y:Int,(O9 (jI m ms))=y:=⟨_,rfl⟩
 have HR:Hid ((O9 (jI m ms))=R):=hR
 rw [hR]
 clear hR
 obtain ⟨w1,hw1⟩:∃ y,w.alloc (.cells #[.int .i64 m.fr,.int .i64 m.gr,.int .i64 m.st,.bool m.nul,.string m.body] 42)=y:=⟨_,rfl⟩
 have hS1:=au hw1
 have hl1:w.heap.size < w1.heap.size:=by rw [<-hw1];simp
 have z0:w1.cell? ⟨w.heap.size,0,none⟩=some (.int .i64 m.fr):=by rw [<-hw1];simp [go_sem]
 have z1:w1.cell? ⟨w.heap.size,1,none⟩=some (.int .i64 m.gr):=by rw [<-hw1];simp [go_sem]
 have z2:w1.cell? ⟨w.heap.size,2,none⟩=some (.int .i64 m.st):=by rw [<-hw1];simp [go_sem]
 have z3:w1.cell? ⟨w.heap.size,3,none⟩=some (.bool m.nul):=by rw [<-hw1];simp [go_sem]
 have z4:w1.cell? ⟨w.heap.size,4,none⟩=some (.string m.body):=by rw [<-hw1];simp [go_sem]
 go_enter func121,ntmps121
 go_wp2
 clear hw1
 go_loopw [8] (fun i wr=>(∃ k:Nat,k<=ms.length/\i=.int .i64 k/\∀ y∈ms.take k,dN y m=false)/\Since w1 wr) (fun i _=>ms.length - (intOf i).toNat)
 case atStart=>exact ⟨⟨0,Nat.zero_le _,rfl,by simp⟩,Since.refl _⟩
 case round =>
  obtain ⟨⟨k,hk,rfl,hno⟩,hS⟩:=hrel
  have HNO:Hid (∀ y∈ms.take k,dN y m=false):=hno
  clear hno
  by_cases hlt:k < ms.length
  ·obtain ⟨b,off,rfl,hbb,hcell⟩:=hc (by omega)
   obtain ⟨x,hx⟩:∃ x,ms[k]? = some x:=⟨_,zQ1 hlt⟩
   obtain ⟨d0,d1,d2,d3,d4⟩:=bJ hcell k x hx
   have n1:(k:Int) < (ms.length:Int):=by omega
   have hnE:Nonempty (Later w1):=⟨⟨w1,Since.refl w1⟩⟩
   have hg:∀ (x:Later w1) (o:Nat),x.w.cell? ⟨w.heap.size,o,none⟩=w1.cell? ⟨w.heap.size,o,none⟩:=fun x o=>x.cell hl1
   have hg':∀ (x:Later w1) (o:Nat),x.w.cell? ⟨b,o,none⟩=w.cell? ⟨b,o,none⟩:=fun x o=>(x.cell (zQ4 hbb hS1.size)).trans (hS1.cellAt hbb o)
   have HX:Hid (ms[k]? = some x):=hx
   clear hcell hc hx
   cases hd:dN x m
   ·have HN2:Hid (∀ y∈ms.take (k+1),dN y m=false):=fun y hy=>by
     rw [List.take_add_one,HX.out] at hy
     rcases List.mem_append.1 hy with h | h
     ·exact HNO.out y h
     ·simp at h;subst h;exact hd
    have hq:=nM m x false (by rw [lC];exact hd)
    clear hd
    go_wp2_with fail
    refine ak (by kernel_rfl) (by kernel_rfl) hS ?_
    repeat (go_big_quiet_step (fail))
    refine wpQuiet_nil ?_
    intro w9 hS9
    go_wp2
    go_roundw
    case rel=>exact ⟨⟨k+1,by omega,by go_num,HN2.out⟩,hS9⟩
    case measure=>simp [intOf];omega
   ·have HRR:Hid (R=(k:Int)):=by unfold Hid;rw [<-HR.out,yY HNO.out HX.out hd];rfl
    have hq:=nM m x true (by rw [lC];exact hd)
    clear hd
    go_wp2_with fail
    refine ak (by kernel_rfl) (by kernel_rfl) hS ?_
    repeat (go_big_quiet_step (fail))
    refine wpQuiet_nil ?_
    intro w9 hS9
    go_wp2
    go_ret
    exact ⟨by rw [HRR.out];rfl,hS1.trans hS9⟩
  ·obtain rfl:k=ms.length:=by omega
   have HRR:Hid (R=-1):=by
    unfold Hid
    have h:=HNO.out
    rw [List.take_length] at h
    rw [<-HR.out,yX h];rfl
   clear hc
   go_wp2
   go_ret
   exact ⟨by rw [HRR.out];rfl,hS1.trans hS⟩
theorem Ee (a:Option Addr) (n c:Nat) (ms:List Mg) (m:Mg) (w:World) (hM:dI w a n ms) :
  Calls prog 122 #[.slice a n c,.agg #[.int .i64 m.fr,.int .i64 m.gr,.int .i64 m.st,.bool m.nul,.string m.body]] w fun e w'=>e=.returned (.tuple #[.int .i64 (((jI m ms).getD 0:Nat):Int),.bool (jI m ms).isSome])/\Since w w':=by
 obtain ⟨rfl,hm,hc⟩:=hM
 obtain ⟨R,hR⟩:∃ y:Nat,(jI m ms).getD 0=y:=⟨_,rfl⟩
 obtain ⟨B,hB⟩:∃ y,(jI m ms).isSome=y:=⟨_,rfl⟩
 have HR:Hid ((jI m ms).getD 0=R/\(jI m ms).isSome=B):=⟨hR,hB⟩
 rw [hR,hB]
 clear hR hB
 obtain ⟨w1,hw1⟩:∃ y,w.alloc (.cells #[.int .i64 m.fr,.int .i64 m.gr,.int .i64 m.st,.bool m.nul,.string m.body] 42)=y:=⟨_,rfl⟩
 have hS1:=au hw1
 have hl1:w.heap.size < w1.heap.size:=by rw [<-hw1];simp
 have z0:w1.cell? ⟨w.heap.size,0,none⟩=some (.int .i64 m.fr):=by rw [<-hw1];simp [go_sem]
 have z1:w1.cell? ⟨w.heap.size,1,none⟩=some (.int .i64 m.gr):=by rw [<-hw1];simp [go_sem]
 have z2:w1.cell? ⟨w.heap.size,2,none⟩=some (.int .i64 m.st):=by rw [<-hw1];simp [go_sem]
 have z3:w1.cell? ⟨w.heap.size,3,none⟩=some (.bool m.nul):=by rw [<-hw1];simp [go_sem]
 have z4:w1.cell? ⟨w.heap.size,4,none⟩=some (.string m.body):=by rw [<-hw1];simp [go_sem]
 go_enter func122,ntmps122
 go_wp2
 clear hw1
 go_loopw [6] (fun i wr=>(∃ k:Nat,k<=ms.length/\i=.int .i64 k/\∀ y∈ms.take k,dN y m=false)/\Since w1 wr) (fun i _=>ms.length - (intOf i).toNat)
 case atStart=>exact ⟨⟨0,Nat.zero_le _,rfl,by simp⟩,Since.refl _⟩
 case round =>
  obtain ⟨⟨k,hk,rfl,hno⟩,hS⟩:=hrel
  have HNO:Hid (∀ y∈ms.take k,dN y m=false):=hno
  clear hno
  by_cases hlt:k < ms.length
  ·obtain ⟨b,off,rfl,hbb,hcell⟩:=hc (by omega)
   obtain ⟨x,hx⟩:∃ x,ms[k]? = some x:=⟨_,zQ1 hlt⟩
   obtain ⟨d0,d1,d2,d3,d4⟩:=bJ hcell k x hx
   have n1:(k:Int) < (ms.length:Int):=by omega
   have hnE:Nonempty (Later w1):=⟨⟨w1,Since.refl w1⟩⟩
   have hg:∀ (x:Later w1) (o:Nat),x.w.cell? ⟨w.heap.size,o,none⟩=w1.cell? ⟨w.heap.size,o,none⟩:=fun x o=>x.cell hl1
   have hg':∀ (x:Later w1) (o:Nat),x.w.cell? ⟨b,o,none⟩=w.cell? ⟨b,o,none⟩:=fun x o=>(x.cell (zQ4 hbb hS1.size)).trans (hS1.cellAt hbb o)
   have HX:Hid (ms[k]? = some x):=hx
   clear hcell hc hx
   cases hd:dN x m
   ·have HN2:Hid (∀ y∈ms.take (k+1),dN y m=false):=fun y hy=>by
     rw [List.take_add_one,HX.out] at hy
     rcases List.mem_append.1 hy with h | h
     ·exact HNO.out y h
     ·simp at h;subst h;exact hd
    have hq:=nM x m false hd
    clear hd
    go_wp2_with fail
    refine ak (by kernel_rfl) (by kernel_rfl) hS ?_
    repeat (go_big_quiet_step (fail))
    refine wpQuiet_nil ?_
    intro w9 hS9
    go_wp2
    go_roundw
    case rel=>exact ⟨⟨k+1,by omega,by go_num,HN2.out⟩,hS9⟩
    case measure=>simp [intOf];omega
   ·have HRR:Hid (R=k/\B=true):=by
     have e:=yY HNO.out HX.out hd
     exact ⟨by rw [<-HR.out.1,e];rfl,by rw [<-HR.out.2,e];rfl⟩
    have hq:=nM x m true hd
    clear hd
    go_wp2_with fail
    refine ak (by kernel_rfl) (by kernel_rfl) hS ?_
    repeat (go_big_quiet_step (fail))
    refine wpQuiet_nil ?_
    intro w9 hS9
    go_wp2
    refine bodyPost_ret (v:=.tuple #[.int .i64 (k:Int),.bool true]) ?_ rfl ⟨by rw [HRR.out.1,HRR.out.2],hS1.trans hS9⟩
    simp [results,results122,go_sem]
  ·obtain rfl:k=ms.length:=by omega
   have HRR:Hid (R=0/\B=false):=by
    have h:=HNO.out
    rw [List.take_length] at h
    have e:=yX h
    exact ⟨by rw [<-HR.out.1,e];rfl,by rw [<-HR.out.2,e];rfl⟩
   clear hc
   go_wp2
   refine bodyPost_ret (v:=.tuple #[.int .i64 0,.bool false]) ?_ rfl ⟨by rw [HRR.out.1,HRR.out.2];rfl,hS1.trans hS⟩
   simp [results,results122,go_sem]
end Go.Proofs.YtiiifecfdkjmbaaGreat
