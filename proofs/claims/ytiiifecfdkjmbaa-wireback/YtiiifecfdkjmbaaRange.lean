/- Lemmas. -/
import Derived.Test.YtiiifecfdkjmbaaWorld1
namespace Go.Proofs.Ytiiifecfdkjmbaa
set_option maxRecDepth 8000
open Go.RowKit Go.Shelf
structure KX (n:Nat) (X:Option Nat) (A B:World):Prop where
 below:Below n A B
 cells:∀ k o,A.heap[k]? = some o->o.isCells=true->some k≠X->B.heap[k]? = some o
def NC (A B:World):Prop:=∀ (k:Nat) (o:Obj),A.heap[k]? = some o->o.isCells=false->B.heap[k]? = some o
theorem Since.block {A B:World} (h:Since A B) {k:Nat} {o:Obj} (ho:A.heap[k]? = some o):B.heap[k]? = some o :=
 (h.below.block k (zQ3.1 ho).1).trans ho
theorem KX.trans {n:Nat} {X:Option Nat} {A B C:World} (h:KX n X A B) (k:KX n X B C):KX n X A C :=
 ⟨h.below.trans k.below,fun i o hi hc hx=>k.cells i o (h.cells i o hi hc hx) hc hx⟩
theorem KX.ig {n:Nat} {X:Option Nat} {A B:World} (h:Since A B) (hn:n<=A.heap.size):KX n X A B :=
 ⟨h.below.mono hn,fun _ _ hk _ _=>h.block hk⟩
theorem NC.ig {A B:World} (h:Since A B):NC A B:=fun _ _ hk _=>h.block hk
theorem KX.put {n:Nat} {X:Option Nat} {A:World} {l:Nat} {o:Obj} (o':Obj) (hl:A.heap[l]? = some o) (ho:o.isCells=false) (hn:n<=l):KX n X A (A.putObj l o'):=by
 refine ⟨⟨rfl,rfl,rfl,by simp,fun k hk=>World.putObj_heap_other (by omega)⟩,fun k o1 hk hc _=>?_⟩
 refine (World.putObj_heap_other ?_).trans hk
 rintro rfl
 rw [hl] at hk;cases hk;rw [ho] at hc;cases hc
theorem KX.weak {n m:Nat} {X:Option Nat} {A B:World} (h:KX n none A B) (hm:m<=n):KX m X A B :=
 ⟨h.below.mono hm,fun k o hk hc _=>h.cells k o hk hc (by simp)⟩
def EM (P:Program) (l:Nat) (R:Ending->World->Prop):Exit->Act->World->Prop
 | .normal,_,w=>∃ v w',(Instr.endRound l none).run P w=.ok v w'/\R (.returned v) w'
 | .panic ch,a,w=>a.defers=[]/\R (.panicked ch) w
 | _,_,_=>False
theorem Dh {P:Program} {n l f:Nat} {fn:Func} {tmps:Array Value} {assign body:Code} {w:World} {R:Ending->World->Prop} (hf:P.funcs[f]? = some fn)
  (h:assign.wpIn (Fence.wide.inRound l) n P (Exit.then (fun a1 w1=>∃ w2,(Instr.beginRound l).run P w1=.ok () w2/\body.wpIn (Fence.wide.inRound l) n P (EM P l R) a1 w2) (fun _ _ _=>False)) { tmps:=tmps,defers:=[] } w) :
  RoundIn Fence.wide n P l f tmps assign body w R:=by
 refine ⟨trivial,fun c cs _=>?_⟩
 obtain ⟨b,hb⟩:∃ b:Frame,b={ (default:Frame) with fn:=f,kind:=.normal,roundOf:=some l }:=⟨_,rfl⟩
 have b1:b.fn=f:=by rw [hb]
 have b2:b.kind=.normal:=by rw [hb]
 have b3:b.roundOf=some l:=by rw [hb]
 have e0:Frame.round l f tmps assign body .normal=b.atR { tmps:=tmps,defers:=[] } [.code assign,.beginRound,.code body]:=by
  rw [hb];simp [Frame.round,Frame.atR]
 rw [e0]
 obtain ⟨e,a1,w1,hq,h1⟩:=h b [.beginRound,.code body] (c::cs) b3 trivial (room_wide _)
 match e,hq,h1 with
 | .normal,⟨w2,hbr,hbody⟩,h1 =>
  have s1:=StepsIn.trans h1 (.one (fenced_wide P _) (stepR_beginRound (a:=a1) (k:=[.code body]) (cs:=c::cs) b3 hbr))
  obtain ⟨e2,a2,w3,hq2,h2⟩:=hbody b [] (c::cs) b3 trivial (room_wide _)
  match e2,hq2,h2 with
  | .normal,⟨v,w4,hend,hR⟩,h2 =>
   exact ⟨.returned v,w4,hR,s1.trans (StepsIn.trans h2 (.one (fenced_wide P _) (stepR_round_end b3 b2 hend)))⟩
  | .panic ch,⟨hd,hR⟩,⟨todo,h2⟩ =>
   refine ⟨.panicked ch,w3,hR,s1.trans (StepsIn.trans h2 (.one (fenced_wide P _) (step_leave_panicked ⟨rfl,hd,fn, ?_⟩)))⟩
   show P.funcs[b.fn]? = some fn
   rw [b1];exact hf
def wpF (P:Program) (f0:FuncId) (c:Code) (Q:Exit->Act->World->Prop) (a:Act) (w:World):Prop :=
 ∀ (b:Frame) (k:List Item) (cs:List Frame),b.roundOf=none->b.fn=f0 ->
  ∃ e a' w',Q e a' w'/\ArrivesIn (Machine.fenced P Fence.wide) P (lone (b.atR a (.code c::k)) cs w) b k cs e a' w'
theorem cu {P:Program} {f0:FuncId} {c:Code} {Q:Exit->Act->World->Prop} {a:Act} {w:World} (h:c.wp P Q a w):wpF P f0 c Q a w :=
 fun b k cs hro _=>(wpIn_wide (n:=0)).2 h b k cs hro trivial (room_wide _)
theorem fK {P:Program} {f0:FuncId} {x y:Code} {Q:Exit->Act->World->Prop} {a:Act} {w:World} (h:wpF P f0 x (Exit.then (wpF P f0 y Q) Q) a w):wpF P f0 (Code.seq x y) Q a w:=by
 intro b k cs hro hb
 have h0:=fenced_wide P (lone (b.atR a (.code (.seq x y)::k)) cs w)
 obtain ⟨e,a1,w1,hq,h1⟩:=h b (.code y::k) cs hro hb
 have pass:∀ {e},ArrivesIn (Machine.fenced P Fence.wide) P (lone (b.atR a (.code x::.code y::k)) cs w) b (.code y::k) cs e a1 w1->e≠.normal->ArrivesIn (Machine.fenced P Fence.wide) P (lone (b.atR a (.code (.seq x y)::k)) cs w) b k cs e a1 w1:=by
  intro e hh hne
  cases e with
  | normal=>exact absurd rfl hne
  | _=>exact .of_steps (.one h0 stepR_seq) (.pass (x:=.code y) rfl (fun _ _=>.inl (by simp)) hh)
 cases e with
 | normal =>
  obtain ⟨e2,a2,w2,hq2,h2⟩:=hq b k cs hro hb
  exact ⟨e2,a2,w2,hq2,.of_steps (.head h0 stepR_seq h1) h2⟩
 | _=>exact ⟨_,a1,w1,hq,pass h1 (by simp)⟩
def EN (Q:Exit->Act->World->Prop):Exit->Act->World->Prop
 | .normal,a,w=>Q .normal a w
 | .panic ch,a,w=>Q (.panic ch) a w
 | _,_,_=>False
theorem sD {P:Program} {f0:FuncId} {id:Nat} {c:Code} {Q:Exit->Act->World->Prop} {a:Act} {w:World} (h:wpF P f0 c (EN Q) a w):wpF P f0 (Code.block id c) Q a w:=by
 intro b k cs hro hb
 have h0:=fenced_wide P (lone (b.atR a (.code (.block id c)::k)) cs w)
 obtain ⟨e,a1,w1,hq,h1⟩:=h b (.inBlock id::k) cs hro hb
 match e,hq,h1 with
 | .normal,hq,h1=>exact ⟨.normal,a1,w1,hq,.head h0 stepR_block (StepsIn.trans h1 (.one (fenced_wide P _) stepR_inBlock))⟩
 | .panic ch,hq,⟨todo,h1⟩=>exact ⟨.panic ch,a1,w1,hq,todo,.head h0 stepR_block h1⟩
def D5 {α:Type} (P:Program) (m:Nat) (g:Nat) (lb:Array Value) (encs:α->Array Value) (Kp:World->World->Prop) (E:Nat->α->Prop) (Sk:Nat->Prop) (N:Nat) (w:World):Prop :=
 ∀ (l:Nat) (J:Nat->World->Prop) (Jp:List PanicEntry->World->Prop) (W:World),Since w W->(∀ i A B,J i A->Since A B->J i B)->(∀ i A,J i A->i < N->Sk i->J (i+1) A) ->
  (∀ i x W1,J i W1->i < N->E i x->YieldAt Fence.wide (m - 1) P l (encs x) W1 fun e W' =>
   (e=.returned (.bool true)/\J (i+1) W'/\Kp W1 W')\/(∃ ch,e=.panicked ch/\Jp ch W')) ->
  J 0 W ->
  CallsIn Fence.wide m P g (#[.func (.yield l) #[] #[]]++lb) W fun e W'=>(∃ v,e=.returned v/\J N W')\/(∃ ch,e=.panicked ch/\Jp ch W')
def GD (n0:Nat) (X:Option Nat) (I:Nat->World->Prop) (Ip:List PanicEntry->World->Prop) (i:Nat) (W:World):Exit->Act->World->Prop
 | .normal,_,W'=>NC W W'/\KX n0 X W W'/\I (i+1) W'
 | .panic ch,a,W'=>a.defers=[]/\NC W W'/\Ip ch W'
 | _,_,_=>False
theorem sF {α:Type} {P:Program} {f0:FuncId} {fn:Func} (hf:P.funcs[f0]? = some fn) {g:Operand} {ps:Array Tmp} {assign body:Code} {Q:Exit->Act->World->Prop} {a:Act} {w:World}
  {gf:Nat} {lb:Array Value} (hg:a.eval g=.func (.func gf) #[] lb) (eg:∀ args w,(callFunc gf args).run P w=.ok (.enter gf args) w)
  {m:Nat} {encs:α->Array Value} {n0:Nat} {X:Option Nat} {E:Nat->α->Prop} {Sk:Nat->Prop} {N:Nat} (hn0:n0<=w.heap.size) (hseq:D5 P m gf lb encs (KX n0 X) E Sk N w) (hps:∀ x,(encs x).size=ps.size)
  (I:Nat->World->Prop) (Ip:List PanicEntry->World->Prop) (hI:∀ i A B,I i A->KX w.heap.size none A B->I i B) (GH:∀ i A,I i A->i < N->Sk i->I (i+1) A) (h0:I 0 w)
  (EO:∀ (l i:Nat) (x:α) (W W':World),w.heap.size<=W'.heap.size->I i W'->i < N->E i x ->
   assign.wpIn (Fence.wide.inRound l) (m - 1) P (Exit.then (fun a' W1=>W1=W/\body.wpIn (Fence.wide.inRound l) (m - 1) P (GD n0 X I Ip i W') a' W') (fun _ _ _=>False)) { tmps:=(ps.zip (encs x)).foldl (fun t (p,v)=>t.setIfInBounds p v) a.tmps,defers:=[] } W)
  (hdone:∀ (D:Nat) (W:World),w.heap.size<=D->I N W->W.heap[D]? = some (.deferred (some []))->Q .normal { a with defers:={ target:=.collected D,args:=#[] }::a.defers } W)
  (IY:∀ (D:Nat) (ch:List PanicEntry) (W:World),w.heap.size<=D->Ip ch W->W.heap[D]? = some (.deferred (some []))->Q (.panic ch) { a with defers:={ target:=.collected D,args:=#[] }::a.defers } W) :
  wpF P f0 (Code.rangeFunc g ps assign body) Q a w:=by
 intro b k cs hro hb
 obtain ⟨rc,hrc⟩:∃ rc:LoopState->Loop,rc=fun st=>{ state:=st,pending:=none,fn:=f0,tmps:=a.tmps,params:=ps,assign,body,defers:=w.heap.size }:=⟨_,rfl⟩
 obtain ⟨W1,hW1⟩:∃ W1,(w.alloc (.deferred (some []))).alloc (.loop (rc .ready))=W1:=⟨_,rfl⟩
 have hS1:Since w W1:=by rw [<-hW1];exact ((Since.refl w).alloc _).alloc _
 have hL1:W1.heap[w.heap.size+1]? = some (.loop (rc .ready)):=by
  rw [<-hW1];have:=World.alloc_heap_new (w.alloc (.deferred (some []))) (.loop (rc .ready));rwa [World.size_alloc] at this
 have hK1:W1.heap[w.heap.size]? = some (.deferred (some [])):=by
  rw [<-hW1];exact (Below.heap_alloc _ _ _ (by simp)).trans (World.alloc_heap_new w _)
 have hsz1:w.heap.size<=W1.heap.size:=hS1.size
 have he:(Instr.enterLoop b.fn a.tmps ps assign body b.roundOf).run P w=.ok (w.heap.size+1,[{ target:=.collected w.heap.size,args:=#[] }]) W1:=by
  rw [hro,hb,<-hW1,hrc];exact run_enterLoop_outer _ _ _ _ _
 have hres:(resolve a.eval (rangeCall g (w.heap.size+1)) 0).run P W1=.ok { target:=.fn (.func gf) lb,args:=#[.func (.yield (w.heap.size+1)) #[] #[]] } W1:=by
  simp only [resolve,hg];simp [go_sem]
 have hinv:(invoke (.fn (.func gf) lb) #[.func (.yield (w.heap.size+1)) #[] #[]]).run P W1=.ok (.enter gf (#[.func (.yield (w.heap.size+1)) #[] #[]]++lb)) W1:=by simp [invoke,go_sem,eg]
 have henter:=stepR_rangeFunc (P:=P) (b:=b) (a:=a) (k:=k) (cs:=cs) (w:=w) he hres hinv
 have hcall:=hseq (w.heap.size+1)
  (fun i W=>w.heap.size<=W.heap.size/\I i W/\W.heap[w.heap.size+1]? = some (.loop (rc .ready))/\W.heap[w.heap.size]? = some (.deferred (some [])))
  (fun ch W=>Ip ch W/\W.heap[w.heap.size]? = some (.deferred (some [])))
  W1 hS1 (fun i A B hA hS=>⟨zQ5 hA.1 hS.size,hI i A B hA.2.1 (KX.ig hS hA.1),hS.block hA.2.2.1,hS.block hA.2.2.2⟩)
  (fun i A hA hi hk=>⟨hA.1,GH i A hA.2.1 hi hk,hA.2.2.1,hA.2.2.2⟩)
  (by
   rintro i x W ⟨hsz,hi,hl,hk⟩ hiN hx
   have hlt:w.heap.size+1 < W.heap.size:=(zQ3.1 hl).1
   have hy:=run_yield (P:=P) (args:=encs x) hl (by rw [hrc];exact hps x)
   have er:(rc .ready).fn=f0/\(rc .ready).assign=assign/\(rc .ready).body=body/\(rc .ready).params=ps/\(rc .ready).tmps=a.tmps:=by rw [hrc];exact ⟨rfl,rfl,rfl,rfl,rfl⟩
   rw [er.1,er.2.1,er.2.2.1,er.2.2.2.1,er.2.2.2.2] at hy
   have k2:KX w.heap.size none W (W.putObj (w.heap.size+1) (.loop { rc .ready with state:=.busy })):=KX.put _ hl rfl (by omega)
   have hl2:(W.putObj (w.heap.size+1) (.loop { rc .ready with state:=.busy })).heap[w.heap.size+1]? = some (.loop { rc .ready with state:=.busy }):=World.putObj_heap_same hlt
   have hk2:(W.putObj (w.heap.size+1) (.loop { rc .ready with state:=.busy })).heap[w.heap.size]? = some (.deferred (some [])):=(World.putObj_heap_other (by omega)).trans hk
   refine ⟨_,_,_,_,hy,Dh hf (wpIn_mono (EO _ i x W _ (by simpa using hsz) (hI _ _ _ hi k2) hiN hx) ?_)⟩
   intro e0 a0 W0 hp0
   match e0,hp0 with
   | .normal,⟨hWW,hb0⟩ =>
   subst hWW
   refine ⟨_,run_beginRound hl (by rw [hrc]),wpIn_mono hb0 ?_⟩
   intro e a3 W3 hp
   match e,hp with
   | .normal,⟨hn3,hx3,hi3⟩ =>
    have hl3:=hn3 _ _ hl2 rfl
    have hend:=run_endRound (P:=P) none hl3
    have k4:KX w.heap.size none W3 (W3.putObj (w.heap.size+1) (.loop (rc .ready))):=KX.put _ hl3 rfl (by omega)
    refine ⟨_,_,hend,.inl ⟨rfl,⟨?_,hI _ _ _ hi3 ?_, ?_, ?_⟩, ?_⟩⟩
    ·have:=hx3.below.size;simp only [World.putObj_size] at this ⊢;omega
    ·rw [hrc] at k4 ⊢;exact k4
    ·rw [hrc] at hl3 ⊢;exact World.putObj_heap_same (zQ3.1 hl3).1
    ·exact (World.putObj_heap_other (by omega)).trans (hn3 _ _ hk2 rfl)
    ·refine (k2.weak hn0).trans (hx3.trans ?_)
     rw [hrc] at k4 ⊢;exact k4.weak hn0
   | .panic ch,⟨hd,hn3,hp3⟩=>exact ⟨hd,.inr ⟨ch,rfl,hp3,hn3 _ _ hk2 rfl⟩⟩)
  ⟨hsz1,hI _ _ _ h0 (KX.ig hS1 (Nat.le_refl _)),hL1,hK1⟩
 obtain ⟨e,w3,fr,hR,hsteps,hfn,hleave⟩:=hcall.2 (b.atR { a with defers:={ target:=.collected w.heap.size,args:=#[] }::a.defers } (.inRangeFunc (w.heap.size+1)::k)::cs) (room_wide _)
 rcases hR with ⟨v,rfl,hsz,hi,hl,hk⟩ | ⟨ch,rfl,hi,hk⟩
 ·have hend:=run_endLoop (P:=P) hl (by rw [hrc];simp)
  have k4:KX w.heap.size none w3 (w3.putObj (w.heap.size+1) (.loop { rc .ready with state:=.exhausted })):=KX.put _ hl rfl (by omega)
  refine ⟨.normal,_,_,hdone _ _ (Nat.le_refl _) (hI _ _ _ hi k4) ((World.putObj_heap_other (by omega)).trans hk), ?_⟩
  have hp0:(rc .ready).pending=none:=by rw [hrc]
  replace hend:=hend.trans (congrArg (fun p=>Result.ok p (w3.putObj (w.heap.size+1) (.loop { rc .ready with state:=.exhausted }))) hp0)
  have h9:step P (lone fr (b.atR { a with defers:={ target:=.collected w.heap.size,args:=#[] }::a.defers } (.inRangeFunc (w.heap.size+1)::k)::cs) w3)=.next (lone (b.atR { a with defers:={ target:=.collected w.heap.size,args:=#[] }::a.defers } (.endRangeFunc (w.heap.size+1)::k)) cs w3):=by
   rw [<-finish_atR_inRangeFunc (w.heap.size+1) v];exact step_leave_returned hleave
  exact .head (fenced_wide P _) henter (StepsIn.trans hsteps (.head (fenced_wide P _) h9 (.one (fenced_wide P _) (stepR_endRangeFunc hend))))
 ·refine ⟨.panic ch,_,w3,IY _ _ _ (Nat.le_refl _) hi hk,.inRangeFunc (w.heap.size+1)::k,.head (fenced_wide P _) henter (StepsIn.trans hsteps (.one (fenced_wide P _) ?_))⟩
  rw [<-Frame.raise_atR];exact step_leave_panicked hleave
theorem oo {l n:Nat} {P:Program} {f:FuncId} {args:Array Value} {w:World} {R:Ending->World->Prop} (h:Calls P f args w R):CallsIn (Fence.wide.inRound l) n P f args w R :=
 show CallsIn Fence.wide n P f args w R from callsIn_wide.2 h
theorem kI {P:Program} {f:FuncId} {fn:Func} {c:Code} {args:Array Value} {w:World} {R:Ending->World->Prop} (hf:P.funcs[f]? = some fn) (hb:fn.body=some c)
  (h:wpF P f c (bodyPostM Fence.wide 0 P fn R) { tmps:=args++Array.replicate (fn.ntmps - args.size) undef,defers:=[] } w):Calls P f args w R:=by
 refine (callsIn_wide (n:=0)).1 ⟨trivial,fun cs hr=>?_⟩
 obtain ⟨b,hbe⟩:∃ b:Frame,b={ (default:Frame) with fn:=f,kind:=.normal,roundOf:=none }:=⟨_,rfl⟩
 have b1:b.fn=f:=by rw [hbe]
 have b2:b.kind=.normal:=by rw [hbe]
 have b3:b.roundOf=none:=by rw [hbe]
 have e0:Frame.enter P f args .normal=b.atR { tmps:=args++Array.replicate (fn.ntmps - args.size) undef,defers:=[] } [.code c]:=by
  rw [hbe];simp [Frame.enter,Frame.atR,hf,hb]
 obtain ⟨e,a',w',hq,h1⟩:=h b [] cs b3 b1
 rw [e0]
 have out:∀ (u:FrameMode) (todo:List Item),LeavesInM Fence.wide 0 P fn a'.tmps R a'.defers u w' ->
   ∃ e w'' fr',R e w''/\ComesIn (Machine.fenced P Fence.wide) P (lone { b.atR a' todo with mode:=u } cs w') (lone fr' cs w'') e/\fr'.fn=f/\fr'.leaving P w'' e:=by
  intro u todo hl
  obtain ⟨e,w'',fr',h2,h3,h4,h5⟩:=leaves_stepsInM (n:=0) a'.defers u w' { b.atR a' todo with mode:=u } cs rfl rfl rfl (by show P.funcs[b.fn]? = some fn;rw [b1];exact hf) b2 trivial (room_wide _) hl
  exact ⟨e,w'',fr',h2,h3,h4.trans b1,h5⟩
 cases e with
 | normal =>
  obtain ⟨e,w'',fr',h2,h3,h4,h5⟩:=out .returning [] hq
  exact ⟨e,w'',fr',h2,ComesIn.of_steps (StepsIn.trans h1 (.one (fenced_wide P _) (stepR_end b3))) h3,h4,h5⟩
 | ret =>
  obtain ⟨todo,hs⟩:=h1.1 b3
  obtain ⟨e,w'',fr',h2,h3,h4,h5⟩:=out .returning todo hq
  exact ⟨e,w'',fr',h2,ComesIn.of_steps hs h3,h4,h5⟩
 | panic ch =>
  obtain ⟨todo,hs⟩:=h1
  obtain ⟨e,w'',fr',h2,h3,h4,h5⟩:=out (.panicking ch) todo hq
  exact ⟨e,w'',fr',h2,ComesIn.of_steps hs h3,h4,h5⟩
 | exit id=>exact hq.elim
 | goto l=>exact hq.elim
 | outgrown=>exact ⟨.outgrown,w',b,hq,h1.resolve_left (by rw [b2];simp),b1,trivial⟩
end Go.Proofs.Ytiiifecfdkjmbaa
