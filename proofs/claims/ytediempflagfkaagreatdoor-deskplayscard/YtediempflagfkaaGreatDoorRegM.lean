/- Lemmas. Lemmas. -/
import Derived.Test.YtediempflagfkaaGreatDoorAl
import Derived.OrdersHeld
import Derived.Deep.Quiet
import Derived.Test.YtediempflagfkaaGreatDoorProg
set_option linter.unusedVariables false
set_option linter.unusedSimpArgs false
set_option linter.unnecessarySimpa false
namespace Go.Proofs.YtediempflagfkaaGreatDoor
set_option maxRecDepth 8000
section
variable {P:Program} {ops:Array Oper} {Q:Exit->Act->World->Prop} {S:World->Prop}
def kJ:Op->Bool
 | .move _=>true
 | .assign _=>true
 | .pick _ _ _=>true
 | .build _ _=>true
 | .load _ _=>true
 | .nilCheck _=>true
 | .binOp _ _ _ _ _=>true
 | .unOp _ _ _=>true
 | .convert _ _ _=>true
 | .slice _ _ _ _ _=>true
 | .fieldAddr _ _ _=>true
 | .field _ _ _=>true
 | .indexAddr _ _ _=>true
 | .index _ _ _=>true
 | .extract _ _=>true
 | .call c=>match c.callee with | .builtin .len=>true | .builtin .max=>true | .builtin .min=>true | _=>false
 | _=>false
def nA(ops:Array Oper)(k:Nat):List Nat:=match ops[k]? with | some o=>(o.after.toList.filter fun e=>Region.binds .any e).map (·.on) | none=>[]
def reach(ops:Array Oper):Nat->List Nat->List Nat
 | 0,m=>m
 | k+1,m=>reach ops k (if m.contains k then nA ops k++m else m)
def yB(ops:Array Oper)(i:Nat):Bool:=(List.range ops.size).any fun j=>(match ops[j]? with | some o=>kJ o.op | none=>false) && !(j == i) && !(reach ops ops.size (nA ops i)).contains j
def Closed(ops:Array Oper)(listed:Array Bool):Prop:=∀k,listed.getD k false=true->∀e∈nA ops k,listed.getD e false=true
def Fe(ops:Array Oper)(listed:Array Bool):Bool:=(List.range ops.size).all fun k=>!(listed.getD k false) || (nA ops k).all fun e=>listed.getD e false
theorem Fg{listed:Array Bool}(h:Fe ops listed=true):Closed ops listed:=by
 intro k hk e he;unfold Fe at h;rw[List.all_eq_true]at h;by_cases hlt:k < ops.size
 ·have:=h k (by simpa using hlt);rw[hk]at this;simp only[Bool.not_true,Bool.false_or,List.all_eq_true]at this;exact this e he
 ·unfold nA at he;rw[Array.getElem?_eq_none (by omega)]at he;cases he
theorem rU{listed:Array Bool}(hc:Closed ops listed):∀(n:Nat) (m:List Nat),(∀j∈m,listed.getD j false=true)->∀j∈reach ops n m,listed.getD j false=true
 | 0,_,h,j,hj=>h j hj
 | k+1,m,h,j,hj=>by
  unfold reach at hj;refine rU hc k _ (fun x hx=>?_) j hj;split at hx
  ·rename_i hk;rcases List.mem_append.1 hx with hx | hx
   ·exact hc k (h k (by simpa using hk)) x hx
   ·exact h x hx
  ·exact h x hx
theorem BJ{k x:Nat}{o:Oper}(ho:ops[k]? = some o)(hx:x∈nA ops k):∃e∈o.after,Region.binds .any e=true/\e.on=x:=by
 unfold nA at hx;rw[ho]at hx;dsimp only at hx;obtain⟨e,he,rfl⟩:=List.mem_map.1 hx;obtain⟨h1,h2⟩:=List.mem_filter.1 he;exact⟨e,by simpa using h1,h2,rfl⟩
def gZ(P:Program)(ops:Array Oper)(Q:Exit->Act->World->Prop)(S:World->Prop):Nat->Array Bool->Act->World->Prop
 | 0,listed,a,w=>Region.ready .any ops listed=[]/\Q .normal a w
 | fuel+1,listed,a,w =>
  (Region.ready .any ops listed=[]->Q .normal a w) /\
  ∀i∈Region.ready .any ops listed,wpOp P ops Q i (fun a' w'=>(yB ops i=true->S w->S w')/\gZ P ops Q S fuel (listed.setIfInBounds i true) a' w') a w
theorem BK:∀(fuel:Nat) (listed:Array Bool) (a:Act) (w:World),gZ P ops Q S fuel listed a w->wpAny P .any ops Q fuel listed a w
 | 0,_,_,_,h=>h
 | fuel+1,_,_,_,h=>⟨h.1,fun i hi=>wpOp_mono (fun a' w' h'=>BK fuel _ a' w' h'.2) (h.2 i hi)⟩
theorem Fh{i:Nat}{oi:Oper}{v:Value}(hi:ops[i]? = some oi)(hk:kJ oi.op=true)(hsel:∀(j:Nat) (o:Oper) cs b,ops[j]? = some o->o.op≠.select cs b)
  (hQ:∀c a w,Q (.panic c) (a.put oi.dst v) w->Q (.panic c) a w) :
  ∀(fuel:Nat) (listed:Array Bool) (a:Act) (w:World),
   Closed ops listed->(∀j oj,ops[j]? = some oj->j≠i->listed.getD j true=false->(∀e∈oj.after,Region.binds .any e=true->e.on≠i)->oi.apart ops oj=true) ->
   i∈Region.ready .any ops listed->YieldsIf P ops S oi v a->S w ->
   gZ P ops Q S fuel (listed.setIfInBounds i true) (a.put oi.dst v) w->gZ P ops Q S (fuel+1) listed a w:=by
 intro fuel
 induction fuel with
 | zero =>
  intro listed a w _ _ hr hy hS H;refine⟨fun h=>(by rw[h]at hr;cases hr),fun j hj=>?_⟩;by_cases hji:j=i
  ·subst hji;exact hy.wpOp hi hS ⟨fun _ h=>h,H⟩
  ·have:=ready_mono hj hji;rw[H.1]at this;cases this
 | succ fuel ih =>
  intro listed a w hcl hfree hr hy hS H;refine⟨fun h=>(by rw[h]at hr;cases hr),fun j hj=>?_⟩;by_cases hji:j=i
  ·subst hji;exact hy.wpOp hi hS ⟨fun _ h=>h,H⟩
  ·have h1:=H.2 j (ready_mono hj hji);obtain⟨hjun,oj,hoj,hall⟩:=mem_ready.1 hj
   have hnot:∀e∈oj.after,Region.binds .any e=true->e.on≠i:=fun e he hb heq=>by
    have h1:=hall e he hb;have h0:=(mem_ready.1 hr).1;rw[heq]at h1;rcases Nat.lt_or_ge i listed.size with h' | h'
    ·simp[h']at h0 h1;rw[h0]at h1;cases h1
    ·simp[Array.getElem?_eq_none h']at h1
   have hin:∀x∈nA ops j,listed.getD x false=true:=fun x hx=>by
    obtain⟨e,he,hb,rfl⟩:=BJ hoj hx;have:=hall e he hb;simpa using this
   have hun:listed.getD i false=false:=by
    have h0:=(mem_ready.1 hr).1;rcases Nat.lt_or_ge i listed.size with h' | h'
    ·simp[h']at h0 ⊢;exact h0
    ·simp[Array.getElem?_eq_none h']
   have OU:yB ops j=true:=by
    unfold yB;rw[List.any_eq_true];refine⟨i,by simpa using (zQ3.1 hi).1, ?_⟩
    have hw:(reach ops ops.size (nA ops j)).contains i=false:=by
     rw[<-Bool.not_eq_true];intro hc;have:=rU hcl ops.size _ hin i (by simpa using hc);rw[hun]at this;cases this
    simp only[hi,hk,hw];simp[Ne.symm hji]
   have hcl':Closed ops (listed.setIfInBounds j true):=by
    intro k hk2 e he;by_cases hjk:j=k
    ·subst hjk;have h0:=hin e he;by_cases hje:j=e
     ·subst hje;exact hk2
     ·rw[getD_set_ne false hje];exact h0
    ·rw[getD_set_ne false hjk]at hk2;have h0:=hcl k hk2 e he;by_cases hje:j=e
     ·subst hje;rcases Nat.lt_or_ge j listed.size with h' | h'
      ·simp[h']
      ·simp[Array.getElem?_eq_none h']at h0
     ·rw[getD_set_ne false hje];exact h0
   have h2:=wpOp_putIf hoj (hfree j oj hoj hji hjun hnot) (fun cs b=>hsel i oi cs b hi) (fun cs b=>hsel j oj cs b hoj) hQ hy h1
   have hfree':∀k ok,ops[k]? = some ok->k≠i->(listed.setIfInBounds j true).getD k true=false ->
     (∀e∈ok.after,Region.binds .any e=true->e.on≠i)->oi.apart ops ok=true:=fun k ok hk hki hun hno=>by
    refine hfree k ok hk hki ?_ hno;by_cases hjk:j=k
    ·subst hjk;exact hjun
    ·rw[getD_set_ne true hjk]at hun;exact hun
   refine wpOp_mono (fun a' w' h3=>⟨h3.2.1,ih (listed.setIfInBounds j true) a' w' hcl' hfree' (ready_mono hr (Ne.symm hji)) h3.1 (h3.2.1 OU hS) ?_⟩) h2;rw[Array.setIfInBounds_comm _ _ hji];exact h3.2.2
def takeB(ops:Array Oper)(listed:Array Bool)(i:Nat):Bool :=
 Fe ops listed && Region.noSelect ops && (Region.free .any ops listed i && ((Region.ready .any ops listed).contains i && match ops[i]? with | some o=>kJ o.op | none=>false))
theorem oH{listed:Array Bool}{i:Nat}{oi:Oper}(hi:ops[i]? = some oi)(h:takeB ops listed i=true):Closed ops listed/\Region.noSelect ops=true/\Region.free .any ops listed i=true/\i∈Region.ready .any ops listed/\kJ oi.op=true:=by
 unfold takeB at h;simp only[Bool.and_eq_true,hi]at h;exact⟨Fg h.1.1,h.1.2,h.2.1,by simpa using h.2.2.1,h.2.2.2⟩
theorem Qz{s:Sem Value}{w w':World}{n:Next}(hn:∀v,n≠.value v)(h:(do pure (Next.value (<- s)):Sem Next).run P w=.ok n w'):False:=by
 simp only[Sem.run_bind]at h
 cases hs:s.run P w with
 | ok x w1=>rw[hs]at h;simp[Result.andThen]at h;exact hn _ h.1.symm
 | halt x w1=>rw[hs]at h;simp[Result.andThen]at h
theorem rV{ρ:Operand->Value}{o:Oper}(hk:kJ o.op=true){w w':World}{n:Next}(hn:∀v,n≠.value v)(h:(execOp ρ o).run P w=.ok n w'):False:=by
 obtain⟨dst,op,type,pos,after,guard⟩:=o;dsimp only at hk
 cases op <;> simp only[kJ]at hk <;> try (cases hk;done)
 all_goals try exact Qz hn h
 case move x=>simp[execOp]at h;exact hn _ h.1.symm
 case assign x=>simp[execOp]at h;exact hn _ h.1.symm
 case pick c a b =>
  simp only[execOp,Sem.run_bind]at h
  cases hs:(asBool (ρ c)).run P w with
  | ok x w1=>rw[hs]at h;simp[Result.andThen]at h;exact hn _ h.1.symm
  | halt x w1=>rw[hs]at h;simp[Result.andThen]at h
 case nilCheck x =>
  simp only[execOp]at h;split at h
  ·simp[runtimePanic,go_sem]at h
  ·simp[runtimePanic,go_sem]at h
  ·simp[runtimePanic,go_sem]at h
  ·split at h
   ·simp[runtimePanic,go_sem]at h
   ·simp[go_sem]at h
    revert h
    generalize Sem.run P (nilAhead _ _ _ _) w=r
    intro h
    cases r with
    | ok a w1 =>
     simp only[Result.andThen]at h;split at h
     ·cases h;exact hn _ rfl
     ·cases h
    | halt x w1=>simp[Result.andThen]at h
   ·simp at h;exact hn _ h.1.symm
  ·simp at h;exact hn _ h.1.symm
 case call c =>
  obtain⟨callee,xs,ts⟩:=c
  cases callee with
  | value f=>cases hk
  | invoke r m=>cases hk
  | builtin b =>
   simp only[execOp,resolve,Sem.run_bind,Sem.run_pure,Result.andThen_ok,invoke]at h
   cases b <;> first | (cases hk;done) | exact Qz hn h
theorem TN{i:Nat}{oi:Oper}{fuel:Nat}{listed:Array Bool}{a:Act}{w:World}(hi:ops[i]? = some oi)(hb:takeB ops listed i=true)(hS:S w)
  (hQ:∀c a v w,Q (.panic c) (a.put oi.dst v) w->Q (.panic c) a w) (hw:Region.wanted oi (yielded ops a.tmps)=true)
  (h:oi.quiet P a S (fun a'=>gZ P ops Q S fuel (listed.setIfInBounds i true) a' w)):gZ P ops Q S (fuel+1) listed a w:=by
 obtain⟨h0,h1,h2,h3,h4⟩:=oH hi hb;obtain⟨v,hv,hK⟩:=h;refine Fh hi h4 (Region.noSelect_spec h1) (fun c a w=>hQ c a v w) fuel listed a w h0 (Region.free_spec hi h2) h3 (.inl ⟨hw,fun w' hw'=>?_⟩) hS hK;have hq:=hv w' hw';unfold Oper.quietAt at hq
 cases hr:(execOp a.eval oi).run P w' with
 | ok n w1 =>
  rw[hr]at hq
  cases n with
  | value u=>obtain⟨rfl,rfl⟩:=hq;rfl
  | skip=>exact(rV h4 (fun v=>by simp) hr).elim
  | enter f args=>exact(rV h4 (fun v=>by simp) hr).elim
  | _=>exact hq.elim
 | halt x w1=>rw[hr]at hq;exact hq.elim
def La(P:Program)(ops:Array Oper)(Q:Exit->Act->World->Prop)(S:World->Prop)(fuel:Nat)(listed:Array Bool)(i:Nat)(oi:Oper)(a:Act)(w:World):Prop :=
 ∀K:Act->World->Prop,(∀a' w',(yB ops i=true->S w->S w')->gZ P ops Q S fuel (listed.setIfInBounds i true) a' w'->K a' w')->if Region.wanted oi (yielded ops a.tmps)=true then Oper.wp P oi a w K Q else K (a.put oi.dst undef) w
theorem BL{i:Nat}{oi:Oper}{fuel:Nat}{listed:Array Bool}{a:Act}{w:World}(hi:ops[i]? = some oi)(h:La P ops Q S fuel listed i oi a w) :
  wpOp P ops Q i (fun a' w'=>(yB ops i=true->S w->S w')/\gZ P ops Q S fuel (listed.setIfInBounds i true) a' w') a w:=by
 have:=h (fun a' w'=>(yB ops i=true->S w->S w')/\gZ P ops Q S fuel (listed.setIfInBounds i true) a' w') (fun a' w' h1 h2=>⟨h1,h2⟩);unfold wpOp;rw[hi];dsimp only;split
 ·rename_i hw;rw[if_pos hw]at this;exact .inl this
 ·rename_i hw;rw[if_neg hw]at this;exact this
theorem Vx{i:Nat}{oi:Oper}{fuel:Nat}{listed:Array Bool}{a:Act}{w:World}(hi:ops[i]? = some oi)(hr:Region.ready .any ops listed=[i])(h:La P ops Q S fuel listed i oi a w):gZ P ops Q S (fuel+1) listed a w :=
 ⟨fun h0=>absurd (hr ▸ h0) (by simp),fun j hj=>by rw[hr,List.mem_singleton]at hj;subst hj;exact BL hi h⟩
theorem TP{i j:Nat}{oi oj:Oper}{fuel:Nat}{listed:Array Bool}{a:Act}{w:World}(hi:ops[i]? = some oi)(hj:ops[j]? = some oj)(hr:Region.ready .any ops listed=[i,j])
  (h:La P ops Q S fuel listed i oi a w) (h2:La P ops Q S fuel listed j oj a w):gZ P ops Q S (fuel+1) listed a w :=
 ⟨fun h0=>absurd (hr ▸ h0) (by simp),fun k hk=>by
  rw[hr]at hk;simp only[List.mem_cons,List.not_mem_nil,or_false]at hk;rcases hk with rfl | rfl
  ·exact BL hi h
  ·exact BL hj h2⟩
theorem vP{fuel:Nat}{listed:Array Bool}{a:Act}{w:World}(hr:Region.ready .any ops listed=[])(h:Q .normal a w):gZ P ops Q S fuel listed a w :=
 match fuel with
 | 0=>⟨hr,h⟩
 | _+1=>⟨fun _=>h,by rw[hr];simp⟩
theorem Rw{id:Nat}{a:Act}{w:World}(S:World->Prop)(hm:P.follows .mixedOrders=true)
  (h:gZ P ops Q S ops.size (Array.replicate ops.size false) a w.drew):(Code.region id ops true).wp P Q a w :=
 wp_region_any hm (BK _ _ _ _ h)
theorem TQ{l:List Oper}(i:Nat){oi:Oper}{fuel:Nat}{listed:Array Bool}{a:Act}{w:World}(hi:l[i]? = some oi)(hb:takeB l.toArray listed i=true)(hS:S w)
  (hQ:∀c a v w,Q (.panic c) (a.put oi.dst v) w->Q (.panic c) a w) (hw:Region.wanted oi (yielded l.toArray a.tmps)=true)
  (h:oi.quiet P a S (fun a'=>gZ P l.toArray Q S fuel (listed.setIfInBounds i true) a' w)):gZ P l.toArray Q S (fuel+1) listed a w :=
 TN (by rw[List.getElem?_toArray];exact hi) hb hS hQ hw h
theorem tL{l:List Oper}(i:Nat){oi:Oper}{fuel:Nat}{listed:Array Bool}{a:Act}{w:World}(hi:l[i]? = some oi)(hS:S w)(h:oi.quiet P a S (fun a'=>gZ P l.toArray Q S fuel (listed.setIfInBounds i true) a' w))
  (hb:takeB l.toArray listed i=true:=by kernel_rfl) (hw:Region.wanted oi (yielded l.toArray a.tmps)=true:=by rfl) (hQ:∀c a v w,Q (.panic c) (a.put oi.dst v) w->Q (.panic c) a w:=by exact fun _ _ _ _ h=>h):gZ P l.toArray Q S (fuel+1) listed a w :=
 TQ i hi hb hS hQ hw h
theorem kY{l:List Oper}(i:Nat){oi:Oper}{fuel:Nat}{listed:Array Bool}{a:Act}{w:World}(hi:l[i]? = some oi)(hr:Region.ready .any l.toArray listed=[i])
  (h:∀K:Act->World->Prop,(∀a' w',(yB l.toArray i=true->S w->S w')->gZ P l.toArray Q S fuel (listed.setIfInBounds i true) a' w'->K a' w')->if Region.wanted oi (yielded l.toArray a.tmps)=true then Oper.wp P oi a w K Q else K (a.put oi.dst undef) w):gZ P l.toArray Q S (fuel+1) listed a w :=
 Vx (by rw[List.getElem?_toArray];exact hi) hr h
theorem Qw{l:List Oper}(i j:Nat){oi oj:Oper}{fuel:Nat}{listed:Array Bool}{a:Act}{w:World}(hi:l[i]? = some oi)(hj:l[j]? = some oj)(hr:Region.ready .any l.toArray listed=[i,j])
  (h:∀K:Act->World->Prop,(∀a' w',(yB l.toArray i=true->S w->S w')->gZ P l.toArray Q S fuel (listed.setIfInBounds i true) a' w'->K a' w')->if Region.wanted oi (yielded l.toArray a.tmps)=true then Oper.wp P oi a w K Q else K (a.put oi.dst undef) w)
  (h2:∀K:Act->World->Prop,(∀a' w',(yB l.toArray j=true->S w->S w')->gZ P l.toArray Q S fuel (listed.setIfInBounds j true) a' w'->K a' w')->if Region.wanted oj (yielded l.toArray a.tmps)=true then Oper.wp P oj a w K Q else K (a.put oj.dst undef) w):gZ P l.toArray Q S (fuel+1) listed a w :=
 TP (by rw[List.getElem?_toArray];exact hi) (by rw[List.getElem?_toArray];exact hj) hr h h2
theorem uq{l:List Oper}{id:Nat}{a:Act}{w:World}(S:World->Prop)(hm:P.follows .mixedOrders=true)
  (h:gZ P l.toArray Q S l.length (List.replicate l.length false).toArray a w.drew):(Code.region id l.toArray true).wp P Q a w :=
 Rw S hm (by simpa using h)
structure aA (S0:World->Prop) where
 w:World
 h:S0 w
theorem aj{S0:World->Prop}{w:World}(h:S0 w):(fun w'=>∃x:aA S0,w'=x.w) w:=⟨⟨w,h⟩,rfl⟩
end
section
variable {P:Program} {ops:Array Oper} {Q:Exit->Act->World->Prop} {S:World->Prop}
def jY:Op->Bool
 | .load _ _=>true
 | .index _ _ _=>true
 | .call _=>true
 | .convert _ _ _=>true
 | .slice _ _ _ _ _=>true
 | _=>false
def yC(ops:Array Oper)(i:Nat):Bool:=(List.range ops.size).any fun j=>(match ops[j]? with | some o=>kJ o.op && jY o.op | none=>false) && !(j == i) && !(reach ops ops.size (nA ops i)).contains j
def fG(P:Program)(ops:Array Oper)(Q:Exit->Act->World->Prop)(S:World->Prop):Nat->Array Bool->Act->World->Prop
 | 0,listed,a,w=>Region.ready .any ops listed=[]/\Q .normal a w
 | fuel+1,listed,a,w =>
  (Region.ready .any ops listed=[]->Q .normal a w) /\
  ∀i∈Region.ready .any ops listed,wpOp P ops Q i (fun a' w'=>(yC ops i=true->S w->S w')/\fG P ops Q S fuel (listed.setIfInBounds i true) a' w') a w
theorem BM:∀(fuel:Nat) (listed:Array Bool) (a:Act) (w:World),fG P ops Q S fuel listed a w->wpAny P .any ops Q fuel listed a w
 | 0,_,_,_,h=>h
 | fuel+1,_,_,_,h=>⟨h.1,fun i hi=>wpOp_mono (fun a' w' h'=>BM fuel _ a' w' h'.2) (h.2 i hi)⟩
theorem Fj{i:Nat}{oi:Oper}{v:Value}(hi:ops[i]? = some oi)(hrd:kJ oi.op=true)(hT:World->Prop)(hTS:∀w,hT w↔(jY oi.op=true->S w))(hsel:∀(j:Nat) (o:Oper) cs b,ops[j]? = some o->o.op≠.select cs b)
  (hQ:∀c a w,Q (.panic c) (a.put oi.dst v) w->Q (.panic c) a w) :
  ∀(fuel:Nat) (listed:Array Bool) (a:Act) (w:World),
   Closed ops listed->(∀j oj,ops[j]? = some oj->j≠i->listed.getD j true=false->(∀e∈oj.after,Region.binds .any e=true->e.on≠i)->oi.apart ops oj=true) ->
   i∈Region.ready .any ops listed->YieldsIf P ops hT oi v a->hT w ->
   fG P ops Q S fuel (listed.setIfInBounds i true) (a.put oi.dst v) w->fG P ops Q S (fuel+1) listed a w:=by
 intro fuel
 induction fuel with
 | zero =>
  intro listed a w _ _ hr hy hS H;refine⟨fun h=>(by rw[h]at hr;cases hr),fun j hj=>?_⟩;by_cases hji:j=i
  ·subst hji;exact hy.wpOp hi hS ⟨fun _ h=>h,H⟩
  ·have:=ready_mono hj hji;rw[H.1]at this;cases this
 | succ fuel ih =>
  intro listed a w hcl hfree hr hy hS H;refine⟨fun h=>(by rw[h]at hr;cases hr),fun j hj=>?_⟩;by_cases hji:j=i
  ·subst hji;exact hy.wpOp hi hS ⟨fun _ h=>h,H⟩
  ·have h1:=H.2 j (ready_mono hj hji);obtain⟨hjun,oj,hoj,hall⟩:=mem_ready.1 hj
   have hnot:∀e∈oj.after,Region.binds .any e=true->e.on≠i:=fun e he hb heq=>by
    have h1:=hall e he hb;have h0:=(mem_ready.1 hr).1;rw[heq]at h1;rcases Nat.lt_or_ge i listed.size with h' | h'
    ·simp[h']at h0 h1;rw[h0]at h1;cases h1
    ·simp[Array.getElem?_eq_none h']at h1
   have hin:∀x∈nA ops j,listed.getD x false=true:=fun x hx=>by
    obtain⟨e,he,hb,rfl⟩:=BJ hoj hx;have:=hall e he hb;simpa using this
   have hun:listed.getD i false=false:=by
    have h0:=(mem_ready.1 hr).1;rcases Nat.lt_or_ge i listed.size with h' | h'
    ·simp[h']at h0 ⊢;exact h0
    ·simp[Array.getElem?_eq_none h']
   have OU:jY oi.op=true->yC ops j=true:=by
    intro hk;unfold yC;rw[List.any_eq_true];refine⟨i,by simpa using (zQ3.1 hi).1, ?_⟩
    have hw:(reach ops ops.size (nA ops j)).contains i=false:=by
     rw[<-Bool.not_eq_true];intro hc;have:=rU hcl ops.size _ hin i (by simpa using hc);rw[hun]at this;cases this
    simp only[hi,hk,hrd,hw];simp[Ne.symm hji]
   have hcl':Closed ops (listed.setIfInBounds j true):=by
    intro k hk2 e he;by_cases hjk:j=k
    ·subst hjk;have h0:=hin e he;by_cases hje:j=e
     ·subst hje;exact hk2
     ·rw[getD_set_ne false hje];exact h0
    ·rw[getD_set_ne false hjk]at hk2;have h0:=hcl k hk2 e he;by_cases hje:j=e
     ·subst hje;rcases Nat.lt_or_ge j listed.size with h' | h'
      ·simp[h']
      ·simp[Array.getElem?_eq_none h']at h0
     ·rw[getD_set_ne false hje];exact h0
   have h2:=wpOp_putIf hoj (hfree j oj hoj hji hjun hnot) (fun cs b=>hsel i oi cs b hi) (fun cs b=>hsel j oj cs b hoj) hQ hy h1
   have hfree':∀k ok,ops[k]? = some ok->k≠i->(listed.setIfInBounds j true).getD k true=false ->
     (∀e∈ok.after,Region.binds .any e=true->e.on≠i)->oi.apart ops ok=true:=fun k ok hk hki hun hno=>by
    refine hfree k ok hk hki ?_ hno;by_cases hjk:j=k
    ·subst hjk;exact hjun
    ·rw[getD_set_ne true hjk]at hun;exact hun
   refine wpOp_mono (fun a' w' h3=>⟨h3.2.1,ih (listed.setIfInBounds j true) a' w' hcl' hfree' (ready_mono hr (Ne.symm hji)) h3.1 ((hTS _).2 fun hm=>h3.2.1 (OU hm) ((hTS _).1 hS hm)) ?_⟩) h2;rw[Array.setIfInBounds_comm _ _ hji];exact h3.2.2
theorem vQ{i:Nat}{oi:Oper}{v:Value}(hi:ops[i]? = some oi)(hr:kJ oi.op=true)(hsel:∀(j:Nat) (o:Oper) cs b,ops[j]? = some o->o.op≠.select cs b)
  (hQ:∀c a w,Q (.panic c) (a.put oi.dst v) w->Q (.panic c) a w) (fuel:Nat) (listed:Array Bool) (a:Act) (w:World)
  (hc:Closed ops listed) (hf:∀j oj,ops[j]? = some oj->j≠i->listed.getD j true=false->(∀e∈oj.after,Region.binds .any e=true->e.on≠i)->oi.apart ops oj=true)
  (hi2:i∈Region.ready .any ops listed) (hy:YieldsIf P ops (fun w=>jY oi.op=true->S w) oi v a) (hS:jY oi.op=true->S w)
  (h:fG P ops Q S fuel (listed.setIfInBounds i true) (a.put oi.dst v) w):fG P ops Q S (fuel+1) listed a w :=
 Fj hi hr _ (fun _=>Iff.rfl) hsel hQ fuel listed a w hc hf hi2 hy hS h
theorem BN{oi:Oper}{a:Act}{C:World->Prop}{K:Act->Prop}(h4:kJ oi.op=true)(h:oi.quiet P a C K):∃v,(∀w,C w->(execOp a.eval oi).run P w=.ok (.value v) w)/\K (a.put oi.dst v):=by
 obtain⟨v,hv,hK⟩:=h;refine⟨v,fun w' hw'=>?_,hK⟩;have hq:=hv w' hw';unfold Oper.quietAt at hq
 cases hr:(execOp a.eval oi).run P w' with
 | ok n w1 =>
  rw[hr]at hq
  cases n with
  | value u=>obtain⟨rfl,rfl⟩:=hq;rfl
  | skip=>exact(rV h4 (fun v=>by simp) hr).elim
  | enter f args=>exact(rV h4 (fun v=>by simp) hr).elim
  | _=>exact hq.elim
 | halt x w1=>rw[hr]at hq;exact hq.elim
theorem OV{i:Nat}{oi:Oper}{fuel:Nat}{listed:Array Bool}{a:Act}{w:World}(hi:ops[i]? = some oi)(hb:takeB ops listed i=true)(hS:jY oi.op=true->S w)
  (hQ:∀c a v w,Q (.panic c) (a.put oi.dst v) w->Q (.panic c) a w) (hw:Region.wanted oi (yielded ops a.tmps)=true)
  (h:∃v,(∀w,(jY oi.op=true->S w)->(execOp a.eval oi).run P w=.ok (.value v) w)/\fG P ops Q S fuel (listed.setIfInBounds i true) (a.put oi.dst v) w):fG P ops Q S (fuel+1) listed a w:=by
 obtain⟨h0,h1,h2,h3,h4⟩:=oH hi hb;obtain⟨v,hv,hK⟩:=h;exact vQ hi h4 (Region.noSelect_spec h1) (fun c a w=>hQ c a v w) fuel listed a w h0 (Region.free_spec hi h2) h3 (.inl ⟨hw,fun w' hw'=>hv w' hw'⟩) hS hK
theorem Rx{i:Nat}{oi:Oper}{fuel:Nat}{listed:Array Bool}{a:Act}{w:World}(hi:ops[i]? = some oi)(hb:takeB ops listed i=true)(hS:jY oi.op=true->S w)
  (hQ:∀c a v w,Q (.panic c) (a.put oi.dst v) w->Q (.panic c) a w) (hw:Region.wanted oi (yielded ops a.tmps)=false)
  (h:fG P ops Q S fuel (listed.setIfInBounds i true) (a.put oi.dst undef) w):fG P ops Q S (fuel+1) listed a w:=by
 obtain⟨h0,h1,h2,h3,h4⟩:=oH hi hb;exact vQ hi h4 (Region.noSelect_spec h1) (fun c a w=>hQ c a undef w) fuel listed a w h0 (Region.free_spec hi h2) h3 (.inr ⟨hw,rfl⟩) hS h
theorem BO{i:Nat}{oi:Oper}{fuel:Nat}{listed:Array Bool}{a:Act}{w:World}(hi:ops[i]? = some oi)
  (h:∀K:Act->World->Prop,(∀a' w',(yC ops i=true->S w->S w')->fG P ops Q S fuel (listed.setIfInBounds i true) a' w'->K a' w')->if Region.wanted oi (yielded ops a.tmps)=true then Oper.wp P oi a w K Q else K (a.put oi.dst undef) w) :
  wpOp P ops Q i (fun a' w'=>(yC ops i=true->S w->S w')/\fG P ops Q S fuel (listed.setIfInBounds i true) a' w') a w:=by
 have:=h (fun a' w'=>(yC ops i=true->S w->S w')/\fG P ops Q S fuel (listed.setIfInBounds i true) a' w') (fun a' w' h1 h2=>⟨h1,h2⟩);unfold wpOp;rw[hi];dsimp only;split
 ·rename_i hw;rw[if_pos hw]at this;exact .inl this
 ·rename_i hw;rw[if_neg hw]at this;exact this
theorem FN{l:List Oper}(i:Nat){oi:Oper}{fuel:Nat}{listed:Array Bool}{a:Act}{w:World}(hi:l[i]? = some oi)(hb:takeB l.toArray listed i=true)(hS:S w)
  (hQ:∀c a v w,Q (.panic c) (a.put oi.dst v) w->Q (.panic c) a w) (hw:Region.wanted oi (yielded l.toArray a.tmps)=true) (hm:jY oi.op=true)
  (h:oi.quiet P a S (fun a'=>fG P l.toArray Q S fuel (listed.setIfInBounds i true) a' w)):fG P l.toArray Q S (fuel+1) listed a w:=by
 refine OV (by rw[List.getElem?_toArray];exact hi) hb (fun _=>hS) hQ hw ?_;obtain⟨v,hv,hK⟩:=BN (oH (ops:=l.toArray) (by rw[List.getElem?_toArray];exact hi) hb).2.2.2.2 h;exact⟨v,fun w' hw'=>hv w' (hw' hm),hK⟩
theorem sS{l:List Oper}(i:Nat){oi:Oper}{fuel:Nat}{listed:Array Bool}{a:Act}{w:World}(hi:l[i]? = some oi)(hb:takeB l.toArray listed i=true)
  (hQ:∀c a v w,Q (.panic c) (a.put oi.dst v) w->Q (.panic c) a w) (hw:Region.wanted oi (yielded l.toArray a.tmps)=true) (hm:jY oi.op=false)
  (h:oi.quiet P a (fun w'=>∃x:aA (fun _=>True),w'=x.w) (fun a'=>fG P l.toArray Q S fuel (listed.setIfInBounds i true) a' w)):fG P l.toArray Q S (fuel+1) listed a w:=by
 refine OV (by rw[List.getElem?_toArray];exact hi) hb (fun h=>by rw[hm]at h;cases h) hQ hw ?_;obtain⟨v,hv,hK⟩:=BN (oH (ops:=l.toArray) (by rw[List.getElem?_toArray];exact hi) hb).2.2.2.2 h;exact⟨v,fun w' _=>hv w' ⟨⟨w',trivial⟩,rfl⟩,hK⟩
theorem tM{l:List Oper}(i:Nat){oi:Oper}{fuel:Nat}{listed:Array Bool}{a:Act}{w:World}(hi:l[i]? = some oi)(hS:S w)(h:oi.quiet P a S (fun a'=>fG P l.toArray Q S fuel (listed.setIfInBounds i true) a' w))
  (hb:takeB l.toArray listed i=true:=by kernel_rfl) (hw:Region.wanted oi (yielded l.toArray a.tmps)=true:=by rfl) (hm:jY oi.op=true:=by rfl) (hQ:∀c a v w,Q (.panic c) (a.put oi.dst v) w->Q (.panic c) a w:=by exact fun _ _ _ _ h=>h):fG P l.toArray Q S (fuel+1) listed a w :=
 FN i hi hb hS hQ hw hm h
theorem tW{l:List Oper}(i:Nat){oi:Oper}{fuel:Nat}{listed:Array Bool}{a:Act}{w:World}(hi:l[i]? = some oi)(h:oi.quiet P a (fun w'=>∃x:aA (fun _=>True),w'=x.w) (fun a'=>fG P l.toArray Q S fuel (listed.setIfInBounds i true) a' w))
  (hb:takeB l.toArray listed i=true:=by kernel_rfl) (hw:Region.wanted oi (yielded l.toArray a.tmps)=true:=by rfl) (hm:jY oi.op=false:=by rfl) (hQ:∀c a v w,Q (.panic c) (a.put oi.dst v) w->Q (.panic c) a w:=by exact fun _ _ _ _ h=>h):fG P l.toArray Q S (fuel+1) listed a w :=
 sS i hi hb hQ hw hm h
theorem ig{l:List Oper}(i:Nat){oi:Oper}{fuel:Nat}{listed:Array Bool}{a:Act}{w:World}(hi:l[i]? = some oi)(hb:takeB l.toArray listed i=true)(hS:jY oi.op=true->S w)
  (hQ:∀c a v w,Q (.panic c) (a.put oi.dst v) w->Q (.panic c) a w) (hw:Region.wanted oi (yielded l.toArray a.tmps)=false)
  (h:fG P l.toArray Q S fuel (listed.setIfInBounds i true) (a.put oi.dst undef) w):fG P l.toArray Q S (fuel+1) listed a w :=
 Rx (by rw[List.getElem?_toArray];exact hi) hb hS hQ hw h
theorem aV{l:List Oper}(i:Nat){oi:Oper}{fuel:Nat}{listed:Array Bool}{a:Act}{w:World}(hi:l[i]? = some oi)(hr:Region.ready .any l.toArray listed=[i])
  (h:∀K:Act->World->Prop,(∀a' w',(yC l.toArray i=true->S w->S w')->fG P l.toArray Q S fuel (listed.setIfInBounds i true) a' w'->K a' w')->if Region.wanted oi (yielded l.toArray a.tmps)=true then Oper.wp P oi a w K Q else K (a.put oi.dst undef) w):fG P l.toArray Q S (fuel+1) listed a w :=
 ⟨fun h0=>absurd (hr ▸ h0) (by simp),fun j hj=>by rw[hr,List.mem_singleton]at hj;subst hj;exact BO (by rw[List.getElem?_toArray];exact hi) h⟩
theorem qM{l:List Oper}(i j:Nat){oi oj:Oper}{fuel:Nat}{listed:Array Bool}{a:Act}{w:World}(hi:l[i]? = some oi)(hj:l[j]? = some oj)(hr:Region.ready .any l.toArray listed=[i,j])
  (h:∀K:Act->World->Prop,(∀a' w',(yC l.toArray i=true->S w->S w')->fG P l.toArray Q S fuel (listed.setIfInBounds i true) a' w'->K a' w')->if Region.wanted oi (yielded l.toArray a.tmps)=true then Oper.wp P oi a w K Q else K (a.put oi.dst undef) w)
  (h2:∀K:Act->World->Prop,(∀a' w',(yC l.toArray j=true->S w->S w')->fG P l.toArray Q S fuel (listed.setIfInBounds j true) a' w'->K a' w')->if Region.wanted oj (yielded l.toArray a.tmps)=true then Oper.wp P oj a w K Q else K (a.put oj.dst undef) w):fG P l.toArray Q S (fuel+1) listed a w :=
 ⟨fun h0=>absurd (hr ▸ h0) (by simp),fun k hk=>by
  rw[hr]at hk;simp only[List.mem_cons,List.not_mem_nil,or_false]at hk;rcases hk with rfl | rfl
  ·exact BO (by rw[List.getElem?_toArray];exact hi) h
  ·exact BO (by rw[List.getElem?_toArray];exact hj) h2⟩
theorem bE{fuel:Nat}{listed:Array Bool}{a:Act}{w:World}(hr:Region.ready .any ops listed=[])(h:Q .normal a w):fG P ops Q S fuel listed a w :=
 match fuel with
 | 0=>⟨hr,h⟩
 | _+1=>⟨fun _=>h,by rw[hr];simp⟩
theorem aW{l:List Oper}{id:Nat}{a:Act}{w:World}(S:World->Prop)(hm:P.follows .mixedOrders=true)
  (h:fG P l.toArray Q S l.length (List.replicate l.length false).toArray a w.drew):(Code.region id l.toArray true).wp P Q a w :=
 wp_region_any hm (BM _ _ _ _ (by simpa using h))
theorem aO(w:World):Nonempty (aA (fun _=>True)):=⟨⟨w,trivial⟩⟩
end
end Go.Proofs.YtediempflagfkaaGreatDoor
