/- Lemmas. -/
import Derived.Test.YtiiifecfdkjmbaaRegK
namespace Go.Proofs.Ytiiifecfdkjmbaa
set_option maxRecDepth 8000
section
variable {P:Program} {ops:Array Oper} {Q:Exit->Act->World->Prop} {S:World->Prop}
def iC:Op->Bool
 | .load _ _=>true
 | .index _ _ _=>true
 | .call _=>true
 | .convert _ _ _=>true
 | .slice _ _ _ _ _=>true
 | _=>false
def nS (ops:Array Oper) (i:Nat):Bool:=(List.range ops.size).any fun j=>(match ops[j]? with | some o=>gD o.op && iC o.op | none=>false) && !(j == i) && !(reach ops ops.size (jd ops i)).contains j
def bZ (P:Program) (ops:Array Oper) (Q:Exit->Act->World->Prop) (S:World->Prop):Nat->Array Bool->Act->World->Prop
 | 0,listed,a,w=>Region.ready .any ops listed=[]/\Q .normal a w
 | fuel+1,listed,a,w =>
  (Region.ready .any ops listed=[]->Q .normal a w) /\
  ∀ i∈Region.ready .any ops listed,wpOp P ops Q i (fun a' w'=>(nS ops i=true->S w->S w')/\bZ P ops Q S fuel (listed.setIfInBounds i true) a' w') a w
theorem qO:∀ (fuel:Nat) (listed:Array Bool) (a:Act) (w:World),bZ P ops Q S fuel listed a w->wpAny P .any ops Q fuel listed a w
 | 0,_,_,_,h=>h
 | fuel+1,_,_,_,h=>⟨h.1,fun i hi=>wpOp_mono (fun a' w' h'=>qO fuel _ a' w' h'.2) (h.2 i hi)⟩
theorem uJ {i:Nat} {oi:Oper} {v:Value} (hi:ops[i]? = some oi) (hrd:gD oi.op=true) (hT:World->Prop) (hTS:∀ w,hT w↔(iC oi.op=true->S w)) (hsel:∀ (j:Nat) (o:Oper) cs b,ops[j]? = some o->o.op≠.select cs b)
  (hQ:∀ c a w,Q (.panic c) (a.put oi.dst v) w->Q (.panic c) a w) :
  ∀ (fuel:Nat) (listed:Array Bool) (a:Act) (w:World),
   Closed ops listed->(∀ j oj,ops[j]? = some oj->j≠i->listed.getD j true=false->(∀ e∈oj.after,Region.binds .any e=true->e.on≠i)->oi.apart ops oj=true) ->
   i∈Region.ready .any ops listed->YieldsIf P ops hT oi v a->hT w ->
   bZ P ops Q S fuel (listed.setIfInBounds i true) (a.put oi.dst v) w->bZ P ops Q S (fuel+1) listed a w:=by
 intro fuel
 induction fuel with
 | zero =>
  intro listed a w _ _ hr hy hS H
  refine ⟨fun h=>(by rw [h] at hr;cases hr),fun j hj=>?_⟩
  by_cases hji:j=i
  ·subst hji;exact hy.wpOp hi hS ⟨fun _ h=>h,H⟩
  ·have:=ready_mono hj hji
   rw [H.1] at this
   cases this
 | succ fuel ih =>
  intro listed a w hcl hfree hr hy hS H
  refine ⟨fun h=>(by rw [h] at hr;cases hr),fun j hj=>?_⟩
  by_cases hji:j=i
  ·subst hji;exact hy.wpOp hi hS ⟨fun _ h=>h,H⟩
  ·have h1:=H.2 j (ready_mono hj hji)
   obtain ⟨hjun,oj,hoj,hall⟩:=mem_ready.1 hj
   have hnot:∀ e∈oj.after,Region.binds .any e=true->e.on≠i:=fun e he hb heq=>by
    have h1:=hall e he hb
    have h0:=(mem_ready.1 hr).1
    rw [heq] at h1
    rcases Nat.lt_or_ge i listed.size with h' | h'
    ·simp [h'] at h0 h1;rw [h0] at h1;cases h1
    ·simp [Array.getElem?_eq_none h'] at h1
   have hin:∀ x∈jd ops j,listed.getD x false=true:=fun x hx=>by
    obtain ⟨e,he,hb,rfl⟩:=qL hoj hx
    have:=hall e he hb
    simpa using this
   have hun:listed.getD i false=false:=by
    have h0:=(mem_ready.1 hr).1
    rcases Nat.lt_or_ge i listed.size with h' | h'
    ·simp [h'] at h0 ⊢;exact h0
    ·simp [Array.getElem?_eq_none h']
   have Cg:iC oi.op=true->nS ops j=true:=by
    intro hk
    unfold nS
    rw [List.any_eq_true]
    refine ⟨i,by simpa using (zQ3.1 hi).1, ?_⟩
    have hw:(reach ops ops.size (jd ops j)).contains i=false:=by
     rw [<-Bool.not_eq_true]
     intro hc
     have:=kP hcl ops.size _ hin i (by simpa using hc)
     rw [hun] at this;cases this
    simp only [hi,hk,hrd,hw]
    simp [Ne.symm hji]
   have hcl':Closed ops (listed.setIfInBounds j true):=by
    intro k hk2 e he
    by_cases hjk:j=k
    ·subst hjk
     have h0:=hin e he
     by_cases hje:j=e
     ·subst hje;exact hk2
     ·rw [getD_set_ne false hje];exact h0
    ·rw [getD_set_ne false hjk] at hk2
     have h0:=hcl k hk2 e he
     by_cases hje:j=e
     ·subst hje
      rcases Nat.lt_or_ge j listed.size with h' | h'
      ·simp [h']
      ·simp [Array.getElem?_eq_none h'] at h0
     ·rw [getD_set_ne false hje];exact h0
   have h2:=wpOp_putIf hoj (hfree j oj hoj hji hjun hnot) (fun cs b=>hsel i oi cs b hi) (fun cs b=>hsel j oj cs b hoj) hQ hy h1
   have hfree':∀ k ok,ops[k]? = some ok->k≠i->(listed.setIfInBounds j true).getD k true=false ->
     (∀ e∈ok.after,Region.binds .any e=true->e.on≠i)->oi.apart ops ok=true:=fun k ok hk hki hun hno=>by
    refine hfree k ok hk hki ?_ hno
    by_cases hjk:j=k
    ·subst hjk;exact hjun
    ·rw [getD_set_ne true hjk] at hun;exact hun
   refine wpOp_mono (fun a' w' h3=>⟨h3.2.1,ih (listed.setIfInBounds j true) a' w' hcl' hfree' (ready_mono hr (Ne.symm hji)) h3.1 ((hTS _).2 fun hm=>h3.2.1 (Cg hm) ((hTS _).1 hS hm)) ?_⟩) h2
   rw [Array.setIfInBounds_comm _ _ hji]
   exact h3.2.2
theorem rR {i:Nat} {oi:Oper} {v:Value} (hi:ops[i]? = some oi) (hr:gD oi.op=true) (hsel:∀ (j:Nat) (o:Oper) cs b,ops[j]? = some o->o.op≠.select cs b)
  (hQ:∀ c a w,Q (.panic c) (a.put oi.dst v) w->Q (.panic c) a w) (fuel:Nat) (listed:Array Bool) (a:Act) (w:World)
  (hc:Closed ops listed) (hf:∀ j oj,ops[j]? = some oj->j≠i->listed.getD j true=false->(∀ e∈oj.after,Region.binds .any e=true->e.on≠i)->oi.apart ops oj=true)
  (hi2:i∈Region.ready .any ops listed) (hy:YieldsIf P ops (fun w=>iC oi.op=true->S w) oi v a) (hS:iC oi.op=true->S w)
  (h:bZ P ops Q S fuel (listed.setIfInBounds i true) (a.put oi.dst v) w):bZ P ops Q S (fuel+1) listed a w :=
 uJ hi hr _ (fun _=>Iff.rfl) hsel hQ fuel listed a w hc hf hi2 hy hS h
theorem qP {oi:Oper} {a:Act} {C:World->Prop} {K:Act->Prop} (h4:gD oi.op=true) (h:oi.quiet P a C K):∃ v,(∀ w,C w->(execOp a.eval oi).run P w=.ok (.value v) w)/\K (a.put oi.dst v):=by
 obtain ⟨v,hv,hK⟩:=h
 refine ⟨v,fun w' hw'=>?_,hK⟩
 have hq:=hv w' hw'
 unfold Oper.quietAt at hq
 cases hr:(execOp a.eval oi).run P w' with
 | ok n w1 =>
  rw [hr] at hq
  cases n with
  | value u=>obtain ⟨rfl,rfl⟩:=hq;rfl
  | skip=>exact (kR h4 (fun v=>by simp) hr).elim
  | enter f args=>exact (kR h4 (fun v=>by simp) hr).elim
  | _=>exact hq.elim
 | halt x w1=>rw [hr] at hq;exact hq.elim
theorem Ch {i:Nat} {oi:Oper} {fuel:Nat} {listed:Array Bool} {a:Act} {w:World} (hi:ops[i]? = some oi) (hb:takeB ops listed i=true) (hS:iC oi.op=true->S w)
  (hQ:∀ c a v w,Q (.panic c) (a.put oi.dst v) w->Q (.panic c) a w) (hw:Region.wanted oi (yielded ops a.tmps)=true)
  (h:∃ v,(∀ w,(iC oi.op=true->S w)->(execOp a.eval oi).run P w=.ok (.value v) w)/\bZ P ops Q S fuel (listed.setIfInBounds i true) (a.put oi.dst v) w):bZ P ops Q S (fuel+1) listed a w:=by
 obtain ⟨h0,h1,h2,h3,h4⟩:=kQ hi hb
 obtain ⟨v,hv,hK⟩:=h
 exact rR hi h4 (Region.noSelect_spec h1) (fun c a w=>hQ c a v w) fuel listed a w h0 (Region.free_spec hi h2) h3 (.inl ⟨hw,fun w' hw'=>hv w' hw'⟩) hS hK
theorem qQ {i:Nat} {oi:Oper} {fuel:Nat} {listed:Array Bool} {a:Act} {w:World} (hi:ops[i]? = some oi)
  (h:∀ K:Act->World->Prop,(∀ a' w',(nS ops i=true->S w->S w')->bZ P ops Q S fuel (listed.setIfInBounds i true) a' w'->K a' w')->if Region.wanted oi (yielded ops a.tmps)=true then Oper.wp P oi a w K Q else K (a.put oi.dst undef) w) :
  wpOp P ops Q i (fun a' w'=>(nS ops i=true->S w->S w')/\bZ P ops Q S fuel (listed.setIfInBounds i true) a' w') a w:=by
 have:=h (fun a' w'=>(nS ops i=true->S w->S w')/\bZ P ops Q S fuel (listed.setIfInBounds i true) a' w') (fun a' w' h1 h2=>⟨h1,h2⟩)
 unfold wpOp
 rw [hi]
 dsimp only
 split
 ·rename_i hw;rw [if_pos hw] at this;exact .inl this
 ·rename_i hw;rw [if_neg hw] at this;exact this
theorem GL {l:List Oper} (i:Nat) {oi:Oper} {fuel:Nat} {listed:Array Bool} {a:Act} {w:World} (hi:l[i]? = some oi) (hb:takeB l.toArray listed i=true) (hS:S w)
  (hQ:∀ c a v w,Q (.panic c) (a.put oi.dst v) w->Q (.panic c) a w) (hw:Region.wanted oi (yielded l.toArray a.tmps)=true) (hm:iC oi.op=true)
  (h:oi.quiet P a S (fun a'=>bZ P l.toArray Q S fuel (listed.setIfInBounds i true) a' w)):bZ P l.toArray Q S (fuel+1) listed a w:=by
 refine Ch (by rw [List.getElem?_toArray];exact hi) hb (fun _=>hS) hQ hw ?_
 obtain ⟨v,hv,hK⟩:=qP (kQ (ops:=l.toArray) (by rw [List.getElem?_toArray];exact hi) hb).2.2.2.2 h
 exact ⟨v,fun w' hw'=>hv w' (hw' hm),hK⟩
theorem GN {l:List Oper} (i:Nat) {oi:Oper} {fuel:Nat} {listed:Array Bool} {a:Act} {w:World} (hi:l[i]? = some oi) (hb:takeB l.toArray listed i=true)
  (hQ:∀ c a v w,Q (.panic c) (a.put oi.dst v) w->Q (.panic c) a w) (hw:Region.wanted oi (yielded l.toArray a.tmps)=true) (hm:iC oi.op=false)
  (h:oi.quiet P a (fun w'=>∃ x:aB (fun _=>True),w'=x.w) (fun a'=>bZ P l.toArray Q S fuel (listed.setIfInBounds i true) a' w)):bZ P l.toArray Q S (fuel+1) listed a w:=by
 refine Ch (by rw [List.getElem?_toArray];exact hi) hb (fun h=>by rw [hm] at h;cases h) hQ hw ?_
 obtain ⟨v,hv,hK⟩:=qP (kQ (ops:=l.toArray) (by rw [List.getElem?_toArray];exact hi) hb).2.2.2.2 h
 exact ⟨v,fun w' _=>hv w' ⟨⟨w',trivial⟩,rfl⟩,hK⟩
theorem tM {l:List Oper} (i:Nat) {oi:Oper} {fuel:Nat} {listed:Array Bool} {a:Act} {w:World} (hi:l[i]? = some oi) (hS:S w) (h:oi.quiet P a S (fun a'=>bZ P l.toArray Q S fuel (listed.setIfInBounds i true) a' w))
  (hb:takeB l.toArray listed i=true:=by kernel_rfl) (hw:Region.wanted oi (yielded l.toArray a.tmps)=true:=by rfl) (hm:iC oi.op=true:=by rfl) (hQ:∀ c a v w,Q (.panic c) (a.put oi.dst v) w->Q (.panic c) a w:=by exact fun _ _ _ _ h=>h):bZ P l.toArray Q S (fuel+1) listed a w :=
 GL i hi hb hS hQ hw hm h
theorem tW {l:List Oper} (i:Nat) {oi:Oper} {fuel:Nat} {listed:Array Bool} {a:Act} {w:World} (hi:l[i]? = some oi) (h:oi.quiet P a (fun w'=>∃ x:aB (fun _=>True),w'=x.w) (fun a'=>bZ P l.toArray Q S fuel (listed.setIfInBounds i true) a' w))
  (hb:takeB l.toArray listed i=true:=by kernel_rfl) (hw:Region.wanted oi (yielded l.toArray a.tmps)=true:=by rfl) (hm:iC oi.op=false:=by rfl) (hQ:∀ c a v w,Q (.panic c) (a.put oi.dst v) w->Q (.panic c) a w:=by exact fun _ _ _ _ h=>h):bZ P l.toArray Q S (fuel+1) listed a w :=
 GN i hi hb hQ hw hm h
theorem lC {l:List Oper} (i:Nat) {oi:Oper} {fuel:Nat} {listed:Array Bool} {a:Act} {w:World} (hi:l[i]? = some oi) (hr:Region.ready .any l.toArray listed=[i])
  (h:∀ K:Act->World->Prop,(∀ a' w',(nS l.toArray i=true->S w->S w')->bZ P l.toArray Q S fuel (listed.setIfInBounds i true) a' w'->K a' w')->if Region.wanted oi (yielded l.toArray a.tmps)=true then Oper.wp P oi a w K Q else K (a.put oi.dst undef) w):bZ P l.toArray Q S (fuel+1) listed a w :=
 ⟨fun h0=>absurd (hr ▸ h0) (by simp),fun j hj=>by rw [hr,List.mem_singleton] at hj;subst hj;exact qQ (by rw [List.getElem?_toArray];exact hi) h⟩
theorem GQ {l:List Oper} (i j:Nat) {oi oj:Oper} {fuel:Nat} {listed:Array Bool} {a:Act} {w:World} (hi:l[i]? = some oi) (hj:l[j]? = some oj) (hr:Region.ready .any l.toArray listed=[i,j])
  (h:∀ K:Act->World->Prop,(∀ a' w',(nS l.toArray i=true->S w->S w')->bZ P l.toArray Q S fuel (listed.setIfInBounds i true) a' w'->K a' w')->if Region.wanted oi (yielded l.toArray a.tmps)=true then Oper.wp P oi a w K Q else K (a.put oi.dst undef) w)
  (h2:∀ K:Act->World->Prop,(∀ a' w',(nS l.toArray j=true->S w->S w')->bZ P l.toArray Q S fuel (listed.setIfInBounds j true) a' w'->K a' w')->if Region.wanted oj (yielded l.toArray a.tmps)=true then Oper.wp P oj a w K Q else K (a.put oj.dst undef) w):bZ P l.toArray Q S (fuel+1) listed a w :=
 ⟨fun h0=>absurd (hr ▸ h0) (by simp),fun k hk=>by
  rw [hr] at hk
  simp only [List.mem_cons,List.not_mem_nil,or_false] at hk
  rcases hk with rfl | rfl
  ·exact qQ (by rw [List.getElem?_toArray];exact hi) h
  ·exact qQ (by rw [List.getElem?_toArray];exact hj) h2⟩
theorem su {fuel:Nat} {listed:Array Bool} {a:Act} {w:World} (hr:Region.ready .any ops listed=[]) (h:Q .normal a w):bZ P ops Q S fuel listed a w :=
 match fuel with
 | 0=>⟨hr,h⟩
 | _+1=>⟨fun _=>h,by rw [hr];simp⟩
theorem p8 {l:List Oper} {id:Nat} {a:Act} {w:World} (S:World->Prop) (hm:P.follows .mixedOrders=true)
  (h:bZ P l.toArray Q S l.length (List.replicate l.length false).toArray a w.drew):(Code.region id l.toArray true).wp P Q a w :=
 wp_region_any hm (qO _ _ _ _ (by simpa using h))
theorem lu (w:World):Nonempty (aB (fun _=>True)):=⟨⟨w,trivial⟩⟩
end
end Go.Proofs.Ytiiifecfdkjmbaa
