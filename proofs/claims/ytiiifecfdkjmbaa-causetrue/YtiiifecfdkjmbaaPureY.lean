/- Lemmas. -/
import Derived.Test.YtiiifecfdkjmbaaPureW
namespace Go.Proofs.Ytiiifecfdkjmbaa.Pu
set_option maxRecDepth 8000
structure Sc where
 d:Wd
 sent:List Mg
 ahead:Mg->Mg->Bool
 past:Nat->Mg->Bool
def iW (d':Wd) (x:Ac):Mg:=⟨x.one,x.two,aD d' x.one.toNat,decide (x.kind=2),if x.kind=2 then ByteArray.empty else x.body⟩
def nu (s:Sc) (d':Wd) (t:Nat) (m:Mg):Sc:={ s with d:=d',past:=fun k y=>s.past k y || (decide (k=t) && (s.ahead m y || gD y m)) }
def ni (s:Sc) (d':Wd) (n:Nat) (m:Mg):Sc:=⟨d',s.sent++[m],fun a y=>if gD a m then s.past n y else s.ahead a y,fun k y=>s.past k y || (decide (k=n) && gD y m)⟩
def aY (s:Sc) (x:Ac):Sc :=
 if x.kind=4 then s else
 match doD s.d x with
 | .error _=>s
 | .ok d'=>if x.kind=3 then (match au s.d x.one.toNat x.two.toNat with | m::_=>nu s d' x.two.toNat m | []=>s) else ni s d' x.one.toNat (iW d' x)
def l9 (n:Nat) (l:List Int):Sc:=⟨cK n l,[],fun _ _=>false,fun _ _=>false⟩
def scD (n:Nat) (l:List Int) (acts:List Ac):Sc:=acts.foldl aY (l9 n l)
def iX (s:Sc):List (List Bool):=s.sent.map fun m=>s.sent.map fun o=>s.ahead m o
structure iQ (s:Sc):Prop where
 inv:Inv s.d
 rise:s.sent.Pairwise (fun a b=>a.fr=b.fr->a.st < b.st)
 own:∀ m,m∈s.sent->(0<=m.fr/\m.fr < s.d.nodes.length)/\m.st<=aD s.d m.fr.toNat
 wired:∀ f t m,m∈au s.d f t->m∈s.sent
 Bq:∀ k y,s.past k y=true->y∈s.sent/\y.st<=aD s.d k
 qj:∀ a y,s.ahead a y=true->a∈s.sent/\y∈s.sent/\y.st < a.st
 trans:∀ a b c,s.ahead a b=true->s.ahead b c=true->s.ahead a c=true
 GK:∀ k b c,s.past k b=true->s.ahead b c=true->s.past k c=true
 mine:∀ m (k:Nat),m∈s.sent->m.fr=k->s.past k m=true
 same:∀ (i j:Nat) a b,s.sent[i]? = some a->s.sent[j]? = some b->a.fr=b.fr->j < i->s.ahead a b=true
theorem GL {s:Sc} {d':Wd} {f t:Nat} {m:Mg} (I:iQ s) (hI:Inv d') (G:Grow s.d d') (M:Moved s.d d' f t m):iQ (nu s d' t m):=by
 have hm:m∈s.sent:=I.wired f t m (by rw [M.first];simp)
 have P:∀ k y,(nu s d' t m).past k y=true↔s.past k y=true\/(k=t/\(s.ahead m y=true\/y=m)):=by
  intro k y
  unfold nu
  simp only [Bool.or_eq_true,Bool.and_eq_true,decide_eq_true_eq,eZ]
 refine ⟨hI,I.rise,fun x hx=>?_,fun f' t' x hx=>?_,fun k y h=>?_,I.qj,I.trans,fun k b c h1 h2=>?_,fun x k hx e=>(P k x).2 (.inl (I.mine x k hx e)),I.same⟩
 ·obtain ⟨a,b⟩:=I.own x hx
  exact ⟨by show _/\_ < ((d'.nodes.length:Nat):Int);rw [G.alike.n];exact a,Int.le_trans b (G.clk _)⟩
 ·by_cases e:f'=f/\t'=t
  ·obtain ⟨rfl,rfl⟩:=e
   exact I.wired f' t' x (by rw [M.first];exact List.mem_cons_of_mem _ hx)
  ·exact I.wired f' t' x (by rw [<-M.wire f' t' e];exact hx)
 ·rcases (P k y).1 h with h | ⟨rfl,h | rfl⟩
  ·obtain ⟨a,b⟩:=I.Bq k y h
   exact ⟨a,Int.le_trans b (G.clk _)⟩
  ·obtain ⟨_,b,c⟩:=I.qj m y h
   have:=M.clk
   exact ⟨b,by show y.st<=aD d' k;omega⟩
  ·exact ⟨hm,M.clk⟩
 ·have h2':s.ahead b c=true:=h2
  rw [P]
  rcases (P k b).1 h1 with h | ⟨rfl,h | rfl⟩
  ·exact .inl (I.GK k b c h h2')
  ·exact .inr ⟨rfl,.inl (I.trans m b c h h2')⟩
  ·exact .inr ⟨rfl,.inl h2'⟩
theorem I6 {s:Sc} {d':Wd} {n:Nat} {m:Mg} (I:iQ s) (hI:Inv d') (G:Grow s.d d') (C:GA s.d d' n m):iQ (ni s d' n m):=by
 have EJ:m.fr.toNat=n:=by have:=C.mfr;omega
 have hst:=C.mst
 have fresh:∀ x,x∈s.sent->x.fr=m.fr->x.st < m.st:=by
  intro x hx e
  have:=(I.own x hx).2
  rw [e,EJ] at this;omega
 have hno:m∉s.sent:=fun h=>by have:=fresh m h rfl;omega
 have A:∀ a y,(ni s d' n m).ahead a y=true↔(a=m/\s.past n y=true)\/(a≠m/\s.ahead a y=true):=by
  intro a y
  unfold ni
  by_cases e:a=m
  ·subst e
   have:gD a a=true:=(eZ a a).2 rfl
   simp [this]
  ·have:¬ gD a m=true:=fun h=>e ((eZ a m).1 h)
   simp [this,e]
 have P:∀ k y,(ni s d' n m).past k y=true↔s.past k y=true\/(k=n/\y=m):=by
  intro k y
  unfold ni
  simp only [Bool.or_eq_true,Bool.and_eq_true,decide_eq_true_eq,eZ]
 have mem:∀ x,x∈(ni s d' n m).sent↔x∈s.sent\/x=m:=by intro x;unfold ni;simp
 have KE:aD d' n=m.st:=by rw [C.clk,if_pos rfl]
 refine ⟨hI, ?_,fun x hx=>?_,fun f t x hx=>?_,fun k y h=>?_,fun a y h=>?_,fun a b c h1 h2=>?_,fun k b c h1 h2=>?_,fun x k hx e=>?_,fun i j a b ha hb e hlt=>?_⟩
 ·show (s.sent++[m]).Pairwise _
  refine List.pairwise_append.2 ⟨I.rise,by simp,fun a ha b hb e=>?_⟩
  simp at hb;subst hb;exact fresh a ha e
 ·show (_/\_ < ((d'.nodes.length:Nat):Int))/\x.st<=aD d' _
  rw [G.alike.n]
  rcases (mem x).1 hx with hx | rfl
  ·obtain ⟨a,b⟩:=I.own x hx
   exact ⟨a,Int.le_trans b (G.clk _)⟩
  ·have:=C.lt
   rw [EJ,KE];have:=C.mfr
   exact ⟨by omega,Int.le_refl _⟩
 ·rw [mem]
  have hx':x∈au d' f t:=hx
  rw [C.wire] at hx'
  split at hx'
  ·rcases List.mem_append.1 hx' with h | h
   ·exact .inl (I.wired f t x h)
   ·simp at h;exact .inr h
  ·exact .inl (I.wired f t x hx')
 ·rw [mem]
  rcases (P k y).1 h with h | ⟨rfl,rfl⟩
  ·obtain ⟨a,b⟩:=I.Bq k y h
   exact ⟨.inl a,Int.le_trans b (G.clk _)⟩
  ·exact ⟨.inr rfl,by show y.st<=aD d' k;omega⟩
 ·rw [mem,mem]
  rcases (A a y).1 h with ⟨rfl,h'⟩ | ⟨_,h⟩
  ·obtain ⟨b,c⟩:=I.Bq n y h'
   exact ⟨.inr rfl,.inl b,by omega⟩
  ·obtain ⟨b,c,e⟩:=I.qj a y h
   exact ⟨.inl b,.inl c,e⟩
 ·rw [A]
  have hb:b≠m:=by
   rintro rfl
   rcases (A a b).1 h1 with ⟨_,h⟩ | ⟨_,h⟩
   ·exact hno (I.Bq n b h).1
   ·exact hno (I.qj a b h).2.1
  have h2':s.ahead b c=true:=by
   rcases (A b c).1 h2 with ⟨h,_⟩ | ⟨_,h⟩
   ·exact absurd h hb
   ·exact h
  rcases (A a b).1 h1 with ⟨rfl,h⟩ | ⟨e,h⟩
  ·exact .inl ⟨rfl,I.GK n b c h h2'⟩
  ·exact .inr ⟨e,I.trans a b c h h2'⟩
 ·rw [P]
  rcases (P k b).1 h1 with h | ⟨rfl,rfl⟩
  ·have hb:b≠m:=by rintro rfl;exact hno (I.Bq k b h).1
   rcases (A b c).1 h2 with ⟨e,_⟩ | ⟨_,h3⟩
   ·exact absurd e hb
   ·exact .inl (I.GK k b c h h3)
  ·rcases (A b c).1 h2 with ⟨_,h⟩ | ⟨e,_⟩
   ·exact .inl h
   ·exact absurd rfl e
 ·rw [P]
  rcases (mem x).1 hx with h | rfl
  ·exact .inl (I.mine x k h e)
  ·exact .inr ⟨by have:=C.mfr;omega,rfl⟩
 ·rw [A]
  have ha':(s.sent++[m])[i]? = some a:=ha
  have hb':(s.sent++[m])[j]? = some b:=hb
  have hi:i < (s.sent++[m]).length:=(zQ2.1 ha').1
  simp at hi
  have hj:j < s.sent.length:=by omega
  rw [List.getElem?_append_left hj] at hb'
  have mb:=List.mem_of_getElem? hb'
  by_cases c:i < s.sent.length
  ·rw [List.getElem?_append_left c] at ha'
   have ma:=List.mem_of_getElem? ha'
   exact .inr ⟨fun h=>hno (h ▸ ma),I.same i j a b ha' hb' e hlt⟩
  ·have:i=s.sent.length:=by omega
   subst this
   rw [List.getElem?_append_right (Nat.le_refl _)] at ha'
   simp at ha'
   subst ha'
   exact .inl ⟨rfl,I.mine b n mb (by rw [<-e,C.mfr])⟩
theorem yS {s:Sc} (x:Ac) (I:iQ s):iQ (aY s x):=by
 unfold aY
 by_cases h4:x.kind=4
 ·rw [if_pos h4];exact I
 ·rw [if_neg h4]
  cases h:doD s.d x with
  | error e=>exact I
  | ok d' =>
   have D:=F9 h
   have hI:=D.inv I.inv
   simp only
   by_cases h3:x.kind=3
   ·rw [if_pos h3]
    unfold doD at h
    rw [if_neg (by omega),if_neg (by omega),if_pos h3] at h
    obtain ⟨R,hf,ht,h⟩:=su h
    obtain ⟨m,M⟩:=moved R (f:=x.one.toNat) (t:=x.two.toNat) (by omega) (by omega) h
    rw [M.first]
    exact GL I hI D.grow M
   ·rw [if_neg h3]
    have key:∃ nul body,(nul=true->body.size=0)/\iq s.d x.one x.two nul body=.ok d'/\(iW d' x).nul=nul/\(iW d' x).body=body:=by
     unfold doD at h
     unfold iW
     by_cases h1:x.kind=1
     ·rw [if_pos h1] at h
      obtain ⟨R,h⟩:=iJ h
      exact ⟨false,x.body,fun h=>(by cases h),h,by simp;omega,by simp;intro h;omega⟩
     ·rw [if_neg h1] at h
      by_cases h2:x.kind=2
      ·rw [if_pos h2] at h
       obtain ⟨R,h⟩:=iJ h
       exact ⟨true,ByteArray.empty,fun _=>rfl,h,by simp [h2],by simp [h2]⟩
      ·rw [if_neg h2,if_neg h3,if_neg h4] at h;cases h
    obtain ⟨nul,body,hb,hc,e1,e2⟩:=key
    have C:=yT D.was hb hc
    have em:iW d' x=oH s.d x.one x.two nul body:=by
     have h1:=C.clk x.one.toNat
     rw [if_pos rfl] at h1
     unfold iW at e1 e2 ⊢
     unfold oH at h1 ⊢
     simp only at e1 e2 h1
     rw [e1,e2,h1]
    rw [em]
    exact I6 I hI D.grow C
theorem F4 {n:Nat} {l:List Int} (hc:dJ n l=0) (acts:List Ac):iQ (scD n l acts):=by
 obtain ⟨I0,c0⟩:=EN hc
 have h0:iQ (l9 n l):=by
  refine ⟨I0,by simp [l9],fun m hm=>(by cases hm),fun f t m hm=>?_,fun k y h=>(by cases h),fun a y h=>(by cases h),fun a b c h=>(by cases h),fun k b c h=>(by cases h),fun m k h=>(by cases h),fun i j a b h=>?_⟩
  ·have:au (cK n l) f t=[]:=by
    cases hw:au (cK n l) f t with
    | nil=>rfl
    | cons x r =>
     have:=(I0.wire f t x (by rw [hw];simp))
     have h1:=I0.right.mR f t x (by rw [hw];simp)
     have h2:=(lQ (lN.1 h1.1).1).2.2.1
     rw [c0] at this;omega
   have hm':m∈au (cK n l) f t:=hm
   rw [this] at hm';cases hm'
  ·simp [l9] at h
 unfold scD
 have:∀ (acts:List Ac) (s:Sc),iQ s->iQ (acts.foldl aY s):=by
  intro acts
  induction acts with
  | nil=>intro s h;exact h
  | cons x r ih=>intro s h;exact ih _ (yS x h)
 exact this acts _ h0
theorem EA {s:Sc} (I:iQ s) {i j:Nat} {a b:Mg} (ha:s.sent[i]? = some a) (hb:s.sent[j]? = some b) (hf:a.fr=b.fr):s.ahead a b=decide (j < i):=by
 by_cases c:j < i
 ·rw [I.same i j a b ha hb hf c];simp [c]
 ·have:¬ s.ahead a b=true:=by
   intro h
   have h1:=(I.qj a b h).2.2
   have hp:=List.pairwise_iff_getElem.1 I.rise
   obtain ⟨li,ei⟩:=zQ2.1 ha
   obtain ⟨lj,ej⟩:=zQ2.1 hb
   rcases Nat.lt_trichotomy i j with c2 | c2 | c2
   ·have:=hp i j li lj c2 (by rw [ei,ej];exact hf);rw [ei,ej] at this;omega
   ·subst c2;rw [ei] at ej;subst ej;omega
   ·omega
  simp [c]
  simpa using this
theorem Ez {s:Sc} (I:iQ s) (a:Mg):s.ahead a a=false:=by
 cases h:s.ahead a a
 ·rfl
 ·have:=(I.qj a a h).2.2;omega
end Go.Proofs.Ytiiifecfdkjmbaa.Pu
