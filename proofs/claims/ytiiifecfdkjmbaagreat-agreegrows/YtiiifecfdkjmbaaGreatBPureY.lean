/- What was told to whom, as plain data: in one order; no condition but what each row says. What comes of what, as plain data: nothing comes ahead of itself, what comes ahead has the lesser Stamp; no condition but that the groups are right. The document's own way to what comes of what, as plain data: it comes to the same. What comes ahead by way of others, as the document works it out at the end. What the whole promises, of worlds as plain data: told to all members once, and in the order in which it came. -/
import Derived.Test.YtiiifecfdkjmbaaGreatBPureW
namespace Go.Proofs.YtiiifecfdkjmbaaGreat.Pure
set_option maxRecDepth 8000
theorem FW {a b:Mg} (h:lessM a b=true):a≠b:=by
 rintro rfl;rw [kW] at h;cases h
theorem yw:∀ (l1 l2:List Mg),aJ l1=true→aJ l2=true→(∀ x,x∈l1↔x∈l2)→l1=l2
 | [],[],_,_,_=>rfl
 | [],b::r,_,_,h=>by have:=(h b).2 (by simp);cases this
 | a::r,[],_,_,h=>by have:=(h a).1 (by simp);cases this
 | a::r,b::s,h1,h2,h=>by
  obtain ⟨p1,p2⟩:=List.pairwise_cons.1 ((aW _).1 h1)
  obtain ⟨q1,q2⟩:=List.pairwise_cons.1 ((aW _).1 h2)
  have e:a=b:=by
   rcases List.mem_cons.1 ((h a).1 (by simp)) with e | h3
   ·exact e
   ·rcases List.mem_cons.1 ((h b).2 (by simp)) with e | h4
    ·exact e.symm
    ·have:=jw (q1 a h3) (p1 b h4)
     rw [kW] at this;cases this
  subst e
  congr 1
  refine yw r s ((aW _).2 p2) ((aW _).2 q2) fun x=>?_
  constructor
  ·intro hx
   rcases List.mem_cons.1 ((h x).1 (List.mem_cons_of_mem _ hx)) with e | h3
   ·exact absurd e.symm (FW (p1 x hx))
   ·exact h3
  ·intro hx
   rcases List.mem_cons.1 ((h x).2 (List.mem_cons_of_mem _ hx)) with e | h3
   ·exact absurd e.symm (FW (q1 x hx))
   ·exact h3
theorem wY {l:List Mg} (p:Mg→Bool) (h:aJ l=true):aJ (l.filter p)=true :=
 (aW _).2 (((aW _).1 h).sublist List.filter_sublist)
def mM (a b:List Mg):List Mg:=a.filter fun m=>b.any (bP m)
theorem CZ (a b:List Mg) (x:Mg):x∈mM a b↔x∈a∧x∈b:=by
 unfold mM
 rw [List.mem_filter,List.any_eq_true]
 refine and_congr Iff.rfl ⟨fun ⟨y,hy,e⟩=>?_,fun h=>⟨x,h,(eO x x).2 rfl⟩⟩
 rw [eO] at e;subst e;exact hy
theorem H7 {a b:List Mg} (ha:aJ a=true) (hb:aJ b=true):mM a b=mM b a :=
 yw _ _ (wY _ ha) (wY _ hb) fun x=>by rw [CZ,CZ];exact And.comm
def oN (m:Mg) (l:List Mg):Option Nat:=l.findIdx? (fun x=>bP x m)
def Im (out:List Mg) (m:Mg):Except Int (List Mg) :=
 if out.any (fun x=>bP x m) then .ok out
 else match out[aV m out]? with
  | some x=>if lessM m x then .ok (out.take (aV m out)++[m]++out.drop (aV m out)) else .error 1
  | none=>.ok (out.take (aV m out)++[m]++out.drop (aV m out))
def Ci (d:Wd):List Mg:=d.nodes.flatMap Nd.told
def qV (d:Wd):Except Int (List Mg):=(Ci d).foldlM Im []
theorem pR (d:Wd) (x:Mg):x∈Ci d↔∃ k,x∈aQ d k:=by
 unfold Ci aQ
 rw [List.mem_flatMap]
 constructor
 ·rintro ⟨nd,h1,h2⟩
  obtain ⟨k,hk⟩:=List.getElem?_of_mem h1
  exact ⟨k,by rw [hk];exact h2⟩
 ·rintro ⟨k,hk⟩
  cases h:d.nodes[k]? with
  | none=>rw [h] at hk;cases hk
  | some nd=>rw [h] at hk;exact ⟨nd,List.mem_of_getElem? h,hk⟩
theorem FY {l:List Mg} {m:Mg}:l.any (fun x=>bP x m)=true↔m∈l:=by
 rw [List.any_eq_true]
 exact ⟨fun ⟨y,hy,e⟩=>by rw [eO] at e;subst e;exact hy,fun h=>⟨m,h,(eO m m).2 rfl⟩⟩
theorem put_mem {m:Mg} {ms:List Mg} (x:Mg):x∈ms.take (aV m ms)++[m]++ms.drop (aV m ms)↔x=m∨x∈ms:=by
 have:x∈ms↔x∈ms.take (aV m ms)∨x∈ms.drop (aV m ms):=by
  rw [←List.mem_append,List.take_append_drop]
 rw [this]
 simp only [List.mem_append,List.mem_singleton]
 constructor
 ·rintro ((h | h) | h)
  ·exact .inr (.inl h)
  ·exact .inl h
  ·exact .inr (.inr h)
 ·rintro (h | h | h)
  ·exact .inl (.inr h)
  ·exact .inl (.inl h)
  ·exact .inr h
theorem C8 {m:Mg} {ms:List Mg} (h1:aJ ms=true) (h3:∀ x,ms[aV m ms]? = some x→lessM m x=true):aJ (ms.take (aV m ms)++[m]++ms.drop (aV m ms))=true:=by
 have hp:=(aW _).1 h1
 rw [aW,List.append_assoc]
 have ht:=List.take_append_drop (aV m ms) ms
 rw [←ht] at hp
 obtain ⟨p1,p2,p3⟩:=List.pairwise_append.1 hp
 have hd:∀ x∈ms.drop (aV m ms),lessM m x=true:=by
  intro x hx
  cases hdd:ms.drop (aV m ms) with
  | nil=>rw [hdd] at hx;simp at hx
  | cons y r =>
   have hy:ms[aV m ms]? = some y:=by
    have:=congrArg (·[0]?) hdd
    simpa using this
   have hmy:=h3 y hy
   rw [hdd] at hx p2
   rcases List.mem_cons.1 hx with rfl | hx
   ·exact hmy
   ·exact jw hmy ((List.pairwise_cons.1 p2).1 x hx)
 refine List.pairwise_append.2 ⟨p1,List.pairwise_append.2 ⟨by simp,p2,fun a ha b hb=>?_⟩,fun a ha b hb=>?_⟩
 ·simp at ha;subst ha;exact hd b hb
 ·rcases List.mem_append.1 hb with hb | hb
  ·simp at hb;subst hb;exact rY _ _ a ha
  ·exact p3 a ha b hb
theorem FZ {m:Mg}:∀ (ms:List Mg) (x:Mg),ms[aV m ms]? = some x→lessM x m=false
 | [],x,h=>by simp at h
 | y::r,x,h=>by
  unfold aV at h
  cases hl:lessM y m
  ·simp [hl] at h;subst h;exact hl
  ·simp [hl] at h;exact FZ r x h
theorem MP {out out':List Mg} {m:Mg} (hr:aJ out=true) (h:Im out m=.ok out'):aJ out'=true∧∀ x,x∈out'↔x∈out∨x=m:=by
 unfold Im at h
 by_cases ha:out.any (fun x=>bP x m)=true
 ·rw [if_pos ha] at h
  have:=Except.ok.inj h;subst this
  have hm:=FY.1 ha
  exact ⟨hr,fun x=>⟨fun h=>.inl h,fun h=>h.elim id fun e=>by rw [e];exact hm⟩⟩
 ·rw [if_neg ha] at h
  cases hx:out[aV m out]? with
  | none =>
   rw [hx] at h
   have:=Except.ok.inj h;subst this
   exact ⟨C8 hr fun x h=>(by rw [hx] at h;cases h),fun x=>by rw [put_mem];exact Or.comm⟩
  | some y =>
   rw [hx] at h
   cases hl:lessM m y
   ·simp [hl] at h
   ·simp only [hl,if_true] at h
    have:=Except.ok.inj h;subst this
    exact ⟨C8 hr fun x h=>(by rw [hx] at h;cases h;exact hl),fun x=>by rw [put_mem];exact Or.comm⟩
theorem Ol {out:List Mg} {m:Mg} {e:Int} (h:Im out m=.error e):e=1∧∃ y∈out,y≠m∧y.st=m.st∧y.fr=m.fr:=by
 unfold Im at h
 by_cases ha:out.any (fun x=>bP x m)=true
 ·rw [if_pos ha] at h;cases h
 ·rw [if_neg ha] at h
  cases hx:out[aV m out]? with
  | none=>rw [hx] at h;cases h
  | some y =>
   rw [hx] at h
   cases hl:lessM m y
   ·simp only [hl] at h
    have hy:=List.mem_of_getElem? hx
    refine ⟨by simpa using (Except.error.inj h).symm,y,hy, ?_, ?_⟩
    ·rintro rfl;exact ha (FY.2 hy)
    ·have h1:=FZ out y hx
     have n1:¬ lessM m y=true:=by simp [hl]
     have n2:¬ lessM y m=true:=by simp [h1]
     rw [kH] at n1 n2
     omega
   ·simp [hl] at h
theorem adds {l:List Mg}:∀ (l0 out:List Mg),aJ out=true→(∀ x,x∈out↔x∈l0)→(∀ out',l.foldlM Im out=.ok out'→aJ out'=true∧∀ x,x∈out'↔x∈l0∨x∈l)∧(∀ e,l.foldlM Im out=.error e→e=1∧∃ a b,(a∈l0∨a∈l)∧(b∈l0∨b∈l)∧a≠b∧a.st=b.st∧a.fr=b.fr):=by
 induction l with
 | nil =>
  intro l0 out hr hm
  refine ⟨fun out' h=>?_,fun e h=>by cases h⟩
  have:=Except.ok.inj h;subst this
  exact ⟨hr,fun x=>by simp [hm]⟩
 | cons m l ih =>
  intro l0 out hr hm
  simp only [List.foldlM_cons]
  refine ⟨fun out' h=>?_,fun e h=>?_⟩
  ·obtain ⟨o1,h1,h2⟩:=bind_ok h
   obtain ⟨r1,m1⟩:=MP hr h1
   obtain ⟨a,b⟩:=(ih (l0++[m]) o1 r1 (fun x=>by rw [m1,hm];simp)).1 out' h2
   exact ⟨a,fun x=>by rw [b];simp [or_assoc]⟩
  ·rcases dN h with h | ⟨o1,h1,h2⟩
   ·obtain ⟨e1,y,hy,h3,h4,h5⟩:=Ol h
    exact ⟨e1,y,m,.inl ((hm y).1 hy),.inr (by simp),h3,h4,h5⟩
   ·obtain ⟨r1,m1⟩:=MP hr h1
    obtain ⟨e1,a,b,ha,hb,h3⟩:=(ih (l0++[m]) o1 r1 (fun x=>by rw [m1,hm];simp)).2 e h2
    refine ⟨e1,a,b, ?_, ?_,h3⟩
    ·simpa [or_assoc] using ha
    ·simpa [or_assoc] using hb
theorem xQ {d:Wd} {l:List Mg} (h:qV d=.ok l):aJ l=true∧∀ x,x∈l↔∃ k,x∈aQ d k:=by
 obtain ⟨a,b⟩:=(adds (l:=Ci d) [] [] rfl (fun x=>Iff.rfl)).1 l h
 exact ⟨a,fun x=>by rw [b,←pR];simp⟩
theorem Dn {d:Wd} {e:Int} (h:qV d=.error e):e=1∧∃ a b,(∃ k,a∈aQ d k)∧(∃ k,b∈aQ d k)∧a≠b∧a.st=b.st∧a.fr=b.fr:=by
 obtain ⟨a,x,y,hx,hy,h3⟩:=(adds (l:=Ci d) [] [] rfl (fun x=>Iff.rfl)).2 e h
 refine ⟨a,x,y,(pR d x).1 ?_,(pR d y).1 ?_,h3⟩
 ·simpa using hx
 ·simpa using hy
theorem NH (d:Wd) (l:List Mg):qV d=.ok l↔aJ l=true∧∀ x,x∈l↔∃ k,x∈aQ d k:=by
 refine ⟨xQ,fun ⟨h1,h2⟩=>?_⟩
 cases h:qV d with
 | ok l' =>
  obtain ⟨h3,h4⟩:=xQ h
  rw [yw l' l h3 h1 fun x=>by rw [h2,h4]]
 | error e =>
  obtain ⟨_,a,b,ha,hb,hne,e1,e2⟩:=Dn h
  have ma:=(h2 a).2 ha
  have mb:=(h2 b).2 hb
  exfalso
  have hp:=(aW _).1 h1
  obtain ⟨i,hi⟩:=List.getElem?_of_mem ma
  obtain ⟨j,hj⟩:=List.getElem?_of_mem mb
  obtain ⟨li,hi'⟩:=List.getElem?_eq_some_iff.1 hi
  obtain ⟨lj,hj'⟩:=List.getElem?_eq_some_iff.1 hj
  rcases Nat.lt_trichotomy i j with c | c | c
  ·have:=List.pairwise_iff_getElem.1 hp i j li lj c
   rw [hi',hj',kH] at this;omega
  ·subst c;rw [hi'] at hj';exact hne hj'
  ·have:=List.pairwise_iff_getElem.1 hp j i lj li c
   rw [hi',hj',kH] at this;omega
theorem Jr {d:Wd} (I:Inv d):∃ l,qV d=.ok l:=by
 cases h:qV d with
 | ok l=>exact ⟨l,rfl⟩
 | error e =>
  obtain ⟨_,a,b,⟨i,ha⟩,⟨j,hb⟩,hne,e1,e2⟩:=Dn h
  exact absurd (I.uniq a b ⟨i,.inr (.inl ha)⟩ ⟨j,.inr (.inl hb)⟩ e1 e2) hne
def dY (l t:List Mg):Nat→Nat
 | 0=>0
 | k+1=>match l[k]?,t[dY l t k]? with
  | some a,some b=>if bP a b then dY l t k+1 else dY l t k
  | _,_=>dY l t k
theorem zV (l t:List Mg):∀ k,dY l t k≤t.length
 | 0=>Nat.zero_le _
 | k+1=>by
  have:=zV l t k
  unfold dY
  split
  ·next a b h1 h2 =>
   have:=(List.getElem?_eq_some_iff.1 h2).1
   split <;> omega
  ·exact this
theorem Oa {l t:List Mg} (hl:aJ l=true) (ht:aJ t=true) (hs:∀ x,x∈t→x∈l):dY l t l.length=t.length:=by
 have pl:=List.pairwise_iff_getElem.1 ((aW _).1 hl)
 have pt:=List.pairwise_iff_getElem.1 ((aW _).1 ht)
 have key:∀ k,k≤l.length→∀ x,x∈t.drop (dY l t k)→x∈l.drop k:=by
  intro k
  induction k with
  | zero=>intro _ x hx;simpa [dY] using hs x (by simpa [dY] using hx)
  | succ k ih =>
   intro hk x hx
   have ih':=ih (by omega)
   have hlk:l[k]? = some l[k]:=List.getElem?_eq_getElem (by omega)
   have hdk:l.drop k=l[k]::l.drop (k+1):=List.drop_eq_getElem_cons (by omega)
   have later:∀ y,y∈l.drop (k+1)→lessM l[k] y=true:=by
    intro y hy
    obtain ⟨j,hj⟩:=List.getElem?_of_mem hy
    rw [List.getElem?_drop] at hj
    obtain ⟨lj,ej⟩:=List.getElem?_eq_some_iff.1 hj
    rw [←ej];exact pl k (k+1+j) (by omega) lj (by omega)
   cases hb:t[dY l t k]? with
   | none =>
    have hge:t.length≤dY l t k:=List.getElem?_eq_none_iff.1 hb
    have e:dY l t (k+1)=dY l t k:=by
     show (match l[k]?,t[dY l t k]? with | some a,some b=>if bP a b then dY l t k+1 else dY l t k | _,_=>dY l t k)=_
     rw [hlk,hb]
    rw [e,List.drop_eq_nil_of_le hge] at hx;cases hx
   | some b =>
    obtain ⟨lb,eb⟩:=List.getElem?_eq_some_iff.1 hb
    have hdt:t.drop (dY l t k)=b::t.drop (dY l t k+1):=by rw [List.drop_eq_getElem_cons lb,eb]
    have MQ:∀ y,y∈t.drop (dY l t k+1)→lessM b y=true:=by
     intro y hy
     obtain ⟨j,hj⟩:=List.getElem?_of_mem hy
     rw [List.getElem?_drop] at hj
     obtain ⟨lj,ej⟩:=List.getElem?_eq_some_iff.1 hj
     rw [←ej,←eb];exact pt _ _ lb lj (by omega)
    by_cases hsame:bP l[k] b=true
    ·have e:dY l t (k+1)=dY l t k+1:=by
      show (match l[k]?,t[dY l t k]? with | some a,some b=>if bP a b then dY l t k+1 else dY l t k | _,_=>dY l t k)=_
      rw [hlk,hb];simp only [hsame,if_true]
     have eq:=(eO _ _).1 hsame
     rw [e] at hx
     have h1:=ih' x (by rw [hdt];exact List.mem_cons_of_mem _ hx)
     rw [hdk] at h1
     rcases List.mem_cons.1 h1 with h1 | h1
     ·have:=MQ x hx
      rw [←eq,h1] at this
      rw [kW] at this;cases this
     ·exact h1
    ·have e:dY l t (k+1)=dY l t k:=by
      show (match l[k]?,t[dY l t k]? with | some a,some b=>if bP a b then dY l t k+1 else dY l t k | _,_=>dY l t k)=_
      rw [hlk,hb];simp only [hsame];rfl
     rw [e] at hx
     have hbl:=ih' b (by rw [hdt];simp)
     rw [hdk] at hbl
     have Ry:b∈l.drop (k+1):=by
      rcases List.mem_cons.1 hbl with h | h
      ·exact absurd ((eO _ _).2 h.symm) hsame
      ·exact h
     rw [hdt] at hx
     rcases List.mem_cons.1 hx with rfl | hx
     ·exact Ry
     ·have h1:=ih' x (by rw [hdt];exact List.mem_cons_of_mem _ hx)
      rw [hdk] at h1
      rcases List.mem_cons.1 h1 with h1 | h1
      ·have a1:=MQ x hx
       have a2:=later b Ry
       rw [h1] at a1
       have:=jw a1 a2
       rw [kW] at this;cases this
      ·exact h1
 have h1:=key l.length (Nat.le_refl _)
 have h2:=zV l t l.length
 by_cases e:dY l t l.length=t.length
 ·exact e
 ·have hlt:dY l t l.length < t.length:=by omega
  have:=h1 t[dY l t l.length] (List.mem_of_getElem? (i:=0) (by rw [List.getElem?_drop];exact List.getElem?_eq_getElem hlt))
  simp at this
structure Sc where
 d:Wd
 sent:List Mg
 ahead:Mg→Mg→Bool
 past:Nat→Mg→Bool
structure U7 (s:Sc):Prop where
 inv:Inv s.d
 rise:s.sent.Pairwise (fun a b=>a.fr=b.fr→a.st < b.st)
 own:∀ m,m∈s.sent→(0≤m.fr∧m.fr < s.d.nodes.length)∧m.st≤aN s.d m.fr.toNat
 wired:∀ f t m,m∈ay s.d f t→m∈s.sent
 U8:∀ k y,s.past k y=true→y∈s.sent∧y.st≤aN s.d k
 TW:∀ a y,s.ahead a y=true→a∈s.sent∧y∈s.sent∧y.st < a.st
 trans:∀ a b c,s.ahead a b=true→s.ahead b c=true→s.ahead a c=true
 U9:∀ k b c,s.past k b=true→s.ahead b c=true→s.past k c=true
 mine:∀ m (k:Nat),m∈s.sent→m.fr=k→s.past k m=true
 same:∀ (i j:Nat) a b,s.sent[i]? = some a→s.sent[j]? = some b→a.fr=b.fr→j < i→s.ahead a b=true
structure Rc where
 d:Wd
 all:List Mg
 ahead:List (List Bool)
 known:List (List Bool)
def OQ (r:List Bool) (k:Nat):Bool:=r[k]?.getD false
structure Rel (r:Rc) (s:Sc):Prop where
 d:r.d=s.d
 all:r.all=s.sent
 ji:r.ahead.length=r.all.length
 Vg:r.known.length=r.d.nodes.length
 Vh:∀ (k:Nat) (row:List Bool),r.known[k]? = some row→row.length=r.all.length
 Vi:∀ (i:Nat) (row:List Bool),r.ahead[i]? = some row→row.length=i
 past:∀ (k:Nat) (row:List Bool),r.known[k]? = some row→∀ y,s.past k y=true↔∃ (j:Nat) (b:Mg),OQ row j=true∧r.all[j]? = some b∧(y=b∨s.ahead b y=true)
 ahd:∀ (i:Nat) (row:List Bool) (a:Mg),r.ahead[i]? = some row→r.all[i]? = some a→∀ y,s.ahead a y=true↔∃ (j:Nat) (b:Mg),OQ row j=true∧r.all[j]? = some b∧(y=b∨s.ahead b y=true)
def iW (m:Mg) (l:List Mg):Nat:=l.countP fun y=>bP y m
theorem KM {l:List Mg} {m:Mg} (h:aJ l=true):iW m l≤1∧(iW m l=1↔m∈l):=by
 induction l with
 | nil=>simp [iW]
 | cons a r ih =>
  obtain ⟨p1,p2⟩:=List.pairwise_cons.1 ((aW _).1 h)
  obtain ⟨i1,i2⟩:=ih ((aW _).2 p2)
  unfold iW at i1 i2 ⊢
  rw [List.countP_cons]
  by_cases e:bP a m=true
  ·have e':=(eO a m).1 e
   subst e'
   have hz:List.countP (fun y=>bP y a) r=0:=by
    rw [List.countP_eq_zero]
    intro y hy hs
    rw [eO] at hs
    subst hs
    have:=p1 y hy
    rw [kW] at this;cases this
   simp [hz,e]
  ·have e':a≠m:=fun h=>e ((eO a m).2 h)
   simp only [e]
   refine ⟨by simpa using i1, ?_⟩
   simp only [Bool.false_eq_true,if_false,Nat.add_zero,List.mem_cons]
   rw [i2]
   constructor
   ·exact .inr
   ·rintro (h | h)
    ·exact absurd h.symm e'
    ·exact h
theorem Mw {d x:Wd} {all:List Mg} (I:Inv d) (h:ig d=.ok x) (ha:qV x=.ok all) {m:Mg} (hm:m∈all) {n:Nat} (hn:n < d.nodes.length):iW m (aQ x n)≤1∧(iW m (aQ x n)=1↔hasB d.groups m.gr n=true):=by
 have C:=DN I.right h
 have Ix:=C.inv I
 obtain ⟨c1,c2⟩:=KM (m:=m) (C.right.rM n)
 refine ⟨c1,c2.trans ?_⟩
 obtain ⟨k,hk⟩:=((xQ ha).2 m).1 hm
 constructor
 ·intro h
  have:=(nP.1 (C.right.yP n m h).1).2
  rw [C.grow.alike.g] at this;exact this
 ·intro hb
  rcases Ix.all m n ⟨k,.inr (.inl hk)⟩ (C.right.yP k m hk).2 (by rw [C.grow.alike.n];exact hn) (by rw [C.grow.alike.g];exact hb) with h | h | ⟨_,h⟩
  ·exact h
  ·rw [C.held I n] at h;cases h
  ·rw [C.none] at h;cases h
end Go.Proofs.YtiiifecfdkjmbaaGreat.Pure
