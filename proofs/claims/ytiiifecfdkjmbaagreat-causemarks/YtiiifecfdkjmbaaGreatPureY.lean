/- Lemmas. -/
import Derived.Test.YtiiifecfdkjmbaaGreatPureW
namespace Go.Proofs.YtiiifecfdkjmbaaGreat.Pu
set_option maxRecDepth 8000
structure Sc where
 d:Wd
 sent:List Mg
 ahead:Mg->Mg->Bool
 past:Nat->Mg->Bool
def eB (d':Wd) (x:Ac):Mg:=⟨x.one,x.two,aJ d' x.one.toNat,decide (x.kind=2),if x.kind=2 then ByteArray.empty else x.body⟩
def rQ (s:Sc) (d':Wd) (t:Nat) (m:Mg):Sc:={ s with d:=d',past:=fun k y=>s.past k y || (decide (k=t) && (s.ahead m y || eU y m)) }
def mq (s:Sc) (d':Wd) (n:Nat) (m:Mg):Sc:=⟨d',s.sent++[m],fun a y=>if eU a m then s.past n y else s.ahead a y,fun k y=>s.past k y || (decide (k=n) && eU y m)⟩
def bT (s:Sc) (x:Ac):Sc :=
 if x.kind=4 then s else
 match doD s.d x with
 | .error _=>s
 | .ok d'=>if x.kind=3 then (match aA s.d x.one.toNat x.two.toNat with | m::_=>rQ s d' x.two.toNat m | []=>s) else mq s d' x.one.toNat (eB d' x)
def mZ (n:Nat) (l:List Int):Sc:=⟨dw n l,[],fun _ _=>false,fun _ _=>false⟩
def scD (n:Nat) (l:List Int) (acts:List Ac):Sc:=acts.foldl bT (mZ n l)
def iU (s:Sc):List (List Bool):=s.sent.map fun m=>s.sent.map fun o=>s.ahead m o
structure jf (s:Sc):Prop where
 inv:Inv s.d
 rise:s.sent.Pairwise (fun a b=>a.fr=b.fr->a.st < b.st)
 own:∀ m,m∈s.sent->(0<=m.fr/\m.fr < s.d.nodes.length)/\m.st<=aJ s.d m.fr.toNat
 wired:∀ f t m,m∈aA s.d f t->m∈s.sent
 Gd:∀ k y,s.past k y=true->y∈s.sent/\y.st<=aJ s.d k
 DY:∀ a y,s.ahead a y=true->a∈s.sent/\y∈s.sent/\y.st < a.st
 trans:∀ a b c,s.ahead a b=true->s.ahead b c=true->s.ahead a c=true
 Nk:∀ k b c,s.past k b=true->s.ahead b c=true->s.past k c=true
 mine:∀ m (k:Nat),m∈s.sent->m.fr=k->s.past k m=true
 same:∀ (i j:Nat) a b,s.sent[i]? = some a->s.sent[j]? = some b->a.fr=b.fr->j < i->s.ahead a b=true
theorem Nl {s:Sc} {d':Wd} {f t:Nat} {m:Mg} (I:jf s) (hI:Inv d') (G:Grow s.d d') (M:Moved s.d d' f t m):jf (rQ s d' t m):=by
 have hm:m∈s.sent:=I.wired f t m (by rw [M.first];simp)
 have P:∀ k y,(rQ s d' t m).past k y=true↔s.past k y=true\/(k=t/\(s.ahead m y=true\/y=m)):=by
  intro k y;unfold rQ;simp only [Bool.or_eq_true,Bool.and_eq_true,decide_eq_true_eq,dV]
 refine ⟨hI,I.rise,fun x hx=>?_,fun f' t' x hx=>?_,fun k y h=>?_,I.DY,I.trans,fun k b c h1 h2=>?_,fun x k hx e=>(P k x).2 (.inl (I.mine x k hx e)),I.same⟩
 ·obtain ⟨a,b⟩:=I.own x hx;exact ⟨by show _/\_ < ((d'.nodes.length:Nat):Int);rw [G.alike.n];exact a,Int.le_trans b (G.clk _)⟩
 ·by_cases e:f'=f/\t'=t
  ·obtain ⟨rfl,rfl⟩:=e
   exact I.wired f' t' x (by rw [M.first];exact List.mem_cons_of_mem _ hx)
  ·exact I.wired f' t' x (by rw [<-M.wire f' t' e];exact hx)
 ·rcases (P k y).1 h with h | ⟨rfl,h | rfl⟩
  ·obtain ⟨a,b⟩:=I.Gd k y h;exact ⟨a,Int.le_trans b (G.clk _)⟩
  ·obtain ⟨_,b,c⟩:=I.DY m y h;have:=M.clk;exact ⟨b,by show y.st<=aJ d' k;omega⟩
  ·exact ⟨hm,M.clk⟩
 ·have h2':s.ahead b c=true:=h2;rw [P];rcases (P k b).1 h1 with h | ⟨rfl,h | rfl⟩
  ·exact .inl (I.Nk k b c h h2')
  ·exact .inr ⟨rfl,.inl (I.trans m b c h h2')⟩
  ·exact .inr ⟨rfl,.inl h2'⟩
theorem Pb {s:Sc} {d':Wd} {n:Nat} {m:Mg} (I:jf s) (hI:Inv d') (G:Grow s.d d') (C:Ng s.d d' n m):jf (mq s d' n m):=by
 have K6:m.fr.toNat=n:=by have:=C.mfr;omega
 have hst:=C.mst
 have fresh:∀ x,x∈s.sent->x.fr=m.fr->x.st < m.st:=by
  intro x hx e;have:=(I.own x hx).2;rw [e,K6] at this;omega
 have hno:m∉s.sent:=fun h=>by have:=fresh m h rfl;omega
 have A:∀ a y,(mq s d' n m).ahead a y=true↔(a=m/\s.past n y=true)\/(a≠m/\s.ahead a y=true):=by
  intro a y;unfold mq;by_cases e:a=m
  ·subst e;have:eU a a=true:=(dV a a).2 rfl;simp [this]
  ·have:¬ eU a m=true:=fun h=>e ((dV a m).1 h);simp [this,e]
 have P:∀ k y,(mq s d' n m).past k y=true↔s.past k y=true\/(k=n/\y=m):=by
  intro k y;unfold mq;simp only [Bool.or_eq_true,Bool.and_eq_true,decide_eq_true_eq,dV]
 have mem:∀ x,x∈(mq s d' n m).sent↔x∈s.sent\/x=m:=by intro x;unfold mq;simp
 have DX:aJ d' n=m.st:=by rw [C.clk,if_pos rfl]
 refine ⟨hI, ?_,fun x hx=>?_,fun f t x hx=>?_,fun k y h=>?_,fun a y h=>?_,fun a b c h1 h2=>?_,fun k b c h1 h2=>?_,fun x k hx e=>?_,fun i j a b ha hb e hlt=>?_⟩
 ·show (s.sent++[m]).Pairwise _;refine List.pairwise_append.2 ⟨I.rise,by simp,fun a ha b hb e=>?_⟩;simp at hb;subst hb;exact fresh a ha e
 ·show (_/\_ < ((d'.nodes.length:Nat):Int))/\x.st<=aJ d' _;rw [G.alike.n];rcases (mem x).1 hx with hx | rfl
  ·obtain ⟨a,b⟩:=I.own x hx;exact ⟨a,Int.le_trans b (G.clk _)⟩
  ·have:=C.lt;rw [K6,DX];have:=C.mfr;exact ⟨by omega,Int.le_refl _⟩
 ·rw [mem];have hx':x∈aA d' f t:=hx;rw [C.wire] at hx';split at hx'
  ·rcases List.mem_append.1 hx' with h | h
   ·exact .inl (I.wired f t x h)
   ·simp at h;exact .inr h
  ·exact .inl (I.wired f t x hx')
 ·rw [mem];rcases (P k y).1 h with h | ⟨rfl,rfl⟩
  ·obtain ⟨a,b⟩:=I.Gd k y h;exact ⟨.inl a,Int.le_trans b (G.clk _)⟩
  ·exact ⟨.inr rfl,by show y.st<=aJ d' k;omega⟩
 ·rw [mem,mem];rcases (A a y).1 h with ⟨rfl,h'⟩ | ⟨_,h⟩
  ·obtain ⟨b,c⟩:=I.Gd n y h';exact ⟨.inr rfl,.inl b,by omega⟩
  ·obtain ⟨b,c,e⟩:=I.DY a y h;exact ⟨.inl b,.inl c,e⟩
 ·rw [A]
  have hb:b≠m:=by
   rintro rfl;rcases (A a b).1 h1 with ⟨_,h⟩ | ⟨_,h⟩
   ·exact hno (I.Gd n b h).1
   ·exact hno (I.DY a b h).2.1
  have h2':s.ahead b c=true:=by
   rcases (A b c).1 h2 with ⟨h,_⟩ | ⟨_,h⟩
   ·exact absurd h hb
   ·exact h
  rcases (A a b).1 h1 with ⟨rfl,h⟩ | ⟨e,h⟩
  ·exact .inl ⟨rfl,I.Nk n b c h h2'⟩
  ·exact .inr ⟨e,I.trans a b c h h2'⟩
 ·rw [P];rcases (P k b).1 h1 with h | ⟨rfl,rfl⟩
  ·have hb:b≠m:=by rintro rfl;exact hno (I.Gd k b h).1
   rcases (A b c).1 h2 with ⟨e,_⟩ | ⟨_,h3⟩
   ·exact absurd e hb
   ·exact .inl (I.Nk k b c h h3)
  ·rcases (A b c).1 h2 with ⟨_,h⟩ | ⟨e,_⟩
   ·exact .inl h
   ·exact absurd rfl e
 ·rw [P];rcases (mem x).1 hx with h | rfl
  ·exact .inl (I.mine x k h e)
  ·exact .inr ⟨by have:=C.mfr;omega,rfl⟩
 ·rw [A];have ha':(s.sent++[m])[i]? = some a:=ha;have hb':(s.sent++[m])[j]? = some b:=hb;have hi:i < (s.sent++[m]).length:=(zQ2.1 ha').1;simp at hi;have hj:j < s.sent.length:=by omega
  rw [List.getElem?_append_left hj] at hb';have mb:=List.mem_of_getElem? hb';by_cases c:i < s.sent.length
  ·rw [List.getElem?_append_left c] at ha';have ma:=List.mem_of_getElem? ha';exact .inr ⟨fun h=>hno (h ▸ ma),I.same i j a b ha' hb' e hlt⟩
  ·have:i=s.sent.length:=by omega
   subst this;rw [List.getElem?_append_right (Nat.le_refl _)] at ha';simp at ha';subst ha';exact .inl ⟨rfl,I.mine b n mb (by rw [<-e,C.mfr])⟩
theorem wM {s:Sc} (x:Ac) (I:jf s):jf (bT s x):=by
 unfold bT;by_cases h4:x.kind=4
 ·rw [if_pos h4];exact I
 ·rw [if_neg h4]
  cases h:doD s.d x with
  | error e=>exact I
  | ok d' =>
   have D:=JH h;have hI:=D.inv I.inv;simp only;by_cases h3:x.kind=3
   ·rw [if_pos h3];unfold doD at h;rw [if_neg (by omega),if_neg (by omega),if_pos h3] at h;obtain ⟨R,hf,ht,h⟩:=xW h;obtain ⟨m,M⟩:=moved R (f:=x.one.toNat) (t:=x.two.toNat) (by omega) (by omega) h
    rw [M.first]
    exact Nl I hI D.grow M
   ·rw [if_neg h3]
    have key:∃ nul body,(nul=true->body.size=0)/\fH s.d x.one x.two nul body=.ok d'/\(eB d' x).nul=nul/\(eB d' x).body=body:=by
     unfold doD at h;unfold eB;by_cases h1:x.kind=1
     ·rw [if_pos h1] at h;obtain ⟨R,h⟩:=jw h;exact ⟨false,x.body,fun h=>(by cases h),h,by simp;omega,by simp;intro h;omega⟩
     ·rw [if_neg h1] at h;by_cases h2:x.kind=2
      ·rw [if_pos h2] at h;obtain ⟨R,h⟩:=jw h;exact ⟨true,ByteArray.empty,fun _=>rfl,h,by simp [h2],by simp [h2]⟩
      ·rw [if_neg h2,if_neg h3,if_neg h4] at h;cases h
    obtain ⟨nul,body,hb,hc,e1,e2⟩:=key;have C:=Dp D.was hb hc
    have em:eB d' x=uG s.d x.one x.two nul body:=by
     have h1:=C.clk x.one.toNat;rw [if_pos rfl] at h1;unfold eB at e1 e2 ⊢;unfold uG at h1 ⊢;simp only at e1 e2 h1;rw [e1,e2,h1]
    rw [em];exact Pb I hI D.grow C
theorem zI {n:Nat} {l:List Int} (hc:dF n l=0) (acts:List Ac):jf (scD n l acts):=by
 obtain ⟨I0,c0⟩:=La hc
 have h0:jf (mZ n l):=by
  refine ⟨I0,by simp [mZ],fun m hm=>(by cases hm),fun f t m hm=>?_,fun k y h=>(by cases h),fun a y h=>(by cases h),fun a b c h=>(by cases h),fun k b c h=>(by cases h),fun m k h=>(by cases h),fun i j a b h=>?_⟩
  ·have:aA (dw n l) f t=[]:=by
    cases hw:aA (dw n l) f t with
    | nil=>rfl
    | cons x r =>
     have:=(I0.wire f t x (by rw [hw];simp));have h1:=I0.right.qA f t x (by rw [hw];simp);have h2:=(nH (nQ.1 h1.1).1).2.2.1;rw [c0] at this;omega
   have hm':m∈aA (dw n l) f t:=hm;rw [this] at hm';cases hm'
  ·simp [mZ] at h
 unfold scD
 have:∀ (acts:List Ac) (s:Sc),jf s->jf (acts.foldl bT s):=by
  intro acts
  induction acts with
  | nil=>intro s h;exact h
  | cons x r ih=>intro s h;exact ih _ (wM x h)
 exact this acts _ h0
structure Rc where
 d:Wd
 all:List Mg
 ahead:List (List Bool)
 known:List (List Bool)
def iM (all:List Mg) (m:Mg) (row:List Bool):List Bool:=List.zipWith (fun b a=>b || eU a m) row all
def jX (r:Rc) (x:Ac):Rc :=
 if x.kind=4 then r else
 match doD r.d x with
 | .error _=>r
 | .ok d'=>if x.kind=3 then (match aA r.d x.one.toNat x.two.toNat with | m::_=>{ r with d:=d',known:=r.known.set x.two.toNat (iM r.all m (r.known[x.two.toNat]?.getD [])) } | []=>r)
  else ⟨d',r.all++[eB d' x],r.ahead++[r.known[x.one.toNat]?.getD []],(List.range r.known.length).map fun n=>(r.known[n]?.getD [])++[decide (n=x.one.toNat)]⟩
def ny (n:Nat) (l:List Int):Rc:=⟨dw n l,[],[],List.replicate n []⟩
def rcD (n:Nat) (l:List Int) (acts:List Ac):Rc:=acts.foldl jX (ny n l)
def bM (r:List Bool) (k:Nat):Bool:=r[k]?.getD false
def gV (n:Nat) (row:List Bool):List Bool:=row++List.replicate (n - row.length) false
def uQ (a b:List Bool):List Bool:=List.zipWith (fun x y=>x || y) a b
def eO (rows:List (List Bool)) (row:List Bool):Nat->List Bool
 | 0=>row
 | j+1=>if bM (eO rows row j) j then uQ (eO rows row j) (rows[j]?.getD []) else eO rows row j
def jD (n:Nat) (rows:List (List Bool)) (row:List Bool):List (List Bool):=rows++[eO rows (gV n row) rows.length]
def closeAll (n:Nat) (rows:List (List Bool)):List (List Bool):=rows.foldl (jD n) []
structure Rel (r:Rc) (s:Sc):Prop where
 d:r.d=s.d
 all:r.all=s.sent
 Av:r.ahead.length=r.all.length
 IK:r.known.length=r.d.nodes.length
 eu:∀ (k:Nat) (row:List Bool),r.known[k]? = some row->row.length=r.all.length
 Gf:∀ (i:Nat) (row:List Bool),r.ahead[i]? = some row->row.length=i
 past:∀ (k:Nat) (row:List Bool),r.known[k]? = some row->∀ y,s.past k y=true↔∃ (j:Nat) (b:Mg),bM row j=true/\r.all[j]? = some b/\(y=b\/s.ahead b y=true)
 ahd:∀ (i:Nat) (row:List Bool) (a:Mg),r.ahead[i]? = some row->r.all[i]? = some a->∀ y,s.ahead a y=true↔∃ (j:Nat) (b:Mg),bM row j=true/\r.all[j]? = some b/\(y=b\/s.ahead b y=true)
theorem yx {r:List Bool} {k:Nat} (h:bM r k=true):k < r.length:=by
 unfold bM at h
 cases e:r[k]? with
 | none=>rw [e] at h;cases h
 | some b=>exact (zQ2.1 e).1
theorem nT (a b:List Bool) (k:Nat):bM (a++b) k=if k < a.length then bM a k else bM b (k - a.length):=by
 unfold bM;split
 ·next h=>rw [List.getElem?_append_left h]
 ·next h=>rw [List.getElem?_append_right (by omega)]
theorem Pd (n:Nat) (row:List Bool) (k:Nat):bM (gV n row) k=bM row k:=by
 unfold gV;rw [nT];split
 ·rfl
 ·next h =>
  have e1:bM row k=false:=by
   cases e:bM row k
   ·rfl
   ·exact absurd (yx e) h
  rw [e1];unfold bM
  cases e:(List.replicate (n - row.length) false)[k - row.length]? with
  | none=>rfl
  | some b=>exact (List.mem_replicate.1 (List.mem_of_getElem? e)).2
theorem Aw {n:Nat} {row:List Bool} (h:row.length<=n):(gV n row).length=n:=by
 unfold gV;simp;omega
theorem Rk {a b:List Bool} (h:a.length=b.length) (k:Nat):bM (uQ a b) k=(bM a k || bM b k):=by
 unfold bM uQ;rw [List.getElem?_zipWith];by_cases hk:k < a.length
 ·have e1:=zQ1 hk;have e2:b[k]? = some b[k]:=zQ1 (by omega);rw [e1,e2];rfl
 ·have e1:a[k]? = none:=List.getElem?_eq_none_iff.2 (by omega);have e2:b[k]? = none:=List.getElem?_eq_none_iff.2 (by omega);rw [e1,e2];rfl
theorem Ay {all:List Mg} {m:Mg} {row:List Bool} (h:row.length=all.length) (k:Nat):bM (iM all m row) k=true↔bM row k=true\/all[k]? = some m:=by
 unfold bM iM;rw [List.getElem?_zipWith];by_cases hk:k < row.length
 ·have e1:=zQ1 hk;have e2:all[k]? = some all[k]:=zQ1 (by omega);rw [e1,e2];simp [dV]
 ·have e1:row[k]? = none:=List.getElem?_eq_none_iff.2 (by omega);have e2:all[k]? = none:=List.getElem?_eq_none_iff.2 (by omega);rw [e1,e2];simp
theorem Gg {all:List Mg} {m:Mg} {row:List Bool} (h:row.length=all.length):(iM all m row).length=all.length:=by
 unfold iM;simp [h]
theorem Ld {n:Nat} {l:List Int}:Rel (ny n l) (mZ n l):=by
 refine ⟨rfl,rfl,rfl,by simp [ny,dw],fun k row h=>?_,fun i row h=>?_,fun k row h y=>?_,fun i row a h=>?_⟩
 ·have:=(List.mem_replicate.1 (List.mem_of_getElem? (by unfold ny at h;exact h))).2;rw [this];rfl
 ·simp [ny] at h
 ·constructor
  ·intro h;cases h
  ·rintro ⟨j,b,_,h2,_⟩;simp [ny] at h2
 ·simp [ny] at h
theorem Np {r:Rc} {s:Sc} (x:Ac) (I:jf s) (I':jf (bT s x)) (R:Rel r s):Rel (jX r x) (bT s x):=by
 unfold jX bT at *;by_cases h4:x.kind=4
 ·rw [if_pos h4,if_pos h4];exact R
 ·rw [if_neg h4] at *;rw [if_neg h4];rw [R.d]
  cases h:doD s.d x with
  | error e=>exact R
  | ok d' =>
   rw [h] at I';simp only at I' ⊢;have D:=JH h;have hN:d'.nodes.length=s.d.nodes.length:=D.grow.alike.n;by_cases h3:x.kind=3
   ·rw [if_pos h3] at *;rw [if_pos h3]
    cases hw:aA s.d x.one.toNat x.two.toNat with
    | nil=>simp only;exact R
    | cons m rest =>
     simp only
     have row0:∀ (k:Nat) (row:List Bool),(r.known.set x.two.toNat (iM r.all m (r.known[x.two.toNat]?.getD [])))[k]? = some row->(k=x.two.toNat/\∃ r0,r.known[k]? = some r0/\row=iM r.all m r0)\/(k≠x.two.toNat/\r.known[k]? = some row):=by
      intro k row hk;rw [List.getElem?_set] at hk;by_cases e:x.two.toNat=k
      ·subst e;simp only [if_true] at hk;split at hk
       ·next hl =>
        have e0:=zQ1 hl;rw [e0] at hk;exact .inl ⟨rfl,_,e0,by simpa using hk.symm⟩
       ·cases hk
      ·rw [if_neg e] at hk;exact .inr ⟨fun h=>e h.symm,hk⟩
     refine ⟨rfl,R.all,R.Av,by simp;rw [R.IK,R.d];exact hN.symm,fun k row hk=>?_,R.Gf,fun k row hk y=>?_,R.ahd⟩
     ·rcases row0 k row hk with ⟨_,r0,e1,e2⟩ | ⟨_,e1⟩
      ·rw [e2];exact Gg (R.eu k r0 e1)
      ·exact R.eu k row e1
     ·show (s.past k y || (decide (k=x.two.toNat) && (s.ahead m y || eU y m)))=true↔_;simp only [Bool.or_eq_true,Bool.and_eq_true,decide_eq_true_eq,dV];have hm:m∈s.sent:=I.wired x.one.toNat x.two.toNat m (by rw [hw];simp);rw [<-R.all] at hm;obtain ⟨i,hi⟩:=List.getElem?_of_mem hm;rcases row0 k row hk with ⟨e0,r0,e1,e2⟩ | ⟨e0,e1⟩
      ·rw [R.past k r0 e1 y,e2];constructor
       ·rintro (⟨j,b,h1,h2,h3⟩ | ⟨_,h3⟩)
        ·exact ⟨j,b,(Ay (R.eu k r0 e1) j).2 (.inl h1),h2,h3⟩
        ·exact ⟨i,m,(Ay (R.eu k r0 e1) i).2 (.inr hi),hi,h3.symm⟩
       ·rintro ⟨j,b,h1,h2,h3⟩;rcases (Ay (R.eu k r0 e1) j).1 h1 with h1 | h1
        ·exact .inl ⟨j,b,h1,h2,h3⟩
        ·have:b=m:=by
          have h2':r.all[j]? = some b:=h2;rw [h1] at h2';exact (Option.some.inj h2').symm
         subst this;exact .inr ⟨e0,h3.symm⟩
      ·rw [R.past k row e1 y];constructor
       ·rintro (h | ⟨h,_⟩)
        ·exact h
        ·exact absurd h e0
       ·exact .inl
   ·rw [if_neg h3] at *;rw [if_neg h3]
    have hno:∀ (j:Nat) (b:Mg),r.all[j]? = some b->b≠eB d' x:=by
     intro j b hb e;have hp:=I'.rise;have hp':(s.sent++[eB d' x]).Pairwise (fun a b=>a.fr=b.fr->a.st < b.st):=hp;have:=(List.pairwise_append.1 hp').2.2 b (by rw [<-R.all];exact List.mem_of_getElem? hb) (eB d' x) (by simp) (by rw [e]);rw [e] at this;omega
    have A:∀ a y,(mq s d' x.one.toNat (eB d' x)).ahead a y=true↔(a=eB d' x/\s.past x.one.toNat y=true)\/(a≠eB d' x/\s.ahead a y=true):=by
     intro a y;unfold mq;by_cases e:a=eB d' x
     ·subst e;have:eU (eB d' x) (eB d' x)=true:=(dV _ _).2 rfl;simp [this]
     ·have:¬ eU a (eB d' x)=true:=fun h=>e ((dV _ _).1 h);simp [this,e]
    have P:∀ k y,(mq s d' x.one.toNat (eB d' x)).past k y=true↔s.past k y=true\/(k=x.one.toNat/\y=eB d' x):=by
     intro k y;unfold mq;simp only [Bool.or_eq_true,Bool.and_eq_true,decide_eq_true_eq,dV]
    have hold:∀ b y,b≠eB d' x->((mq s d' x.one.toNat (eB d' x)).ahead b y=true↔s.ahead b y=true):=by
     intro b y hb;rw [A];simp [hb]
    have left:∀ (j:Nat) (b:Mg),(r.all++[eB d' x])[j]? = some b->(j < r.all.length/\r.all[j]? = some b)\/(j=r.all.length/\b=eB d' x):=by
     intro j b hb;by_cases c:j < r.all.length
     ·rw [List.getElem?_append_left c] at hb;exact .inl ⟨c,hb⟩
     ·have hlt:=(zQ2.1 hb).1;simp at hlt;have e:j=r.all.length:=by omega
      rw [e,List.getElem?_append_right (Nat.le_refl _)] at hb;simp at hb;exact .inr ⟨e,hb.symm⟩
    have eu:∀ (k:Nat) (row:List Bool),((List.range r.known.length).map fun n=>(r.known[n]?.getD [])++[decide (n=x.one.toNat)])[k]? = some row->∃ r0,r.known[k]? = some r0/\row=r0++[decide (k=x.one.toNat)]:=by
     intro k row hk;rw [List.getElem?_map] at hk
     cases e:(List.range r.known.length)[k]? with
     | none=>rw [e] at hk;cases hk
     | some k' =>
      obtain ⟨hl,e2⟩:=zQ2.1 e;simp at e2 hl;subst e2;rw [e] at hk;have e0:=zQ1 hl;refine ⟨_,e0, ?_⟩;simp only [Option.map_some,e0,Option.getD_some] at hk;exact (Option.some.inj hk).symm
    refine ⟨rfl,by show r.all++_=s.sent++_;rw [R.all],by simp [R.Av],by simp;rw [R.IK,R.d];exact hN.symm,fun k row hk=>?_,fun i row hi=>?_,fun k row hk y=>?_,fun i row a hi ha y=>?_⟩
    ·obtain ⟨r0,e1,e2⟩:=eu k row hk;rw [e2];simp [R.eu k r0 e1]
    ·by_cases c:i < r.ahead.length
     ·rw [List.getElem?_append_left c] at hi;exact R.Gf i row hi
     ·have hlt:=(zQ2.1 hi).1;simp at hlt;have e:i=r.ahead.length:=by omega
      rw [e,List.getElem?_append_right (Nat.le_refl _)] at hi;simp at hi;rw [e,R.Av]
      have hn0:x.one.toNat < r.known.length:=by
       have hm:=I'.own (eB d' x) (by show _∈s.sent++_;simp);have:(0<=x.one/\x.one < (d'.nodes.length:Nat)):=hm.1;rw [R.IK,R.d];omega
      have e0:=zQ1 hn0;rw [e0] at hi;simp at hi;rw [<-hi];exact R.eu _ _ e0
    ·obtain ⟨r0,e1,e2⟩:=eu k row hk;have hr0:=R.eu k r0 e1;rw [P,R.past k r0 e1 y,e2];constructor
     ·rintro (⟨j,b,h1,h2,h3⟩ | ⟨h1,h2⟩)
      ·refine ⟨j,b, ?_, ?_, ?_⟩
       ·rw [nT,if_pos (yx h1)];exact h1
       ·show (r.all++_)[j]? = _;rw [List.getElem?_append_left (zQ2.1 h2).1];exact h2
       ·rcases h3 with h3 | h3
        ·exact .inl h3
        ·exact .inr ((hold b y (hno j b h2)).2 h3)
      ·refine ⟨r.all.length,eB d' x, ?_, ?_,.inl h2⟩
       ·rw [nT,if_neg (by omega),hr0];simp [bM,h1]
       ·show (r.all++_)[_]? = _;rw [List.getElem?_append_right (Nat.le_refl _)];simp
     ·rintro ⟨j,b,h1,h2,h3⟩;rcases left j b h2 with ⟨c,h2⟩ | ⟨c,h5⟩
      ·refine .inl ⟨j,b, ?_,h2, ?_⟩
       ·rw [nT,if_pos (by omega)] at h1;exact h1
       ·rcases h3 with h3 | h3
        ·exact .inl h3
        ·exact .inr ((hold b y (hno j b h2)).1 h3)
      ·subst c h5;rw [nT,if_neg (by omega),hr0] at h1;simp [bM] at h1;rcases h3 with h3 | h3
       ·exact .inr ⟨h1,h3⟩
       ·rcases (A _ _).1 h3 with ⟨_,h4⟩ | ⟨h4,_⟩
        ·left
         rw [h1] at e1;exact (R.past _ r0 e1 y).1 h4
        ·exact absurd rfl h4
    ·have ha':(r.all++[eB d' x])[i]? = some a:=ha;rcases left i a ha' with ⟨c,h2⟩ | ⟨c,h2⟩
     ·have hi':r.ahead[i]? = some row:=by
       have hi0:(r.ahead++_)[i]? = some row:=hi
       rwa [List.getElem?_append_left (by rw [R.Av];exact c)] at hi0
      rw [hold a y (hno i a h2),R.ahd i row a hi' h2 y];constructor
      ·rintro ⟨j,b,h1,h2,h3⟩;refine ⟨j,b,h1, ?_, ?_⟩
       ·show (r.all++_)[j]? = _;rw [List.getElem?_append_left (zQ2.1 h2).1];exact h2
       ·rcases h3 with h3 | h3
        ·exact .inl h3
        ·exact .inr ((hold b y (hno j b h2)).2 h3)
      ·rintro ⟨j,b,h1,h2,h3⟩;have hjl:=yx h1;rw [R.Gf i row hi'] at hjl;rcases left j b h2 with ⟨_,h2⟩ | ⟨c2,_⟩
       ·refine ⟨j,b,h1,h2, ?_⟩;rcases h3 with h3 | h3
        ·exact .inl h3
        ·exact .inr ((hold b y (hno j b h2)).1 h3)
       ·omega
     ·subst c h2;have hi0:(r.ahead++[r.known[x.one.toNat]?.getD []])[r.all.length]? = some row:=hi;rw [List.getElem?_append_right (by rw [R.Av];exact Nat.le_refl _),R.Av] at hi0;simp at hi0
      have hn0:x.one.toNat < r.known.length:=by
       have hm:=I'.own (eB d' x) (by show _∈s.sent++_;simp);have:(0<=x.one/\x.one < (d'.nodes.length:Nat)):=hm.1;rw [R.IK,R.d];omega
      have e0:=zQ1 hn0;rw [e0] at hi0;simp at hi0;rw [hi0] at e0;have:(mq s d' x.one.toNat (eB d' x)).ahead (eB d' x) y=true↔s.past x.one.toNat y=true:=by rw [A];simp
      rw [this,R.past _ row e0 y];constructor
      ·rintro ⟨j,b,h1,h2,h3⟩;refine ⟨j,b,h1, ?_, ?_⟩
       ·show (r.all++_)[j]? = _;rw [List.getElem?_append_left (zQ2.1 h2).1];exact h2
       ·rcases h3 with h3 | h3
        ·exact .inl h3
        ·exact .inr ((hold b y (hno j b h2)).2 h3)
      ·rintro ⟨j,b,h1,h2,h3⟩;have hjl:=yx h1;rw [R.eu _ row e0] at hjl;rcases left j b h2 with ⟨_,h2⟩ | ⟨c2,_⟩
       ·refine ⟨j,b,h1,h2, ?_⟩;rcases h3 with h3 | h3
        ·exact .inl h3
        ·exact .inr ((hold b y (hno j b h2)).1 h3)
       ·omega
theorem Gh {n:Nat} {l:List Int} (hc:dF n l=0) (acts:List Ac):Rel (rcD n l acts) (scD n l acts):=by
 unfold rcD scD
 have:∀ (acts:List Ac) (r:Rc) (s:Sc),jf s->Rel r s->Rel (acts.foldl jX r) (acts.foldl bT s):=by
  intro acts
  induction acts with
  | nil=>intro r s _ h;exact h
  | cons x t ih=>intro r s I h;exact ih _ _ (wM x I) (Np x I (wM x I) h)
 exact this acts _ _ (zI hc []) Ld
theorem Gi {r:Rc} {s:Sc} (I:jf s) (R:Rel r s):∀ (i:Nat) (a:Mg),r.all[i]? = some a->∀ (j:Nat) (b:Mg),r.all[j]? = some b->s.ahead a b=true->j < i:=by
 intro i
 induction i using Nat.strongRecOn with
 | _ i ih =>
  intro a ha j b hb hab;have hil:=(zQ2.1 ha).1;obtain ⟨row,hrow⟩:∃ row,r.ahead[i]? = some row:=⟨_,zQ1 (by rw [R.Av];exact hil)⟩;obtain ⟨k,c,h1,h2,h3⟩:=(R.ahd i row a hrow ha b).1 hab;have hk:=yx h1;rw [R.Gf i row hrow] at hk;rcases h3 with rfl | h3
  ·have:j=k:=by
    have hp:=I.rise;rw [<-R.all] at hp;have hp':=List.pairwise_iff_getElem.1 hp;obtain ⟨lj,ej⟩:=zQ2.1 hb;obtain ⟨lk,ek⟩:=zQ2.1 h2;rcases Nat.lt_trichotomy j k with c | c | c
    ·have:=hp' j k lj lk c (by rw [ej,ek]);rw [ej,ek] at this;omega
    ·exact c
    ·have:=hp' k j lk lj c (by rw [ej,ek]);rw [ej,ek] at this;omega
   omega
  ·have:=ih k hk c h2 j b hb h3;omega
theorem nU {rows:List (List Bool)} {row:List Bool} (h:∀ (j:Nat) (r:List Bool),rows[j]? = some r->r.length=row.length):∀ j,j<=rows.length->(eO rows row j).length=row.length
 | 0,_=>rfl
 | j+1,hj=>by
  have ih:=nU h j (by omega);unfold eO;split
  ·have e:=zQ1 (show j < rows.length by omega);unfold uQ;rw [e];simp [ih,h j _ e]
  ·exact ih
theorem IL {r:Rc} {s:Sc} (I:jf s) (R:Rel r s) {i:Nat} {a:Mg} {row:List Bool} {rows:List (List Bool)} (hrow:r.ahead[i]? = some row)
  (hlen:rows.length=i) (hrl:∀ (j:Nat) (x:List Bool),rows[j]? = some x->x.length=r.all.length) (hr:∀ (j:Nat) (x:List Bool) (b:Mg),rows[j]? = some x->r.all[j]? = some b->∀ (k:Nat) (c:Mg),r.all[k]? = some c->bM x k=s.ahead b c) (ha:r.all[i]? = some a) :
  ∀ J,J<=i->∀ (k:Nat) (c:Mg),r.all[k]? = some c->(bM (eO rows (gV r.all.length row) J) k=true↔bM row k=true\/∃ (j:Nat) (b:Mg),j < J/\bM row j=true/\r.all[j]? = some b/\s.ahead b c=true):=by
 have hil:=(zQ2.1 ha).1;have hpl:(gV r.all.length row).length=r.all.length:=Aw (by rw [R.Gf i row hrow];omega);intro J
 induction J with
 | zero =>
  intro _ k c hc;show bM (gV _ row) k=true↔_;rw [Pd];constructor
  ·exact .inl
  ·rintro (h | ⟨j,b,h,_⟩)
   ·exact h
   ·omega
 | succ J ih =>
  intro hJ k c hc;have ih':=ih (by omega);obtain ⟨cJ,hcJ⟩:∃ cJ,r.all[J]? = some cJ:=⟨_,zQ1 (by omega)⟩
  have eJ:bM (eO rows (gV r.all.length row) J) J=true↔bM row J=true:=by
   rw [ih' J cJ hcJ];constructor
   ·rintro (h | ⟨j,b,hj,_,h2,h3⟩)
    ·exact h
    ·have:=Gi I R j b h2 J cJ hcJ h3;omega
   ·exact .inl
  obtain ⟨x,hx⟩:∃ x,rows[J]? = some x:=⟨_,zQ1 (by omega)⟩
  have hcl:(eO rows (gV r.all.length row) J).length=x.length:=by
   rw [nU (fun j y hy=>by rw [hpl];exact hrl j y hy) J (by omega),hpl,hrl J x hx]
  have step:bM (eO rows (gV r.all.length row) (J+1)) k=true↔bM (eO rows (gV r.all.length row) J) k=true\/(bM row J=true/\s.ahead cJ c=true):=by
   conv=>lhs;unfold eO
   by_cases hb:bM (eO rows (gV r.all.length row) J) J=true
   ·rw [if_pos hb,hx];show bM (uQ _ x) k=true↔_;rw [Rk hcl,Bool.or_eq_true,hr J x cJ hx hcJ k c hc];have:=eJ.1 hb;simp [this]
   ·rw [if_neg hb];have:¬ bM row J=true:=fun h=>hb (eJ.2 h);simp [this]
  rw [step,ih' k c hc];constructor
  ·rintro ((h | ⟨j,b,h1,h2⟩) | ⟨h1,h2⟩)
   ·exact .inl h
   ·exact .inr ⟨j,b,by omega,h2⟩
   ·exact .inr ⟨J,cJ,by omega,h1,hcJ,h2⟩
  ·rintro (h | ⟨j,b,h1,h2,h3,h4⟩)
   ·exact .inl (.inl h)
   ·by_cases e:j=J
    ·subst e;rw [hcJ] at h3;cases h3;exact .inr ⟨h2,h4⟩
    ·exact .inl (.inr ⟨j,b,by omega,h2,h3,h4⟩)
theorem Le {r:Rc} {s:Sc} (I:jf s) (R:Rel r s):closeAll r.all.length r.ahead=iU s:=by
 have key:∀ (l1 l2:List (List Bool)),r.ahead=l1++l2->∀ rows,rows.length=l1.length->(∀ (j:Nat) (x:List Bool),rows[j]? = some x->x.length=r.all.length)->(∀ (j:Nat) (x:List Bool) (b:Mg),rows[j]? = some x->r.all[j]? = some b->∀ (k:Nat) (c:Mg),r.all[k]? = some c->bM x k=s.ahead b c) ->
   (l2.foldl (jD r.all.length) rows).length=r.all.length/\(∀ (j:Nat) (x:List Bool),(l2.foldl (jD r.all.length) rows)[j]? = some x->x.length=r.all.length)/\(∀ (j:Nat) (x:List Bool) (b:Mg),(l2.foldl (jD r.all.length) rows)[j]? = some x->r.all[j]? = some b->∀ (k:Nat) (c:Mg),r.all[k]? = some c->bM x k=s.ahead b c):=by
  intro l1 l2
  induction l2 generalizing l1 with
  | nil =>
   intro h rows h1 h2 h3;refine ⟨?_,h2,h3⟩;rw [<-R.Av,h];simpa using h1
  | cons row l2 ih =>
   intro h rows h1 h2 h3;rw [List.foldl_cons];have hrow:r.ahead[l1.length]? = some row:=by rw [h,List.getElem?_append_right (Nat.le_refl _)];simp
   have hil:l1.length < r.all.length:=by rw [<-R.Av,h];simp
   obtain ⟨a,ha⟩:∃ a,r.all[l1.length]? = some a:=⟨_,zQ1 hil⟩;have hpl:(gV r.all.length row).length=r.all.length:=Aw (by rw [R.Gf _ row hrow];omega);have hcl:=nU (rows:=rows) (row:=gV r.all.length row) (fun j y hy=>by rw [hpl];exact h2 j y hy) rows.length (Nat.le_refl _);have bits:=IL I R hrow h1 h2 h3 ha rows.length (by omega)
   have get:∀ (j:Nat) (x:List Bool),(jD r.all.length rows row)[j]? = some x->(rows[j]? = some x)\/(j=rows.length/\x=eO rows (gV r.all.length row) rows.length):=by
    intro j x hx;unfold jD at hx;by_cases c:j < rows.length
    ·rw [List.getElem?_append_left c] at hx;exact .inl hx
    ·have hlt:=(zQ2.1 hx).1;simp at hlt;have e:j=rows.length:=by omega
     rw [e,List.getElem?_append_right (Nat.le_refl _)] at hx;simp at hx;exact .inr ⟨e,hx.symm⟩
   refine ih (l1++[row]) (by rw [h];simp) (jD r.all.length rows row) (by unfold jD;simp [h1]) (fun j x hx=>?_) (fun j x b hx hb k c hc=>?_)
   ·rcases get j x hx with h | ⟨_,h⟩
    ·exact h2 j x h
    ·rw [h,hcl,hpl]
   ·rcases get j x hx with h | ⟨e,h⟩
    ·exact h3 j x b h hb k c hc
    ·rw [e,h1,ha] at hb;cases hb;rw [h,Bool.eq_iff_iff,bits k c hc,R.ahd _ row a hrow ha c];constructor
     ·rintro (h | ⟨j,b,h1,h2,h3,h4⟩)
      ·exact ⟨k,c,h,hc,.inl rfl⟩
      ·exact ⟨j,b,h2,h3,.inr h4⟩
     ·rintro ⟨j,b,h4,h5,h6 | h6⟩
      ·subst h6
       left
       have:k=j:=by
        have hp:=I.rise;rw [<-R.all] at hp;have hp':=List.pairwise_iff_getElem.1 hp;obtain ⟨lj,ej⟩:=zQ2.1 hc;obtain ⟨lk,ek⟩:=zQ2.1 h5;rcases Nat.lt_trichotomy k j with c | c | c
        ·have:=hp' k j lj lk c (by rw [ej,ek]);rw [ej,ek] at this;omega
        ·exact c
        ·have:=hp' j k lk lj c (by rw [ej,ek]);rw [ej,ek] at this;omega
       rw [this];exact h4
      ·have hjl:=yx h4;rw [R.Gf _ row hrow] at hjl;exact .inr ⟨j,b,by omega,h4,h5,h6⟩
 obtain ⟨k1,k2,k3⟩:=key [] r.ahead rfl [] rfl (fun j x h=>by simp at h) (fun j x b h=>by simp at h);unfold closeAll;have hlen:(iU s).length=r.all.length:=by unfold iU;simp [R.all]
 refine List.ext_getElem? fun i=>?_;by_cases hi:i < r.all.length
 ·have e1:=zQ1 (show i < (r.ahead.foldl (jD r.all.length) []).length by rw [k1];exact hi);obtain ⟨a,ha⟩:∃ a,r.all[i]? = some a:=⟨_,zQ1 hi⟩;have ha':s.sent[i]? = some a:=by rw [<-R.all];exact ha
  rw [e1];have e2:(iU s)[i]? = some (s.sent.map fun o=>s.ahead a o):=by unfold iU;rw [List.getElem?_map,ha'];rfl
  rw [e2]
  congr 1
  refine List.ext_getElem? fun k=>?_;have l1:=k2 i _ e1;by_cases hk:k < r.all.length
  ·obtain ⟨c,hc⟩:∃ c,r.all[k]? = some c:=⟨_,zQ1 hk⟩;have hb:=k3 i _ a e1 ha k c hc;have e3:=zQ1 (show k < ((r.ahead.foldl (jD r.all.length) [])[i]'(by rw [k1];exact hi)).length by rw [l1];exact hk);unfold bM at hb;rw [e3] at hb;rw [e3];have hc':s.sent[k]? = some c:=by rw [<-R.all];exact hc
   rw [List.getElem?_map,hc'];simpa using hb
  ·rw [List.getElem?_eq_none_iff.2 (by rw [l1];omega),List.getElem?_eq_none_iff.2 (by rw [List.length_map,<-R.all];omega)]
 ·rw [List.getElem?_eq_none_iff.2 (by rw [k1];omega),List.getElem?_eq_none_iff.2 (by rw [hlen];omega)]
end Go.Proofs.YtiiifecfdkjmbaaGreat.Pu
