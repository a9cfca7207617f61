/- Lemmas. -/
import Derived.Test.YtiiifecfdkjmbaaPureX
namespace Go.Proofs.Ytiiifecfdkjmbaa.Pu
set_option maxRecDepth 8000
def b1 (n:Int):List UInt8:=[UInt8.ofNat (n % 256).toNat]
def b3 (n:Int):List UInt8:=b1 (n / 65536)++(b1 (n / 256)++b1 n)
def qC (b:Bool):Int:=if b then 1 else 0
def jm (m:Mg):List UInt8:=b1 m.fr++(b1 m.gr++(b1 (qC m.nul)++(b1 m.body.size++(m.body.data.toList++b3 m.st))))
def bE (l:List Mg):List UInt8:=b1 l.length++l.flatMap jm
def dq9 (x:Nd):List UInt8:=b3 x.clock++(x.last.flatMap (fun r=>r.flatMap b3)++(bE x.held++bE x.told))
def bO (d:Wd):List UInt8:=b1 d.groups.length++(d.groups.flatMap b1++(b1 d.nodes.length++(d.nodes.flatMap dq9++d.wires.flatMap fun r=>r.flatMap bE)))
abbrev Ps (α:Type):=List UInt8->Option (α × List UInt8)
def dK {α β:Type} (o:Option (α × List UInt8)) (f:α->Ps β):Option (β × List UInt8):=match o with | none=>none | some (a,s)=>f a s
theorem ak {α β:Type} (a:α) (s:List UInt8) (f:α->Ps β):dK (some (a,s)) f=f a s:=rfl
theorem bq {α β:Type} {o:Option (α × List UInt8)} {f:α->Ps β} {y:β × List UInt8}:dK o f=some y↔∃ a s,o=some (a,s)/\f a s=some y:=by
 cases o with
 | none=>simp [dK]
 | some p =>
  obtain ⟨a,s⟩:=p
  exact ⟨fun h=>⟨a,s,rfl,h⟩,fun ⟨_,_,e,h⟩=>by cases e;exact h⟩
def kL (l:List UInt8):Int:=l.foldl (fun a b=>a*256+(b.toNat:Int)) 0
def ou (n:Nat):Ps (List UInt8):=fun s=>if n<=s.length then some (s.take n,s.drop n) else none
def dh (n:Nat):Ps Int:=fun s=>dK (ou n s) fun t s=>some (kL t,s)
def aD {α:Type} (p:Ps α):Nat->Ps (List α)
 | 0,s=>some ([],s)
 | k+1,s=>dK (p s) fun x s=>dK (aD p k s) fun xs s=>some (x::xs,s)
def lJ:Ps Bool:=fun s=>dK (dh 1 s) fun x s=>if x<=1 then some (x == 1,s) else none
def iR:Ps Mg:=fun s=>dK (dh 1 s) fun f s=>dK (dh 1 s) fun g s=>dK (lJ s) fun u s=>dK (dh 1 s) fun k s=>dK (ou k.toNat s) fun b s=>dK (dh 3 s) fun st s=>some (⟨f,g,st,u,⟨b.toArray⟩⟩,s)
def dS:Ps (List Mg):=fun s=>dK (dh 1 s) fun k s=>aD iR k.toNat s
def iA (g n:Nat):Ps Nd:=fun s=>dK (dh 3 s) fun c s=>dK (aD (aD (dh 3) n) g s) fun l s=>dK (dS s) fun h s=>dK (dS s) fun t s=>some (⟨c,l,h,t⟩,s)
def fT:Ps Wd:=fun s=>dK (dh 1 s) fun g s=>dK (aD (dh 1) g.toNat s) fun gs s=>dK (dh 1 s) fun n s=>dK (aD (iA g.toNat n.toNat) n.toNat s) fun ns s=>dK (aD (aD dS n.toNat) n.toNat s) fun ws s=>some (⟨gs,ns,ws⟩,s)
abbrev Es (α:Type):=List UInt8->α × List UInt8
def eList {α:Type} (e:Es α):Nat->Es (List α)
 | 0,s=>([],s)
 | k+1,s=>((e s).1::(eList e k (e s).2).1,(eList e k (e s).2).2)
def Agr {α:Type} (p:Ps α) (e:Es α):Prop:=∀ s x r,p s=some (x,r)->e s=(x,r)
theorem jG {n:Nat} {s t r:List UInt8}:ou n s=some (t,r)↔s=t++r/\t.length=n:=by
 unfold ou
 constructor
 ·intro h
  split at h
  ·cases h;rename_i hn;exact ⟨(List.take_append_drop n s).symm,by rw [List.length_take];omega⟩
  ·cases h
 ·rintro ⟨rfl,rfl⟩
  simp
theorem jH {n:Nat} {s r:List UInt8} {x:Int}:dh n s=some (x,r)↔∃ t,s=t++r/\t.length=n/\kL t=x:=by
 unfold dh
 rw [bq]
 constructor
 ·rintro ⟨t,s',h,e⟩;cases e;obtain ⟨h1,h2⟩:=jG.1 h;exact ⟨t,h1,h2,rfl⟩
 ·rintro ⟨t,h1,h2,rfl⟩;exact ⟨t,r,jG.2 ⟨h1,h2⟩,rfl⟩
theorem len1 {t:List UInt8} (h:t.length=1):∃ a,t=[a]:=by
 match t,h with
 | [a],_=>exact ⟨a,rfl⟩
theorem Ie {t:List UInt8} (h:t.length=3):∃ a b c,t=[a,b,c]:=by
 match t,h with
 | [a,b,c],_=>exact ⟨a,b,c,rfl⟩
theorem Ee (a:UInt8):kL [a]=(a.toNat:Int):=by simp [kL]
theorem FY (a b c:UInt8):kL [a,b,c]=((a.toNat:Int)*256+b.toNat)*256+c.toNat:=by simp [kL]
theorem Bv {α:Type} {p:Ps α} {e:Es α} (h:Agr p e):∀ n,Agr (aD p n) (eList e n)
 | 0,s,x,r,hs=>by cases hs;rfl
 | n+1,s,x,r,hs=>by
  obtain ⟨a,s1,h1,h2⟩:=bq.1 hs
  obtain ⟨l,s2,h3,h4⟩:=bq.1 h2
  cases h4
  unfold eList
  rw [h _ _ _ h1]
  simp only [Bv h n _ _ _ h3]
theorem nM {n:Nat} {s r:List UInt8} {x:Int} (h:dh n s=some (x,r)):0<=x:=by
 obtain ⟨t,-,-,rfl⟩:=jH.1 h
 have:∀ (t:List UInt8) (a:Int),0<=a->0<=t.foldl (fun a b=>a*256+(b.toNat:Int)) a:=by
  intro t
  induction t with
  | nil=>exact fun _ h=>h
  | cons b r ih=>intro a ha;exact ih _ (by show 0<=a*256+(b.toNat:Int);omega)
 exact this t 0 (by omega)
theorem mo {α:Type} {p:Ps α}:∀ {n:Nat} {s r:List UInt8} {l:List α},aD p n s=some (l,r)->l.length=n
 | 0,s,r,l,h=>by cases h;rfl
 | n+1,s,r,l,h=>by
  obtain ⟨a,s1,h1,h2⟩:=bq.1 h
  obtain ⟨l',s2,h3,h4⟩:=bq.1 h2
  cases h4
  simp [mo h3]
def Bck {α:Type} (p:Ps α) (f:α->List UInt8):Prop:=∀ s x r,p s=some (x,r)->s=f x++r
theorem zn (a:UInt8):b1 (a.toNat:Int)=[a]:=by
 have:=a.toNat_lt
 have e:((a.toNat:Int) % 256).toNat=a.toNat:=by omega
 unfold b1;rw [e];simp
theorem wh:Bck (dh 1) b1:=by
 intro s x r h
 obtain ⟨t,rfl,ht,rfl⟩:=jH.1 h
 obtain ⟨a,rfl⟩:=len1 ht
 rw [Ee,zn]
theorem yc (n m:Int) (h:n % 256=m % 256):b1 n=b1 m:=by unfold b1;rw [h]
theorem Ef:Bck (dh 3) b3:=by
 intro s x r h
 obtain ⟨t,rfl,ht,rfl⟩:=jH.1 h
 obtain ⟨a,b,c,rfl⟩:=Ie ht
 have ha:=a.toNat_lt
 have hb:=b.toNat_lt
 have hc:=c.toNat_lt
 rw [FY]
 have e1:b1 ((((a.toNat:Int)*256+b.toNat)*256+c.toNat) / 65536)=[a]:=(yc _ (a.toNat:Int) (by omega)).trans (zn a)
 have e2:b1 ((((a.toNat:Int)*256+b.toNat)*256+c.toNat) / 256)=[b]:=(yc _ (b.toNat:Int) (by omega)).trans (zn b)
 have e3:b1 (((a.toNat:Int)*256+b.toNat)*256+c.toNat)=[c]:=(yc _ (c.toNat:Int) (by omega)).trans (zn c)
 unfold b3
 rw [e1,e2,e3]
 rfl
theorem iT {α:Type} {p:Ps α} {f:α->List UInt8} (h:Bck p f):∀ n,Bck (aD p n) (fun l=>l.flatMap f)
 | 0,s,x,r,hs=>by cases hs;rfl
 | n+1,s,x,r,hs=>by
  obtain ⟨a,s1,h1,h2⟩:=bq.1 hs
  obtain ⟨l,s2,h3,h4⟩:=bq.1 h2
  cases h4
  rw [h _ _ _ h1,iT h n _ _ _ h3]
  simp
theorem Bw:Bck lJ (fun b=>b1 (qC b)):=by
 intro s x r h
 obtain ⟨v,s1,h1,h2⟩:=bq.1 h
 have h0:=nM h1
 split at h2
 ·cases h2
  rw [wh _ _ _ h1]
  congr 1
  unfold qC
  by_cases e:v=1
  ·subst e;rfl
  ·obtain rfl:v=0:=by omega
   rfl
 ·cases h2
theorem CX:Bck iR jm:=by
 intro s x r h
 obtain ⟨f,s1,h1,h⟩:=bq.1 h
 obtain ⟨g,s2,h2,h⟩:=bq.1 h
 obtain ⟨u,s3,h3,h⟩:=bq.1 h
 obtain ⟨k,s4,h4,h⟩:=bq.1 h
 obtain ⟨b,s5,h5,h⟩:=bq.1 h
 obtain ⟨st,s6,h6,h⟩:=bq.1 h
 cases h
 obtain ⟨e5,l5⟩:=jG.1 h5
 have hk:=nM h4
 have ek:((⟨b.toArray⟩:ByteArray).size:Int)=k:=by show (b.toArray.size:Int)=k;simp;omega
 unfold jm
 rw [ek,wh _ _ _ h1,wh _ _ _ h2,Bw _ _ _ h3,wh _ _ _ h4,e5,Ef _ _ _ h6]
 simp [List.append_assoc]
theorem qD:Bck dS bE:=by
 intro s x r h
 obtain ⟨k,s1,h1,h⟩:=bq.1 h
 have hk:=nM h1
 have hl:=mo h
 unfold bE
 rw [wh _ _ _ h1,iT CX _ _ _ _ h,hl,Int.toNat_of_nonneg hk,List.append_assoc]
theorem Bz (g n:Nat):Bck (iA g n) dq9:=by
 intro s x r h
 obtain ⟨c,s1,h1,h⟩:=bq.1 h
 obtain ⟨l,s2,h2,h⟩:=bq.1 h
 obtain ⟨hl,s3,h3,h⟩:=bq.1 h
 obtain ⟨t,s4,h4,h⟩:=bq.1 h
 cases h
 unfold dq9
 rw [Ef _ _ _ h1,iT (iT Ef n) g _ _ _ h2,qD _ _ _ h3,qD _ _ _ h4]
 simp [List.append_assoc]
theorem zW:Bck fT bO:=by
 intro s x r h
 obtain ⟨g,s1,h1,h⟩:=bq.1 h
 obtain ⟨gs,s2,h2,h⟩:=bq.1 h
 obtain ⟨n,s3,h3,h⟩:=bq.1 h
 obtain ⟨ns,s4,h4,h⟩:=bq.1 h
 obtain ⟨ws,s5,h5,h⟩:=bq.1 h
 cases h
 have hg:=nM h1
 have hn:=nM h3
 unfold bO
 rw [mo h2,mo h4,Int.toNat_of_nonneg hg,Int.toNat_of_nonneg hn]
 rw [wh _ _ _ h1,iT wh _ _ _ _ h2,wh _ _ _ h3,iT (Bz _ _) _ _ _ _ h4,iT (iT qD _) _ _ _ _ h5]
 simp [List.append_assoc]
def Fth {α:Type} (p:Ps α) (f:α->List UInt8) (C:α->Prop):Prop:=∀ x r,C x->p (f x++r)=some (x,r)
theorem wm:Fth (dh 1) b1 (fun x=>0<=x/\x < 256):=by
 intro x r h
 refine jH.2 ⟨b1 x,rfl,rfl, ?_⟩
 unfold b1
 rw [Ee]
 simp;omega
theorem Eh:Fth (dh 3) b3 (fun x=>0<=x/\x < 16777216):=by
 intro x r h
 refine jH.2 ⟨b3 x,rfl,rfl, ?_⟩
 show kL [_,_,_]=x
 rw [FY]
 simp;omega
theorem iU {α:Type} {p:Ps α} {f:α->List UInt8} {C:α->Prop} (h:Fth p f C):∀ (n:Nat),Fth (aD p n) (fun l=>l.flatMap f) (fun l=>l.length=n/\∀ x∈l,C x)
 | 0,x,r,hx=>by obtain rfl:=zQ6 hx.1;rfl
 | n+1,[],r,hx=>by cases hx.1
 | n+1,a::l,r,hx=>by
  have h1:=h a (l.flatMap f++r) (hx.2 a (by simp))
  have h2:=iU h n l r ⟨by simpa using hx.1,fun x hm=>hx.2 x (by simp [hm])⟩
  show aD p (n+1) ((a::l).flatMap f++r)=_
  rw [List.flatMap_cons,List.append_assoc]
  unfold aD
  rw [h1,ak,h2,ak]
theorem BA:Fth lJ (fun b=>b1 (qC b)) (fun _=>True):=by
 intro x r _
 unfold lJ
 rw [wm (qC x) r (by unfold qC;split <;> omega),ak]
 cases x <;> rfl
structure OkM (m:Mg):Prop where
 fr:0<=m.fr/\m.fr < 256
 gr:0<=m.gr/\m.gr < 256
 st:0<=m.st/\m.st < 16777216
 body:m.body.size < 256
theorem CY:Fth iR jm OkM:=by
 intro x r h
 unfold iR jm
 simp only [List.append_assoc]
 rw [wm _ _ h.fr,ak,wm _ _ h.gr,ak]
 have e3:=BA x.nul (b1 x.body.size++(x.body.data.toList++(b3 x.st++r))) trivial
 dsimp only at e3
 rw [e3,ak,wm _ _ (by have:=h.body;omega),ak]
 rw [show ou (x.body.size:Int).toNat (x.body.data.toList++(b3 x.st++r))=some (x.body.data.toList,b3 x.st++r) from jG.2 ⟨rfl,by rw [Int.toNat_natCast];rfl⟩,ak]
 rw [Eh _ _ h.st,ak]
theorem qE:Fth dS bE (fun l=>l.length < 256/\∀ m∈l,OkM m):=by
 intro x r h
 unfold dS bE
 rw [List.append_assoc,wm _ _ (by have:=h.1;omega),ak]
 exact iU CY _ x r ⟨by rw [Int.toNat_natCast],h.2⟩
structure OkN (g n:Nat) (x:Nd):Prop where
 clk:0<=x.clock/\x.clock < 16777216
 last:x.last.length=g/\∀ r∈x.last,r.length=n/\∀ v∈r,0<=v/\v < 16777216
 held:x.held.length < 256/\∀ m∈x.held,OkM m
 told:x.told.length < 256/\∀ m∈x.told,OkM m
theorem BD (g n:Nat):Fth (iA g n) dq9 (OkN g n):=by
 intro x r h
 unfold iA dq9
 simp only [List.append_assoc]
 rw [Eh _ _ h.clk,ak]
 have e:=iU (iU Eh n) g x.last (bE x.held++(bE x.told++r)) h.last
 dsimp only at e
 rw [e,ak,qE _ _ h.held,ak,qE _ _ h.told,ak]
structure OkW (d:Wd):Prop where
 Ig:d.groups.length < 256
 gs:∀ x∈d.groups,0<=x/\x < 256
 Ih:d.nodes.length < 256
 ns:∀ x∈d.nodes,OkN d.groups.length d.nodes.length x
 ws:d.wires.length=d.nodes.length/\∀ r∈d.wires,r.length=d.nodes.length/\∀ l∈r,l.length < 256/\∀ m∈l,OkM m
theorem sj:Fth fT bO OkW:=by
 intro x r h
 unfold fT bO
 simp only [List.append_assoc]
 rw [wm _ _ (by have:=h.Ig;omega),ak]
 have e2:=iU wm x.groups.length x.groups (b1 x.nodes.length++(x.nodes.flatMap dq9++(x.wires.flatMap (fun r=>r.flatMap bE)++r))) ⟨rfl,h.gs⟩
 dsimp only at e2
 rw [Int.toNat_natCast,e2,ak,wm _ _ (by have:=h.Ih;omega),ak,Int.toNat_natCast]
 have e4:=iU (BD x.groups.length x.nodes.length) x.nodes.length x.nodes (x.wires.flatMap (fun r=>r.flatMap bE)++r) ⟨rfl,h.ns⟩
 dsimp only at e4
 rw [e4,ak]
 have e5:=iU (iU qE x.nodes.length) x.nodes.length x.wires r h.ws
 dsimp only at e5
 rw [e5,ak]
theorem yg {d:Wd} {n:Int} {m:Mg} (hc:bP d.nodes.length d.groups=0) (h:gQ d n m=true):OkM m:=by
 obtain ⟨h1,h2,h3,h4⟩:=j6 hc
 unfold gQ at h
 rw [Bool.and_eq_true,decide_eq_true_eq] at h
 have hm:=h.1
 unfold eB at hm
 rw [if_neg (by simpa using hc)] at hm
 by_cases h0:inB m.fr 0 ((d.nodes.length:Int) - 1)=true/\inB m.gr 0 ((d.groups.length:Int) - 1)=true/\inB m.st 1 1048576=true
 ·rw [if_neg (by simpa using h0)] at hm
  obtain ⟨a,b,c⟩:=h0
  simp only [inB,decide_eq_true_eq] at a b c
  have hb:mH m=false:=by
   by_cases hs:hasB d.groups m.gr m.fr=false
   ·rw [if_pos hs] at hm;cases hm
   ·rw [if_neg hs] at hm
    cases hb:mH m
    ·rfl
    ·rw [hb] at hm;cases hm
  unfold mH at hb
  rw [Bool.or_eq_false_iff,decide_eq_false_iff_not] at hb
  exact ⟨by omega,by omega,by omega,by omega⟩
 ·rw [if_pos h0] at hm;cases hm
theorem xO {d:Wd} (h:Right d):OkW d:=by
 obtain ⟨h1,h2,h3,h4⟩:=j6 h.chk
 refine ⟨by omega,fun x hx=>?_,by omega,fun x hx=>?_,h.vX,fun r hr=>?_⟩
 ·have hc:=h.chk
  unfold bP at hc
  rw [if_neg (by omega),if_neg (by omega)] at hc
  have hw:¬ gH d.nodes.length x=true:=fun hw=>by
   rw [if_pos (List.any_eq_true.2 ⟨x,hx,hw⟩)] at hc;cases hc
  unfold gH at hw
  simp only [Bool.or_eq_true,decide_eq_true_eq,bne_iff_ne,ne_eq,not_or,Int.not_le,Decidable.not_not,Int.toNat_natCast] at hw
  obtain ⟨hp,hz⟩:=hw
  obtain ⟨n,hn⟩:∃ n,d.nodes.length=n:=⟨_,rfl⟩
  rw [hn] at hz h1 h2
  have hn':n=1\/n=2\/n=3\/n=4:=by omega
  rcases hn' with rfl | rfl | rfl | rfl <;> simp at hz <;> omega
 ·obtain ⟨k,hk⟩:=List.getElem?_of_mem hx
  have ze:iZ d k=x.held:=by unfold iZ;rw [hk]
  have htold:jc d k=x.told:=by unfold jc;rw [hk]
  refine ⟨?_,⟨h.llen k x hk,fun r hr=>?_⟩,⟨?_,fun m hm=>?_⟩,⟨?_,fun m hm=>?_⟩⟩
  ·have:=h.clk k
   have e:jF d k=x.clock:=by unfold jF;rw [hk]
   rw [e] at this;omega
  ·obtain ⟨g,hg⟩:=List.getElem?_of_mem hr
   refine ⟨h.mZ k x g r hk hg,fun v hv=>?_⟩
   obtain ⟨i,hi⟩:=List.getElem?_of_mem hv
   have:=h.lst k g i
   have e:lI d k g i=v:=by unfold lI bT;simp [hk,hg,hi]
   rw [e] at this;omega
  ·have:=h.vY k;rw [ze] at this;omega
  ·exact yg h.chk (h.Br k m (by rw [ze];exact hm)).1
  ·have:=h.Bq k;rw [htold] at this;omega
  ·exact yg h.chk (h.Bt k m (by rw [htold];exact hm)).1
 ·obtain ⟨f,hf⟩:=List.getElem?_of_mem hr
  refine ⟨h.rlen f r hf,fun l hl=>?_⟩
  obtain ⟨t,ht⟩:=List.getElem?_of_mem hl
  have e:aG d f t=l:=by unfold aG;simp [hf,ht]
  refine ⟨by have:=h.vZ f t;rw [e] at this;omega,fun m hm=>yg h.chk (h.zm f t m (by rw [e];exact hm)).1⟩
def fU (b:List UInt8):Option Wd:=match fT b with
 | some (d,[])=>if aA d=0 then some d else none
 | _=>none
theorem oz {b:List UInt8} {d:Wd}:fU b=some d↔fT b=some (d,[])/\aA d=0:=by
 unfold fU
 cases h:fT b with
 | none=>simp
 | some p =>
  obtain ⟨d',r⟩:=p
  cases r with
  | nil =>
   by_cases hE:aA d'=0
   ·simp only [hE,if_true,Option.some.injEq,Prod.mk.injEq,and_true]
    exact ⟨fun e=>⟨e,e ▸ hE⟩,fun e=>e.1⟩
   ·simp only [hE,if_false,Option.some.injEq,Prod.mk.injEq,and_true]
    exact ⟨fun e=>(by cases e),fun ⟨e,k⟩=>absurd (e ▸ k) hE⟩
  | cons a r=>simp
theorem xR {b:List UInt8} {d:Wd} (h:fU b=some d):aA d=0/\bO d=b:=by
 obtain ⟨h1,h2⟩:=oz.1 h
 exact ⟨h2,by have:=zW _ _ _ h1;rw [List.append_nil] at this;exact this.symm⟩
theorem vE {d:Wd} (h:aA d=0):fU (bO d)=some d:=by
 refine oz.2 ⟨?_,h⟩
 have:=sj d [] (xO ((jr d).1 h))
 rwa [List.append_nil] at this
end Go.Proofs.Ytiiifecfdkjmbaa.Pu
