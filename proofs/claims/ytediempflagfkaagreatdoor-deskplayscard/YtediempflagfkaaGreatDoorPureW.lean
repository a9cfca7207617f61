/- Lemmas. -/
import Derived.Test.YtediempflagfkaaGreatDoorPureX
set_option linter.unusedVariables false
set_option linter.unusedSimpArgs false
set_option linter.unnecessarySimpa false
namespace Go.Proofs.YtediempflagfkaaGreatDoor.Pu
set_option maxRecDepth 8000
theorem GZ{d d':Wd}{k:Nat}(hg:d'.au=d.au)(hn:d'.ah.length=d.ah.length)(hk:k < d.ah.length)(hc:bB d k<=bB d' k)(hl:∀g i,eB d k g i<=eB d' k g i):dQ d k<=dQ d' k:=by
 rw[mO (by rw[hn];exact hk),hg,hn];obtain⟨h1,h2⟩:=(mO hk (dQ d k)).1 (Int.le_refl _);exact⟨by omega,fun g i a b c e=>by have:=h2 g i a b c e;have:=hl g i;omega⟩
theorem rz{d:Wd}{k:Nat}(hk:k < d.ah.length):dQ d k<=bB d k:=((mO hk (dQ d k)).1 (Int.le_refl _)).1
theorem JH{d:Wd}{k g i:Nat}(hk:k < d.ah.length)(hi:i < d.ah.length)(hn:i≠k)(h1:hasB d.au g k=true)(h2:hasB d.au g i=true):dQ d k<=eB d k g i:=((mO hk (dQ d k)).1 (Int.le_refl _)).2 g i hi hn h1 h2
theorem vo{d:Wd}{k:Nat}{m:Mg}(h:m∈aQ d k):k < d.ah.length:=by
 unfold aQ at h
 cases hx:d.ah[k]? with
 | none=>rw[hx]at h;simp at h
 | some x=>exact bT hx
theorem EP{d:Wd}{k:Nat}{m:Mg}(h:m∈bM d k):k < d.ah.length:=by
 unfold bM at h
 cases hx:d.ah[k]? with
 | none=>rw[hx]at h;simp at h
 | some x=>exact bT hx
theorem PU{d:Wd}(r:eF d){f t:Nat}{m:Mg}(h:m∈aJ d f t):f < d.ah.length/\t < d.ah.length:=by
 rcases jT d f t with e | ⟨row,l,h1,h2,e⟩
 ·rw[e]at h;simp at h
 ·have a:=(zQ2.1 h1).1;have b:=(zQ2.1 h2).1;rw[r.1]at a;rw[r.2 f row h1]at b;exact⟨a,b⟩
structure Rb (d:Wd) (n:Nat):Prop where
 right:aL d
 heard:∀k g i,eB d k g i<=bB d i
 wire:∀i k m,m∈aJ d i k->m.st<=bB d i/\∀g,eB d k g i < m.st
 aG:∀k m,m∈bM d k->m.st<=dQ d k
 held:∀k m,k≠n->m∈aQ d k->dQ d k < m.st
 sep:∀a b,a∈bM d n->b∈aQ d n->a.st < b.st
 seen:∀k m,m∈aQ d k->m.st<=bB d k/\∀i:Nat,m.fr=i->i≠k->m.st<=eB d k m.gr.toNat i
 own:∀m,In d m->m.st<=bB d m.fr.toNat
 uniq:∀m m',In d m->In d m'->m.st=m'.st->m.fr=m'.fr->m=m'
 all:∀m k,In d m->m.nul=false->k < d.ah.length->hasB d.au m.gr k=true->m∈bM d k\/m∈aQ d k\/(m.fr≠k/\m∈aJ d m.fr.toNat k)
theorem G5{d d':Wd}{n:Nat}(hn:n < d.ah.length)(I:Rb d n)(S:qU d d' n):Inv d':=by
 have F:∀k,k < d.ah.length->dQ d' k=dQ d k:=fun k hk=>yV S.alike.g S.alike.n hk (S.clk k) (S.lst k)
 have H:∀k m,m∈aQ d' k->m∈aQ d k:=by
  intro k m hm;by_cases h:k=n
  ·subst h;rw[S.held]at hm;exact(List.mem_filter.1 hm).1
  ·rwa[(S.other k h).1]at hm
 have T:∀k m,m∈bM d' k->m∈bM d k\/(m∈aQ d k/\m.st<=dQ d k):=by
  intro k m hm;by_cases h:k=n
  ·subst h;rw[S.aG]at hm;rcases List.mem_append.1 hm with hm | hm
   ·exact .inl hm
   ·obtain⟨a,b⟩:=List.mem_filter.1 hm;exact .inr ⟨a,by simpa using b⟩
  ·rw[(S.other k h).2]at hm;exact .inl hm
 have K:∀k m,m∈aQ d k->m∈bM d' k\/m∈aQ d' k:=by
  intro k m hm;by_cases h:k=n
  ·subst h;rw[S.aG,S.held];by_cases c:m.st<=dQ d k
   ·exact .inl (List.mem_append.2 (.inr (List.mem_filter.2 ⟨hm,by simpa using c⟩)))
   ·exact .inr (List.mem_filter.2 ⟨hm,by simpa using (by omega:dQ d k < m.st)⟩)
  ·rw[(S.other k h).1];exact .inr hm
 have K2:∀k m,m∈bM d k->m∈bM d' k:=by
  intro k m hm;by_cases h:k=n
  ·subst h;rw[S.aG];exact List.mem_append.2 (.inl hm)
  ·rw[(S.other k h).2];exact hm
 have hin:∀m,In d' m->In d m:=by
  rintro m ⟨k,h | h | ⟨f,h⟩⟩
  ·exact⟨k,.inl (H k m h)⟩
  ·rcases T k m h with h | ⟨h,_⟩
   ·exact⟨k,.inr (.inl h)⟩
   ·exact⟨k,.inl h⟩
  ·rw[S.wire]at h;exact⟨k,.inr (.inr ⟨f,h⟩)⟩
 refine⟨wD I.right S,fun k g i=>by rw[S.lst,S.clk];exact I.heard k g i,fun i k m hm=>?_,fun k m hm=>?_,fun k m hm=>?_,fun k m hm=>?_,fun m hm=>by rw[S.clk];exact I.own m (hin m hm),fun m m' h h'=>I.uniq m m' (hin m h) (hin m' h'),fun m k hm h0 hk hb=>?_⟩
 ·rw[S.wire]at hm;rw[S.clk];obtain⟨a,b⟩:=I.wire i k m hm;exact⟨a,fun g=>by rw[S.lst];exact b g⟩
 ·rcases T k m hm with h | ⟨h,h2⟩
  ·rw[F k (EP h)];exact I.aG k m h
  ·rw[F k (vo h)];exact h2
 ·have hk:=vo (H k m hm);rw[F k hk];by_cases h:k=n
  ·subst h;rw[S.held]at hm;simpa using (List.mem_filter.1 hm).2
  ·exact I.held k m h (H k m hm)
 ·obtain⟨a,b⟩:=I.seen k m (H k m hm);exact⟨by rw[S.clk];exact a,fun i e1 e2=>by rw[S.lst];exact b i e1 e2⟩
 ·rw[S.alike.n]at hk;rw[S.alike.g]at hb;rcases I.all m k (hin m hm) h0 hk hb with h | h | h
  ·exact .inl (K2 k m h)
  ·rcases K k m h with h | h
   ·exact .inl h
   ·exact .inr (.inl h)
  ·rw[S.wire];exact .inr (.inr h)
theorem MC{d d':Wd}{n:Nat}{m:Mg}(I:Inv d)(S:yh d d' n m):Rb d' n:=by
 have R:=I.right;have hst:=S.mst;have C:∀k,bB d k<=bB d' k:=fun k=>by rw[S.clk];split;(· subst k;omega);(· omega)
 have F:∀k,k < d.ah.length->dQ d k<=dQ d' k:=fun k hk=>GZ S.alike.g S.alike.n hk (C k) (fun g i=>by rw[S.lst];omega);have F2:∀k,k≠n->k < d.ah.length->dQ d' k=dQ d k:=fun k h hk=>yV S.alike.g S.alike.n hk (by rw[S.clk,if_neg h]) (S.lst k)
 have H:∀k x,x∈aQ d' k->(k=n/\x=m/\m.nul=false)\/x∈aQ d k:=by
  intro k x hx;by_cases h:k=n
  ·subst h;rcases S.held with ⟨_,e⟩ | ⟨e2,e0,e⟩
   ·rw[e]at hx;exact .inr hx
   ·rw[e,mU e0]at hx;rcases hx with rfl | hx
    ·exact .inl ⟨rfl,rfl,e2⟩
    ·exact .inr hx
  ·rw[S.other k h]at hx;exact .inr hx
 have H2:∀k x,x∈aQ d k->x∈aQ d' k:=by
  intro k x hx;by_cases h:k=n
  ·subst h;rcases S.held with ⟨_,e⟩ | ⟨e2,e0,e⟩
   ·rw[e];exact hx
   ·rw[e,mU e0];exact .inr hx
  ·rw[S.other k h];exact hx
 have W:∀f t x,x∈aJ d' f t->(f=n/\x=m/\t < d.ah.length/\t≠n)\/x∈aJ d f t:=by
  intro f t x hx;rw[S.wire]at hx;split at hx
  ·next g =>
   rcases List.mem_append.1 hx with hx | hx
   ·exact .inr hx
   ·simp at hx;exact .inl ⟨g.1,hx,g.2.1,g.2.2.1⟩
  ·exact .inr hx
 have W2:∀f t x,x∈aJ d f t->x∈aJ d' f t:=by
  intro f t x hx;rw[S.wire];split
  ·exact List.mem_append.2 (.inl hx)
  ·exact hx
 have hin:∀x,In d' x->x=m\/In d x:=by
  rintro x ⟨k,h | h | ⟨f,h⟩⟩
  ·rcases H k x h with ⟨_,h,_⟩ | h
   ·exact .inl h
   ·exact .inr ⟨k,.inl h⟩
  ·rw[S.aG]at h;exact .inr ⟨k,.inr (.inl h)⟩
  ·rcases W f k x h with ⟨_,h,_⟩ | h
   ·exact .inl h
   ·exact .inr ⟨k,.inr (.inr ⟨f,h⟩)⟩
 have Rc:m.fr.toNat=n:=by have:=S.mfr;omega
 have old:∀x,In d x->x.fr=m.fr->x.st < m.st:=by
  intro x hx e;have:=I.own x hx;rw[e,Rc]at this;omega
 refine⟨qp R S,fun k g i=>by rw[S.lst];have:=I.heard k g i;have:=C i;omega,fun i k x hx=>?_,fun k x hx=>?_,fun k x hk hx=>?_,fun a b ha hb=>?_,fun k x hx=>?_,fun x hx=>?_,fun x y hx hy e1 e2=>?_,fun x k hx h0 hk hb=>?_⟩
 ·rcases W i k x hx with ⟨rfl,rfl,_⟩ | h
  ·exact⟨by rw[S.clk,if_pos rfl];omega,fun g=>by rw[S.lst];have:=I.heard k g i;omega⟩
  ·obtain⟨a,b⟩:=I.wire i k x h;exact⟨by have:=C i;omega,fun g=>by rw[S.lst];exact b g⟩
 ·rw[S.aG]at hx;have:=I.aG k x hx;have:=F k (EP hx);omega
 ·rcases H k x hx with ⟨h,_⟩ | h
  ·exact absurd h hk
  ·rw[F2 k hk (vo h)];exact I.held k x h
 ·rw[S.aG]at ha;have h1:=I.aG n a ha;have h2:=rz S.lt;rcases H n b hb with ⟨_,rfl,_⟩ | h
  ·omega
  ·have:=I.held n b h;omega
 ·rcases H k x hx with ⟨rfl,rfl,_⟩ | h
  ·exact⟨by rw[S.clk,if_pos rfl];omega,fun i e1 e2=>absurd (by have:=S.mfr;omega) e2⟩
  ·obtain⟨a,b⟩:=I.seen k x h;exact⟨by have:=C k;omega,fun i e1 e2=>by rw[S.lst];exact b i e1 e2⟩
 ·rcases hin x hx with rfl | h
  ·rw[Rc,S.clk,if_pos rfl];omega
  ·have:=I.own x h;have:=C x.fr.toNat;omega
 ·rcases hin x hx with rfl | h <;> rcases hin y hy with rfl | h'
  ·rfl
  ·have:=old y h' e2.symm;omega
  ·have:=old x h e2;omega
  ·exact I.uniq x y h h' e1 e2
 ·rw[S.alike.n]at hk;rw[S.alike.g]at hb;rcases hin x hx with rfl | h
  ·by_cases e:k=n
   ·subst e;rcases S.held with ⟨e1,_⟩ | ⟨_,e0,e⟩
    ·rw[e1]at h0;cases h0
    ·exact .inr (.inl (by rw[e,mU e0];exact .inl rfl))
   ·refine .inr (.inr ⟨by have:=S.mfr;omega, ?_⟩);rw[Rc,S.wire,if_pos ⟨rfl,hk,e,hb⟩];simp
  ·rcases I.all x k h h0 hk hb with h | h | ⟨h1,h2⟩
   ·exact .inl (by rw[S.aG];exact h)
   ·exact .inr (.inl (H2 k x h))
   ·exact .inr (.inr ⟨h1,W2 _ _ _ h2⟩)
theorem ME{d d':Wd}{f t:Nat}{m:Mg}(I:Inv d)(S:yj d d' f t m):Rb d' t:=by
 have R:=I.right
 have hmem:m∈aJ d f t:=by rw[S.first];simp
 obtain⟨hf1,hf2⟩:=R.sK f t m hmem;obtain⟨hf3,hf4⟩:=qV.1 hf1;obtain⟨z1,z2,z3,z4⟩:=qW hf3;have hgr:((m.gr.toNat:Nat):Int)=m.gr:=by omega
 obtain⟨w1,w2⟩:=I.wire f t m hmem;have hft:f≠t:=by rintro rfl;rw[R.DU f]at hmem;cases hmem
 have C:∀k,bB d k<=bB d' k:=fun k=>by rw[S.clk];split;(· subst k;omega);(· omega)
 have L:∀k g i,eB d k g i<=eB d' k g i:=fun k g i=>by rw[S.lst];split <;> omega
 have F:∀k,k < d.ah.length->dQ d k<=dQ d' k:=fun k hk=>GZ S.alike.g S.alike.n hk (C k) (L k);have F2:∀k,k≠t->k < d.ah.length->dQ d' k=dQ d k:=fun k h hk=>yV S.alike.g S.alike.n hk (by rw[S.clk,if_neg h]) (fun g i=>by rw[S.lst,if_neg (fun c=>h c.1)])
 have H:∀k x,x∈aQ d' k->(k=t/\x=m/\m.nul=false)\/x∈aQ d k:=by
  intro k x hx;by_cases h:k=t
  ·subst h;rcases S.held with ⟨_,e⟩ | ⟨e2,e0,e⟩
   ·rw[e]at hx;exact .inr hx
   ·rw[e,mU e0]at hx;rcases hx with rfl | hx
    ·exact .inl ⟨rfl,rfl,e2⟩
    ·exact .inr hx
  ·rw[S.other k h]at hx;exact .inr hx
 have H2:∀k x,x∈aQ d k->x∈aQ d' k:=by
  intro k x hx;by_cases h:k=t
  ·subst h;rcases S.held with ⟨_,e⟩ | ⟨e2,e0,e⟩
   ·rw[e];exact hx
   ·rw[e,mU e0];exact .inr hx
  ·rw[S.other k h];exact hx
 have W:∀i k x,x∈aJ d' i k->x∈aJ d i k:=by
  intro i k x hx;by_cases h:i=f/\k=t
  ·obtain⟨rfl,rfl⟩:=h;rw[S.first];exact List.mem_cons_of_mem _ hx
  ·rwa[S.wire i k h]at hx
 have hin:∀x,In d' x->In d x:=by
  rintro x ⟨k,h | h | ⟨i,h⟩⟩
  ·rcases H k x h with ⟨_,rfl,_⟩ | h
   ·exact⟨t,.inr (.inr ⟨f,hmem⟩)⟩
   ·exact⟨k,.inl h⟩
  ·rw[S.aG]at h;exact⟨k,.inr (.inl h)⟩
  ·exact⟨k,.inr (.inr ⟨i,W i k x h⟩)⟩
 refine⟨qx R S,fun k g i=>?_,fun i k x hx=>?_,fun k x hx=>?_,fun k x hk hx=>?_,fun a b ha hb=>?_,fun k x hx=>?_,fun x hx=>?_,fun x y hx hy=>I.uniq x y (hin x hx) (hin y hy),fun x k hx h0 hk hb=>?_⟩
 ·have h1:=I.heard k g i;have h2:=C i;rw[S.lst];split
  ·next c=>obtain⟨rfl,rfl,rfl⟩:=c;omega
  ·omega
 ·have hx0:=W i k x hx;obtain⟨a,b⟩:=I.wire i k x hx0;refine⟨by have:=C i;omega,fun g=>?_⟩;rw[S.lst];split
  ·next c =>
   obtain⟨rfl,rfl,rfl⟩:=c;have hp:=(jU _).1 (R.Ba i k)
   rw[S.first]at hp
   have:=(List.pairwise_cons.1 hp).1 x hx;have:=b m.gr.toNat;omega
  ·exact b g
 ·rw[S.aG]at hx;have:=I.aG k x hx;have:=F k (EP hx);omega
 ·rcases H k x hx with ⟨h,_⟩ | h
  ·exact absurd h hk
  ·rw[F2 k hk (vo h)];exact I.held k x h
 ·rw[S.aG]at ha;have h1:=I.aG t a ha;rcases H t b hb with ⟨_,rfl,_⟩ | h
  ·have h2:=JH (g:=b.gr.toNat) S.tlt S.flt hft (by rw[hgr];exact hf4) (by rw[hgr,<-hf2];exact z4);have:=w2 b.gr.toNat;omega
  ·have:=I.held t b h;omega
 ·rcases H k x hx with ⟨rfl,rfl,_⟩ | h
  ·refine⟨by rw[S.clk,if_pos rfl];omega,fun i e1 e2=>?_⟩;have:i=f:=by omega
   subst this;rw[S.lst,if_pos ⟨rfl,rfl,rfl⟩];omega
  ·obtain⟨a,b⟩:=I.seen k x h;exact⟨by have:=C k;omega,fun i e1 e2=>by have:=b i e1 e2;have:=L k x.gr.toNat i;omega⟩
 ·have:=I.own x (hin x hx);have:=C x.fr.toNat;omega
 ·rw[S.alike.n]at hk;rw[S.alike.g]at hb;rcases I.all x k (hin x hx) h0 hk hb with h | h | ⟨h1,h2⟩
  ·exact .inl (by rw[S.aG];exact h)
  ·exact .inr (.inl (H2 k x h))
  ·by_cases e:x.fr.toNat=f/\k=t
   ·obtain⟨e1,rfl⟩:=e
    rw[e1,S.first]at h2
    rcases List.mem_cons.1 h2 with rfl | h2
    ·rcases S.held with ⟨e3,_⟩ | ⟨_,e0,e⟩
     ·rw[e3]at h0;cases h0
     ·exact .inr (.inl (by rw[e,mU e0];exact .inl rfl))
    ·exact .inr (.inr ⟨h1,by rw[e1];exact h2⟩)
   ·exact .inr (.inr ⟨h1,by rw[S.wire _ _ e];exact h2⟩)
structure Grow (d d':Wd):Prop where
 alike:Alike d d'
 clk:∀k,bB d k<=bB d' k
 lst:∀k g i,eB d k g i<=eB d' k g i
 aG:∀k,∃l,bM d' k=bM d k++l
theorem Grow.refl(d:Wd):Grow d d:=⟨Alike.refl d,fun _=>Int.le_refl _,fun _ _ _=>Int.le_refl _,fun _=>⟨[],by simp⟩⟩
theorem Grow.trans{a b c:Wd}(h:Grow a b)(k:Grow b c):Grow a c:=by
 refine⟨h.alike.trans k.alike,fun i=>Int.le_trans (h.clk i) (k.clk i),fun i g j=>Int.le_trans (h.lst i g j) (k.lst i g j),fun i=>?_⟩;obtain⟨l1,e1⟩:=h.aG i;obtain⟨l2,e2⟩:=k.aG i;exact⟨l1++l2,by rw[e2,e1,List.append_assoc]⟩
theorem DV{d d':Wd}{n:Nat}(S:qU d d' n):Grow d d':=by
 refine⟨S.alike,fun k=>by rw[S.clk];omega,fun k g i=>by rw[S.lst];omega,fun k=>?_⟩;by_cases h:k=n
 ·subst h;exact⟨_,S.aG⟩
 ·exact⟨[],by rw[(S.other k h).2];simp⟩
theorem MF{d d':Wd}{n:Nat}{m:Mg}(S:yh d d' n m):Grow d d':=by
 have:=S.mst;exact⟨S.alike,fun k=>by rw[S.clk];split;(· subst k;omega);(· omega),fun k g i=>by rw[S.lst];omega,fun k=>⟨[],by rw[S.aG];simp⟩⟩
theorem MG{d d':Wd}{f t:Nat}{m:Mg}(S:yj d d' f t m):Grow d d' :=
 ⟨S.alike,fun k=>by rw[S.clk];split;(· subst k;omega);(· omega),fun k g i=>by rw[S.lst];split <;> omega,fun k=>⟨[],by rw[S.aG];simp⟩⟩
theorem wF{d d':Wd}{n g:Int}{nul:Bool}{body:ByteArray}(R:aL d)(hb:nul=true->body.size=0)(h:dR d n g nul body=.ok d') :
  cK d n g body.size=0/\∃d3,yh d d3 n.toNat (Bb d n g nul body)/\aL d3/\qU d3 d' n.toNat:=by
 rw[G6]at h;by_cases hE:cK d n g body.size=0
 ·rw[if_pos hE]at h;obtain⟨d3,h1,h2⟩:=bind_ok h;obtain⟨p,h3,h4⟩:=bind_ok h2;have S:=Bc R hE hb h1;have R3:=qp R S;obtain⟨_,T,_⟩:=Bd (R3.tY _) h3;cases h4;exact⟨hE,d3,S,R3,T⟩
 ·rw[if_neg hE]at h;cases h
theorem rM{d d':Wd}{n g:Int}{nul:Bool}{body:ByteArray}(R:aL d)(hb:nul=true->body.size=0)(h:dR d n g nul body=.ok d'):aL d'/\Grow d d':=by
 obtain⟨_,d3,S,R3,T⟩:=wF R hb h;exact⟨wD R3 T,(MF S).trans (DV T)⟩
theorem G7{d d':Wd}{n g:Int}{nul:Bool}{body:ByteArray}(I:Inv d)(hb:nul=true->body.size=0)(h:dR d n g nul body=.ok d'):Inv d':=by
 obtain⟨_,d3,S,R3,T⟩:=wF I.right hb h;have hlt:n.toNat < d3.ah.length:=by rw[S.alike.n];exact S.lt
 exact G5 hlt (MC I S) T
theorem wG{d d':Wd}{f t:Nat}(R:aL d)(hf:f < d.ah.length)(ht:t < d.ah.length)(h:fI d f t=.ok d') :
  ∃d3 m,yj d d3 f t m/\aL d3/\qU d3 d' t:=by
 rw[G8]at h;obtain⟨d3,h1,h2⟩:=bind_ok h;obtain⟨p,h3,h4⟩:=bind_ok h2;obtain⟨m,S⟩:=Bf R hf ht h1;have R3:=qx R S;obtain⟨_,T,_⟩:=Bd (R3.tY _) h3;cases h4;exact⟨d3,m,S,R3,T⟩
theorem wm{d d':Wd}{f t:Nat}(R:aL d)(hf:f < d.ah.length)(ht:t < d.ah.length)(h:fI d f t=.ok d'):aL d'/\Grow d d':=by
 obtain⟨d3,m,S,R3,T⟩:=wG R hf ht h;exact⟨wD R3 T,(MG S).trans (DV T)⟩
theorem Bg{d d':Wd}{f t:Nat}(I:Inv d)(hf:f < d.ah.length)(ht:t < d.ah.length)(h:fI d f t=.ok d'):Inv d':=by
 obtain⟨d3,m,S,R3,T⟩:=wG I.right hf ht h;exact G5 (by rw[S.alike.n];exact ht) (ME I S) T
structure Moved (d d':Wd) (f t:Nat) (m:Mg):Prop where
 first:aJ d f t=m::aJ d' f t
 wire:∀f' t',¬ (f'=f/\t'=t)->aJ d' f' t'=aJ d f' t'
 clk:m.st<=bB d' t
 lst:m.st<=eB d' t m.gr.toNat f
 top:∀c,(∀k,bB d k<=c)->m.st<=c->∀k,bB d' k<=c
 held:m.nul=true->∀k x,x∈aQ d' k->x∈aQ d k
theorem moved{d d':Wd}{f t:Nat}(R:aL d)(hf:f < d.ah.length)(ht:t < d.ah.length)(h:fI d f t=.ok d'):∃m,Moved d d' f t m:=by
 obtain⟨d3,m,S,R3,T⟩:=wG R hf ht h
 refine⟨m,by rw[T.wire];exact S.first,fun f' t' h=>by rw[T.wire];exact S.wire f' t' h,by rw[T.clk,S.clk,if_pos rfl];omega,by rw[T.lst,S.lst,if_pos ⟨rfl,rfl,rfl⟩];omega,fun c hc hm k=>?_,fun hn k x hx=>?_⟩
 ·rw[T.clk,S.clk];have:=hc t;have:=hc k;split <;> omega
 ·have h3:x∈aQ d3 k:=by
   by_cases e:k=t
   ·subst e;rw[T.held]at hx;exact(List.mem_filter.1 hx).1
   ·rwa[(T.other k e).1]at hx
  by_cases e:k=t
  ·subst e;rcases S.held with ⟨_,e⟩ | ⟨e2,_,_⟩
   ·rwa[e]at h3
   ·rw[hn]at e2;cases e2
  ·rwa[S.other k e]at h3
structure Rf (d d':Wd) (n:Nat) (m:Mg):Prop where
 lt:n < d.ah.length
 mfr:m.fr=n
 mst:m.st=bB d n+1
 clk:∀k,bB d' k=if k=n then m.st else bB d k
 wire:∀f t,aJ d' f t=if ou d m n d.ah.length f t then aJ d f t++[m] else aJ d f t
 held:m.nul=true->∀k x,x∈aQ d' k->x∈aQ d k
theorem Oo{d d':Wd}{n g:Int}{nul:Bool}{body:ByteArray}(R:aL d)(hb:nul=true->body.size=0)(h:dR d n g nul body=.ok d'):Rf d d' n.toNat (Bb d n g nul body):=by
 obtain⟨_,d3,S,R3,T⟩:=wF R hb h;refine⟨S.lt,S.mfr,S.mst,fun k=>by rw[T.clk];exact S.clk k,fun f t=>by rw[T.wire];exact S.wire f t,fun hn k x hx=>?_⟩
 have h3:x∈aQ d3 k:=by
  by_cases e:k=n.toNat
  ·subst e;rw[T.held]at hx;exact(List.mem_filter.1 hx).1
  ·rwa[(T.other k e).1]at hx
 by_cases e:k=n.toNat
 ·subst e;rcases S.held with ⟨_,e⟩ | ⟨e2,_,_⟩
  ·rwa[e]at h3
  ·rw[hn]at e2;cases e2
 ·rwa[S.other k e]at h3
theorem Bh{α β:Type}(f:β->α->Except Int β)(P:List α->β->Prop)(hs:∀l b a b',P l b->f b a=.ok b'->P (l++[a]) b'):∀(l l0:List α) (b b':β),P l0 b->l.foldlM f b=.ok b'->P (l0++l) b'
 | [],l0,b,b',h0,h=>by
  have:b=b':=Except.ok.inj h;subst this;simpa using h0
 | a::l,l0,b,b',h0,h=>by
  rw[List.foldlM_cons]at h;obtain⟨b1,h1,h2⟩:=bind_ok h;have:=Bh f P hs l (l0++[a]) b1 b' (hs l0 b a b1 h0 h1) h2;simpa using this
theorem wH{α β:Type}(f:β->α->Except Int β)(P:List α->β->Prop)(hs:∀l b a b',P l b->f b a=.ok b'->P (l++[a]) b'):∀(l l0:List α) (b:β) (e:Int),P l0 b->l.foldlM f b=.error e->∃l1 a b',a∈l/\P (l0++l1) b'/\f b' a=.error e
 | [],l0,b,e,_,h=>by cases h
 | a::l,l0,b,e,h0,h=>by
  rw[List.foldlM_cons]at h;rcases lK h with h | ⟨b1,h1,h2⟩
  ·exact⟨[],a,b,by simp,by simpa using h0,h⟩
  ·obtain⟨l1,a',b',e1,e2,e3⟩:=wH f P hs l (l0++[a]) b1 e (hs l0 b a b1 h0 h1) h2;exact⟨a::l1,a',b',List.mem_cons_of_mem _ e1,by simpa using e2,e3⟩
def DW(d:Wd):Prop:=∀f t m,m∈aJ d f t->m.nul=true
def Sub(d d':Wd):Prop:=∀k x,x∈aQ d' k->x∈aQ d k
structure Moves (f t j:Nat) (d d':Wd):Prop where
 right:aL d'
 inv:Inv d->Inv d'
 grow:Grow d d'
 here:aJ d' f t=(aJ d f t).drop j
 wire:∀f' t',¬ (f'=f/\t'=t)->aJ d' f' t'=aJ d f' t'
 came:∀m,m∈(aJ d f t).take j->m.st<=bB d' t/\m.st<=eB d' t m.gr.toNat f
 top:Inv d->∀c,(∀k,bB d k<=c)->∀k,bB d' k<=c
 sub:DW d->Sub d d'
theorem tZ{f t:Nat}:∀(j:Nat) (d d':Wd),aL d->f < d.ah.length->t < d.ah.length->j<=(aJ d f t).length->eO f t j d=.ok d'->Moves f t j d d'
 | 0,d,d',R,hf,ht,hj,h=>by
  have:d=d':=Except.ok.inj h;subst this;exact⟨R,fun h=>h,Grow.refl d,by simp,fun _ _ _=>rfl,fun m hm=>by simp at hm,fun _ c hc=>hc,fun _ _ _ h=>h⟩
 | j+1,d,d',R,hf,ht,hj,h=>by
  unfold eO at h;obtain⟨d1,h1,h2⟩:=bind_ok h;obtain⟨m,M⟩:=moved R hf ht h1;obtain⟨R1,G1⟩:=wm R hf ht h1;have hf1:f < d1.ah.length:=by rw[G1.alike.n];exact hf
  have ht1:t < d1.ah.length:=by rw[G1.alike.n];exact ht
  have hl:j<=(aJ d1 f t).length:=by rw[M.first]at hj;simp at hj;omega
  have S:=tZ j d1 d' R1 hf1 ht1 hl h2;refine⟨S.right,fun I=>S.inv (Bg I hf ht h1),G1.trans S.grow, ?_,fun f' t' hn=>(S.wire f' t' hn).trans (M.wire f' t' hn),fun x hx=>?_,fun I c hc=>?_,fun hN k x hx=>?_⟩
  ·rw[M.first,List.drop_succ_cons];exact S.here
  ·rw[M.first,List.take_succ_cons]at hx
   rcases List.mem_cons.1 hx with rfl | hx
   ·have a:=S.grow.clk t;have b:=S.grow.lst t x.gr.toNat f;have c:=M.clk;have e:=M.lst;exact⟨by omega,by omega⟩
   ·exact S.came x hx
  ·have hm:=(I.wire f t m (by rw[M.first];simp)).1
   have:=hc f;exact S.top (Bg I hf ht h1) c (M.top c hc (by omega))
  ·refine M.held (hN f t m (by rw[M.first];simp)) k x (S.sub (fun f' t' y hy=>?_) k x hx)
   by_cases e:f'=f/\t'=t
   ·obtain⟨rfl,rfl⟩:=e;exact hN f' t' y (by rw[M.first];exact List.mem_cons_of_mem _ hy)
   ·rw[M.wire f' t' e]at hy;exact hN f' t' y hy
structure pI (d:Wd) (l:List (Nat × Nat)) (d':Wd):Prop where
 right:aL d'
 inv:Inv d->Inv d'
 grow:Grow d d'
 gone:∀f t,(f,t)∈l->aJ d' f t=[]
 wire:∀f t,(f,t)∉l->aJ d' f t=aJ d f t
 came:∀f t m,(f,t)∈l->m∈aJ d f t->m.st<=bB d' t/\m.st<=eB d' t m.gr.toNat f
 top:Inv d->∀c,(∀k,bB d k<=c)->∀k,bB d' k<=c
 sub:DW d->Sub d d'
theorem pI.null{d d':Wd}{l:List (Nat × Nat)}(h:pI d l d')(n:DW d):DW d':=by
 intro f t m hm;by_cases e:(f,t)∈l
 ·rw[h.gone f t e]at hm;cases hm
 ·rw[h.wire f t e]at hm;exact n f t m hm
theorem ER{d:Wd}{l:List (Nat × Nat)}{s s':Wd × Nat}{p:Nat × Nat}(hp:p.1 < d.ah.length/\p.2 < d.ah.length)(D:pI d l s.1)(h:dB s p=.ok s'):pI d (l++[p]) s'.1:=by
 obtain⟨f,t⟩:=p;simp only at hp;unfold dB pJ at h;obtain⟨r,h1,h2⟩:=bind_ok h;obtain⟨d2,h3,h4⟩:=bind_ok h1;cases h4;cases h2;have hf:f < s.1.ah.length:=by rw[D.grow.alike.n];exact hp.1
 have ht:t < s.1.ah.length:=by rw[D.grow.alike.n];exact hp.2
 have S:=tZ _ s.1 d2 D.right hf ht (Nat.le_refl _) h3;have Te:aJ d2 f t=[]:=by rw[S.here,List.drop_eq_nil_of_le (Nat.le_refl _)]
 refine⟨S.right,fun I=>S.inv (D.inv I),D.grow.trans S.grow,fun f' t' hm=>?_,fun f' t' hm=>?_,fun f' t' m hm hw=>?_,fun I c hc=>S.top (D.inv I) c (D.top I c hc),fun hN k x hx=>D.sub hN k x (S.sub (D.null hN) k x hx)⟩
 ·by_cases e:f'=f/\t'=t
  ·obtain⟨rfl,rfl⟩:=e;exact Te
  ·show aJ d2 f' t'=[];rw[S.wire f' t' e];refine D.gone f' t' ?_;rcases List.mem_append.1 hm with h | h
   ·exact h
   ·simp at h;exact absurd h e
 ·have e:¬ (f'=f/\t'=t):=fun e=>hm (List.mem_append.2 (.inr (by rw[e.1,e.2];simp)));show aJ d2 f' t'=_;rw[S.wire f' t' e];exact D.wire f' t' fun h=>hm (List.mem_append.2 (.inl h))
 ·show m.st<=bB d2 t'/\m.st<=eB d2 t' _ f';by_cases e:(f',t')∈l
  ·obtain⟨a,b⟩:=D.came f' t' m e hw;exact⟨Int.le_trans a (S.grow.clk _),Int.le_trans b (S.grow.lst _ _ _)⟩
  ·rcases List.mem_append.1 hm with h | h
   ·exact absurd h e
   ·simp at h;obtain⟨rfl,rfl⟩:=h;rw[<-D.wire f' t' e]at hw;exact S.came m (by rw[List.take_of_length_le (Nat.le_refl _)];exact hw)
theorem G9{d:Wd}(R:aL d):pI d [] d:=⟨R,fun h=>h,Grow.refl d,fun f t h=>(by cases h),fun _ _ _=>rfl,fun f t m h=>(by cases h),fun _ c hc=>hc,fun _ _ _ h=>h⟩
theorem He{d:Wd}(l:List (Nat × Nat))(hl:∀p∈l,p.1 < d.ah.length/\p.2 < d.ah.length):∀(l0:List (Nat × Nat)) (s s':Wd × Nat),pI d l0 s.1->l.foldlM dB s=.ok s'->pI d (l0++l) s'.1:=by
 induction l with
 | nil=>intro l0 s s' D h;have:s=s':=Except.ok.inj h;subst this;simpa using D
 | cons p l ih =>
  intro l0 s s' D h;rw[List.foldlM_cons]at h;obtain⟨s1,h1,h2⟩:=bind_ok h;have:=ih (fun q hq=>hl q (List.mem_cons_of_mem _ hq)) (l0++[p]) s1 s' (ER (hl p (by simp)) D h1) h2;simpa using this
theorem Hf{d:Wd}:∀p∈pairs d.ah.length d.ah.length,p.1 < d.ah.length/\p.2 < d.ah.length:=fun p hp=>(nR _ _ p.1 p.2).1 hp
theorem Bo{d:Wd}{s:Wd × Nat}(R:aL d)(h:gY d=.ok s):pI d (pairs d.ah.length d.ah.length) s.1:=by
 have:=He (d:=d) _ Hf [] (d,0) s (G9 R) h;simpa using this
theorem drain_empty{d:Wd}{s:Wd × Nat}(R:aL d)(h:gY d=.ok s)(f t:Nat):aJ s.1 f t=[]:=by
 have D:=Bo R h;by_cases e:(f,t)∈pairs d.ah.length d.ah.length
 ·exact D.gone f t e
 ·cases hw:aJ s.1 f t with
  | nil=>rfl
  | cons m r =>
   obtain⟨a,b⟩:=PU D.right.rows (f:=f) (t:=t) (m:=m) (by rw[hw];simp);rw[D.grow.alike.n]at a b;exact absurd ((nR _ _ _ _).2 ⟨a,b⟩) e
structure Bp (d:Wd) (l:List (Nat × Nat)) (d':Wd):Prop where
 right:aL d'
 inv:Inv d->Inv d'
 grow:Grow d d'
 null:DW d->DW d'
 sub:Sub d d'
 sent:∀n g t:Nat,(n,g)∈l->hasB d.au g n=true->t < d.ah.length->t≠n->hasB d.au g t=true->∃m,m∈aJ d' n t/\m.gr=g/\bB d n < m.st
 top:∀c,(∀k,bB d k<=c)->∀k,bB d' k<=c+l.length
theorem Hg{d:Wd}{l:List (Nat × Nat)}{s s':Wd}{p:Nat × Nat}(D:Bp d l s)(h:dH s p=.ok s'):Bp d (l++[p]) s':=by
 obtain⟨n,g⟩:=p;unfold dH at h;by_cases hb:hasB s.au g n=true
 ·simp only[hb,if_true]at h;have C:=Oo D.right (fun _=>rfl) h;obtain⟨R1,G1⟩:=rM D.right (fun _=>rfl) h;have hn:(n:Int).toNat=n:=by omega
  rw[hn]at C
  have W2:∀f t x,x∈aJ s f t->x∈aJ s' f t:=by
   intro f t x hx;rw[C.wire];split
   ·exact List.mem_append.2 (.inl hx)
   ·exact hx
  refine⟨R1,fun I=>G7 (D.inv I) (fun _=>rfl) h,D.grow.trans G1,fun hN f t x hx=>?_,fun k x hx=>D.sub k x (C.held rfl k x hx),fun n' g' t hm h1 h2 h3 h4=>?_,fun c hc k=>?_⟩
  ·rw[C.wire]at hx;split at hx
   ·rcases List.mem_append.1 hx with hx | hx
    ·exact D.null hN f t x hx
    ·simp at hx;subst hx;rfl
   ·exact D.null hN f t x hx
  ·rcases List.mem_append.1 hm with hm | hm
   ·obtain⟨m,a,b,c⟩:=D.sent n' g' t hm h1 h2 h3 h4;exact⟨m,W2 _ _ _ a,b,c⟩
   ·simp at hm;obtain⟨rfl,rfl⟩:=hm;refine⟨Bb s n' g' true ByteArray.empty, ?_,rfl, ?_⟩
    ·rw[C.wire,if_pos ⟨rfl,by rw[D.grow.alike.n];exact h2,h3,by rw[D.grow.alike.g];exact h4⟩];simp
    ·have:=C.mst;have:=D.grow.clk n';omega
  ·rw[C.clk];have a:=D.top c hc k;have b:=D.top c hc n;have:=C.mst;simp only[List.length_append,List.length_cons,List.length_nil]
   split <;> omega
 ·simp only[hb]at h;have:s=s':=Except.ok.inj h;subst this;refine⟨D.right,D.inv,D.grow,D.null,D.sub,fun n' g' t hm h1 h2 h3 h4=>?_,fun c hc k=>?_⟩
  ·rcases List.mem_append.1 hm with hm | hm
   ·exact D.sent n' g' t hm h1 h2 h3 h4
   ·simp at hm;obtain⟨rfl,rfl⟩:=hm;rw[D.grow.alike.g]at hb;exact absurd h1 hb
  ·have:=D.top c hc k;simp;omega
theorem Hl{d d':Wd}(R:aL d)(h:yU d=.ok d'):Bp d (pairs d.ah.length d.au.length) d':=by
 have h0:Bp d [] d:=⟨R,fun h=>h,Grow.refl d,fun h=>h,fun _ _ h=>h,fun n g t h=>(by cases h),fun c hc k=>by have:=hc k;simp;omega⟩;have:=Bh dH (Bp d) (fun l b a b'=>Hg) _ [] d d' h0 h;simpa using this
theorem jg(G N:Nat):(pairs G N).length=G*N:=by
 unfold pairs;rw[List.length_flatMap];simp[List.map_const']
structure PV (d d':Wd):Prop where
 right:aL d'
 inv:Inv d->Inv d'
 grow:Grow d d'
 none:∀f t,aJ d' f t=[]
 sub:(∀f t,aJ d f t=[])->Sub d d'
 heard:∀n g t:Nat,n < d.ah.length->hasB d.au g n=true->t < d.ah.length->t≠n->hasB d.au g t=true->bB d n < bB d' t/\bB d n < eB d' t g n
 top:Inv d->∀c,(∀k,bB d k<=c)->∀k,bB d' k<=c+d.ah.length*d.au.length
theorem Bq{d:Wd}{s:Wd × Nat}(R:aL d)(h:fJ d=.ok s):PV d s.1:=by
 unfold fJ at h;obtain⟨d1,h1,h2⟩:=bind_ok h;have N:=Hl R h1;have D:=Bo N.right h2;refine⟨D.right,fun I=>D.inv (N.inv I),N.grow.trans D.grow,drain_empty N.right h2,fun he k x hx=>?_,fun n g t hn hb ht hne hb2=>?_,fun I c hc k=>?_⟩
 ·exact N.sub k x (D.sub (N.null fun f t m hm=>by rw[he]at hm;cases hm) k x hx)
 ·obtain⟨m,a,b,c⟩:=N.sent n g t ((nR _ _ _ _).2 ⟨hn,K4 hb⟩) hb ht hne hb2;obtain⟨e1,e2⟩:=D.came n t m ((nR _ _ _ _).2 ⟨by rw[N.grow.alike.n];exact hn,by rw[N.grow.alike.n];exact ht⟩) a;have:m.gr.toNat=g:=by omega
  rw[this]at e2;exact⟨by omega,by omega⟩
 ·have:=N.top c hc;rw[jg]at this;have:=D.top (N.inv I) _ this k;simpa using this
structure Rounds (j:Nat) (d d':Wd):Prop where
 right:aL d'
 inv:Inv d->Inv d'
 grow:Grow d d'
 none:(∀f t,aJ d f t=[])->∀f t,aJ d' f t=[]
 sub:(∀f t,aJ d f t=[])->Sub d d'
 top:Inv d->∀c,(∀k,bB d k<=c)->∀k,bB d' k<=c+j*(d.ah.length*d.au.length)
theorem yX:∀(j:Nat) (d d':Wd),aL d->jE j d=.ok d'->Rounds j d d'
 | 0,d,d',R,h=>by
  have:d=d':=Except.ok.inj h;subst this;exact⟨R,fun h=>h,Grow.refl d,fun h=>h,fun _ _ _ h=>h,fun _ c hc k=>by have:=hc k;simp;omega⟩
 | j+1,d,d',R,h=>by
  unfold jE at h;obtain⟨s,h1,h2⟩:=bind_ok h;have A:=Bq R h1;have B:=yX j s.1 d' A.right h2;refine⟨B.right,fun I=>B.inv (A.inv I),A.grow.trans B.grow,fun _=>B.none A.none,fun he k x hx=>A.sub he k x (B.sub A.none k x hx),fun I c hc k=>?_⟩;have:=B.top (A.inv I) _ (A.top I c hc) k;rw[A.grow.alike.n,A.grow.alike.g]at this
  have e:((j+1:Nat):Int)*(d.ah.length*d.au.length)=j*(d.ah.length*d.au.length)+d.ah.length*d.au.length:=by
   rw[Int.natCast_add];simp[Int.add_mul]
  omega
theorem Ho{d d':Wd}{j:Nat}(I:Inv d)(he:∀f t,aJ d f t=[])(h:jE (j+2) d=.ok d')(k:Nat):aQ d' k=[]:=by
 show aQ d' k=[];unfold jE at h;obtain⟨s,h1,h2⟩:=bind_ok h;unfold jE at h2;obtain⟨u,h3,h4⟩:=bind_ok h2;have A:=Bq I.right h1;have B:=Bq A.right h3;have C:=yX j u.1 d' B.right h4;have IB:=B.inv (A.inv I)
 have key:aQ u.1 k=[]:=by
  cases hh:aQ u.1 k with
  | nil=>rfl
  | cons x r =>
   exfalso
   have hx:x∈aQ u.1 k:=by rw[hh];simp
   have hx0:x∈aQ d k:=A.sub he k x (B.sub A.none k x hx);have h5:=(I.seen k x hx0).1;have h6:=IB.held k x hx;have hk:k < d.ah.length:=vo hx0;have hk2:k < u.1.ah.length:=vo hx
   have h7:bB d k<=dQ u.1 k:=by
    rw[mO hk2];refine⟨Int.le_trans (A.grow.clk k) (B.grow.clk k),fun g i hi hne b1 b2=>?_⟩;rw[B.grow.alike.n,A.grow.alike.n]at hi;rw[B.grow.alike.g,A.grow.alike.g]at b1 b2;have a1:=(A.heard k g i hk b1 hi hne b2).1;have a2:=(B.heard i g k (by rw[A.grow.alike.n];exact hi) (by rw[A.grow.alike.g];exact b2) (by rw[A.grow.alike.n];exact hk) (fun e=>hne e.symm) (by rw[A.grow.alike.g];exact b1)).2;omega
   omega
 cases hh:aQ d' k with
 | nil=>rfl
 | cons x r =>
  have:=C.sub B.none k x (by rw[hh];simp);rw[key]at this;cases this
structure Rh (d d':Wd):Prop where
 right:aL d'
 inv:Inv d->Inv d'
 grow:Grow d d'
 none:∀f t,aJ d' f t=[]
 held:Inv d->∀k,aQ d' k=[]
 top:Inv d->∀c,(∀k,bB d k<=c)->∀k,bB d' k<=c+4*(d.ah.length*d.au.length)
theorem PW{d d':Wd}(R:aL d)(h:lD d=.ok d'):Rh d d':=by
 unfold lD at h;obtain⟨s,h1,h2⟩:=bind_ok h;have D:=Bo R h1;have E:=drain_empty R h1;have A:=yX 4 s.1 d' D.right h2;refine⟨A.right,fun I=>A.inv (D.inv I),D.grow.trans A.grow,A.none E,fun I k=>Ho (j:=2) (D.inv I) E h2 k,fun I c hc k=>?_⟩;have:=A.top (D.inv I) c (D.top I c hc) k;rw[D.grow.alike.n,D.grow.alike.g]at this;exact this
theorem small{d:Wd}(R:aL d):d.ah.length<=4/\1<=d.ah.length/\d.au.length<=3/\d.ah.length*d.au.length<=12:=by
 have:=jQ R.chk;refine⟨by omega,by omega,by omega, ?_⟩;exact Nat.mul_le_mul (by omega:d.ah.length<=4) (by omega:d.au.length<=3)
structure Did (d d':Wd):Prop where
 was:aL d
 right:aL d'
 inv:Inv d->Inv d'
 grow:Grow d d'
 top:Inv d->∀c,(∀k,bB d k<=c)->∀k,bB d' k<=c+48
theorem rO{α:Type}{d:Wd}{r:Except Int α}{a:α}(h:checked d r=.ok a):aL d/\r=.ok a:=by
 unfold checked at h;by_cases hE:aZ d=0
 ·rw[if_pos hE]at h;exact⟨(cZ d).1 hE,h⟩
 ·rw[if_neg hE]at h;cases h
theorem Hq{d d':Wd}{n g:Int}{nul:Bool}{body:ByteArray}(R:aL d)(hb:nul=true->body.size=0)(h:dR d n g nul body=.ok d'):Did d d':=by
 obtain⟨R1,G⟩:=rM R hb h;have C:=Oo R hb h;refine⟨R,R1,fun I=>G7 I hb h,G,fun I c hc k=>?_⟩
 rw[C.clk];have:=C.mst;have:=hc n.toNat;have:=hc k;split <;> omega
theorem Oq{d d':Wd}{f t:Nat}(R:aL d)(hf:f < d.ah.length)(ht:t < d.ah.length)(h:fI d f t=.ok d'):Did d d':=by
 obtain⟨R1,G⟩:=wm R hf ht h;obtain⟨m,M⟩:=moved R hf ht h;refine⟨R,R1,fun I=>Bg I hf ht h,G,fun I c hc k=>?_⟩
 have:=(I.wire f t m (by rw[M.first];simp)).1
 have:=hc f;have:=M.top c hc (by omega) k;omega
theorem Ot{d d':Wd}(R:aL d)(h:lD d=.ok d'):Did d d':=by
 have C:=PW R h;refine⟨R,C.right,C.inv,C.grow,fun I c hc k=>?_⟩;have:=C.top I c hc k;have:=(small R).2.2.2;have:((d.ah.length*d.au.length:Nat):Int)<=12:=by omega
 rw[Int.natCast_mul]at this;omega
theorem MH{d d':Wd}{f t:Int}(h:fC d f t=.ok d'):aL d/\(0<=f/\f < d.ah.length)/\(0<=t/\t < d.ah.length)/\fI d f.toNat t.toNat=.ok d':=by
 unfold fC at h;by_cases hE:aZ d=0
 ·rw[if_pos hE]at h;split at h
  ·next c =>
   rw[Bool.and_eq_true]at c;simp only[inB,decide_eq_true_eq]at c;exact⟨(cZ d).1 hE,by omega,by omega,h⟩
  ·cases h
 ·rw[if_neg hE]at h;cases h
theorem Tc{d d':Wd}{x:Ac}(h:doD d x=.ok d'):Did d d':=by
 unfold doD at h;split at h
 ·obtain⟨R,h⟩:=rO h;exact Hq R (fun h=>by cases h) h
 ·split at h
  ·obtain⟨R,h⟩:=rO h;exact Hq R (fun _=>rfl) h
  ·split at h
   ·obtain⟨R,hf,ht,h⟩:=MH h;exact Oq R (by omega) (by omega) h
   ·split at h
    ·obtain⟨R,h⟩:=rO h;exact Ot R h
    ·cases h
theorem Dv{n:Nat}{l:List Int}(hc:dS n l=0):Inv (eG n l)/\∀k,bB (eG n l) k=0:=by
 have hN:(eG n l).ah.length=n:=by simp[eG]
 have node:∀(k:Nat) (x:Nd),(eG n l).ah[k]? = some x->x=⟨0,List.replicate l.length (List.replicate n 0),[],[]⟩:=by
  intro k x h;have:=List.mem_of_getElem? h;unfold eG at this;exact(List.mem_replicate.1 this).2
 have c0:∀k,bB (eG n l) k=0:=by
  intro k;unfold bB
  cases h:(eG n l).ah[k]? with
  | none=>rfl
  | some x=>rw[node k x h]
 have l0:∀k g i,eB (eG n l) k g i=0:=by
  intro k g i;unfold eB
  cases h:(eG n l).ah[k]? with
  | none=>rfl
  | some x =>
   rw[node k x h];rcases yt (List.replicate l.length (List.replicate n (0:Int))) g i with h | ⟨row,h1,h2⟩
   ·exact h
   ·have e1:=(List.mem_replicate.1 (List.mem_of_getElem? h1)).2;subst e1;have e2:=(List.mem_replicate.1 (List.mem_of_getElem? h2)).2;exact e2
 have h0:∀k,aQ (eG n l) k=[]:=by
  intro k;unfold aQ
  cases h:(eG n l).ah[k]? with
  | none=>rfl
  | some x=>rw[node k x h]
 have t0:∀k,bM (eG n l) k=[]:=by
  intro k;unfold bM
  cases h:(eG n l).ah[k]? with
  | none=>rfl
  | some x=>rw[node k x h]
 have w0:∀f t,aJ (eG n l) f t=[]:=by
  intro f t;rcases jT (eG n l) f t with h | ⟨row,m,h1,h2,h⟩
  ·exact h
  ·unfold eG at h1;have e1:=(List.mem_replicate.1 (List.mem_of_getElem? h1)).2;subst e1;rw[h];exact(List.mem_replicate.1 (List.mem_of_getElem? h2)).2
 have R:aL (eG n l):=by
  refine⟨by rw[hN];exact hc,by simp[eG],fun f row h=>?_,fun k x h=>by rw[node k x h];simp[eG],fun k x g row h hr=>?_,fun k=>by rw[c0];omega,fun k g i=>by rw[l0];omega,fun k g i _=>l0 k g i,
   fun k=>by rw[h0];simp,fun k=>by rw[t0];simp,fun f t=>by rw[w0];simp,fun k=>by rw[h0];rfl,fun k=>by rw[t0];rfl,fun k m hm=>?_,fun k m hm=>?_,fun f t m hm=>?_,fun f t=>by rw[w0];rfl,fun f=>w0 f f⟩
  ·have e1:=(List.mem_replicate.1 (List.mem_of_getElem? (by unfold eG at h;exact h))).2;rw[e1,hN];simp
  ·rw[node k x h]at hr;have e1:=(List.mem_replicate.1 (List.mem_of_getElem? hr)).2;rw[e1,hN];simp
  ·rw[h0]at hm;cases hm
  ·rw[t0]at hm;cases hm
  ·rw[w0]at hm;cases hm
 have no:∀m,¬ In (eG n l) m:=by
  rintro m ⟨k,h | h | ⟨f,h⟩⟩
  ·rw[h0]at h;cases h
  ·rw[t0]at h;cases h
  ·rw[w0]at h;cases h
 refine⟨⟨R,fun k g i=>by rw[l0,c0];omega,fun i k m hm=>?_,fun k m hm=>?_,fun k m hm=>?_,fun k m hm=>?_,fun m hm=>absurd hm (no m),fun m m' hm=>absurd hm (no m),fun m k hm=>absurd hm (no m)⟩,c0⟩
 ·rw[w0]at hm;cases hm
 ·rw[t0]at hm;cases hm
 ·rw[h0]at hm;cases hm
 ·rw[h0]at hm;cases hm
end Go.Proofs.YtediempflagfkaaGreatDoor.Pu
