/- Lemmas. Lemmas. -/
import Derived.Test.YtiiifecfdkjmbaaGreatPureX
namespace Go.Proofs.YtiiifecfdkjmbaaGreat.Pu
set_option maxRecDepth 8000
theorem ER {d d':Wd} {k:Nat} (hg:d'.groups=d.groups) (hn:d'.nodes.length=d.nodes.length) (hk:k < d.nodes.length) (hc:bG d k<=bG d' k) (hl:∀ g i,dZ d k g i<=dZ d' k g i):eu d k<=eu d' k:=by
 rw [pq (by rw [hn];exact hk),hg,hn]
 obtain ⟨h1,h2⟩:=(pq hk (eu d k)).1 (Int.le_refl _)
 exact ⟨by omega,fun g i a b c e=>by have:=h2 g i a b c e;have:=hl g i;omega⟩
theorem GK {d:Wd} {k:Nat} (hk:k < d.nodes.length):eu d k<=bG d k:=((pq hk (eu d k)).1 (Int.le_refl _)).1
theorem GL {d:Wd} {k g i:Nat} (hk:k < d.nodes.length) (hi:i < d.nodes.length) (hn:i≠k) (h1:hasB d.groups g k=true) (h2:hasB d.groups g i=true):eu d k<=dZ d k g i:=((pq hk (eu d k)).1 (Int.le_refl _)).2 g i hi hn h1 h2
theorem yH {d:Wd} {k:Nat} {m:Mg} (h:m∈aJ d k):k < d.nodes.length:=by
 unfold aJ at h
 cases hx:d.nodes[k]? with
 | none=>rw [hx] at h;simp at h
 | some x=>exact cZ hx
theorem C8 {d:Wd} {k:Nat} {m:Mg} (h:m∈bC d k):k < d.nodes.length:=by
 unfold bC at h
 cases hx:d.nodes[k]? with
 | none=>rw [hx] at h;simp at h
 | some x=>exact cZ hx
structure Py (d:Wd) (n:Nat):Prop where
 right:Right d
 heard:∀ k g i,dZ d k g i<=bG d i
 wire:∀ i k m,m∈ay d i k->m.st<=bG d i/\∀ g,dZ d k g i < m.st
 told:∀ k m,m∈bC d k->m.st<=eu d k
 held:∀ k m,k≠n->m∈aJ d k->eu d k < m.st
 sep:∀ a b,a∈bC d n->b∈aJ d n->a.st < b.st
 seen:∀ k m,m∈aJ d k->m.st<=bG d k/\∀ i:Nat,m.fr=i->i≠k->m.st<=dZ d k m.gr.toNat i
 own:∀ m,In d m->m.st<=bG d m.fr.toNat
 uniq:∀ m m',In d m->In d m'->m.st=m'.st->m.fr=m'.fr->m=m'
 all:∀ m k,In d m->m.nul=false->k < d.nodes.length->hasB d.groups m.gr k=true->m∈bC d k\/m∈aJ d k\/(m.fr≠k/\m∈ay d m.fr.toNat k)
theorem ES {d d':Wd} {n:Nat} (hn:n < d.nodes.length) (I:Py d n) (S:pz d d' n):Inv d':=by
 have F:∀ k,k < d.nodes.length->eu d' k=eu d k:=fun k hk=>xB S.alike.g S.alike.n hk (S.clk k) (S.lst k)
 have H:∀ k m,m∈aJ d' k->m∈aJ d k:=by
  intro k m hm
  by_cases h:k=n
  ·subst h;rw [S.held] at hm;exact (List.mem_filter.1 hm).1
  ·rwa [(S.other k h).1] at hm
 have T:∀ k m,m∈bC d' k->m∈bC d k\/(m∈aJ d k/\m.st<=eu d k):=by
  intro k m hm
  by_cases h:k=n
  ·subst h;rw [S.told] at hm
   rcases List.mem_append.1 hm with hm | hm
   ·exact .inl hm
   ·obtain ⟨a,b⟩:=List.mem_filter.1 hm;exact .inr ⟨a,by simpa using b⟩
  ·rw [(S.other k h).2] at hm;exact .inl hm
 have K:∀ k m,m∈aJ d k->m∈bC d' k\/m∈aJ d' k:=by
  intro k m hm
  by_cases h:k=n
  ·subst h
   rw [S.told,S.held]
   by_cases c:m.st<=eu d k
   ·exact .inl (List.mem_append.2 (.inr (List.mem_filter.2 ⟨hm,by simpa using c⟩)))
   ·exact .inr (List.mem_filter.2 ⟨hm,by simpa using (by omega:eu d k < m.st)⟩)
  ·rw [(S.other k h).1];exact .inr hm
 have K2:∀ k m,m∈bC d k->m∈bC d' k:=by
  intro k m hm
  by_cases h:k=n
  ·subst h;rw [S.told];exact List.mem_append.2 (.inl hm)
  ·rw [(S.other k h).2];exact hm
 have hin:∀ m,In d' m->In d m:=by
  rintro m ⟨k,h | h | ⟨f,h⟩⟩
  ·exact ⟨k,.inl (H k m h)⟩
  ·rcases T k m h with h | ⟨h,_⟩
   ·exact ⟨k,.inr (.inl h)⟩
   ·exact ⟨k,.inl h⟩
  ·rw [S.wire] at h;exact ⟨k,.inr (.inr ⟨f,h⟩)⟩
 refine ⟨uF I.right S,fun k g i=>by rw [S.lst,S.clk];exact I.heard k g i,fun i k m hm=>?_,fun k m hm=>?_,fun k m hm=>?_,fun k m hm=>?_,fun m hm=>by rw [S.clk];exact I.own m (hin m hm),fun m m' h h'=>I.uniq m m' (hin m h) (hin m' h'),fun m k hm h0 hk hb=>?_⟩
 ·rw [S.wire] at hm;rw [S.clk];obtain ⟨a,b⟩:=I.wire i k m hm;exact ⟨a,fun g=>by rw [S.lst];exact b g⟩
 ·rcases T k m hm with h | ⟨h,h2⟩
  ·rw [F k (C8 h)];exact I.told k m h
  ·rw [F k (yH h)];exact h2
 ·have hk:=yH (H k m hm)
  rw [F k hk]
  by_cases h:k=n
  ·subst h;rw [S.held] at hm;simpa using (List.mem_filter.1 hm).2
  ·exact I.held k m h (H k m hm)
 ·obtain ⟨a,b⟩:=I.seen k m (H k m hm)
  exact ⟨by rw [S.clk];exact a,fun i e1 e2=>by rw [S.lst];exact b i e1 e2⟩
 ·rw [S.alike.n] at hk;rw [S.alike.g] at hb
  rcases I.all m k (hin m hm) h0 hk hb with h | h | h
  ·exact .inl (K2 k m h)
  ·rcases K k m h with h | h
   ·exact .inl h
   ·exact .inr (.inl h)
  ·rw [S.wire];exact .inr (.inr h)
theorem J8 {d d':Wd} {n:Nat} {m:Mg} (I:Inv d) (S:vU d d' n m):Py d' n:=by
 have R:=I.right
 have hst:=S.mst
 have C:∀ k,bG d k<=bG d' k:=fun k=>by rw [S.clk];split;(· subst k;omega);(· omega)
 have F:∀ k,k < d.nodes.length->eu d k<=eu d' k:=fun k hk=>ER S.alike.g S.alike.n hk (C k) (fun g i=>by rw [S.lst];omega)
 have F2:∀ k,k≠n->k < d.nodes.length->eu d' k=eu d k:=fun k h hk=>xB S.alike.g S.alike.n hk (by rw [S.clk,if_neg h]) (S.lst k)
 have H:∀ k x,x∈aJ d' k->(k=n/\x=m/\m.nul=false)\/x∈aJ d k:=by
  intro k x hx
  by_cases h:k=n
  ·subst h
   rcases S.held with ⟨_,e⟩ | ⟨e2,e0,e⟩
   ·rw [e] at hx;exact .inr hx
   ·rw [e,lU e0] at hx
    rcases hx with rfl | hx
    ·exact .inl ⟨rfl,rfl,e2⟩
    ·exact .inr hx
  ·rw [S.other k h] at hx;exact .inr hx
 have H2:∀ k x,x∈aJ d k->x∈aJ d' k:=by
  intro k x hx
  by_cases h:k=n
  ·subst h
   rcases S.held with ⟨_,e⟩ | ⟨e2,e0,e⟩
   ·rw [e];exact hx
   ·rw [e,lU e0];exact .inr hx
  ·rw [S.other k h];exact hx
 have W:∀ f t x,x∈ay d' f t->(f=n/\x=m/\t < d.nodes.length/\t≠n)\/x∈ay d f t:=by
  intro f t x hx
  rw [S.wire] at hx
  split at hx
  ·next g =>
   rcases List.mem_append.1 hx with hx | hx
   ·exact .inr hx
   ·simp at hx;exact .inl ⟨g.1,hx,g.2.1,g.2.2.1⟩
  ·exact .inr hx
 have W2:∀ f t x,x∈ay d f t->x∈ay d' f t:=by
  intro f t x hx
  rw [S.wire];split
  ·exact List.mem_append.2 (.inl hx)
  ·exact hx
 have hin:∀ x,In d' x->x=m\/In d x:=by
  rintro x ⟨k,h | h | ⟨f,h⟩⟩
  ·rcases H k x h with ⟨_,h,_⟩ | h
   ·exact .inl h
   ·exact .inr ⟨k,.inl h⟩
  ·rw [S.told] at h;exact .inr ⟨k,.inr (.inl h)⟩
  ·rcases W f k x h with ⟨_,h,_⟩ | h
   ·exact .inl h
   ·exact .inr ⟨k,.inr (.inr ⟨f,h⟩)⟩
 have Pz:m.fr.toNat=n:=by have:=S.mfr;omega
 have old:∀ x,In d x->x.fr=m.fr->x.st < m.st:=by
  intro x hx e
  have:=I.own x hx
  rw [e,Pz] at this;omega
 refine ⟨oG R S,fun k g i=>by rw [S.lst];have:=I.heard k g i;have:=C i;omega,fun i k x hx=>?_,fun k x hx=>?_,fun k x hk hx=>?_,fun a b ha hb=>?_,fun k x hx=>?_,fun x hx=>?_,fun x y hx hy e1 e2=>?_,fun x k hx h0 hk hb=>?_⟩
 ·rcases W i k x hx with ⟨rfl,rfl,_⟩ | h
  ·exact ⟨by rw [S.clk,if_pos rfl];omega,fun g=>by rw [S.lst];have:=I.heard k g i;omega⟩
  ·obtain ⟨a,b⟩:=I.wire i k x h
   exact ⟨by have:=C i;omega,fun g=>by rw [S.lst];exact b g⟩
 ·rw [S.told] at hx;have:=I.told k x hx;have:=F k (C8 hx);omega
 ·rcases H k x hx with ⟨h,_⟩ | h
  ·exact absurd h hk
  ·rw [F2 k hk (yH h)];exact I.held k x h
 ·rw [S.told] at ha
  have h1:=I.told n a ha
  have h2:=GK S.lt
  rcases H n b hb with ⟨_,rfl,_⟩ | h
  ·omega
  ·have:=I.held n b h;omega
 ·rcases H k x hx with ⟨rfl,rfl,_⟩ | h
  ·exact ⟨by rw [S.clk,if_pos rfl];omega,fun i e1 e2=>absurd (by have:=S.mfr;omega) e2⟩
  ·obtain ⟨a,b⟩:=I.seen k x h
   exact ⟨by have:=C k;omega,fun i e1 e2=>by rw [S.lst];exact b i e1 e2⟩
 ·rcases hin x hx with rfl | h
  ·rw [Pz,S.clk,if_pos rfl];omega
  ·have:=I.own x h;have:=C x.fr.toNat;omega
 ·rcases hin x hx with rfl | h <;> rcases hin y hy with rfl | h'
  ·rfl
  ·have:=old y h' e2.symm;omega
  ·have:=old x h e2;omega
  ·exact I.uniq x y h h' e1 e2
 ·rw [S.alike.n] at hk;rw [S.alike.g] at hb
  rcases hin x hx with rfl | h
  ·by_cases e:k=n
   ·subst e
    rcases S.held with ⟨e1,_⟩ | ⟨_,e0,e⟩
    ·rw [e1] at h0;cases h0
    ·exact .inr (.inl (by rw [e,lU e0];exact .inl rfl))
   ·refine .inr (.inr ⟨by have:=S.mfr;omega, ?_⟩)
    rw [Pz,S.wire,if_pos ⟨rfl,hk,e,hb⟩]
    simp
  ·rcases I.all x k h h0 hk hb with h | h | ⟨h1,h2⟩
   ·exact .inl (by rw [S.told];exact h)
   ·exact .inr (.inl (H2 k x h))
   ·exact .inr (.inr ⟨h1,W2 _ _ _ h2⟩)
theorem J9 {d d':Wd} {f t:Nat} {m:Mg} (I:Inv d) (S:vV d d' f t m):Py d' t:=by
 have R:=I.right
 have hmem:m∈ay d f t:=by rw [S.first];simp
 obtain ⟨hf1,hf2⟩:=R.qE f t m hmem
 obtain ⟨hf3,hf4⟩:=pE.1 hf1
 obtain ⟨z1,z2,z3,z4⟩:=pF hf3
 have hgr:((m.gr.toNat:Nat):Int)=m.gr:=by omega
 obtain ⟨w1,w2⟩:=I.wire f t m hmem
 have hft:f≠t:=by rintro rfl;rw [R.BK f] at hmem;cases hmem
 have C:∀ k,bG d k<=bG d' k:=fun k=>by rw [S.clk];split;(· subst k;omega);(· omega)
 have L:∀ k g i,dZ d k g i<=dZ d' k g i:=fun k g i=>by rw [S.lst];split <;> omega
 have F:∀ k,k < d.nodes.length->eu d k<=eu d' k:=fun k hk=>ER S.alike.g S.alike.n hk (C k) (L k)
 have F2:∀ k,k≠t->k < d.nodes.length->eu d' k=eu d k:=fun k h hk=>xB S.alike.g S.alike.n hk (by rw [S.clk,if_neg h]) (fun g i=>by rw [S.lst,if_neg (fun c=>h c.1)])
 have H:∀ k x,x∈aJ d' k->(k=t/\x=m/\m.nul=false)\/x∈aJ d k:=by
  intro k x hx
  by_cases h:k=t
  ·subst h
   rcases S.held with ⟨_,e⟩ | ⟨e2,e0,e⟩
   ·rw [e] at hx;exact .inr hx
   ·rw [e,lU e0] at hx
    rcases hx with rfl | hx
    ·exact .inl ⟨rfl,rfl,e2⟩
    ·exact .inr hx
  ·rw [S.other k h] at hx;exact .inr hx
 have H2:∀ k x,x∈aJ d k->x∈aJ d' k:=by
  intro k x hx
  by_cases h:k=t
  ·subst h
   rcases S.held with ⟨_,e⟩ | ⟨e2,e0,e⟩
   ·rw [e];exact hx
   ·rw [e,lU e0];exact .inr hx
  ·rw [S.other k h];exact hx
 have W:∀ i k x,x∈ay d' i k->x∈ay d i k:=by
  intro i k x hx
  by_cases h:i=f/\k=t
  ·obtain ⟨rfl,rfl⟩:=h;rw [S.first];exact List.mem_cons_of_mem _ hx
  ·rwa [S.wire i k h] at hx
 have hin:∀ x,In d' x->In d x:=by
  rintro x ⟨k,h | h | ⟨i,h⟩⟩
  ·rcases H k x h with ⟨_,rfl,_⟩ | h
   ·exact ⟨t,.inr (.inr ⟨f,hmem⟩)⟩
   ·exact ⟨k,.inl h⟩
  ·rw [S.told] at h;exact ⟨k,.inr (.inl h)⟩
  ·exact ⟨k,.inr (.inr ⟨i,W i k x h⟩)⟩
 refine ⟨oH R S,fun k g i=>?_,fun i k x hx=>?_,fun k x hx=>?_,fun k x hk hx=>?_,fun a b ha hb=>?_,fun k x hx=>?_,fun x hx=>?_,fun x y hx hy=>I.uniq x y (hin x hx) (hin y hy),fun x k hx h0 hk hb=>?_⟩
 ·have h1:=I.heard k g i
  have h2:=C i
  rw [S.lst];split
  ·next c=>obtain ⟨rfl,rfl,rfl⟩:=c;omega
  ·omega
 ·have hx0:=W i k x hx
  obtain ⟨a,b⟩:=I.wire i k x hx0
  refine ⟨by have:=C i;omega,fun g=>?_⟩
  rw [S.lst];split
  ·next c =>
   obtain ⟨rfl,rfl,rfl⟩:=c
   have hp:=(jB _).1 (R.zx i k)
   rw [S.first] at hp
   have:=(List.pairwise_cons.1 hp).1 x hx
   have:=b m.gr.toNat
   omega
  ·exact b g
 ·rw [S.told] at hx;have:=I.told k x hx;have:=F k (C8 hx);omega
 ·rcases H k x hx with ⟨h,_⟩ | h
  ·exact absurd h hk
  ·rw [F2 k hk (yH h)];exact I.held k x h
 ·rw [S.told] at ha
  have h1:=I.told t a ha
  rcases H t b hb with ⟨_,rfl,_⟩ | h
  ·have h2:=GL (g:=b.gr.toNat) S.tlt S.flt hft (by rw [hgr];exact hf4) (by rw [hgr,<-hf2];exact z4)
   have:=w2 b.gr.toNat
   omega
  ·have:=I.held t b h;omega
 ·rcases H k x hx with ⟨rfl,rfl,_⟩ | h
  ·refine ⟨by rw [S.clk,if_pos rfl];omega,fun i e1 e2=>?_⟩
   have:i=f:=by omega
   subst this
   rw [S.lst,if_pos ⟨rfl,rfl,rfl⟩];omega
  ·obtain ⟨a,b⟩:=I.seen k x h
   exact ⟨by have:=C k;omega,fun i e1 e2=>by have:=b i e1 e2;have:=L k x.gr.toNat i;omega⟩
 ·have:=I.own x (hin x hx);have:=C x.fr.toNat;omega
 ·rw [S.alike.n] at hk;rw [S.alike.g] at hb
  rcases I.all x k (hin x hx) h0 hk hb with h | h | ⟨h1,h2⟩
  ·exact .inl (by rw [S.told];exact h)
  ·exact .inr (.inl (H2 k x h))
  ·by_cases e:x.fr.toNat=f/\k=t
   ·obtain ⟨e1,rfl⟩:=e
    rw [e1,S.first] at h2
    rcases List.mem_cons.1 h2 with rfl | h2
    ·rcases S.held with ⟨e3,_⟩ | ⟨_,e0,e⟩
     ·rw [e3] at h0;cases h0
     ·exact .inr (.inl (by rw [e,lU e0];exact .inl rfl))
    ·exact .inr (.inr ⟨h1,by rw [e1];exact h2⟩)
   ·exact .inr (.inr ⟨h1,by rw [S.wire _ _ e];exact h2⟩)
structure Grow (d d':Wd):Prop where
 alike:Alike d d'
 clk:∀ k,bG d k<=bG d' k
 lst:∀ k g i,dZ d k g i<=dZ d' k g i
 told:∀ k,∃ l,bC d' k=bC d k++l
theorem Grow.refl (d:Wd):Grow d d:=⟨Alike.refl d,fun _=>Int.le_refl _,fun _ _ _=>Int.le_refl _,fun _=>⟨[],by simp⟩⟩
theorem Grow.trans {a b c:Wd} (h:Grow a b) (k:Grow b c):Grow a c:=by
 refine ⟨h.alike.trans k.alike,fun i=>Int.le_trans (h.clk i) (k.clk i),fun i g j=>Int.le_trans (h.lst i g j) (k.lst i g j),fun i=>?_⟩
 obtain ⟨l1,e1⟩:=h.told i
 obtain ⟨l2,e2⟩:=k.told i
 exact ⟨l1++l2,by rw [e2,e1,List.append_assoc]⟩
theorem BL {d d':Wd} {n:Nat} (S:pz d d' n):Grow d d':=by
 refine ⟨S.alike,fun k=>by rw [S.clk];omega,fun k g i=>by rw [S.lst];omega,fun k=>?_⟩
 by_cases h:k=n
 ·subst h;exact ⟨_,S.told⟩
 ·exact ⟨[],by rw [(S.other k h).2];simp⟩
theorem Ka {d d':Wd} {n:Nat} {m:Mg} (S:vU d d' n m):Grow d d':=by
 have:=S.mst
 exact ⟨S.alike,fun k=>by rw [S.clk];split;(· subst k;omega);(· omega),fun k g i=>by rw [S.lst];omega,fun k=>⟨[],by rw [S.told];simp⟩⟩
theorem Kc {d d':Wd} {f t:Nat} {m:Mg} (S:vV d d' f t m):Grow d d' :=
 ⟨S.alike,fun k=>by rw [S.clk];split;(· subst k;omega);(· omega),fun k g i=>by rw [S.lst];split <;> omega,fun k=>⟨[],by rw [S.told];simp⟩⟩
theorem uG {d d':Wd} {n g:Int} {nul:Bool} {body:ByteArray} (R:Right d) (hb:nul=true->body.size=0) (h:fI d n g nul body=.ok d') :
  bS d n g body.size=0/\∃ d3,vU d d3 n.toNat (zy d n g nul body)/\Right d3/\pz d3 d' n.toNat:=by
 rw [EU] at h
 by_cases hE:bS d n g body.size=0
 ·rw [if_pos hE] at h
  obtain ⟨d3,h1,h2⟩:=bind_ok h
  obtain ⟨p,h3,h4⟩:=bind_ok h2
  have S:=zA R hE hb h1
  have R3:=oG R S
  obtain ⟨_,T,_⟩:=zB (R3.qZ _) h3
  cases h4
  exact ⟨hE,d3,S,R3,T⟩
 ·rw [if_neg hE] at h;cases h
theorem zC {d d':Wd} {n g:Int} {nul:Bool} {body:ByteArray} (R:Right d) (hb:nul=true->body.size=0) (h:fI d n g nul body=.ok d'):Right d'/\Grow d d':=by
 obtain ⟨_,d3,S,R3,T⟩:=uG R hb h
 exact ⟨uF R3 T,(Ka S).trans (BL T)⟩
theorem L9 {d d':Wd} {n g:Int} {nul:Bool} {body:ByteArray} (I:Inv d) (hb:nul=true->body.size=0) (h:fI d n g nul body=.ok d'):Inv d':=by
 obtain ⟨_,d3,S,R3,T⟩:=uG I.right hb h
 have hlt:n.toNat < d3.nodes.length:=by rw [S.alike.n];exact S.lt
 exact ES hlt (J8 I S) T
theorem uH {d d':Wd} {f t:Nat} (R:Right d) (hf:f < d.nodes.length) (ht:t < d.nodes.length) (h:fJ d f t=.ok d') :
  ∃ d3 m,vV d d3 f t m/\Right d3/\pz d3 d' t:=by
 rw [EW] at h
 obtain ⟨d3,h1,h2⟩:=bind_ok h
 obtain ⟨p,h3,h4⟩:=bind_ok h2
 obtain ⟨m,S⟩:=zD R hf ht h1
 have R3:=oH R S
 obtain ⟨_,T,_⟩:=zB (R3.qZ _) h3
 cases h4
 exact ⟨d3,m,S,R3,T⟩
theorem GN {d d':Wd} {f t:Nat} (R:Right d) (hf:f < d.nodes.length) (ht:t < d.nodes.length) (h:fJ d f t=.ok d'):Right d'/\Grow d d':=by
 obtain ⟨d3,m,S,R3,T⟩:=uH R hf ht h
 exact ⟨uF R3 T,(Kc S).trans (BL T)⟩
theorem EX {d d':Wd} {f t:Nat} (I:Inv d) (hf:f < d.nodes.length) (ht:t < d.nodes.length) (h:fJ d f t=.ok d'):Inv d':=by
 obtain ⟨d3,m,S,R3,T⟩:=uH I.right hf ht h
 exact ES (by rw [S.alike.n];exact ht) (J9 I S) T
structure Moved (d d':Wd) (f t:Nat) (m:Mg):Prop where
 first:ay d f t=m::ay d' f t
 wire:∀ f' t',¬ (f'=f/\t'=t)->ay d' f' t'=ay d f' t'
 clk:m.st<=bG d' t
 lst:m.st<=dZ d' t m.gr.toNat f
 top:∀ c,(∀ k,bG d k<=c)->m.st<=c->∀ k,bG d' k<=c
 held:m.nul=true->∀ k x,x∈aJ d' k->x∈aJ d k
theorem moved {d d':Wd} {f t:Nat} (R:Right d) (hf:f < d.nodes.length) (ht:t < d.nodes.length) (h:fJ d f t=.ok d'):∃ m,Moved d d' f t m:=by
 obtain ⟨d3,m,S,R3,T⟩:=uH R hf ht h
 refine ⟨m,by rw [T.wire];exact S.first,fun f' t' h=>by rw [T.wire];exact S.wire f' t' h,by rw [T.clk,S.clk,if_pos rfl];omega,by rw [T.lst,S.lst,if_pos ⟨rfl,rfl,rfl⟩];omega,fun c hc hm k=>?_,fun hn k x hx=>?_⟩
 ·rw [T.clk,S.clk];have:=hc t;have:=hc k;split <;> omega
 ·have h3:x∈aJ d3 k:=by
   by_cases e:k=t
   ·subst e;rw [T.held] at hx;exact (List.mem_filter.1 hx).1
   ·rwa [(T.other k e).1] at hx
  by_cases e:k=t
  ·subst e
   rcases S.held with ⟨_,e⟩ | ⟨e2,_,_⟩
   ·rwa [e] at h3
   ·rw [hn] at e2;cases e2
  ·rwa [S.other k e] at h3
structure PD (d d':Wd) (n:Nat) (m:Mg):Prop where
 lt:n < d.nodes.length
 mfr:m.fr=n
 mst:m.st=bG d n+1
 clk:∀ k,bG d' k=if k=n then m.st else bG d k
 wire:∀ f t,ay d' f t=if ng d m n d.nodes.length f t then ay d f t++[m] else ay d f t
 held:m.nul=true->∀ k x,x∈aJ d' k->x∈aJ d k
theorem PE {d d':Wd} {n g:Int} {nul:Bool} {body:ByteArray} (R:Right d) (hb:nul=true->body.size=0) (h:fI d n g nul body=.ok d'):PD d d' n.toNat (zy d n g nul body):=by
 obtain ⟨_,d3,S,R3,T⟩:=uG R hb h
 refine ⟨S.lt,S.mfr,S.mst,fun k=>by rw [T.clk];exact S.clk k,fun f t=>by rw [T.wire];exact S.wire f t,fun hn k x hx=>?_⟩
 have h3:x∈aJ d3 k:=by
  by_cases e:k=n.toNat
  ·subst e;rw [T.held] at hx;exact (List.mem_filter.1 hx).1
  ·rwa [(T.other k e).1] at hx
 by_cases e:k=n.toNat
 ·subst e
  rcases S.held with ⟨_,e⟩ | ⟨e2,_,_⟩
  ·rwa [e] at h3
  ·rw [hn] at e2;cases e2
 ·rwa [S.other k e] at h3
theorem zF {α β:Type} (f:β->α->Except Int β) (P:List α->β->Prop) (hs:∀ l b a b',P l b->f b a=.ok b'->P (l++[a]) b'):∀ (l l0:List α) (b b':β),P l0 b->l.foldlM f b=.ok b'->P (l0++l) b'
 | [],l0,b,b',h0,h=>by
  have:b=b':=Except.ok.inj h
  subst this;simpa using h0
 | a::l,l0,b,b',h0,h=>by
  rw [List.foldlM_cons] at h
  obtain ⟨b1,h1,h2⟩:=bind_ok h
  have:=zF f P hs l (l0++[a]) b1 b' (hs l0 b a b1 h0 h1) h2
  simpa using this
theorem uI {α β:Type} (f:β->α->Except Int β) (P:List α->β->Prop) (hs:∀ l b a b',P l b->f b a=.ok b'->P (l++[a]) b'):∀ (l l0:List α) (b:β) (e:Int),P l0 b->l.foldlM f b=.error e->∃ l1 a b',a∈l/\P (l0++l1) b'/\f b' a=.error e
 | [],l0,b,e,_,h=>by cases h
 | a::l,l0,b,e,h0,h=>by
  rw [List.foldlM_cons] at h
  rcases iQ h with h | ⟨b1,h1,h2⟩
  ·exact ⟨[],a,b,by simp,by simpa using h0,h⟩
  ·obtain ⟨l1,a',b',e1,e2,e3⟩:=uI f P hs l (l0++[a]) b1 e (hs l0 b a b1 h0 h1) h2
   exact ⟨a::l1,a',b',List.mem_cons_of_mem _ e1,by simpa using e2,e3⟩
def Ma (d:Wd):Prop:=∀ f t m,m∈ay d f t->m.nul=true
def Sub (d d':Wd):Prop:=∀ k x,x∈aJ d' k->x∈aJ d k
structure Moves (f t j:Nat) (d d':Wd):Prop where
 right:Right d'
 inv:Inv d->Inv d'
 grow:Grow d d'
 here:ay d' f t=(ay d f t).drop j
 wire:∀ f' t',¬ (f'=f/\t'=t)->ay d' f' t'=ay d f' t'
 came:∀ m,m∈(ay d f t).take j->m.st<=bG d' t/\m.st<=dZ d' t m.gr.toNat f
 top:Inv d->∀ c,(∀ k,bG d k<=c)->∀ k,bG d' k<=c
 sub:Ma d->Sub d d'
theorem vW {f t:Nat}:∀ (j:Nat) (d d':Wd),Right d->f < d.nodes.length->t < d.nodes.length->j<=(ay d f t).length->dV f t j d=.ok d'->Moves f t j d d'
 | 0,d,d',R,hf,ht,hj,h=>by
  have:d=d':=Except.ok.inj h
  subst this
  exact ⟨R,fun h=>h,Grow.refl d,by simp,fun _ _ _=>rfl,fun m hm=>by simp at hm,fun _ c hc=>hc,fun _ _ _ h=>h⟩
 | j+1,d,d',R,hf,ht,hj,h=>by
  unfold dV at h
  obtain ⟨d1,h1,h2⟩:=bind_ok h
  obtain ⟨m,M⟩:=moved R hf ht h1
  obtain ⟨R1,G1⟩:=GN R hf ht h1
  have hf1:f < d1.nodes.length:=by rw [G1.alike.n];exact hf
  have ht1:t < d1.nodes.length:=by rw [G1.alike.n];exact ht
  have hl:j<=(ay d1 f t).length:=by rw [M.first] at hj;simp at hj;omega
  have S:=vW j d1 d' R1 hf1 ht1 hl h2
  refine ⟨S.right,fun I=>S.inv (EX I hf ht h1),G1.trans S.grow, ?_,fun f' t' hn=>(S.wire f' t' hn).trans (M.wire f' t' hn),fun x hx=>?_,fun I c hc=>?_,fun hN k x hx=>?_⟩
  ·rw [M.first,List.drop_succ_cons];exact S.here
  ·rw [M.first,List.take_succ_cons] at hx
   rcases List.mem_cons.1 hx with rfl | hx
   ·have a:=S.grow.clk t;have b:=S.grow.lst t x.gr.toNat f
    have c:=M.clk;have e:=M.lst
    exact ⟨by omega,by omega⟩
   ·exact S.came x hx
  ·have hm:=(I.wire f t m (by rw [M.first];simp)).1
   have:=hc f
   exact S.top (EX I hf ht h1) c (M.top c hc (by omega))
  ·refine M.held (hN f t m (by rw [M.first];simp)) k x (S.sub (fun f' t' y hy=>?_) k x hx)
   by_cases e:f'=f/\t'=t
   ·obtain ⟨rfl,rfl⟩:=e;exact hN f' t' y (by rw [M.first];exact List.mem_cons_of_mem _ hy)
   ·rw [M.wire f' t' e] at hy;exact hN f' t' y hy
theorem Mc {d:Wd}:∀ p∈pairs d.nodes.length d.nodes.length,p.1 < d.nodes.length/\p.2 < d.nodes.length:=fun p hp=>(xC _ _ p.1 p.2).1 hp
structure zG (d:Wd) (l:List (Nat × Nat)) (d':Wd):Prop where
 right:Right d'
 inv:Inv d->Inv d'
 grow:Grow d d'
 null:Ma d->Ma d'
 sub:Sub d d'
 sent:∀ n g t:Nat,(n,g)∈l->hasB d.groups g n=true->t < d.nodes.length->t≠n->hasB d.groups g t=true->∃ m,m∈ay d' n t/\m.gr=g/\bG d n < m.st
 top:∀ c,(∀ k,bG d k<=c)->∀ k,bG d' k<=c+l.length
theorem EY {d:Wd} {l:List (Nat × Nat)} {s s':Wd} {p:Nat × Nat} (D:zG d l s) (h:dh s p=.ok s'):zG d (l++[p]) s':=by
 obtain ⟨n,g⟩:=p
 unfold dh at h
 by_cases hb:hasB s.groups g n=true
 ·simp only [hb,if_true] at h
  have C:=PE D.right (fun _=>rfl) h
  obtain ⟨R1,G1⟩:=zC D.right (fun _=>rfl) h
  have hn:(n:Int).toNat=n:=by omega
  rw [hn] at C
  have W2:∀ f t x,x∈ay s f t->x∈ay s' f t:=by
   intro f t x hx
   rw [C.wire];split
   ·exact List.mem_append.2 (.inl hx)
   ·exact hx
  refine ⟨R1,fun I=>L9 (D.inv I) (fun _=>rfl) h,D.grow.trans G1,fun hN f t x hx=>?_,fun k x hx=>D.sub k x (C.held rfl k x hx),fun n' g' t hm h1 h2 h3 h4=>?_,fun c hc k=>?_⟩
  ·rw [C.wire] at hx
   split at hx
   ·rcases List.mem_append.1 hx with hx | hx
    ·exact D.null hN f t x hx
    ·simp at hx;subst hx;rfl
   ·exact D.null hN f t x hx
  ·rcases List.mem_append.1 hm with hm | hm
   ·obtain ⟨m,a,b,c⟩:=D.sent n' g' t hm h1 h2 h3 h4
    exact ⟨m,W2 _ _ _ a,b,c⟩
   ·simp at hm
    obtain ⟨rfl,rfl⟩:=hm
    refine ⟨zy s n' g' true ByteArray.empty, ?_,rfl, ?_⟩
    ·rw [C.wire,if_pos ⟨rfl,by rw [D.grow.alike.n];exact h2,h3,by rw [D.grow.alike.g];exact h4⟩];simp
    ·have:=C.mst;have:=D.grow.clk n';omega
  ·rw [C.clk]
   have a:=D.top c hc k
   have b:=D.top c hc n
   have:=C.mst
   simp only [List.length_append,List.length_cons,List.length_nil]
   split <;> omega
 ·simp only [hb] at h
  have:s=s':=Except.ok.inj h
  subst this
  refine ⟨D.right,D.inv,D.grow,D.null,D.sub,fun n' g' t hm h1 h2 h3 h4=>?_,fun c hc k=>?_⟩
  ·rcases List.mem_append.1 hm with hm | hm
   ·exact D.sent n' g' t hm h1 h2 h3 h4
   ·simp at hm
    obtain ⟨rfl,rfl⟩:=hm
    rw [D.grow.alike.g] at hb
    exact absurd h1 hb
  ·have:=D.top c hc k;simp;omega
theorem Md {d d':Wd} (R:Right d) (h:zH d=.ok d'):zG d (pairs d.nodes.length d.groups.length) d':=by
 have h0:zG d [] d:=⟨R,fun h=>h,Grow.refl d,fun h=>h,fun _ _ h=>h,fun n g t h=>(by cases h),fun c hc k=>by have:=hc k;simp;omega⟩
 have:=zF dh (zG d) (fun l b a b'=>EY) _ [] d d' h0 h
 simpa using this
theorem jC (G N:Nat):(pairs G N).length=G*N:=by
 unfold pairs
 rw [List.length_flatMap]
 simp [List.map_const']
theorem small {d:Wd} (R:Right d):d.nodes.length<=4/\1<=d.nodes.length/\d.groups.length<=3/\d.nodes.length*d.groups.length<=12:=by
 have:=o9 R.chk
 refine ⟨by omega,by omega,by omega, ?_⟩
 exact Nat.mul_le_mul (by omega:d.nodes.length<=4) (by omega:d.groups.length<=3)
theorem GQ {α:Type} {d:Wd} {r:Except Int α} {a:α} (h:checked d r=.ok a):Right d/\r=.ok a:=by
 unfold checked at h
 by_cases hE:aD d=0
 ·rw [if_pos hE] at h;exact ⟨(cu d).1 hE,h⟩
 ·rw [if_neg hE] at h;cases h
theorem E8 {a b:Mg} (h:lessM a b=true):a≠b:=by
 rintro rfl;rw [vY] at h;cases h
theorem BQ:∀ (l1 l2:List Mg),aL l1=true->aL l2=true->(∀ x,x∈l1↔x∈l2)->l1=l2
 | [],[],_,_,_=>rfl
 | [],b::r,_,_,h=>by have:=(h b).2 (by simp);cases this
 | a::r,[],_,_,h=>by have:=(h a).1 (by simp);cases this
 | a::r,b::s,h1,h2,h=>by
  obtain ⟨p1,p2⟩:=List.pairwise_cons.1 ((cO _).1 h1)
  obtain ⟨q1,q2⟩:=List.pairwise_cons.1 ((cO _).1 h2)
  have e:a=b:=by
   rcases List.mem_cons.1 ((h a).1 (by simp)) with e | h3
   ·exact e
   ·rcases List.mem_cons.1 ((h b).2 (by simp)) with e | h4
    ·exact e.symm
    ·have:=kr (q1 a h3) (p1 b h4)
     rw [vY] at this;cases this
  subst e
  congr 1
  refine BQ r s ((cO _).2 p2) ((cO _).2 q2) fun x=>?_
  constructor
  ·intro hx
   rcases List.mem_cons.1 ((h x).1 (List.mem_cons_of_mem _ hx)) with e | h3
   ·exact absurd e.symm (E8 (p1 x hx))
   ·exact h3
  ·intro hx
   rcases List.mem_cons.1 ((h x).2 (List.mem_cons_of_mem _ hx)) with e | h3
   ·exact absurd e.symm (E8 (q1 x hx))
   ·exact h3
def jI (m:Mg) (l:List Mg):Option Nat:=l.findIdx? (fun x=>dN x m)
def jm (out:List Mg) (m:Mg):Except Int (List Mg) :=
 if out.any (fun x=>dN x m) then .ok out
 else match out[aO m out]? with
  | some x=>if lessM m x then .ok (out.take (aO m out)++[m]++out.drop (aO m out)) else .error 1
  | none=>.ok (out.take (aO m out)++[m]++out.drop (aO m out))
def vC (d:Wd):List Mg:=d.nodes.flatMap Nd.told
def oQ (d:Wd):Except Int (List Mg):=(vC d).foldlM jm []
theorem oU (d:Wd) (x:Mg):x∈vC d↔∃ k,x∈bC d k:=by
 unfold vC bC
 rw [List.mem_flatMap]
 constructor
 ·rintro ⟨nd,h1,h2⟩
  obtain ⟨k,hk⟩:=List.getElem?_of_mem h1
  exact ⟨k,by rw [hk];exact h2⟩
 ·rintro ⟨k,hk⟩
  cases h:d.nodes[k]? with
  | none=>rw [h] at hk;cases hk
  | some nd=>rw [h] at hk;exact ⟨nd,List.mem_of_getElem? h,hk⟩
theorem E9 {l:List Mg} {m:Mg}:l.any (fun x=>dN x m)=true↔m∈l:=by
 rw [List.any_eq_true]
 exact ⟨fun ⟨y,hy,e⟩=>by rw [iY] at e;subst e;exact hy,fun h=>⟨m,h,(iY m m).2 rfl⟩⟩
theorem put_mem {m:Mg} {ms:List Mg} (x:Mg):x∈ms.take (aO m ms)++[m]++ms.drop (aO m ms)↔x=m\/x∈ms:=by
 have:x∈ms↔x∈ms.take (aO m ms)\/x∈ms.drop (aO m ms):=by
  rw [<-List.mem_append,List.take_append_drop]
 rw [this]
 simp only [List.mem_append,List.mem_singleton]
 constructor
 ·rintro ((h | h) | h)
  ·exact .inr (.inl h)
  ·exact .inl h
  ·exact .inr (.inr h)
 ·rintro (h | h | h)
  ·exact .inl (.inr h)
  ·exact .inl (.inl h)
  ·exact .inr h
theorem BR {m:Mg} {ms:List Mg} (h1:aL ms=true) (h3:∀ x,ms[aO m ms]? = some x->lessM m x=true):aL (ms.take (aO m ms)++[m]++ms.drop (aO m ms))=true:=by
 have hp:=(cO _).1 h1
 rw [cO,List.append_assoc]
 have ht:=List.take_append_drop (aO m ms) ms
 rw [<-ht] at hp
 obtain ⟨p1,p2,p3⟩:=List.pairwise_append.1 hp
 have hd:∀ x∈ms.drop (aO m ms),lessM m x=true:=by
  intro x hx
  cases hdd:ms.drop (aO m ms) with
  | nil=>rw [hdd] at hx;simp at hx
  | cons y r =>
   have hy:ms[aO m ms]? = some y:=by
    have:=congrArg (·[0]?) hdd
    simpa using this
   have hmy:=h3 y hy
   rw [hdd] at hx p2
   rcases List.mem_cons.1 hx with rfl | hx
   ·exact hmy
   ·exact kr hmy ((List.pairwise_cons.1 p2).1 x hx)
 refine List.pairwise_append.2 ⟨p1,List.pairwise_append.2 ⟨by simp,p2,fun a ha b hb=>?_⟩,fun a ha b hb=>?_⟩
 ·simp at ha;subst ha;exact hd b hb
 ·rcases List.mem_append.1 hb with hb | hb
  ·simp at hb;subst hb;exact ru _ _ a ha
  ·exact p3 a ha b hb
theorem Fa {m:Mg}:∀ (ms:List Mg) (x:Mg),ms[aO m ms]? = some x->lessM x m=false
 | [],x,h=>by simp at h
 | y::r,x,h=>by
  unfold aO at h
  cases hl:lessM y m
  ·simp [hl] at h;subst h;exact hl
  ·simp [hl] at h;exact Fa r x h
theorem Mf {out out':List Mg} {m:Mg} (hr:aL out=true) (h:jm out m=.ok out'):aL out'=true/\∀ x,x∈out'↔x∈out\/x=m:=by
 unfold jm at h
 by_cases ha:out.any (fun x=>dN x m)=true
 ·rw [if_pos ha] at h
  have:=Except.ok.inj h;subst this
  have hm:=E9.1 ha
  exact ⟨hr,fun x=>⟨fun h=>.inl h,fun h=>h.elim id fun e=>by rw [e];exact hm⟩⟩
 ·rw [if_neg ha] at h
  cases hx:out[aO m out]? with
  | none =>
   rw [hx] at h
   have:=Except.ok.inj h;subst this
   exact ⟨BR hr fun x h=>(by rw [hx] at h;cases h),fun x=>by rw [put_mem];exact Or.comm⟩
  | some y =>
   rw [hx] at h
   cases hl:lessM m y
   ·simp [hl] at h
   ·simp only [hl,if_true] at h
    have:=Except.ok.inj h;subst this
    exact ⟨BR hr fun x h=>(by rw [hx] at h;cases h;exact hl),fun x=>by rw [put_mem];exact Or.comm⟩
theorem Ob {out:List Mg} {m:Mg} {e:Int} (h:jm out m=.error e):e=1/\∃ y∈out,y≠m/\y.st=m.st/\y.fr=m.fr:=by
 unfold jm at h
 by_cases ha:out.any (fun x=>dN x m)=true
 ·rw [if_pos ha] at h;cases h
 ·rw [if_neg ha] at h
  cases hx:out[aO m out]? with
  | none=>rw [hx] at h;cases h
  | some y =>
   rw [hx] at h
   cases hl:lessM m y
   ·simp only [hl] at h
    have hy:=List.mem_of_getElem? hx
    refine ⟨by simpa using (Except.error.inj h).symm,y,hy, ?_, ?_⟩
    ·rintro rfl;exact ha (E9.2 hy)
    ·have h1:=Fa out y hx
     have n1:¬ lessM m y=true:=by simp [hl]
     have n2:¬ lessM y m=true:=by simp [h1]
     rw [mU] at n1 n2
     omega
   ·simp [hl] at h
theorem adds {l:List Mg}:∀ (l0 out:List Mg),aL out=true->(∀ x,x∈out↔x∈l0)->(∀ out',l.foldlM jm out=.ok out'->aL out'=true/\∀ x,x∈out'↔x∈l0\/x∈l)/\(∀ e,l.foldlM jm out=.error e->e=1/\∃ a b,(a∈l0\/a∈l)/\(b∈l0\/b∈l)/\a≠b/\a.st=b.st/\a.fr=b.fr):=by
 induction l with
 | nil =>
  intro l0 out hr hm
  refine ⟨fun out' h=>?_,fun e h=>by cases h⟩
  have:=Except.ok.inj h;subst this
  exact ⟨hr,fun x=>by simp [hm]⟩
 | cons m l ih =>
  intro l0 out hr hm
  simp only [List.foldlM_cons]
  refine ⟨fun out' h=>?_,fun e h=>?_⟩
  ·obtain ⟨o1,h1,h2⟩:=bind_ok h
   obtain ⟨r1,m1⟩:=Mf hr h1
   obtain ⟨a,b⟩:=(ih (l0++[m]) o1 r1 (fun x=>by rw [m1,hm];simp)).1 out' h2
   exact ⟨a,fun x=>by rw [b];simp [or_assoc]⟩
  ·rcases iQ h with h | ⟨o1,h1,h2⟩
   ·obtain ⟨e1,y,hy,h3,h4,h5⟩:=Ob h
    exact ⟨e1,y,m,.inl ((hm y).1 hy),.inr (by simp),h3,h4,h5⟩
   ·obtain ⟨r1,m1⟩:=Mf hr h1
    obtain ⟨e1,a,b,ha,hb,h3⟩:=(ih (l0++[m]) o1 r1 (fun x=>by rw [m1,hm];simp)).2 e h2
    refine ⟨e1,a,b, ?_, ?_,h3⟩
    ·simpa [or_assoc] using ha
    ·simpa [or_assoc] using hb
theorem Gi {d:Wd} {l:List Mg} (h:oQ d=.ok l):aL l=true/\∀ x,x∈l↔∃ k,x∈bC d k:=by
 obtain ⟨a,b⟩:=(adds (l:=vC d) [] [] rfl (fun x=>Iff.rfl)).1 l h
 exact ⟨a,fun x=>by rw [b,<-oU];simp⟩
theorem IW {d:Wd} {e:Int} (h:oQ d=.error e):e=1/\∃ a b,(∃ k,a∈bC d k)/\(∃ k,b∈bC d k)/\a≠b/\a.st=b.st/\a.fr=b.fr:=by
 obtain ⟨a,x,y,hx,hy,h3⟩:=(adds (l:=vC d) [] [] rfl (fun x=>Iff.rfl)).2 e h
 refine ⟨a,x,y,(oU d x).1 ?_,(oU d y).1 ?_,h3⟩
 ·simpa using hx
 ·simpa using hy
theorem Ny (d:Wd) (l:List Mg):oQ d=.ok l↔aL l=true/\∀ x,x∈l↔∃ k,x∈bC d k:=by
 refine ⟨Gi,fun ⟨h1,h2⟩=>?_⟩
 cases h:oQ d with
 | ok l' =>
  obtain ⟨h3,h4⟩:=Gi h
  rw [BQ l' l h3 h1 fun x=>by rw [h2,h4]]
 | error e =>
  obtain ⟨_,a,b,ha,hb,hne,e1,e2⟩:=IW h
  have ma:=(h2 a).2 ha
  have mb:=(h2 b).2 hb
  exfalso
  have hp:=(cO _).1 h1
  obtain ⟨i,hi⟩:=List.getElem?_of_mem ma
  obtain ⟨j,hj⟩:=List.getElem?_of_mem mb
  obtain ⟨li,hi'⟩:=zQ2.1 hi
  obtain ⟨lj,hj'⟩:=zQ2.1 hj
  rcases Nat.lt_trichotomy i j with c | c | c
  ·have:=List.pairwise_iff_getElem.1 hp i j li lj c
   rw [hi',hj',mU] at this;omega
  ·subst c;rw [hi'] at hj';exact hne hj'
  ·have:=List.pairwise_iff_getElem.1 hp j i lj li c
   rw [hi',hj',mU] at this;omega
end Go.Proofs.YtiiifecfdkjmbaaGreat.Pu
