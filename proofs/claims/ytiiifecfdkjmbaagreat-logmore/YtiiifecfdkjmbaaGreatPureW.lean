/- Telling, casting and moving keep what holds of worlds that came by acts. Casts and moves, one behind the other: what they keep, what grows, and with which errors they end. Wires that are emptied, rounds of Nulls, and calm: in a calm world nobody holds anything, and nothing is on its way. Rounds, calm, acts, and worlds that came by acts: what holds of them. -/
import Derived.Test.YtiiifecfdkjmbaaGreatPureX
namespace Go.Proofs.YtiiifecfdkjmbaaGreat.Pure
set_option maxRecDepth 8000
theorem EP {d d':Wd} {k:Nat} (hg:d'.groups=d.groups) (hn:d'.nodes.length=d.nodes.length) (hk:k < d.nodes.length) (hc:aO d k≤aO d' k) (hl:∀ g i,dP d k g i≤dP d' k g i):dY d k≤dY d' k:=by
 rw [nH (by rw [hn];exact hk),hg,hn]
 obtain ⟨h1,h2⟩:=(nH hk (dY d k)).1 (Int.le_refl _)
 exact ⟨by omega,fun g i a b c e=>by have:=h2 g i a b c e;have:=hl g i;omega⟩
theorem GL {d:Wd} {k:Nat} (hk:k < d.nodes.length):dY d k≤aO d k:=((nH hk (dY d k)).1 (Int.le_refl _)).1
theorem GN {d:Wd} {k g i:Nat} (hk:k < d.nodes.length) (hi:i < d.nodes.length) (hn:i≠k) (h1:hasB d.groups g k=true) (h2:hasB d.groups g i=true):dY d k≤dP d k g i:=((nH hk (dY d k)).1 (Int.le_refl _)).2 g i hi hn h1 h2
theorem sV {d:Wd} {k:Nat} {m:Mg} (h:m∈aG d k):k < d.nodes.length:=by
 unfold aG at h
 cases hx:d.nodes[k]? with
 | none=>rw [hx] at h;simp at h
 | some x=>exact dn hx
theorem Da {d:Wd} {k:Nat} {m:Mg} (h:m∈bW d k):k < d.nodes.length:=by
 unfold bW at h
 cases hx:d.nodes[k]? with
 | none=>rw [hx] at h;simp at h
 | some x=>exact dn hx
theorem M7 {d:Wd} (r:dQ d) {f t:Nat} {m:Mg} (h:m∈ay d f t):f < d.nodes.length∧t < d.nodes.length:=by
 rcases jI d f t with e | ⟨row,l,h1,h2,e⟩
 ·rw [e] at h;simp at h
 ·have a:=(List.getElem?_eq_some_iff.1 h1).1
  have b:=(List.getElem?_eq_some_iff.1 h2).1
  rw [r.1] at a
  rw [r.2 f row h1] at b
  exact ⟨a,b⟩
structure M8 (d:Wd) (n:Nat):Prop where
 right:Right d
 heard:∀ k g i,dP d k g i≤aO d i
 wire:∀ i k m,m∈ay d i k→m.st≤aO d i∧∀ g,dP d k g i < m.st
 told:∀ k m,m∈bW d k→m.st≤dY d k
 held:∀ k m,k≠n→m∈aG d k→dY d k < m.st
 sep:∀ a b,a∈bW d n→b∈aG d n→a.st < b.st
 seen:∀ k m,m∈aG d k→m.st≤aO d k∧∀ i:Nat,m.fr=i→i≠k→m.st≤dP d k m.gr.toNat i
 own:∀ m,In d m→m.st≤aO d m.fr.toNat
 uniq:∀ m m',In d m→In d m'→m.st=m'.st→m.fr=m'.fr→m=m'
 all:∀ m k,In d m→m.nul=false→k < d.nodes.length→hasB d.groups m.gr k=true→m∈bW d k∨m∈aG d k∨(m.fr≠k∧m∈ay d m.fr.toNat k)
theorem Inv.pre {d:Wd} (h:Inv d) (n:Nat):M8 d n :=
 ⟨h.right,h.heard,h.wire,h.told,fun k m _=>h.held k m,fun a b ha hb=>by have:=h.told n a ha;have:=h.held n b hb;omega,h.seen,h.own,h.uniq,h.all⟩
theorem ER {d d':Wd} {n:Nat} (hn:n < d.nodes.length) (I:M8 d n) (S:pO d d' n):Inv d':=by
 have F:∀ k,k < d.nodes.length→dY d' k=dY d k:=fun k hk=>xB S.alike.g S.alike.n hk (S.clk k) (S.lst k)
 have H:∀ k m,m∈aG d' k→m∈aG d k:=by
  intro k m hm
  by_cases h:k=n
  ·subst h;rw [S.held] at hm;exact (List.mem_filter.1 hm).1
  ·rwa [(S.other k h).1] at hm
 have T:∀ k m,m∈bW d' k→m∈bW d k∨(m∈aG d k∧m.st≤dY d k):=by
  intro k m hm
  by_cases h:k=n
  ·subst h;rw [S.told] at hm
   rcases List.mem_append.1 hm with hm | hm
   ·exact .inl hm
   ·obtain ⟨a,b⟩:=List.mem_filter.1 hm;exact .inr ⟨a,by simpa using b⟩
  ·rw [(S.other k h).2] at hm;exact .inl hm
 have K:∀ k m,m∈aG d k→m∈bW d' k∨m∈aG d' k:=by
  intro k m hm
  by_cases h:k=n
  ·subst h
   rw [S.told,S.held]
   by_cases c:m.st≤dY d k
   ·exact .inl (List.mem_append.2 (.inr (List.mem_filter.2 ⟨hm,by simpa using c⟩)))
   ·exact .inr (List.mem_filter.2 ⟨hm,by simpa using (by omega:dY d k < m.st)⟩)
  ·rw [(S.other k h).1];exact .inr hm
 have K2:∀ k m,m∈bW d k→m∈bW d' k:=by
  intro k m hm
  by_cases h:k=n
  ·subst h;rw [S.told];exact List.mem_append.2 (.inl hm)
  ·rw [(S.other k h).2];exact hm
 have hin:∀ m,In d' m→In d m:=by
  rintro m ⟨k,h | h | ⟨f,h⟩⟩
  ·exact ⟨k,.inl (H k m h)⟩
  ·rcases T k m h with h | ⟨h,_⟩
   ·exact ⟨k,.inr (.inl h)⟩
   ·exact ⟨k,.inl h⟩
  ·rw [S.wire] at h;exact ⟨k,.inr (.inr ⟨f,h⟩)⟩
 refine ⟨uO I.right S,fun k g i=>by rw [S.lst,S.clk];exact I.heard k g i,fun i k m hm=>?_,fun k m hm=>?_,fun k m hm=>?_,fun k m hm=>?_,fun m hm=>by rw [S.clk];exact I.own m (hin m hm),fun m m' h h'=>I.uniq m m' (hin m h) (hin m' h'),fun m k hm h0 hk hb=>?_⟩
 ·rw [S.wire] at hm;rw [S.clk];obtain ⟨a,b⟩:=I.wire i k m hm;exact ⟨a,fun g=>by rw [S.lst];exact b g⟩
 ·rcases T k m hm with h | ⟨h,h2⟩
  ·rw [F k (Da h)];exact I.told k m h
  ·rw [F k (sV h)];exact h2
 ·have hk:=sV (H k m hm)
  rw [F k hk]
  by_cases h:k=n
  ·subst h;rw [S.held] at hm;simpa using (List.mem_filter.1 hm).2
  ·exact I.held k m h (H k m hm)
 ·obtain ⟨a,b⟩:=I.seen k m (H k m hm)
  exact ⟨by rw [S.clk];exact a,fun i e1 e2=>by rw [S.lst];exact b i e1 e2⟩
 ·rw [S.alike.n] at hk;rw [S.alike.g] at hb
  rcases I.all m k (hin m hm) h0 hk hb with h | h | h
  ·exact .inl (K2 k m h)
  ·rcases K k m h with h | h
   ·exact .inl h
   ·exact .inr (.inl h)
  ·rw [S.wire];exact .inr (.inr h)
theorem JV {d d':Wd} {n:Nat} {m:Mg} (I:Inv d) (S:vX d d' n m):M8 d' n:=by
 have R:=I.right
 have hst:=S.mst
 have C:∀ k,aO d k≤aO d' k:=fun k=>by rw [S.clk];split;(· subst k;omega);(· omega)
 have F:∀ k,k < d.nodes.length→dY d k≤dY d' k:=fun k hk=>EP S.alike.g S.alike.n hk (C k) (fun g i=>by rw [S.lst];omega)
 have F2:∀ k,k≠n→k < d.nodes.length→dY d' k=dY d k:=fun k h hk=>xB S.alike.g S.alike.n hk (by rw [S.clk,if_neg h]) (S.lst k)
 have H:∀ k x,x∈aG d' k→(k=n∧x=m∧m.nul=false)∨x∈aG d k:=by
  intro k x hx
  by_cases h:k=n
  ·subst h
   rcases S.held with ⟨_,e⟩ | ⟨e2,e0,e⟩
   ·rw [e] at hx;exact .inr hx
   ·rw [e,mh e0] at hx
    rcases hx with rfl | hx
    ·exact .inl ⟨rfl,rfl,e2⟩
    ·exact .inr hx
  ·rw [S.other k h] at hx;exact .inr hx
 have H2:∀ k x,x∈aG d k→x∈aG d' k:=by
  intro k x hx
  by_cases h:k=n
  ·subst h
   rcases S.held with ⟨_,e⟩ | ⟨e2,e0,e⟩
   ·rw [e];exact hx
   ·rw [e,mh e0];exact .inr hx
  ·rw [S.other k h];exact hx
 have W:∀ f t x,x∈ay d' f t→(f=n∧x=m∧t < d.nodes.length∧t≠n)∨x∈ay d f t:=by
  intro f t x hx
  rw [S.wire] at hx
  split at hx
  ·next g =>
   rcases List.mem_append.1 hx with hx | hx
   ·exact .inr hx
   ·simp at hx;exact .inl ⟨g.1,hx,g.2.1,g.2.2.1⟩
  ·exact .inr hx
 have W2:∀ f t x,x∈ay d f t→x∈ay d' f t:=by
  intro f t x hx
  rw [S.wire];split
  ·exact List.mem_append.2 (.inl hx)
  ·exact hx
 have hin:∀ x,In d' x→x=m∨In d x:=by
  rintro x ⟨k,h | h | ⟨f,h⟩⟩
  ·rcases H k x h with ⟨_,h,_⟩ | h
   ·exact .inl h
   ·exact .inr ⟨k,.inl h⟩
  ·rw [S.told] at h;exact .inr ⟨k,.inr (.inl h)⟩
  ·rcases W f k x h with ⟨_,h,_⟩ | h
   ·exact .inl h
   ·exact .inr ⟨k,.inr (.inr ⟨f,h⟩)⟩
 have Ow:m.fr.toNat=n:=by have:=S.mfr;omega
 have old:∀ x,In d x→x.fr=m.fr→x.st < m.st:=by
  intro x hx e
  have:=I.own x hx
  rw [e,Ow] at this;omega
 refine ⟨oU R S,fun k g i=>by rw [S.lst];have:=I.heard k g i;have:=C i;omega,fun i k x hx=>?_,fun k x hx=>?_,fun k x hk hx=>?_,fun a b ha hb=>?_,fun k x hx=>?_,fun x hx=>?_,fun x y hx hy e1 e2=>?_,fun x k hx h0 hk hb=>?_⟩
 ·rcases W i k x hx with ⟨rfl,rfl,_⟩ | h
  ·exact ⟨by rw [S.clk,if_pos rfl];omega,fun g=>by rw [S.lst];have:=I.heard k g i;omega⟩
  ·obtain ⟨a,b⟩:=I.wire i k x h
   exact ⟨by have:=C i;omega,fun g=>by rw [S.lst];exact b g⟩
 ·rw [S.told] at hx;have:=I.told k x hx;have:=F k (Da hx);omega
 ·rcases H k x hx with ⟨h,_⟩ | h
  ·exact absurd h hk
  ·rw [F2 k hk (sV h)];exact I.held k x h
 ·rw [S.told] at ha
  have h1:=I.told n a ha
  have h2:=GL S.lt
  rcases H n b hb with ⟨_,rfl,_⟩ | h
  ·omega
  ·have:=I.held n b h;omega
 ·rcases H k x hx with ⟨rfl,rfl,_⟩ | h
  ·exact ⟨by rw [S.clk,if_pos rfl];omega,fun i e1 e2=>absurd (by have:=S.mfr;omega) e2⟩
  ·obtain ⟨a,b⟩:=I.seen k x h
   exact ⟨by have:=C k;omega,fun i e1 e2=>by rw [S.lst];exact b i e1 e2⟩
 ·rcases hin x hx with rfl | h
  ·rw [Ow,S.clk,if_pos rfl];omega
  ·have:=I.own x h;have:=C x.fr.toNat;omega
 ·rcases hin x hx with rfl | h <;> rcases hin y hy with rfl | h'
  ·rfl
  ·have:=old y h' e2.symm;omega
  ·have:=old x h e2;omega
  ·exact I.uniq x y h h' e1 e2
 ·rw [S.alike.n] at hk;rw [S.alike.g] at hb
  rcases hin x hx with rfl | h
  ·by_cases e:k=n
   ·subst e
    rcases S.held with ⟨e1,_⟩ | ⟨_,e0,e⟩
    ·rw [e1] at h0;cases h0
    ·exact .inr (.inl (by rw [e,mh e0];exact .inl rfl))
   ·refine .inr (.inr ⟨by have:=S.mfr;omega, ?_⟩)
    rw [Ow,S.wire,if_pos ⟨rfl,hk,e,hb⟩]
    simp
  ·rcases I.all x k h h0 hk hb with h | h | ⟨h1,h2⟩
   ·exact .inl (by rw [S.told];exact h)
   ·exact .inr (.inl (H2 k x h))
   ·exact .inr (.inr ⟨h1,W2 _ _ _ h2⟩)
theorem JW {d d':Wd} {f t:Nat} {m:Mg} (I:Inv d) (S:vY d d' f t m):M8 d' t:=by
 have R:=I.right
 have hmem:m∈ay d f t:=by rw [S.first];simp
 obtain ⟨hf1,hf2⟩:=R.qM f t m hmem
 obtain ⟨hf3,hf4⟩:=pQ.1 hf1
 obtain ⟨z1,z2,z3,z4⟩:=pR hf3
 have hgr:((m.gr.toNat:Nat):Int)=m.gr:=by omega
 obtain ⟨w1,w2⟩:=I.wire f t m hmem
 have hft:f≠t:=by rintro rfl;rw [R.BQ f] at hmem;cases hmem
 have C:∀ k,aO d k≤aO d' k:=fun k=>by rw [S.clk];split;(· subst k;omega);(· omega)
 have L:∀ k g i,dP d k g i≤dP d' k g i:=fun k g i=>by rw [S.lst];split <;> omega
 have F:∀ k,k < d.nodes.length→dY d k≤dY d' k:=fun k hk=>EP S.alike.g S.alike.n hk (C k) (L k)
 have F2:∀ k,k≠t→k < d.nodes.length→dY d' k=dY d k:=fun k h hk=>xB S.alike.g S.alike.n hk (by rw [S.clk,if_neg h]) (fun g i=>by rw [S.lst,if_neg (fun c=>h c.1)])
 have H:∀ k x,x∈aG d' k→(k=t∧x=m∧m.nul=false)∨x∈aG d k:=by
  intro k x hx
  by_cases h:k=t
  ·subst h
   rcases S.held with ⟨_,e⟩ | ⟨e2,e0,e⟩
   ·rw [e] at hx;exact .inr hx
   ·rw [e,mh e0] at hx
    rcases hx with rfl | hx
    ·exact .inl ⟨rfl,rfl,e2⟩
    ·exact .inr hx
  ·rw [S.other k h] at hx;exact .inr hx
 have H2:∀ k x,x∈aG d k→x∈aG d' k:=by
  intro k x hx
  by_cases h:k=t
  ·subst h
   rcases S.held with ⟨_,e⟩ | ⟨e2,e0,e⟩
   ·rw [e];exact hx
   ·rw [e,mh e0];exact .inr hx
  ·rw [S.other k h];exact hx
 have W:∀ i k x,x∈ay d' i k→x∈ay d i k:=by
  intro i k x hx
  by_cases h:i=f∧k=t
  ·obtain ⟨rfl,rfl⟩:=h;rw [S.first];exact List.mem_cons_of_mem _ hx
  ·rwa [S.wire i k h] at hx
 have hin:∀ x,In d' x→In d x:=by
  rintro x ⟨k,h | h | ⟨i,h⟩⟩
  ·rcases H k x h with ⟨_,rfl,_⟩ | h
   ·exact ⟨t,.inr (.inr ⟨f,hmem⟩)⟩
   ·exact ⟨k,.inl h⟩
  ·rw [S.told] at h;exact ⟨k,.inr (.inl h)⟩
  ·exact ⟨k,.inr (.inr ⟨i,W i k x h⟩)⟩
 refine ⟨oV R S,fun k g i=>?_,fun i k x hx=>?_,fun k x hx=>?_,fun k x hk hx=>?_,fun a b ha hb=>?_,fun k x hx=>?_,fun x hx=>?_,fun x y hx hy=>I.uniq x y (hin x hx) (hin y hy),fun x k hx h0 hk hb=>?_⟩
 ·have h1:=I.heard k g i
  have h2:=C i
  rw [S.lst];split
  ·next c=>obtain ⟨rfl,rfl,rfl⟩:=c;omega
  ·omega
 ·have hx0:=W i k x hx
  obtain ⟨a,b⟩:=I.wire i k x hx0
  refine ⟨by have:=C i;omega,fun g=>?_⟩
  rw [S.lst];split
  ·next c =>
   obtain ⟨rfl,rfl,rfl⟩:=c
   have hp:=(jJ _).1 (R.zD i k)
   rw [S.first] at hp
   have:=(List.pairwise_cons.1 hp).1 x hx
   have:=b m.gr.toNat
   omega
  ·exact b g
 ·rw [S.told] at hx;have:=I.told k x hx;have:=F k (Da hx);omega
 ·rcases H k x hx with ⟨h,_⟩ | h
  ·exact absurd h hk
  ·rw [F2 k hk (sV h)];exact I.held k x h
 ·rw [S.told] at ha
  have h1:=I.told t a ha
  rcases H t b hb with ⟨_,rfl,_⟩ | h
  ·have h2:=GN (g:=b.gr.toNat) S.tlt S.flt hft (by rw [hgr];exact hf4) (by rw [hgr,←hf2];exact z4)
   have:=w2 b.gr.toNat
   omega
  ·have:=I.held t b h;omega
 ·rcases H k x hx with ⟨rfl,rfl,_⟩ | h
  ·refine ⟨by rw [S.clk,if_pos rfl];omega,fun i e1 e2=>?_⟩
   have:i=f:=by omega
   subst this
   rw [S.lst,if_pos ⟨rfl,rfl,rfl⟩];omega
  ·obtain ⟨a,b⟩:=I.seen k x h
   exact ⟨by have:=C k;omega,fun i e1 e2=>by have:=b i e1 e2;have:=L k x.gr.toNat i;omega⟩
 ·have:=I.own x (hin x hx);have:=C x.fr.toNat;omega
 ·rw [S.alike.n] at hk;rw [S.alike.g] at hb
  rcases I.all x k (hin x hx) h0 hk hb with h | h | ⟨h1,h2⟩
  ·exact .inl (by rw [S.told];exact h)
  ·exact .inr (.inl (H2 k x h))
  ·by_cases e:x.fr.toNat=f∧k=t
   ·obtain ⟨e1,rfl⟩:=e
    rw [e1,S.first] at h2
    rcases List.mem_cons.1 h2 with rfl | h2
    ·rcases S.held with ⟨e3,_⟩ | ⟨_,e0,e⟩
     ·rw [e3] at h0;cases h0
     ·exact .inr (.inl (by rw [e,mh e0];exact .inl rfl))
    ·exact .inr (.inr ⟨h1,by rw [e1];exact h2⟩)
   ·exact .inr (.inr ⟨h1,by rw [S.wire _ _ e];exact h2⟩)
structure Grow (d d':Wd):Prop where
 alike:Alike d d'
 clk:∀ k,aO d k≤aO d' k
 lst:∀ k g i,dP d k g i≤dP d' k g i
 told:∀ k,∃ l,bW d' k=bW d k++l
theorem Grow.refl (d:Wd):Grow d d:=⟨Alike.refl d,fun _=>Int.le_refl _,fun _ _ _=>Int.le_refl _,fun _=>⟨[],by simp⟩⟩
theorem Grow.trans {a b c:Wd} (h:Grow a b) (k:Grow b c):Grow a c:=by
 refine ⟨h.alike.trans k.alike,fun i=>Int.le_trans (h.clk i) (k.clk i),fun i g j=>Int.le_trans (h.lst i g j) (k.lst i g j),fun i=>?_⟩
 obtain ⟨l1,e1⟩:=h.told i
 obtain ⟨l2,e2⟩:=k.told i
 exact ⟨l1++l2,by rw [e2,e1,List.append_assoc]⟩
theorem BR {d d':Wd} {n:Nat} (S:pO d d' n):Grow d d':=by
 refine ⟨S.alike,fun k=>by rw [S.clk];omega,fun k g i=>by rw [S.lst];omega,fun k=>?_⟩
 by_cases h:k=n
 ·subst h;exact ⟨_,S.told⟩
 ·exact ⟨[],by rw [(S.other k h).2];simp⟩
theorem JX {d d':Wd} {n:Nat} {m:Mg} (S:vX d d' n m):Grow d d':=by
 have:=S.mst
 exact ⟨S.alike,fun k=>by rw [S.clk];split;(· subst k;omega);(· omega),fun k g i=>by rw [S.lst];omega,fun k=>⟨[],by rw [S.told];simp⟩⟩
theorem JY {d d':Wd} {f t:Nat} {m:Mg} (S:vY d d' f t m):Grow d d' :=
 ⟨S.alike,fun k=>by rw [S.clk];split;(· subst k;omega);(· omega),fun k g i=>by rw [S.lst];split <;> omega,fun k=>⟨[],by rw [S.told];simp⟩⟩
theorem uP {d d':Wd} {n g:Int} {nul:Bool} {body:ByteArray} (R:Right d) (hb:nul=true→body.size=0) (h:fK d n g nul body=.ok d') :
  bM d n g body.size=0∧∃ d3,vX d d3 n.toNat (zF d n g nul body)∧Right d3∧pO d3 d' n.toNat:=by
 rw [ES] at h
 by_cases hE:bM d n g body.size=0
 ·rw [if_pos hE] at h
  obtain ⟨d3,h1,h2⟩:=bind_ok h
  obtain ⟨p,h3,h4⟩:=bind_ok h2
  have S:=zG R hE hb h1
  have R3:=oU R S
  obtain ⟨_,T,_⟩:=zH (R3.rG _) h3
  cases h4
  exact ⟨hE,d3,S,R3,T⟩
 ·rw [if_neg hE] at h;cases h
theorem uQ {d d':Wd} {n g:Int} {nul:Bool} {body:ByteArray} (R:Right d) (hb:nul=true→body.size=0) (h:fK d n g nul body=.ok d'):Right d'∧Grow d d':=by
 obtain ⟨_,d3,S,R3,T⟩:=uP R hb h
 exact ⟨uO R3 T,(JX S).trans (BR T)⟩
theorem EU {d d':Wd} {n g:Int} {nul:Bool} {body:ByteArray} (I:Inv d) (hb:nul=true→body.size=0) (h:fK d n g nul body=.ok d'):Inv d':=by
 obtain ⟨_,d3,S,R3,T⟩:=uP I.right hb h
 have hlt:n.toNat < d3.nodes.length:=by rw [S.alike.n];exact S.lt
 exact ER hlt (JV I S) T
theorem uR {d d':Wd} {f t:Nat} (R:Right d) (hf:f < d.nodes.length) (ht:t < d.nodes.length) (h:fH d f t=.ok d') :
  ∃ d3 m,vY d d3 f t m∧Right d3∧pO d3 d' t:=by
 rw [EW] at h
 obtain ⟨d3,h1,h2⟩:=bind_ok h
 obtain ⟨p,h3,h4⟩:=bind_ok h2
 obtain ⟨m,S⟩:=zI R hf ht h1
 have R3:=oV R S
 obtain ⟨_,T,_⟩:=zH (R3.rG _) h3
 cases h4
 exact ⟨d3,m,S,R3,T⟩
theorem zJ {d d':Wd} {f t:Nat} (R:Right d) (hf:f < d.nodes.length) (ht:t < d.nodes.length) (h:fH d f t=.ok d'):Right d'∧Grow d d':=by
 obtain ⟨d3,m,S,R3,T⟩:=uR R hf ht h
 exact ⟨uO R3 T,(JY S).trans (BR T)⟩
theorem zK {d d':Wd} {f t:Nat} (I:Inv d) (hf:f < d.nodes.length) (ht:t < d.nodes.length) (h:fH d f t=.ok d'):Inv d':=by
 obtain ⟨d3,m,S,R3,T⟩:=uR I.right hf ht h
 exact ER (by rw [S.alike.n];exact ht) (JW I S) T
structure Moved (d d':Wd) (f t:Nat) (m:Mg):Prop where
 first:ay d f t=m::ay d' f t
 wire:∀ f' t',¬ (f'=f∧t'=t)→ay d' f' t'=ay d f' t'
 clk:m.st≤aO d' t
 lst:m.st≤dP d' t m.gr.toNat f
 top:∀ c,(∀ k,aO d k≤c)→m.st≤c→∀ k,aO d' k≤c
 held:m.nul=true→∀ k x,x∈aG d' k→x∈aG d k
theorem moved {d d':Wd} {f t:Nat} (R:Right d) (hf:f < d.nodes.length) (ht:t < d.nodes.length) (h:fH d f t=.ok d'):∃ m,Moved d d' f t m:=by
 obtain ⟨d3,m,S,R3,T⟩:=uR R hf ht h
 refine ⟨m,by rw [T.wire];exact S.first,fun f' t' h=>by rw [T.wire];exact S.wire f' t' h,by rw [T.clk,S.clk,if_pos rfl];omega,by rw [T.lst,S.lst,if_pos ⟨rfl,rfl,rfl⟩];omega,fun c hc hm k=>?_,fun hn k x hx=>?_⟩
 ·rw [T.clk,S.clk];have:=hc t;have:=hc k;split <;> omega
 ·have h3:x∈aG d3 k:=by
   by_cases e:k=t
   ·subst e;rw [T.held] at hx;exact (List.mem_filter.1 hx).1
   ·rwa [(T.other k e).1] at hx
  by_cases e:k=t
  ·subst e
   rcases S.held with ⟨_,e⟩ | ⟨e2,_,_⟩
   ·rwa [e] at h3
   ·rw [hn] at e2;cases e2
  ·rwa [S.other k e] at h3
structure Ox (d d':Wd) (n:Nat) (m:Mg):Prop where
 lt:n < d.nodes.length
 mfr:m.fr=n
 mst:m.st=aO d n+1
 clk:∀ k,aO d' k=if k=n then m.st else aO d k
 wire:∀ f t,ay d' f t=if nI d m n d.nodes.length f t then ay d f t++[m] else ay d f t
 held:m.nul=true→∀ k x,x∈aG d' k→x∈aG d k
theorem Lm {d d':Wd} {n g:Int} {nul:Bool} {body:ByteArray} (R:Right d) (hb:nul=true→body.size=0) (h:fK d n g nul body=.ok d'):Ox d d' n.toNat (zF d n g nul body):=by
 obtain ⟨_,d3,S,R3,T⟩:=uP R hb h
 refine ⟨S.lt,S.mfr,S.mst,fun k=>by rw [T.clk];exact S.clk k,fun f t=>by rw [T.wire];exact S.wire f t,fun hn k x hx=>?_⟩
 have h3:x∈aG d3 k:=by
  by_cases e:k=n.toNat
  ·subst e;rw [T.held] at hx;exact (List.mem_filter.1 hx).1
  ·rwa [(T.other k e).1] at hx
 by_cases e:k=n.toNat
 ·subst e
  rcases S.held with ⟨_,e⟩ | ⟨e2,_,_⟩
  ·rwa [e] at h3
  ·rw [hn] at e2;cases e2
 ·rwa [S.other k e] at h3
theorem zL {α β:Type} (f:β→α→Except Int β) (P:List α→β→Prop) (hs:∀ l b a b',P l b→f b a=.ok b'→P (l++[a]) b'):∀ (l l0:List α) (b b':β),P l0 b→l.foldlM f b=.ok b'→P (l0++l) b'
 | [],l0,b,b',h0,h=>by
  have:b=b':=Except.ok.inj h
  subst this;simpa using h0
 | a::l,l0,b,b',h0,h=>by
  rw [List.foldlM_cons] at h
  obtain ⟨b1,h1,h2⟩:=bind_ok h
  have:=zL f P hs l (l0++[a]) b1 b' (hs l0 b a b1 h0 h1) h2
  simpa using this
theorem uS {α β:Type} (f:β→α→Except Int β) (P:List α→β→Prop) (hs:∀ l b a b',P l b→f b a=.ok b'→P (l++[a]) b'):∀ (l l0:List α) (b:β) (e:Int),P l0 b→l.foldlM f b=.error e→∃ l1 a b',a∈l∧P (l0++l1) b'∧f b' a=.error e
 | [],l0,b,e,_,h=>by cases h
 | a::l,l0,b,e,h0,h=>by
  rw [List.foldlM_cons] at h
  rcases jy h with h | ⟨b1,h1,h2⟩
  ·exact ⟨[],a,b,by simp,by simpa using h0,h⟩
  ·obtain ⟨l1,a',b',e1,e2,e3⟩:=uS f P hs l (l0++[a]) b1 e (hs l0 b a b1 h0 h1) h2
   exact ⟨a::l1,a',b',List.mem_cons_of_mem _ e1,by simpa using e2,e3⟩
def BS (d:Wd):Prop:=∀ f t m,m∈ay d f t→m.nul=true
def Sub (d d':Wd):Prop:=∀ k x,x∈aG d' k→x∈aG d k
structure Moves (f t j:Nat) (d d':Wd):Prop where
 right:Right d'
 inv:Inv d→Inv d'
 grow:Grow d d'
 here:ay d' f t=(ay d f t).drop j
 wire:∀ f' t',¬ (f'=f∧t'=t)→ay d' f' t'=ay d f' t'
 came:∀ m,m∈(ay d f t).take j→m.st≤aO d' t∧m.st≤dP d' t m.gr.toNat f
 top:Inv d→∀ c,(∀ k,aO d k≤c)→∀ k,aO d' k≤c
 sub:BS d→Sub d d'
theorem rH {f t:Nat}:∀ (j:Nat) (d d':Wd),Right d→f < d.nodes.length→t < d.nodes.length→j≤(ay d f t).length→dV f t j d=.ok d'→Moves f t j d d'
 | 0,d,d',R,hf,ht,hj,h=>by
  have:d=d':=Except.ok.inj h
  subst this
  exact ⟨R,fun h=>h,Grow.refl d,by simp,fun _ _ _=>rfl,fun m hm=>by simp at hm,fun _ c hc=>hc,fun _ _ _ h=>h⟩
 | j+1,d,d',R,hf,ht,hj,h=>by
  unfold dV at h
  obtain ⟨d1,h1,h2⟩:=bind_ok h
  obtain ⟨m,M⟩:=moved R hf ht h1
  obtain ⟨R1,G1⟩:=zJ R hf ht h1
  have hf1:f < d1.nodes.length:=by rw [G1.alike.n];exact hf
  have ht1:t < d1.nodes.length:=by rw [G1.alike.n];exact ht
  have hl:j≤(ay d1 f t).length:=by rw [M.first] at hj;simp at hj;omega
  have S:=rH j d1 d' R1 hf1 ht1 hl h2
  refine ⟨S.right,fun I=>S.inv (zK I hf ht h1),G1.trans S.grow, ?_,fun f' t' hn=>(S.wire f' t' hn).trans (M.wire f' t' hn),fun x hx=>?_,fun I c hc=>?_,fun hN k x hx=>?_⟩
  ·rw [M.first,List.drop_succ_cons];exact S.here
  ·rw [M.first,List.take_succ_cons] at hx
   rcases List.mem_cons.1 hx with rfl | hx
   ·have a:=S.grow.clk t;have b:=S.grow.lst t x.gr.toNat f
    have c:=M.clk;have e:=M.lst
    exact ⟨by omega,by omega⟩
   ·exact S.came x hx
  ·have hm:=(I.wire f t m (by rw [M.first];simp)).1
   have:=hc f
   exact S.top (zK I hf ht h1) c (M.top c hc (by omega))
  ·refine M.held (hN f t m (by rw [M.first];simp)) k x (S.sub (fun f' t' y hy=>?_) k x hx)
   by_cases e:f'=f∧t'=t
   ·obtain ⟨rfl,rfl⟩:=e;exact hN f' t' y (by rw [M.first];exact List.mem_cons_of_mem _ hy)
   ·rw [M.wire f' t' e] at hy;exact hN f' t' y hy
structure nZ (d:Wd) (l:List (Nat × Nat)) (d':Wd):Prop where
 right:Right d'
 inv:Inv d→Inv d'
 grow:Grow d d'
 gone:∀ f t,(f,t)∈l→ay d' f t=[]
 wire:∀ f t,(f,t)∉l→ay d' f t=ay d f t
 came:∀ f t m,(f,t)∈l→m∈ay d f t→m.st≤aO d' t∧m.st≤dP d' t m.gr.toNat f
 top:Inv d→∀ c,(∀ k,aO d k≤c)→∀ k,aO d' k≤c
 sub:BS d→Sub d d'
theorem nZ.null {d d':Wd} {l:List (Nat × Nat)} (h:nZ d l d') (n:BS d):BS d':=by
 intro f t m hm
 by_cases e:(f,t)∈l
 ·rw [h.gone f t e] at hm;cases hm
 ·rw [h.wire f t e] at hm;exact n f t m hm
theorem Db {d:Wd} {l:List (Nat × Nat)} {s s':Wd × Nat} {p:Nat × Nat} (hp:p.1 < d.nodes.length∧p.2 < d.nodes.length) (D:nZ d l s.1) (h:bT s p=.ok s'):nZ d (l++[p]) s'.1:=by
 obtain ⟨f,t⟩:=p
 simp only at hp
 unfold bT og at h
 obtain ⟨r,h1,h2⟩:=bind_ok h
 obtain ⟨d2,h3,h4⟩:=bind_ok h1
 cases h4
 cases h2
 have hf:f < s.1.nodes.length:=by rw [D.grow.alike.n];exact hp.1
 have ht:t < s.1.nodes.length:=by rw [D.grow.alike.n];exact hp.2
 have S:=rH _ s.1 d2 D.right hf ht (Nat.le_refl _) h3
 have Qa:ay d2 f t=[]:=by rw [S.here,List.drop_eq_nil_of_le (Nat.le_refl _)]
 refine ⟨S.right,fun I=>S.inv (D.inv I),D.grow.trans S.grow,fun f' t' hm=>?_,fun f' t' hm=>?_,fun f' t' m hm hw=>?_,fun I c hc=>S.top (D.inv I) c (D.top I c hc),fun hN k x hx=>D.sub hN k x (S.sub (D.null hN) k x hx)⟩
 ·by_cases e:f'=f∧t'=t
  ·obtain ⟨rfl,rfl⟩:=e;exact Qa
  ·show ay d2 f' t'=[]
   rw [S.wire f' t' e]
   refine D.gone f' t' ?_
   rcases List.mem_append.1 hm with h | h
   ·exact h
   ·simp at h;exact absurd h e
 ·have e:¬ (f'=f∧t'=t):=fun e=>hm (List.mem_append.2 (.inr (by rw [e.1,e.2];simp)))
  show ay d2 f' t'=_
  rw [S.wire f' t' e]
  exact D.wire f' t' fun h=>hm (List.mem_append.2 (.inl h))
 ·show m.st≤aO d2 t'∧m.st≤dP d2 t' _ f'
  by_cases e:(f',t')∈l
  ·obtain ⟨a,b⟩:=D.came f' t' m e hw
   exact ⟨Int.le_trans a (S.grow.clk _),Int.le_trans b (S.grow.lst _ _ _)⟩
  ·rcases List.mem_append.1 hm with h | h
   ·exact absurd h e
   ·simp at h
    obtain ⟨rfl,rfl⟩:=h
    rw [←D.wire f' t' e] at hw
    exact S.came m (by rw [List.take_of_length_le (Nat.le_refl _)];exact hw)
theorem EX {d:Wd} (R:Right d):nZ d [] d:=⟨R,fun h=>h,Grow.refl d,fun f t h=>(by cases h),fun _ _ _=>rfl,fun f t m h=>(by cases h),fun _ c hc=>hc,fun _ _ _ h=>h⟩
theorem EY {d:Wd} (l:List (Nat × Nat)) (hl:∀ p∈l,p.1 < d.nodes.length∧p.2 < d.nodes.length):∀ (l0:List (Nat × Nat)) (s s':Wd × Nat),nZ d l0 s.1→l.foldlM bT s=.ok s'→nZ d (l0++l) s'.1:=by
 induction l with
 | nil=>intro l0 s s' D h;have:s=s':=Except.ok.inj h;subst this;simpa using D
 | cons p l ih =>
  intro l0 s s' D h
  rw [List.foldlM_cons] at h
  obtain ⟨s1,h1,h2⟩:=bind_ok h
  have:=ih (fun q hq=>hl q (List.mem_cons_of_mem _ hq)) (l0++[p]) s1 s' (Db (hl p (by simp)) D h1) h2
  simpa using this
theorem EZ {d:Wd}:∀ p∈pairs d.nodes.length d.nodes.length,p.1 < d.nodes.length∧p.2 < d.nodes.length:=fun p hp=>(ni _ _ p.1 p.2).1 hp
theorem zM {d:Wd} {s:Wd × Nat} (R:Right d) (h:iE d=.ok s):nZ d (pairs d.nodes.length d.nodes.length) s.1:=by
 have:=EY (d:=d) _ EZ [] (d,0) s (EX R) h
 simpa using this
theorem drain_empty {d:Wd} {s:Wd × Nat} (R:Right d) (h:iE d=.ok s) (f t:Nat):ay s.1 f t=[]:=by
 have D:=zM R h
 by_cases e:(f,t)∈pairs d.nodes.length d.nodes.length
 ·exact D.gone f t e
 ·cases hw:ay s.1 f t with
  | nil=>rfl
  | cons m r =>
   obtain ⟨a,b⟩:=M7 D.right.rows (f:=f) (t:=t) (m:=m) (by rw [hw];simp)
   rw [D.grow.alike.n] at a b
   exact absurd ((ni _ _ _ _).2 ⟨a,b⟩) e
structure zN (d:Wd) (l:List (Nat × Nat)) (d':Wd):Prop where
 right:Right d'
 inv:Inv d→Inv d'
 grow:Grow d d'
 null:BS d→BS d'
 sub:Sub d d'
 sent:∀ n g t:Nat,(n,g)∈l→hasB d.groups g n=true→t < d.nodes.length→t≠n→hasB d.groups g t=true→∃ m,m∈ay d' n t∧m.gr=g∧aO d n < m.st
 top:∀ c,(∀ k,aO d k≤c)→∀ k,aO d' k≤c+l.length
theorem E8 {d:Wd} {l:List (Nat × Nat)} {s s':Wd} {p:Nat × Nat} (D:zN d l s) (h:dw s p=.ok s'):zN d (l++[p]) s':=by
 obtain ⟨n,g⟩:=p
 unfold dw at h
 by_cases hb:hasB s.groups g n=true
 ·simp only [hb,if_true] at h
  have C:=Lm D.right (fun _=>rfl) h
  obtain ⟨R1,G1⟩:=uQ D.right (fun _=>rfl) h
  have hn:(n:Int).toNat=n:=by omega
  rw [hn] at C
  have W2:∀ f t x,x∈ay s f t→x∈ay s' f t:=by
   intro f t x hx
   rw [C.wire];split
   ·exact List.mem_append.2 (.inl hx)
   ·exact hx
  refine ⟨R1,fun I=>EU (D.inv I) (fun _=>rfl) h,D.grow.trans G1,fun hN f t x hx=>?_,fun k x hx=>D.sub k x (C.held rfl k x hx),fun n' g' t hm h1 h2 h3 h4=>?_,fun c hc k=>?_⟩
  ·rw [C.wire] at hx
   split at hx
   ·rcases List.mem_append.1 hx with hx | hx
    ·exact D.null hN f t x hx
    ·simp at hx;subst hx;rfl
   ·exact D.null hN f t x hx
  ·rcases List.mem_append.1 hm with hm | hm
   ·obtain ⟨m,a,b,c⟩:=D.sent n' g' t hm h1 h2 h3 h4
    exact ⟨m,W2 _ _ _ a,b,c⟩
   ·simp at hm
    obtain ⟨rfl,rfl⟩:=hm
    refine ⟨zF s n' g' true ByteArray.empty, ?_,rfl, ?_⟩
    ·rw [C.wire,if_pos ⟨rfl,by rw [D.grow.alike.n];exact h2,h3,by rw [D.grow.alike.g];exact h4⟩];simp
    ·have:=C.mst;have:=D.grow.clk n';omega
  ·rw [C.clk]
   have a:=D.top c hc k
   have b:=D.top c hc n
   have:=C.mst
   simp only [List.length_append,List.length_cons,List.length_nil]
   split <;> omega
 ·simp only [hb] at h
  have:s=s':=Except.ok.inj h
  subst this
  refine ⟨D.right,D.inv,D.grow,D.null,D.sub,fun n' g' t hm h1 h2 h3 h4=>?_,fun c hc k=>?_⟩
  ·rcases List.mem_append.1 hm with hm | hm
   ·exact D.sent n' g' t hm h1 h2 h3 h4
   ·simp at hm
    obtain ⟨rfl,rfl⟩:=hm
    rw [D.grow.alike.g] at hb
    exact absurd h1 hb
  ·have:=D.top c hc k;simp;omega
theorem E9 {d d':Wd} (R:Right d) (h:zO d=.ok d'):zN d (pairs d.nodes.length d.groups.length) d':=by
 have h0:zN d [] d:=⟨R,fun h=>h,Grow.refl d,fun h=>h,fun _ _ h=>h,fun n g t h=>(by cases h),fun c hc k=>by have:=hc k;simp;omega⟩
 have:=zL dw (zN d) (fun l b a b'=>E8) _ [] d d' h0 h
 simpa using this
theorem iW (G N:Nat):(pairs G N).length=G*N:=by
 unfold pairs
 rw [List.length_flatMap]
 simp [List.map_const']
structure M9 (d d':Wd):Prop where
 right:Right d'
 inv:Inv d→Inv d'
 grow:Grow d d'
 none:∀ f t,ay d' f t=[]
 sub:(∀ f t,ay d f t=[])→Sub d d'
 heard:∀ n g t:Nat,n < d.nodes.length→hasB d.groups g n=true→t < d.nodes.length→t≠n→hasB d.groups g t=true→aO d n < aO d' t∧aO d n < dP d' t g n
 top:Inv d→∀ c,(∀ k,aO d k≤c)→∀ k,aO d' k≤c+d.nodes.length*d.groups.length
theorem zP {d:Wd} {s:Wd × Nat} (R:Right d) (h:fF d=.ok s):M9 d s.1:=by
 unfold fF at h
 obtain ⟨d1,h1,h2⟩:=bind_ok h
 have N:=E9 R h1
 have D:=zM N.right h2
 refine ⟨D.right,fun I=>D.inv (N.inv I),N.grow.trans D.grow,drain_empty N.right h2,fun he k x hx=>?_,fun n g t hn hb ht hne hb2=>?_,fun I c hc k=>?_⟩
 ·exact N.sub k x (D.sub (N.null fun f t m hm=>by rw [he] at hm;cases hm) k x hx)
 ·obtain ⟨m,a,b,c⟩:=N.sent n g t ((ni _ _ _ _).2 ⟨hn,I8 hb⟩) hb ht hne hb2
  obtain ⟨e1,e2⟩:=D.came n t m ((ni _ _ _ _).2 ⟨by rw [N.grow.alike.n];exact hn,by rw [N.grow.alike.n];exact ht⟩) a
  have:m.gr.toNat=g:=by omega
  rw [this] at e2
  exact ⟨by omega,by omega⟩
 ·have:=N.top c hc
  rw [iW] at this
  have:=D.top (N.inv I) _ this k
  simpa using this
structure Rounds (j:Nat) (d d':Wd):Prop where
 right:Right d'
 inv:Inv d→Inv d'
 grow:Grow d d'
 none:(∀ f t,ay d f t=[])→∀ f t,ay d' f t=[]
 sub:(∀ f t,ay d f t=[])→Sub d d'
 top:Inv d→∀ c,(∀ k,aO d k≤c)→∀ k,aO d' k≤c+j*(d.nodes.length*d.groups.length)
theorem xC:∀ (j:Nat) (d d':Wd),Right d→iV j d=.ok d'→Rounds j d d'
 | 0,d,d',R,h=>by
  have:d=d':=Except.ok.inj h
  subst this
  exact ⟨R,fun h=>h,Grow.refl d,fun h=>h,fun _ _ _ h=>h,fun _ c hc k=>by have:=hc k;simp;omega⟩
 | j+1,d,d',R,h=>by
  unfold iV at h
  obtain ⟨s,h1,h2⟩:=bind_ok h
  have A:=zP R h1
  have B:=xC j s.1 d' A.right h2
  refine ⟨B.right,fun I=>B.inv (A.inv I),A.grow.trans B.grow,fun _=>B.none A.none,fun he k x hx=>A.sub he k x (B.sub A.none k x hx),fun I c hc k=>?_⟩
  have:=B.top (A.inv I) _ (A.top I c hc) k
  rw [A.grow.alike.n,A.grow.alike.g] at this
  have e:((j+1:Nat):Int)*(d.nodes.length*d.groups.length)=j*(d.nodes.length*d.groups.length)+d.nodes.length*d.groups.length:=by
   rw [Int.natCast_add];simp [Int.add_mul]
  omega
theorem Fa {d d':Wd} {j:Nat} (I:Inv d) (he:∀ f t,ay d f t=[]) (h:iV (j+2) d=.ok d') (k:Nat):aG d' k=[]:=by
 show aG d' k=[]
 unfold iV at h
 obtain ⟨s,h1,h2⟩:=bind_ok h
 unfold iV at h2
 obtain ⟨u,h3,h4⟩:=bind_ok h2
 have A:=zP I.right h1
 have B:=zP A.right h3
 have C:=xC j u.1 d' B.right h4
 have IB:=B.inv (A.inv I)
 have key:aG u.1 k=[]:=by
  cases hh:aG u.1 k with
  | nil=>rfl
  | cons x r =>
   exfalso
   have hx:x∈aG u.1 k:=by rw [hh];simp
   have hx0:x∈aG d k:=A.sub he k x (B.sub A.none k x hx)
   have h5:=(I.seen k x hx0).1
   have h6:=IB.held k x hx
   have hk:k < d.nodes.length:=sV hx0
   have hk2:k < u.1.nodes.length:=sV hx
   have h7:aO d k≤dY u.1 k:=by
    rw [nH hk2]
    refine ⟨Int.le_trans (A.grow.clk k) (B.grow.clk k),fun g i hi hne b1 b2=>?_⟩
    rw [B.grow.alike.n,A.grow.alike.n] at hi
    rw [B.grow.alike.g,A.grow.alike.g] at b1 b2
    have a1:=(A.heard k g i hk b1 hi hne b2).1
    have a2:=(B.heard i g k (by rw [A.grow.alike.n];exact hi) (by rw [A.grow.alike.g];exact b2) (by rw [A.grow.alike.n];exact hk) (fun e=>hne e.symm) (by rw [A.grow.alike.g];exact b1)).2
    omega
   omega
 cases hh:aG d' k with
 | nil=>rfl
 | cons x r =>
  have:=C.sub B.none k x (by rw [hh];simp)
  rw [key] at this;cases this
structure Oy (d d':Wd):Prop where
 right:Right d'
 inv:Inv d→Inv d'
 grow:Grow d d'
 none:∀ f t,ay d' f t=[]
 held:Inv d→∀ k,aG d' k=[]
 top:Inv d→∀ c,(∀ k,aO d k≤c)→∀ k,aO d' k≤c+4*(d.nodes.length*d.groups.length)
theorem Na {d d':Wd} (R:Right d) (h:pG d=.ok d'):Oy d d':=by
 unfold pG at h
 obtain ⟨s,h1,h2⟩:=bind_ok h
 have D:=zM R h1
 have E:=drain_empty R h1
 have A:=xC 4 s.1 d' D.right h2
 refine ⟨A.right,fun I=>A.inv (D.inv I),D.grow.trans A.grow,A.none E,fun I k=>Fa (j:=2) (D.inv I) E h2 k,fun I c hc k=>?_⟩
 have:=A.top (D.inv I) c (D.top I c hc) k
 rw [D.grow.alike.n,D.grow.alike.g] at this
 exact this
theorem small {d:Wd} (R:Right d):d.nodes.length≤4∧1≤d.nodes.length∧d.groups.length≤3∧d.nodes.length*d.groups.length≤12:=by
 have:=xu R.chk
 refine ⟨by omega,by omega,by omega, ?_⟩
 exact Nat.mul_le_mul (by omega:d.nodes.length≤4) (by omega:d.groups.length≤3)
structure Did (d d':Wd):Prop where
 was:Right d
 right:Right d'
 inv:Inv d→Inv d'
 grow:Grow d d'
 top:Inv d→∀ c,(∀ k,aO d k≤c)→∀ k,aO d' k≤c+48
theorem qx {α:Type} {d:Wd} {r:Except Int α} {a:α} (h:checked d r=.ok a):Right d∧r=.ok a:=by
 unfold checked at h
 by_cases hE:aK d=0
 ·rw [if_pos hE] at h;exact ⟨(bQ d).1 hE,h⟩
 ·rw [if_neg hE] at h;cases h
theorem Fb {d d':Wd} {n g:Int} {nul:Bool} {body:ByteArray} (R:Right d) (hb:nul=true→body.size=0) (h:fK d n g nul body=.ok d'):Did d d':=by
 obtain ⟨R1,G⟩:=uQ R hb h
 have C:=Lm R hb h
 refine ⟨R,R1,fun I=>EU I hb h,G,fun I c hc k=>?_⟩
 rw [C.clk];have:=C.mst;have:=hc n.toNat;have:=hc k;split <;> omega
theorem Lp {d d':Wd} {f t:Nat} (R:Right d) (hf:f < d.nodes.length) (ht:t < d.nodes.length) (h:fH d f t=.ok d'):Did d d':=by
 obtain ⟨R1,G⟩:=zJ R hf ht h
 obtain ⟨m,M⟩:=moved R hf ht h
 refine ⟨R,R1,fun I=>zK I hf ht h,G,fun I c hc k=>?_⟩
 have:=(I.wire f t m (by rw [M.first];simp)).1
 have:=hc f
 have:=M.top c hc (by omega) k
 omega
theorem Lr {d d':Wd} (R:Right d) (h:pG d=.ok d'):Did d d':=by
 have C:=Na R h
 refine ⟨R,C.right,C.inv,C.grow,fun I c hc k=>?_⟩
 have:=C.top I c hc k
 have:=(small R).2.2.2
 have:((d.nodes.length*d.groups.length:Nat):Int)≤12:=by omega
 rw [Int.natCast_mul] at this
 omega
theorem JZ {d d':Wd} {f t:Int} (h:jq d f t=.ok d'):Right d∧(0≤f∧f < d.nodes.length)∧(0≤t∧t < d.nodes.length)∧fH d f.toNat t.toNat=.ok d':=by
 unfold jq at h
 by_cases hE:aK d=0
 ·rw [if_pos hE] at h
  split at h
  ·next c =>
   rw [Bool.and_eq_true] at c
   simp only [inB,decide_eq_true_eq] at c
   exact ⟨(bQ d).1 hE,by omega,by omega,h⟩
  ·cases h
 ·rw [if_neg hE] at h;cases h
theorem Et {d d':Wd} {x:Ac} (h:doD d x=.ok d'):Did d d':=by
 unfold doD at h
 split at h
 ·obtain ⟨R,h⟩:=qx h;exact Fb R (fun h=>by cases h) h
 ·split at h
  ·obtain ⟨R,h⟩:=qx h;exact Fb R (fun _=>rfl) h
  ·split at h
   ·obtain ⟨R,hf,ht,h⟩:=JZ h
    exact Lp R (by omega) (by omega) h
   ·split at h
    ·obtain ⟨R,h⟩:=qx h;exact Lr R h
    ·cases h
theorem J2 {n:Nat} {l:List Int} (hc:dB n l=0):Inv (bZ n l)∧∀ k,aO (bZ n l) k=0:=by
 have hN:(bZ n l).nodes.length=n:=by simp [bZ]
 have node:∀ (k:Nat) (x:Nd),(bZ n l).nodes[k]? = some x→x=⟨0,List.replicate l.length (List.replicate n 0),[],[]⟩:=by
  intro k x h
  have:=List.mem_of_getElem? h
  unfold bZ at this
  exact (List.mem_replicate.1 this).2
 have c0:∀ k,aO (bZ n l) k=0:=by
  intro k;unfold aO
  cases h:(bZ n l).nodes[k]? with
  | none=>rfl
  | some x=>rw [node k x h]
 have l0:∀ k g i,dP (bZ n l) k g i=0:=by
  intro k g i;unfold dP
  cases h:(bZ n l).nodes[k]? with
  | none=>rfl
  | some x =>
   rw [node k x h]
   rcases vZ (List.replicate l.length (List.replicate n (0:Int))) g i with h | ⟨row,h1,h2⟩
   ·exact h
   ·have e1:=(List.mem_replicate.1 (List.mem_of_getElem? h1)).2
    subst e1
    have e2:=(List.mem_replicate.1 (List.mem_of_getElem? h2)).2
    exact e2
 have h0:∀ k,aG (bZ n l) k=[]:=by
  intro k;unfold aG
  cases h:(bZ n l).nodes[k]? with
  | none=>rfl
  | some x=>rw [node k x h]
 have t0:∀ k,bW (bZ n l) k=[]:=by
  intro k;unfold bW
  cases h:(bZ n l).nodes[k]? with
  | none=>rfl
  | some x=>rw [node k x h]
 have w0:∀ f t,ay (bZ n l) f t=[]:=by
  intro f t
  rcases jI (bZ n l) f t with h | ⟨row,m,h1,h2,h⟩
  ·exact h
  ·unfold bZ at h1
   have e1:=(List.mem_replicate.1 (List.mem_of_getElem? h1)).2
   subst e1
   rw [h];exact (List.mem_replicate.1 (List.mem_of_getElem? h2)).2
 have R:Right (bZ n l):=by
  refine ⟨by rw [hN];exact hc,by simp [bZ],fun f row h=>?_,fun k x h=>by rw [node k x h];simp [bZ],fun k x g row h hr=>?_,fun k=>by rw [c0];omega,fun k g i=>by rw [l0];omega,fun k g i _=>l0 k g i,
   fun k=>by rw [h0];simp,fun k=>by rw [t0];simp,fun f t=>by rw [w0];simp,fun k=>by rw [h0];rfl,fun k=>by rw [t0];rfl,fun k m hm=>?_,fun k m hm=>?_,fun f t m hm=>?_,fun f t=>by rw [w0];rfl,fun f=>w0 f f⟩
  ·have e1:=(List.mem_replicate.1 (List.mem_of_getElem? (by unfold bZ at h;exact h))).2
   rw [e1,hN];simp
  ·rw [node k x h] at hr
   have e1:=(List.mem_replicate.1 (List.mem_of_getElem? hr)).2
   rw [e1,hN];simp
  ·rw [h0] at hm;cases hm
  ·rw [t0] at hm;cases hm
  ·rw [w0] at hm;cases hm
 have no:∀ m,¬ In (bZ n l) m:=by
  rintro m ⟨k,h | h | ⟨f,h⟩⟩
  ·rw [h0] at h;cases h
  ·rw [t0] at h;cases h
  ·rw [w0] at h;cases h
 refine ⟨⟨R,fun k g i=>by rw [l0,c0];omega,fun i k m hm=>?_,fun k m hm=>?_,fun k m hm=>?_,fun k m hm=>?_,fun m hm=>absurd hm (no m),fun m m' hm=>absurd hm (no m),fun m k hm=>absurd hm (no m)⟩,c0⟩
 ·rw [w0] at hm;cases hm
 ·rw [t0] at hm;cases hm
 ·rw [h0] at hm;cases hm
 ·rw [h0] at hm;cases hm
theorem La {n:Nat} {l:List Int} (hc:dB n l=0) (acts:List Ac):Inv (doneD n l acts)∧(∀ k,aO (doneD n l acts) k≤48*acts.length)∧Alike (bZ n l) (doneD n l acts):=by
 obtain ⟨I0,c0⟩:=J2 hc
 have key:∀ (acts:List Ac) (d:Wd) (c:Int),Inv d→(∀ k,aO d k≤c)→Inv (acts.foldl eY d)∧(∀ k,aO (acts.foldl eY d) k≤c+48*acts.length)∧Alike d (acts.foldl eY d):=by
  intro acts
  induction acts with
  | nil=>intro d c I hc;exact ⟨I,fun k=>by have:=hc k;simp;omega,Alike.refl d⟩
  | cons x acts ih =>
   intro d c I hc
   rw [List.foldl_cons]
   cases h:doD d x with
   | error e =>
    have e1:eY d x=d:=by unfold eY;rw [h]
    rw [e1]
    obtain ⟨a,b,c1⟩:=ih d c I hc
    exact ⟨a,fun k=>by have:=b k;simp;omega,c1⟩
   | ok d1 =>
    have e1:eY d x=d1:=by unfold eY;rw [h]
    rw [e1]
    have D:=Et h
    obtain ⟨a,b,c1⟩:=ih d1 (c+48) (D.inv I) (D.top I c hc)
    exact ⟨a,fun k=>by have:=b k;simp;omega,D.grow.alike.trans c1⟩
 obtain ⟨a,b,c1⟩:=key acts (bZ n l) 0 I0 (fun k=>by rw [c0];omega)
 exact ⟨a,fun k=>by have:=b k;unfold doneD;omega,c1⟩
end Go.Proofs.YtiiifecfdkjmbaaGreat.Pure
