/- Lemmas. Lemmas. Lemmas. -/
import Derived.Test.YtiiifecfdkjmbaaGreatTPureW
import Derived.Test.YtiiifecfdkjmbaaGreatTAgM
import Derived.Laws.IdiomStrings
import Derived.Test.YtiiifecfdkjmbaaGreatTLDone
import Derived.Shelf.SlSortCmp.WholeK
import Derived.Shelf.SlGeneric
import Derived.Ground.SlsfProg
import Derived.Shelf.SlSortCmp.NoneTotal
namespace Go.Proofs.YtiiifecfdkjmbaaGreat.Pu
set_option maxRecDepth 8000
def jC (m:Mg) (l:List Mg):Option Nat:=l.findIdx? (fun x=>dX x m)
structure Sc where
 d:Wd
 sent:List Mg
 ahead:Mg->Mg->Bool
 past:Nat->Mg->Bool
def jE (d':Wd) (x:Ac):Mg:=⟨x.one,x.two,aF d' x.one.toNat,decide (x.kind=2),if x.kind=2 then ByteArray.empty else x.body⟩
def oJ (s:Sc) (d':Wd) (t:Nat) (m:Mg):Sc:={ s with d:=d',past:=fun k y=>s.past k y || (decide (k=t) && (s.ahead m y || dX y m)) }
def oH (s:Sc) (d':Wd) (n:Nat) (m:Mg):Sc:=⟨d',s.sent++[m],fun a y=>if dX a m then s.past n y else s.ahead a y,fun k y=>s.past k y || (decide (k=n) && dX y m)⟩
def bE (s:Sc) (x:Ac):Sc :=
 if x.kind=4 then s else
 match doD s.d x with
 | .error _=>s
 | .ok d'=>if x.kind=3 then (match au s.d x.one.toNat x.two.toNat with | m::_=>oJ s d' x.two.toNat m | []=>s) else oH s d' x.one.toNat (jE d' x)
def nJ (n:Nat) (l:List Int):Sc:=⟨bM n l,[],fun _ _=>false,fun _ _=>false⟩
def scD (n:Nat) (l:List Int) (acts:List Ac):Sc:=acts.foldl bE (nJ n l)
def kG (s:Sc):List (List Bool):=s.sent.map fun m=>s.sent.map fun o=>s.ahead m o
structure jP (s:Sc):Prop where
 inv:Inv s.d
 rise:s.sent.Pairwise (fun a b=>a.fr=b.fr->a.st < b.st)
 own:∀ m,m∈s.sent->(0<=m.fr/\m.fr < s.d.nodes.length)/\m.st<=aF s.d m.fr.toNat
 wired:∀ f t m,m∈au s.d f t->m∈s.sent
 Db:∀ k y,s.past k y=true->y∈s.sent/\y.st<=aF s.d k
 xq:∀ a y,s.ahead a y=true->a∈s.sent/\y∈s.sent/\y.st < a.st
 trans:∀ a b c,s.ahead a b=true->s.ahead b c=true->s.ahead a c=true
 JE:∀ k b c,s.past k b=true->s.ahead b c=true->s.past k c=true
 mine:∀ m (k:Nat),m∈s.sent->m.fr=k->s.past k m=true
 same:∀ (i j:Nat) a b,s.sent[i]? = some a->s.sent[j]? = some b->a.fr=b.fr->j < i->s.ahead a b=true
theorem JF {s:Sc} {d':Wd} {f t:Nat} {m:Mg} (I:jP s) (hI:Inv d') (G:Grow s.d d') (M:Moved s.d d' f t m):jP (oJ s d' t m):=by
 have hm:m∈s.sent:=I.wired f t m (by rw [M.first];simp)
 have P:∀ k y,(oJ s d' t m).past k y=true↔s.past k y=true\/(k=t/\(s.ahead m y=true\/y=m)):=by
  intro k y
  unfold oJ
  simp only [Bool.or_eq_true,Bool.and_eq_true,decide_eq_true_eq,dY]
 refine ⟨hI,I.rise,fun x hx=>?_,fun f' t' x hx=>?_,fun k y h=>?_,I.xq,I.trans,fun k b c h1 h2=>?_,fun x k hx e=>(P k x).2 (.inl (I.mine x k hx e)),I.same⟩
 ·obtain ⟨a,b⟩:=I.own x hx
  exact ⟨by show _/\_ < ((d'.nodes.length:Nat):Int);rw [G.alike.n];exact a,Int.le_trans b (G.clk _)⟩
 ·by_cases e:f'=f/\t'=t
  ·obtain ⟨rfl,rfl⟩:=e
   exact I.wired f' t' x (by rw [M.first];exact List.mem_cons_of_mem _ hx)
  ·exact I.wired f' t' x (by rw [<-M.wire f' t' e];exact hx)
 ·rcases (P k y).1 h with h | ⟨rfl,h | rfl⟩
  ·obtain ⟨a,b⟩:=I.Db k y h
   exact ⟨a,Int.le_trans b (G.clk _)⟩
  ·obtain ⟨_,b,c⟩:=I.xq m y h
   have:=M.clk
   exact ⟨b,by show y.st<=aF d' k;omega⟩
  ·exact ⟨hm,M.clk⟩
 ·have h2':s.ahead b c=true:=h2
  rw [P]
  rcases (P k b).1 h1 with h | ⟨rfl,h | rfl⟩
  ·exact .inl (I.JE k b c h h2')
  ·exact .inr ⟨rfl,.inl (I.trans m b c h h2')⟩
  ·exact .inr ⟨rfl,.inl h2'⟩
theorem KW {s:Sc} {d':Wd} {n:Nat} {m:Mg} (I:jP s) (hI:Inv d') (G:Grow s.d d') (C:Jz s.d d' n m):jP (oH s d' n m):=by
 have GK:m.fr.toNat=n:=by have:=C.mfr;omega
 have hst:=C.mst
 have fresh:∀ x,x∈s.sent->x.fr=m.fr->x.st < m.st:=by
  intro x hx e
  have:=(I.own x hx).2
  rw [e,GK] at this;omega
 have hno:m∉s.sent:=fun h=>by have:=fresh m h rfl;omega
 have A:∀ a y,(oH s d' n m).ahead a y=true↔(a=m/\s.past n y=true)\/(a≠m/\s.ahead a y=true):=by
  intro a y
  unfold oH
  by_cases e:a=m
  ·subst e
   have:dX a a=true:=(dY a a).2 rfl
   simp [this]
  ·have:¬ dX a m=true:=fun h=>e ((dY a m).1 h)
   simp [this,e]
 have P:∀ k y,(oH s d' n m).past k y=true↔s.past k y=true\/(k=n/\y=m):=by
  intro k y
  unfold oH
  simp only [Bool.or_eq_true,Bool.and_eq_true,decide_eq_true_eq,dY]
 have mem:∀ x,x∈(oH s d' n m).sent↔x∈s.sent\/x=m:=by intro x;unfold oH;simp
 have Na:aF d' n=m.st:=by rw [C.clk,if_pos rfl]
 refine ⟨hI, ?_,fun x hx=>?_,fun f t x hx=>?_,fun k y h=>?_,fun a y h=>?_,fun a b c h1 h2=>?_,fun k b c h1 h2=>?_,fun x k hx e=>?_,fun i j a b ha hb e hlt=>?_⟩
 ·show (s.sent++[m]).Pairwise _
  refine List.pairwise_append.2 ⟨I.rise,by simp,fun a ha b hb e=>?_⟩
  simp at hb;subst hb;exact fresh a ha e
 ·show (_/\_ < ((d'.nodes.length:Nat):Int))/\x.st<=aF d' _
  rw [G.alike.n]
  rcases (mem x).1 hx with hx | rfl
  ·obtain ⟨a,b⟩:=I.own x hx
   exact ⟨a,Int.le_trans b (G.clk _)⟩
  ·have:=C.lt
   rw [GK,Na];have:=C.mfr
   exact ⟨by omega,Int.le_refl _⟩
 ·rw [mem]
  have hx':x∈au d' f t:=hx
  rw [C.wire] at hx'
  split at hx'
  ·rcases List.mem_append.1 hx' with h | h
   ·exact .inl (I.wired f t x h)
   ·simp at h;exact .inr h
  ·exact .inl (I.wired f t x hx')
 ·rw [mem]
  rcases (P k y).1 h with h | ⟨rfl,rfl⟩
  ·obtain ⟨a,b⟩:=I.Db k y h
   exact ⟨.inl a,Int.le_trans b (G.clk _)⟩
  ·exact ⟨.inr rfl,by show y.st<=aF d' k;omega⟩
 ·rw [mem,mem]
  rcases (A a y).1 h with ⟨rfl,h'⟩ | ⟨_,h⟩
  ·obtain ⟨b,c⟩:=I.Db n y h'
   exact ⟨.inr rfl,.inl b,by omega⟩
  ·obtain ⟨b,c,e⟩:=I.xq a y h
   exact ⟨.inl b,.inl c,e⟩
 ·rw [A]
  have hb:b≠m:=by
   rintro rfl
   rcases (A a b).1 h1 with ⟨_,h⟩ | ⟨_,h⟩
   ·exact hno (I.Db n b h).1
   ·exact hno (I.xq a b h).2.1
  have h2':s.ahead b c=true:=by
   rcases (A b c).1 h2 with ⟨h,_⟩ | ⟨_,h⟩
   ·exact absurd h hb
   ·exact h
  rcases (A a b).1 h1 with ⟨rfl,h⟩ | ⟨e,h⟩
  ·exact .inl ⟨rfl,I.JE n b c h h2'⟩
  ·exact .inr ⟨e,I.trans a b c h h2'⟩
 ·rw [P]
  rcases (P k b).1 h1 with h | ⟨rfl,rfl⟩
  ·have hb:b≠m:=by rintro rfl;exact hno (I.Db k b h).1
   rcases (A b c).1 h2 with ⟨e,_⟩ | ⟨_,h3⟩
   ·exact absurd e hb
   ·exact .inl (I.JE k b c h h3)
  ·rcases (A b c).1 h2 with ⟨_,h⟩ | ⟨e,_⟩
   ·exact .inl h
   ·exact absurd rfl e
 ·rw [P]
  rcases (mem x).1 hx with h | rfl
  ·exact .inl (I.mine x k h e)
  ·exact .inr ⟨by have:=C.mfr;omega,rfl⟩
 ·rw [A]
  have ha':(s.sent++[m])[i]? = some a:=ha
  have hb':(s.sent++[m])[j]? = some b:=hb
  have hi:i < (s.sent++[m]).length:=(zQ2.1 ha').1
  simp at hi
  have hj:j < s.sent.length:=by omega
  rw [List.getElem?_append_left hj] at hb'
  have mb:=List.mem_of_getElem? hb'
  by_cases c:i < s.sent.length
  ·rw [List.getElem?_append_left c] at ha'
   have ma:=List.mem_of_getElem? ha'
   exact .inr ⟨fun h=>hno (h ▸ ma),I.same i j a b ha' hb' e hlt⟩
  ·have:i=s.sent.length:=by omega
   subst this
   rw [List.getElem?_append_right (Nat.le_refl _)] at ha'
   simp at ha'
   subst ha'
   exact .inl ⟨rfl,I.mine b n mb (by rw [<-e,C.mfr])⟩
theorem Au {s:Sc} (x:Ac) (I:jP s):jP (bE s x):=by
 unfold bE
 by_cases h4:x.kind=4
 ·rw [if_pos h4];exact I
 ·rw [if_neg h4]
  cases h:doD s.d x with
  | error e=>exact I
  | ok d' =>
   have D:=E9 h
   have hI:=D.inv I.inv
   simp only
   by_cases h3:x.kind=3
   ·rw [if_pos h3]
    unfold doD at h
    rw [if_neg (by omega),if_neg (by omega),if_pos h3] at h
    obtain ⟨R,hf,ht,h⟩:=uK h
    obtain ⟨m,M⟩:=moved R (f:=x.one.toNat) (t:=x.two.toNat) (by omega) (by omega) h
    rw [M.first]
    exact JF I hI D.grow M
   ·rw [if_neg h3]
    have key:∃ nul body,(nul=true->body.size=0)/\ig s.d x.one x.two nul body=.ok d'/\(jE d' x).nul=nul/\(jE d' x).body=body:=by
     unfold doD at h
     unfold jE
     by_cases h1:x.kind=1
     ·rw [if_pos h1] at h
      obtain ⟨R,h⟩:=ji h
      exact ⟨false,x.body,fun h=>(by cases h),h,by simp;omega,by simp;intro h;omega⟩
     ·rw [if_neg h1] at h
      by_cases h2:x.kind=2
      ·rw [if_pos h2] at h
       obtain ⟨R,h⟩:=ji h
       exact ⟨true,ByteArray.empty,fun _=>rfl,h,by simp [h2],by simp [h2]⟩
      ·rw [if_neg h2,if_neg h3,if_neg h4] at h;cases h
    obtain ⟨nul,body,hb,hc,e1,e2⟩:=key
    have C:=Av D.was hb hc
    have em:jE d' x=og s.d x.one x.two nul body:=by
     have h1:=C.clk x.one.toNat
     rw [if_pos rfl] at h1
     unfold jE at e1 e2 ⊢
     unfold og at h1 ⊢
     simp only at e1 e2 h1
     rw [e1,e2,h1]
    rw [em]
    exact KW I hI D.grow C
theorem IQ {n:Nat} {l:List Int} (hc:bF n l=0) (acts:List Ac):jP (scD n l acts):=by
 obtain ⟨I0,c0⟩:=zY hc
 have h0:jP (nJ n l):=by
  refine ⟨I0,by simp [nJ],fun m hm=>(by cases hm),fun f t m hm=>?_,fun k y h=>(by cases h),fun a y h=>(by cases h),fun a b c h=>(by cases h),fun k b c h=>(by cases h),fun m k h=>(by cases h),fun i j a b h=>?_⟩
  ·have:au (bM n l) f t=[]:=by
    cases hw:au (bM n l) f t with
    | nil=>rfl
    | cons x r =>
     have:=(I0.wire f t x (by rw [hw];simp))
     have h1:=I0.right.mZ f t x (by rw [hw];simp)
     have h2:=(ni (ng.1 h1.1).1).2.2.1
     rw [c0] at this;omega
   have hm':m∈au (bM n l) f t:=hm
   rw [this] at hm';cases hm'
  ·simp [nJ] at h
 unfold scD
 have:∀ (acts:List Ac) (s:Sc),jP s->jP (acts.foldl bE s):=by
  intro acts
  induction acts with
  | nil=>intro s h;exact h
  | cons x r ih=>intro s h;exact ih _ (Au x h)
 exact this acts _ h0
theorem Dc {l:List Mg} {m:Mg} {i:Nat} (h:jC m l=some i):l[i]? = some m:=by
 unfold jC at h
 obtain ⟨hl,h1,_⟩:=List.findIdx?_eq_some_iff_getElem.1 h
 rw [zQ1 hl]
 congr 1
 exact (dY _ _).1 h1
theorem Em {l:List Mg} {a b:Mg} {i k:Nat} (hr:aN l=true) (ha:jC a l=some i) (hb:jC b l=some k) (h:b.st < a.st):k < i:=by
 have ha:=Dc ha
 have hb:=Dc hb
 have hp:=List.pairwise_iff_getElem.1 ((dn _).1 hr)
 obtain ⟨li,ei⟩:=zQ2.1 ha
 obtain ⟨lk,ek⟩:=zQ2.1 hb
 rcases Nat.lt_trichotomy k i with c | c | c
 ·exact c
 ·subst c;rw [ei] at ek;subst ek;omega
 ·have:=hp i k li lk c
  rw [ei,ek,mY] at this;omega
end Go.Proofs.YtiiifecfdkjmbaaGreat.Pu
namespace Go.Proofs.YtiiifecfdkjmbaaGreat
set_option maxRecDepth 8000
open Go.RowKit Go.Shelf
open Pu
set_option linter.unusedVariables false
set_option linter.unusedSimpArgs false
attribute [local go_sem] Oper.semAt_some
end Go.Proofs.YtiiifecfdkjmbaaGreat
namespace Go.Proofs.YtiiifecfdkjmbaaGreat
set_option maxRecDepth 8000
open Go.RowKit Go.Shelf
open Pu
set_option linter.unusedVariables false
set_option linter.unusedSimpArgs false
attribute [local go_sem] Oper.semAt_some
theorem LK:ET 50 58 4 40:=wH (z:=.agg #[.int .i64 0,.int .i64 0,.int .i64 0,.string ByteArray.empty]) (by kernel_rfl) (by kernel_rfl) rfl
end Go.Proofs.YtiiifecfdkjmbaaGreat
namespace Go.Proofs.YtiiifecfdkjmbaaGreat
set_option maxRecDepth 8000
open Go.RowKit Go.Shelf
open Pu
set_option linter.unusedVariables false
set_option linter.unusedSimpArgs false
attribute [local go_sem] Oper.semAt_some
end Go.Proofs.YtiiifecfdkjmbaaGreat
namespace Go.Proofs.YtiiifecfdkjmbaaGreat
set_option maxRecDepth 8000
open Go.RowKit Go.Shelf
open Pu
set_option linter.unusedVariables false
set_option linter.unusedSimpArgs false
attribute [local go_sem] Oper.semAt_some
end Go.Proofs.YtiiifecfdkjmbaaGreat
namespace Go.Proofs.YtiiifecfdkjmbaaGreat
set_option maxRecDepth 8000
open Go.RowKit Go.Shelf
open Pu
set_option linter.unusedVariables false
set_option linter.unusedSimpArgs false
def gB:Ac:=⟨3,0,1,⟨#[]⟩⟩
end Go.Proofs.YtiiifecfdkjmbaaGreat
set_option maxHeartbeats 2000000
namespace Go.Proofs.YtiiifecfdkjmbaaGreat
open _root_.Go.Proofs.Tryz hiding checked
set_option maxRecDepth 8000
open Go.RowKit Go.Shelf
set_option linter.unusedVariables false
set_option linter.unusedSimpArgs false
attribute [local go_sem] Oper.semAt_some
end Go.Proofs.YtiiifecfdkjmbaaGreat
namespace Go.Proofs.YtiiifecfdkjmbaaGreat
open _root_.Go.Proofs.Tryz hiding checked
set_option maxRecDepth 8000
open Go.RowKit Go.Shelf
set_option linter.unusedVariables false
set_option linter.unusedSimpArgs false
attribute [local go_sem] Oper.semAt_some
end Go.Proofs.YtiiifecfdkjmbaaGreat
namespace Go.Proofs.YtiiifecfdkjmbaaGreat
open _root_.Go.Proofs.Tryz hiding checked
set_option maxRecDepth 8000
open Go.RowKit Go.Shelf
open Go.ChangeMaps (setBlock)
set_option linter.unusedVariables false
set_option linter.unusedSimpArgs false
attribute [local go_sem] Oper.semAt_some
end Go.Proofs.YtiiifecfdkjmbaaGreat
namespace Go.Proofs
open Go.Shelf
shelf_lay_g SlLaysF0.n6 Slsf 6 at Tryz 167 as Tryz.PO
end Go.Proofs
namespace Go.Proofs.YtiiifecfdkjmbaaGreat
open _root_.Go.Proofs.Tryz hiding checked
set_option maxRecDepth 8000
open Go.RowKit Go.Shelf
open Go.Sort (grow alloc_eq_grow grow_grow SWO HoldsK PermIn SortedIn)
set_option linter.unusedVariables false
set_option linter.unusedSimpArgs false
end Go.Proofs.YtiiifecfdkjmbaaGreat
namespace Go.Proofs.YtiiifecfdkjmbaaGreat
open _root_.Go.Proofs.Tryz hiding checked
set_option maxRecDepth 8000
open Go.RowKit Go.Shelf
set_option linter.unusedVariables false
set_option linter.unusedSimpArgs false
attribute [local go_sem] Oper.semAt_some
end Go.Proofs.YtiiifecfdkjmbaaGreat
namespace Go.Proofs.YtiiifecfdkjmbaaGreat
open _root_.Go.Proofs.Tryz hiding checked
set_option maxRecDepth 8000
open Go.RowKit Go.Shelf
open Pu
set_option linter.unusedVariables false
theorem qP (ms:List Mg) (m x:Mg):x∈eu ms m↔x∈ms\/x=m:=by
 unfold eu
 by_cases h:ms.any (dX m)=true
 ·rw [if_pos h]
  refine ⟨fun h=>.inl h,fun h2=>h2.elim id fun e=>?_⟩
  rw [e];exact (ko ms m).1 h
 ·rw [if_neg h];simp
set_option linter.unusedSimpArgs false
def wh (d:Wd) (n:Int):Bool:=decide (n < 0) || decide ((d.nodes.length:Int)<=n)
def qQ (d:Wd) (ns:List Int):Int:=if aM d=0 then (if ns.any (wh d) then 4 else 0) else aM d
theorem FQ (x:WV) (d:Wd) (a:Option Addr) (len cap:Nat) (ns:List Int) (w:World) (hW:WAt w x d) (hI:Ints w a len ns) :
  Calls prog 109 #[.agg #[.slice x.ga x.gl x.gc,.slice x.na x.nl x.nc,.slice x.wa x.wl x.wc],.slice a len cap] w fun e w'=>e=.returned (.int .i64 (qQ d ns))/\Since w w':=by
 obtain ⟨ga,gl,gc,na,nl,nc,wa,wl,wc⟩:=x
 have hnl:=hW.n.hlen
 dsimp only at hnl ⊢
 subst hnl
 obtain ⟨rfl,hmax,hcells⟩:=hI
 obtain ⟨w1,hw1⟩:∃ wp,w.alloc (.cells #[.slice ga gl gc,.slice na d.nodes.length nc,.slice wa wl wc] 26)=wp:=⟨_,rfl⟩
 have hP1:bD w1 w.heap.size ⟨ga,gl,gc,na,d.nodes.length,nc,wa,wl,wc⟩:=by rw [<-hw1];exact bD.new w ⟨ga,gl,gc,na,d.nodes.length,nc,wa,wl,wc⟩ _
 have hS1:=ay hw1
 have PF:Hid (∀ y,Since w1 y->bD y w.heap.size ⟨ga,gl,gc,na,d.nodes.length,nc,wa,wl,wc⟩):=fun y hy=>hP1.since hy
 have hC:=jB ⟨ga,gl,gc,na,d.nodes.length,nc,wa,wl,wc⟩ d w1 (hW.since hS1)
 dsimp only at hC
 obtain ⟨_,p0,p1,p2⟩:=hP1
 dsimp only at p0 p1 p2
 obtain ⟨er,her⟩:∃ y,aM d=y:=⟨_,rfl⟩
 rw [her] at hC
 have HER:Hid (aM d=er):=her
 clear her hW
 by_cases h0:er=0
 ·subst h0
  have HA:Hid (qQ d ns=if ns.any (wh d) then 4 else 0):=by unfold Hid qQ;rw [if_pos HER.out]
  go_enter func109,ntmps109
  go_wp2_with fail
  refine hC.mono ?_
  rintro e w2 ⟨rfl,hS2⟩
  clear hw1 p0 p1 p2
  go_wp2_with fail
  go_loopw [15] (fun i wr=>(∃ k:Nat,k<=ns.length/\i=.int .i64 k/\∀ n∈ns.take k,wh d n=false)/\wr=w2) (fun i _=>ns.length - (intOf i).toNat)
  case atStart=>exact ⟨⟨0,Nat.zero_le _,rfl,by simp⟩,rfl⟩
  case round =>
   obtain ⟨⟨k,hk,rfl,hok⟩,hwr⟩:=hrel
   obtain rfl:=hwr.symm
   obtain ⟨_,q0,q1,q2⟩:=PF.out _ hS2
   dsimp only at q0 q1 q2
   by_cases hlt:k < ns.length
   ·obtain ⟨b,off,rfl,hb,hc⟩:=hcells (by omega)
    have hx:=(hS1.trans hS2).cellAt hb (off+k)
    rw [hc k hlt] at hx
    obtain ⟨n,hn⟩:∃ n,ns[k]? = some n:=⟨_,zQ1 hlt⟩
    rw [hn] at hx
    simp only [Option.getD_some] at hx
    have n1:(k:Int) < (ns.length:Int):=by omega
    have HT:Hid (ns.take (k+1)=ns.take k++[n]):=by unfold Hid;rw [List.take_add_one,hn];rfl
    have P6:Hid (n∈ns):=List.mem_of_getElem? hn
    clear hn hc hcells
    cases hB:wh d n
    ·have HB:Hid (wh d n=false):=hB
     unfold wh at hB
     simp only [Bool.or_eq_false_iff,decide_eq_false_iff_not] at hB
     obtain ⟨hb1,hb2⟩:=hB
     go_wp2_with fail
     go_roundw
     case rel =>
      refine ⟨⟨k+1,by omega,by go_num,fun m hm=>?_⟩,trivial⟩
      rw [HT.out] at hm
      rcases List.mem_append.1 hm with h | h
      ·exact hok m h
      ·simp at h;subst h;exact HB.out
     case measure=>simp [intOf];omega
    ·have HR:Hid (qQ d ns=4):=by unfold Hid;rw [HA.out,if_pos (List.any_eq_true.2 ⟨n,P6.out,hB⟩)]
     unfold wh at hB
     rw [Bool.or_eq_true,decide_eq_true_iff,decide_eq_true_iff] at hB
     by_cases hb1:n < 0
     ·clear hB
      go_wp2_with fail
      go_ret
      exact ⟨by rw [HR.out];rfl,hS1.trans hS2⟩
     ·have hb2:(d.nodes.length:Int)<=n:=hB.resolve_left hb1
      clear hB
      go_wp2_with fail
      go_ret
      exact ⟨by rw [HR.out];rfl,hS1.trans hS2⟩
   ·obtain rfl:k=ns.length:=by omega
    rw [List.take_length] at hok
    have HR:Hid (qQ d ns=0):=by
     unfold Hid
     rw [HA.out,if_neg]
     rw [List.any_eq_true]
     rintro ⟨n,hn,h⟩
     rw [hok n hn] at h;cases h
    clear hok hcells
    go_wp2_with fail
    go_ret
    exact ⟨by rw [HR.out];rfl,hS1.trans hS2⟩
 ·have hb:(er != 0)=true:=by simpa using h0
  have HA:Hid (qQ d ns=er):=by unfold Hid qQ;rw [HER.out,if_neg h0]
  clear h0
  go_enter func109,ntmps109
  go_wp2_with fail
  refine hC.mono ?_
  rintro e w2 ⟨rfl,hS2⟩
  go_wp2_with fail
  go_ret
  exact ⟨by rw [HA.out];rfl,hS1.trans hS2⟩
theorem Io {d:Wd} {ns:List Int} (h:qQ d ns=0):aM d=0/\∀ n∈ns,∃ (k:Nat) (nd:Nd),n=(k:Int)/\d.nodes[k]? = some nd:=by
 unfold qQ at h
 by_cases h0:aM d=0
 ·rw [if_pos h0] at h
  refine ⟨h0,fun n hn=>?_⟩
  have hb:wh d n=false:=by
   cases hB:wh d n
   ·rfl
   ·rw [if_pos (List.any_eq_true.2 ⟨n,hn,hB⟩)] at h;cases h
  unfold wh at hb
  simp only [Bool.or_eq_false_iff,decide_eq_false_iff_not] at hb
  obtain ⟨k,rfl⟩:∃ k:Nat,n=(k:Int):=⟨n.toNat,by omega⟩
  exact ⟨k,_,rfl,zQ1 (by omega)⟩
 ·rw [if_neg h0] at h;exact absurd h h0
theorem FR {d:Wd} {k:Nat} {nd:Nd} (h:d.nodes[k]? = some nd):aS d k=nd.told:=by unfold aS;rw [h]
theorem uZ (a b:Mg) (v:Bool) (h:dX a b=v) (w:World):(binOp .eql 42 (.agg #[.int .i64 a.fr,.int .i64 a.gr,.int .i64 a.st,.bool a.nul,.string a.body]) (.agg #[.int .i64 b.fr,.int .i64 b.gr,.int .i64 b.st,.bool b.nul,.string b.body])).run prog w=.ok (.bool v) w:=by
 subst h
 obtain ⟨af,ag,at1,an,ab⟩:=a
 obtain ⟨bf,bg,bt,bn,bb⟩:=b
 simp only [dX]
 by_cases h1:af=bf <;> by_cases h2:ag=bg <;> by_cases h3:at1=bt <;> by_cases h4:an=bn <;> by_cases h5:ab.toList=bb.toList <;>
  simp [go_sem,underlying42,h1,h2,h3,h4,h5,beq_toListBytes]
theorem wm (a b:Mg):dX a b=dX b a:=by
 cases h:dX b a
 ·rw [<-Bool.not_eq_true,dY];rintro rfl;rw [jR] at h;cases h
 ·rw [(dY b a).1 h];exact jR _
theorem DU {l:List Mg} {m:Mg} (h:∀ x∈l,dX x m=false):jC m l=none:=by
 unfold jC;rw [List.findIdx?_eq_none_iff];exact h
theorem DV {l:List Mg} {m:Mg} {k:Nat} {x:Mg} (h:∀ y∈l.take k,dX y m=false) (hx:l[k]? = some x) (hs:dX x m=true):jC m l=some k:=by
 unfold jC
 rw [List.findIdx?_eq_some_iff_getElem]
 obtain ⟨hk,e⟩:=zQ2.1 hx
 refine ⟨hk,by rw [e];exact hs,fun j hj=>?_⟩
 have:=h (l[j]'(by omega)) (List.mem_take_iff_getElem.2 ⟨j,by omega,rfl⟩)
 simpa using this
def Iq:Option Nat->Int
 | some k=>(k:Int)
 | none=>-1
theorem FT (a:Option Addr) (n c:Nat) (ms:List Mg) (m:Mg) (w:World) (hM:eY w a n ms) :
  Calls prog 121 #[.slice a n c,.agg #[.int .i64 m.fr,.int .i64 m.gr,.int .i64 m.st,.bool m.nul,.string m.body]] w fun e w'=>e=.returned (.int .i64 (Iq (jC m ms)))/\Since w w':=by
 obtain ⟨rfl,hm,hc⟩:=hM
 obtain ⟨R,hR⟩:∃ y:Int,(Iq (jC m ms))=y:=⟨_,rfl⟩
 have HR:Hid ((Iq (jC m ms))=R):=hR
 rw [hR]
 clear hR
 obtain ⟨w1,hw1⟩:∃ y,w.alloc (.cells #[.int .i64 m.fr,.int .i64 m.gr,.int .i64 m.st,.bool m.nul,.string m.body] 42)=y:=⟨_,rfl⟩
 have hS1:=ay hw1
 have hl1:w.heap.size < w1.heap.size:=by rw [<-hw1];simp
 have z0:w1.cell? ⟨w.heap.size,0,none⟩=some (.int .i64 m.fr):=by rw [<-hw1];simp [go_sem]
 have z1:w1.cell? ⟨w.heap.size,1,none⟩=some (.int .i64 m.gr):=by rw [<-hw1];simp [go_sem]
 have z2:w1.cell? ⟨w.heap.size,2,none⟩=some (.int .i64 m.st):=by rw [<-hw1];simp [go_sem]
 have z3:w1.cell? ⟨w.heap.size,3,none⟩=some (.bool m.nul):=by rw [<-hw1];simp [go_sem]
 have z4:w1.cell? ⟨w.heap.size,4,none⟩=some (.string m.body):=by rw [<-hw1];simp [go_sem]
 go_enter func121,ntmps121
 go_wp2
 clear hw1
 go_loopw [8] (fun i wr=>(∃ k:Nat,k<=ms.length/\i=.int .i64 k/\∀ y∈ms.take k,dX y m=false)/\Since w1 wr) (fun i _=>ms.length - (intOf i).toNat)
 case atStart=>exact ⟨⟨0,Nat.zero_le _,rfl,by simp⟩,Since.refl _⟩
 case round =>
  obtain ⟨⟨k,hk,rfl,hno⟩,hS⟩:=hrel
  have HNO:Hid (∀ y∈ms.take k,dX y m=false):=hno
  clear hno
  by_cases hlt:k < ms.length
  ·obtain ⟨b,off,rfl,hbb,hcell⟩:=hc (by omega)
   obtain ⟨x,hx⟩:∃ x,ms[k]? = some x:=⟨_,zQ1 hlt⟩
   obtain ⟨d0,d1,d2,d3,d4⟩:=bJ hcell k x hx
   have n1:(k:Int) < (ms.length:Int):=by omega
   have hnE:Nonempty (Later w1):=⟨⟨w1,Since.refl w1⟩⟩
   have hg:∀ (x:Later w1) (o:Nat),x.w.cell? ⟨w.heap.size,o,none⟩=w1.cell? ⟨w.heap.size,o,none⟩:=fun x o=>x.cell hl1
   have hg':∀ (x:Later w1) (o:Nat),x.w.cell? ⟨b,o,none⟩=w.cell? ⟨b,o,none⟩:=fun x o=>(x.cell (zQ4 hbb hS1.size)).trans (hS1.cellAt hbb o)
   have HX:Hid (ms[k]? = some x):=hx
   clear hcell hc hx
   cases hd:dX x m
   ·have HN2:Hid (∀ y∈ms.take (k+1),dX y m=false):=fun y hy=>by
     rw [List.take_add_one,HX.out] at hy
     rcases List.mem_append.1 hy with h | h
     ·exact HNO.out y h
     ·simp at h;subst h;exact hd
    have hq:=uZ m x false (by rw [wm];exact hd)
    clear hd
    go_wp2_with fail
    refine av (by kernel_rfl) (by kernel_rfl) hS ?_
    repeat (go_big_quiet_step (fail))
    refine wpQuiet_nil ?_
    intro w9 hS9
    go_wp2
    go_roundw
    case rel=>exact ⟨⟨k+1,by omega,by go_num,HN2.out⟩,hS9⟩
    case measure=>simp [intOf];omega
   ·have HRR:Hid (R=(k:Int)):=by unfold Hid;rw [<-HR.out,DV HNO.out HX.out hd];rfl
    have hq:=uZ m x true (by rw [wm];exact hd)
    clear hd
    go_wp2_with fail
    refine av (by kernel_rfl) (by kernel_rfl) hS ?_
    repeat (go_big_quiet_step (fail))
    refine wpQuiet_nil ?_
    intro w9 hS9
    go_wp2
    go_ret
    exact ⟨by rw [HRR.out];rfl,hS1.trans hS9⟩
  ·obtain rfl:k=ms.length:=by omega
   have HRR:Hid (R=-1):=by
    unfold Hid
    have h:=HNO.out
    rw [List.take_length] at h
    rw [<-HR.out,DU h];rfl
   clear hc
   go_wp2
   go_ret
   exact ⟨by rw [HRR.out];rfl,hS1.trans hS⟩
def uE (d:Wd) (n:Int) (m:Mg):Option Nat:=if qQ d [n]=0 then jC m (aS d n.toNat) else none
theorem BL (x:WV) (d:Wd) (n:Int) (m:Mg) (w:World) (hW:WAt w x d) :
  Calls prog 56 #[.agg #[.slice x.ga x.gl x.gc,.slice x.na x.nl x.nc,.slice x.wa x.wl x.wc],.int .i64 n,.agg #[.int .i64 m.fr,.int .i64 m.gr,.int .i64 m.st,.bool m.nul,.string m.body]] w fun e w'=>e=.returned (.tuple #[.int .i64 (((uE d n m).getD 0:Nat):Int),.bool (uE d n m).isSome,.int .i64 (qQ d [n])])/\Since w w':=by
 obtain ⟨ga,gl,gc,na,nl,nc,wa,wl,wc⟩:=x
 have hnl:=hW.n.hlen
 dsimp only at hnl ⊢
 subst hnl
 obtain ⟨wz,hwz⟩:∃ wp,w.alloc (.cells #[.slice ga gl gc,.slice na d.nodes.length nc,.slice wa wl wc] 26)=wp:=⟨_,rfl⟩
 obtain ⟨w1,hw1⟩:∃ wp,wz.alloc (.cells #[.int .i64 m.fr,.int .i64 m.gr,.int .i64 m.st,.bool m.nul,.string m.body] 42)=wp:=⟨_,rfl⟩
 have hSz:=ay hwz
 have N9:=ay hw1
 have hP1:bD w1 w.heap.size ⟨ga,gl,gc,na,d.nodes.length,nc,wa,wl,wc⟩:=bD.since (by rw [<-hwz];exact bD.new w ⟨ga,gl,gc,na,d.nodes.length,nc,wa,wl,wc⟩ _) N9
 have hS1:Since w w1:=hSz.trans N9
 have hlm:wz.heap.size < w1.heap.size:=by rw [<-hw1];simp
 have z0:w1.cell? ⟨wz.heap.size,0,none⟩=some (.int .i64 m.fr):=by rw [<-hw1];simp [go_sem]
 have z1:w1.cell? ⟨wz.heap.size,1,none⟩=some (.int .i64 m.gr):=by rw [<-hw1];simp [go_sem]
 have z2:w1.cell? ⟨wz.heap.size,2,none⟩=some (.int .i64 m.st):=by rw [<-hw1];simp [go_sem]
 have z3:w1.cell? ⟨wz.heap.size,3,none⟩=some (.bool m.nul):=by rw [<-hw1];simp [go_sem]
 have z4:w1.cell? ⟨wz.heap.size,4,none⟩=some (.string m.body):=by rw [<-hw1];simp [go_sem]
 have hlp:=hP1.lt
 have p0:=hP1.c0
 have p1:=hP1.c1
 have p2:=hP1.c2
 dsimp only at p0 p1 p2
 obtain ⟨er,her⟩:∃ y,qQ d [n]=y:=⟨_,rfl⟩
 obtain ⟨w2,hw2⟩:∃ wp,w1.alloc (.cells #[.int .i64 n] 3)=wp:=⟨_,rfl⟩
 have hS2:=ay hw2
 have hI2:Ints w2 (some ⟨w1.heap.size,0,none⟩) 1 [n]:=by rw [<-hw2];exact Ir
 have hC:=FQ ⟨ga,gl,gc,na,d.nodes.length,nc,wa,wl,wc⟩ d _ 1 1 [n] w2 (hW.since (hS1.trans hS2)) hI2
 dsimp only at hC
 rw [her] at hC
 by_cases h0:er=0
 ·subst h0
  obtain ⟨hw0,hns⟩:=Io her
  obtain ⟨k,nk,rfl,hk⟩:=hns n (by simp)
  have hO:uE d k m=jC m nk.told:=by unfold uE;rw [if_pos her,Int.toNat_natCast,FR hk]
  rw [her,hO]
  have hkl:=(zQ2.1 hk).1
  obtain ⟨bn,on,e,hbn,hcn⟩:=hW.n.cells (by dsimp only;omega)
  dsimp only at e
  subst e
  obtain ⟨_,_,_,⟨v3,k3,ta,tc,rfl,htc,hT⟩⟩:=hcn k nk hk
  have i1:(k:Int) < (d.nodes.length:Int):=by omega
  have hIdx:=fun (y:World) (hy:Since w1 y)=>FT ta nk.told.length tc nk.told m y (hT.since (hS1.trans hy))
  obtain ⟨A,hA⟩:∃ y,jC m nk.told=y:=⟨_,rfl⟩
  rw [hA] at hIdx ⊢
  obtain ⟨I,hI⟩:∃ y,Iq A=y:=⟨_,rfl⟩
  rw [hI] at hIdx
  have HI:Hid (Iq A=I):=hI
  clear hcn hW her hw0 hns hk hO hA hT hI
  go_enter func56,ntmps56
  go_wp2_with fail
  refine hC.mono ?_
  rintro e w3 ⟨rfl,wD⟩
  have hS3:=hS2.trans wD
  go_wp2_with fail
  have k3':=(hS1.cellAt hbn _).trans k3
  have P7:bn < w1.heap.size:=zQ4 hbn hS1.size
  have hnE:Nonempty (Later w1):=⟨⟨w1,Since.refl w1⟩⟩
  have hg:∀ (x:Later w1) (o:Nat),x.w.cell? ⟨w.heap.size,o,none⟩=w1.cell? ⟨w.heap.size,o,none⟩:=fun x o=>x.cell hlp
  have hg':∀ (x:Later w1) (o:Nat),x.w.cell? ⟨wz.heap.size,o,none⟩=w1.cell? ⟨wz.heap.size,o,none⟩:=fun x o=>x.cell hlm
  have hg'':∀ (x:Later w1) (o:Nat),x.w.cell? ⟨bn,o,none⟩=w1.cell? ⟨bn,o,none⟩:=fun x o=>x.cell P7
  clear hw1
  refine av (by kernel_rfl) (by kernel_rfl) hS3 ?_
  repeat (go_big_quiet_step ((go_at_call 121;exact Later.call (fun y hy=>(hIdx y hy).mono fun e w' ⟨he,hs⟩=>⟨he,hy.trans hs⟩))))
  refine wpQuiet_nil ?_
  intro w9 hS9
  cases A with
  | none =>
   obtain rfl:I=-1:=HI.out.symm
   go_wp2_with fail
   refine bodyPost_ret (v:=.tuple #[.int .i64 0,.bool false,.int .i64 0]) ?_ rfl ⟨rfl,hS1.trans hS9⟩
   simp [results,results56,go_sem]
  | some j =>
   obtain rfl:I=(j:Int):=HI.out.symm
   have j1:¬ (j:Int) < 0:=by omega
   go_wp2_with fail
   refine bodyPost_ret (v:=.tuple #[.int .i64 (j:Int),.bool true,.int .i64 0]) ?_ rfl ⟨rfl,hS1.trans hS9⟩
   simp [results,results56,go_sem]
 ·have hb:(er != 0)=true:=by simpa using h0
  have hO:uE d n m=none:=by unfold uE;rw [her,if_neg h0]
  rw [her,hO]
  clear h0 her hO hW
  go_enter func56,ntmps56
  go_wp2_with fail
  refine hC.mono ?_
  rintro e w3 ⟨rfl,wD⟩
  have hS3:=hS2.trans wD
  go_wp2_with fail
  refine bodyPost_ret (v:=.tuple #[.int .i64 0,.bool false,.int .i64 er]) ?_ rfl ⟨rfl,hS1.trans hS3⟩
  simp [results,results56,go_sem]
end Go.Proofs.YtiiifecfdkjmbaaGreat
