/- Lemmas. -/
import Derived.Test.YtiiifecfdkjmbaaFar
namespace Go.Proofs.Ytiiifecfdkjmbaa.Pu
set_option maxRecDepth 8000
def au (d:Wd) (f t:Nat):List Mg:=(d.wires[f]?.getD [])[t]?.getD []
def aR (d:Wd) (f t:Nat) (l:List Mg):Wd:={ d with wires:=d.wires.set f ((d.wires[f]?.getD []).set t l) }
def aD (d:Wd) (k:Nat):Int:=match d.nodes[k]? with | some x=>x.clock | none=>0
def bT (d:Wd) (k g i:Nat):Int:=match d.nodes[k]? with | some x=>dG x.last g i | none=>0
def ay (d:Wd) (k:Nat):List Mg:=match d.nodes[k]? with | some x=>x.held | none=>[]
def aT (d:Wd) (k:Nat):List Mg:=match d.nodes[k]? with | some x=>x.told | none=>[]
def dw (d:Wd) (k:Nat):Int:=match d.nodes[k]? with | some x=>um d k x | none=>0
def setNode (d:Wd) (n:Nat) (x:Nd):Wd:={ d with nodes:=d.nodes.set n x }
def dZ (d:Wd) (n:Nat):Except Int (Wd × Nat) :=
 match d.nodes[n]? with
 | none=>.error 4
 | some x =>
  if 40 < (x.told++cB d n x).length then .error 2
  else if aP (x.told++cB d n x)=false then .error 1
  else .ok (setNode d n { x with held:=x.held.drop (cB d n x).length,told:=x.told++cB d n x },(cB d n x).length)
def yx (d:Wd) (n:Nat) (m:Mg):Except Int Wd :=
 match d.nodes[n]? with
 | none=>.error 4
 | some x=>if fK m x.held=0 then .ok (setNode d n { x with held:=gQ m x.held }) else .error (fK m x.held)
def fJ (d:Wd) (n:Nat) (m:Mg):Except Int Wd:=if m.nul then .ok d else yx d n m
def vT (m:Mg) (l:List Mg):Bool:=match l.getLast? with | some x=>decide (m.st<=x.st) | none=>false
def jl (m:Mg) (n:Nat) (d:Wd) (k:Nat):Except Int Wd :=
 if k=n\/hasB d.groups m.gr k=false then .ok d
 else if (au d n k).length=40 then .error 2
 else if vT m (au d n k) then .error 1
 else .ok (aR d n k (au d n k++[m]))
def eY (m:Mg) (n:Nat) (d:Wd) (i:Nat):Except Int Wd:=(List.range i).foldlM (jl m n) d
def bM (d:Wd) (n g:Int) (size:Nat):Int :=
 if inB n 0 ((d.nodes.length:Int) - 1)=false\/inB g 0 ((d.groups.length:Int) - 1)=false then 4
 else if hasB d.groups g n=false then 5
 else if 8 < size then 1
 else if aD d n.toNat=1048576 then 3 else 0
def jZ (d:Wd) (n:Nat) (c:Int):Wd:=match d.nodes[n]? with | some x=>setNode d n { x with clock:=c } | none=>d
def iq (d:Wd) (n g:Int) (nul:Bool) (body:ByteArray):Except Int Wd :=
 if bM d n g body.size=0 then
  (eY ⟨n,g,aD d n.toNat+1,nul,body⟩ n.toNat (jZ d n.toNat (aD d n.toNat+1)) d.nodes.length).bind fun d2 =>
  (fJ d2 n.toNat ⟨n,g,aD d n.toNat+1,nul,body⟩).bind fun d3 =>
  (dZ d3 n.toNat).bind fun p=>.ok p.1
 else .error (bM d n g body.size)
def nP (x:Nd) (m:Mg) (f:Nat):Nd :=
 { x with clock:=max x.clock m.st,last:=x.last.set m.gr.toNat ((x.last[m.gr.toNat]?.getD []).set f (max (dG x.last m.gr.toNat f) m.st)) }
def mU (d:Wd) (f t:Nat) (m:Mg) (rest:List Mg):Wd :=
 match d.nodes[t]? with
 | some x=>setNode (aR d f t rest) t (nP x m f)
 | none=>d
def iw (d:Wd) (f t:Nat):Except Int Wd :=
 match au d f t with
 | []=>.error 7
 | m::rest=>(fJ (mU d f t m rest) t m).bind fun d3=>(dZ d3 t).bind fun p=>.ok p.1
def eG (f t:Nat):Nat->Wd->Except Int Wd
 | 0,d=>.ok d
 | k+1,d=>(iw d f t).bind (eG f t k)
def pI (d:Wd) (f t:Nat):Except Int (Wd × Nat):=(eG f t (au d f t).length d).bind fun d'=>.ok (d',(au d f t).length)
def dz (s:Wd × Nat) (p:Nat × Nat):Except Int (Wd × Nat):=(pI s.1 p.1 p.2).bind fun r=>.ok (r.1,s.2+r.2)
def iN (d:Wd):Except Int (Wd × Nat):=(pairs d.nodes.length d.nodes.length).foldlM dz (d,0)
def dR (d:Wd) (p:Nat × Nat):Except Int Wd:=if hasB d.groups p.2 p.1 then iq d p.1 p.2 true ByteArray.empty else .ok d
def zi (d:Wd):Except Int Wd:=(pairs d.nodes.length d.groups.length).foldlM dR d
def fP (d:Wd):Except Int (Wd × Nat):=(zi d).bind iN
def jr:Nat->Wd->Except Int Wd
 | 0,d=>.ok d
 | k+1,d=>(fP d).bind fun r=>jr k r.1
def pq (d:Wd):Except Int Wd:=(iN d).bind fun r=>jr 4 r.1
structure Ac where
 kind:Int
 one:Int
 two:Int
 body:ByteArray
def checked {α:Type} (d:Wd) (r:Except Int α):Except Int α:=if bF d=0 then r else .error (bF d)
def jN (d:Wd) (f t:Int):Except Int Wd :=
 if bF d=0 then (if inB f 0 ((d.nodes.length:Int) - 1) && inB t 0 ((d.nodes.length:Int) - 1) then iw d f.toNat t.toNat else .error 4) else .error (bF d)
def doD (d:Wd) (x:Ac):Except Int Wd :=
 if x.kind=1 then checked d (iq d x.one x.two false x.body)
 else if x.kind=2 then checked d (iq d x.one x.two true ByteArray.empty)
 else if x.kind=3 then jN d x.one x.two
 else if x.kind=4 then checked d (pq d)
 else .error 6
def cK (n:Nat) (l:List Int):Wd:=⟨l,List.replicate n ⟨0,List.replicate l.length (List.replicate n 0),[],[]⟩,List.replicate n (List.replicate n [])⟩
structure Right (d:Wd):Prop where
 chk:dJ d.nodes.length d.groups=0
 xg:d.wires.length=d.nodes.length
 rlen:∀ (f:Nat) (row:List (List Mg)),d.wires[f]? = some row->row.length=d.nodes.length
 llen:∀ (k:Nat) (x:Nd),d.nodes[k]? = some x->x.last.length=d.groups.length
 oJ:∀ (k:Nat) (x:Nd) (g:Nat) (row:List Int),d.nodes[k]? = some x->x.last[g]? = some row->row.length=d.nodes.length
 clk:∀ k,0<=aD d k/\aD d k<=1048576
 lst:∀ k g i,0<=bT d k g i/\bT d k g i<=1048576
 IZ:∀ k g i,tK d k g i=false->bT d k g i=0
 pJ:∀ k,(ay d k).length<=40
 yA:∀ k,(aT d k).length<=40
 nQ:∀ f t,(au d f t).length<=40
 nO:∀ k,aP (ay d k)=true
 Bp:∀ k,aP (aT d k)=true
 pK:∀ k m,m∈ay d k->jB d k m=true/\m.nul=false
 yB:∀ k m,m∈aT d k->jB d k m=true/\m.nul=false
 mR:∀ f t m,m∈au d f t->jB d t m=true/\m.fr=f
 vJ:∀ f t,eB (au d f t)=true
 yt:∀ f,au d f f=[]
theorem getD_at {α:Type} {l:List α} {i:Nat} {a x:α} (h:l[i]? = some x):l[i]?.getD a=x:=by rw [h];rfl
theorem CQ (d:Wd):iH d=true↔(∀ (k:Nat) (x:Nd),d.nodes[k]? = some x->x.held.length<=40/\x.told.length<=40)/\∀ (f:Nat) (row:List (List Mg)) (t:Nat) (l:List Mg),d.wires[f]? = some row->row[t]? = some l->l.length<=40:=by
 unfold iH fC gq iE
 rw [List.all_append,Bool.and_eq_true,List.all_eq_true,List.all_eq_true]
 simp only [List.mem_flatMap,decide_eq_true_eq]
 constructor
 ·rintro ⟨h1,h2⟩
  refine ⟨fun k x hx=>?_,fun f row t l hr hl=>?_⟩
  ·have hm:=List.mem_of_getElem? hx
   exact ⟨h1 _ ⟨x,hm,by simp⟩,h1 _ ⟨x,hm,by simp⟩⟩
  ·exact h2 _ ⟨row,List.mem_of_getElem? hr,List.mem_map.2 ⟨l,List.mem_of_getElem? hl,rfl⟩⟩
 ·rintro ⟨h1,h2⟩
  refine ⟨fun n ⟨x,hx,hn⟩=>?_,fun n ⟨row,hr,hn⟩=>?_⟩
  ·obtain ⟨k,hk⟩:=List.getElem?_of_mem hx
   obtain ⟨a,b⟩:=h1 k x hk
   simp at hn
   rcases hn with rfl | rfl <;> assumption
  ·obtain ⟨l,hl,rfl⟩:=List.mem_map.1 hn
   obtain ⟨f,hf⟩:=List.getElem?_of_mem hr
   obtain ⟨t,ht⟩:=List.getElem?_of_mem hl
   exact h2 f row t l hf ht
theorem tT (d:Wd) (n:Nat) (last:List (List Int)):dK d n last=true↔∀ (g:Nat) (row:List Int),last[g]? = some row->row.length=d.nodes.length/\∀ (k:Nat) (v:Int),row[k]? = some v->fD d n g k v=true:=by
 unfold dK
 rw [List.all_eq_true]
 simp only [List.mem_range]
 constructor
 ·intro h g row hg
  have hl:=(zQ2.1 hg).1
  have:=h g hl
  rw [getD_at hg] at this
  unfold rX at this
  rw [Bool.and_eq_true,List.all_eq_true,decide_eq_true_eq] at this
  refine ⟨this.1,fun k v hk=>?_⟩
  have h2:=this.2 k (List.mem_range.2 (zQ2.1 hk).1)
  rwa [getD_at hk] at h2
 ·intro h g hg
  obtain ⟨row,hr⟩:∃ row,last[g]? = some row:=⟨_,zQ1 hg⟩
  obtain ⟨h1,h2⟩:=h g row hr
  rw [getD_at hr]
  unfold rX
  rw [Bool.and_eq_true,List.all_eq_true,decide_eq_true_eq]
  refine ⟨h1,fun k hk=>?_⟩
  have hk':=List.mem_range.1 hk
  obtain ⟨v,hv⟩:∃ v,row[k]? = some v:=⟨_,zQ1 hk'⟩
  rw [getD_at hv]
  exact h2 k v hv
theorem CS (d:Wd):ji d=true↔∀ (k:Nat) (x:Nd),d.nodes[k]? = some x->bD d k x=true:=by
 unfold ji
 rw [List.all_eq_true]
 simp only [List.mem_range]
 constructor
 ·intro h k x hx
  have:=h k (zQ2.1 hx).1
  rw [hx] at this
  exact this
 ·intro h k hk
  cases hx:d.nodes[k]? with
  | none=>rfl
  | some x=>exact h k x hx
theorem CU (d:Wd):eF d=true↔d.wires.length=d.nodes.length/\∀ (f:Nat) (row:List (List Mg)),d.wires[f]? = some row->row.length=d.nodes.length/\∀ (t:Nat) (l:List Mg),row[t]? = some l->aX d f t l=true:=by
 unfold eF
 rw [Bool.and_eq_true,decide_eq_true_eq,List.all_eq_true]
 simp only [List.mem_range]
 refine and_congr Iff.rfl ?_
 constructor
 ·intro h f row hf
  have:=h f (zQ2.1 hf).1
  rw [getD_at hf] at this
  unfold nG at this
  rw [Bool.and_eq_true,decide_eq_true_eq,List.all_eq_true] at this
  refine ⟨this.1,fun t l hl=>?_⟩
  have h2:=this.2 t (List.mem_range.2 (zQ2.1 hl).1)
  rwa [getD_at hl] at h2
 ·intro h f hf
  obtain ⟨row,hr⟩:∃ row,d.wires[f]? = some row:=⟨_,zQ1 hf⟩
  obtain ⟨h1,h2⟩:=h f row hr
  rw [getD_at hr]
  unfold nG
  rw [Bool.and_eq_true,decide_eq_true_eq,List.all_eq_true]
  refine ⟨h1,fun t ht=>?_⟩
  obtain ⟨l,hl⟩:∃ l,row[t]? = some l:=⟨_,zQ1 (List.mem_range.1 ht)⟩
  rw [getD_at hl]
  exact h2 t l hl
theorem tV {d:Wd} {f t:Nat} {row:List (List Mg)} {l:List Mg} (hr:d.wires[f]? = some row) (hl:row[t]? = some l):au d f t=l:=by
 unfold au;rw [hr];simp [hl]
theorem gU (d:Wd) (f t:Nat):(au d f t=[])\/∃ row l,d.wires[f]? = some row/\row[t]? = some l/\au d f t=l:=by
 unfold au
 cases hr:d.wires[f]? with
 | none=>left;simp
 | some row =>
  cases hl:row[t]? with
  | none=>left;simp [hl]
  | some l=>right;exact ⟨row,l,rfl,hl,by simp [hl]⟩
theorem rF (last:List (List Int)) (g k:Nat):dG last g k=0\/∃ row,last[g]? = some row/\row[k]? = some (dG last g k):=by
 unfold dG
 cases hr:last[g]? with
 | none=>left;simp
 | some row =>
  cases hl:row[k]? with
  | none=>left;simp [hl]
  | some l=>right;exact ⟨row,rfl,by simp [hl]⟩
theorem tX {last:List (List Int)} {g k:Nat} {row:List Int} {v:Int} (hr:last[g]? = some row) (hl:row[k]? = some v):dG last g k=v:=by
 unfold dG;rw [hr];simp [hl]
theorem dn (d:Wd):bF d=0↔Right d:=by
 have hE:bF d=0↔dJ d.nodes.length d.groups=0/\iH d=true/\ji d=true/\eF d=true:=by
  unfold bF
  by_cases h:dJ d.nodes.length d.groups=0
  ·rw [if_pos h]
   cases hs:iH d <;> cases hn:ji d <;> cases hw:eF d <;> simp [h]
  ·rw [if_neg h];simp [h]
 rw [hE,CQ,CS,CU]
 constructor
 ·rintro ⟨hc,⟨hs1,hs2⟩,hn,hw1,hw2⟩
  have N:∀ (k:Nat) (x:Nd),d.nodes[k]? = some x->(0<=x.clock/\x.clock<=1048576)/\x.last.length=d.groups.length/\(∀ (g:Nat) (row:List Int),x.last[g]? = some row->row.length=d.nodes.length/\∀ (i:Nat) (v:Int),row[i]? = some v->fD d k g i v=true)
    /\ aP x.held=true/\aP x.told=true/\gT x.held=true/\gT x.told=true/\bE d x.held k=true/\bE d x.told k=true:=by
   intro k x hx
   have:=hn k x hx
   unfold bD qO rz at this
   simp only [Bool.and_eq_true,decide_eq_true_eq,inB,tT] at this
   obtain ⟨⟨a,b⟩,c,d1,d2,d3,d4,d5,d6⟩:=this
   exact ⟨a,b,c,d1,d2,d3,d4,d5,d6⟩
  have C:∀ (k:Nat) (x:Nd) (g i:Nat),d.nodes[k]? = some x->fD d k g i (dG x.last g i)=true\/dG x.last g i=0:=by
   intro k x g i hx
   rcases rF x.last g i with h0 | ⟨row,hr,hv⟩
   ·exact .inr h0
   ·exact .inl (((N k x hx).2.2.1 g row hr).2 i _ hv)
  refine ⟨hc,hw1,fun f row h=>(hw2 f row h).1,fun k x h=>(N k x h).2.1,fun k x g row h h2=>((N k x h).2.2.1 g row h2).1, ?_, ?_, ?_, ?_, ?_, ?_, ?_, ?_, ?_, ?_, ?_, ?_, ?_⟩
  ·intro k;unfold aD
   cases h:d.nodes[k]? with
   | none=>simp
   | some x=>exact (N k x h).1
  ·intro k g i;unfold bT
   cases h:d.nodes[k]? with
   | none=>simp
   | some x =>
    rcases C k x g i h with h1 | h1
    ·unfold fD at h1;rw [Bool.and_eq_true] at h1;simpa [inB] using h1.1
    ·show 0<=dG x.last g i/\dG x.last g i<=_
     rw [h1];omega
  ·intro k g i hb;unfold bT
   cases h:d.nodes[k]? with
   | none=>rfl
   | some x =>
    rcases C k x g i h with h1 | h1
    ·unfold fD at h1;rw [Bool.and_eq_true,hb] at h1;simpa using h1.2
    ·exact h1
  ·intro k;unfold ay
   cases h:d.nodes[k]? with
   | none=>simp
   | some x=>exact (hs1 k x h).1
  ·intro k;unfold aT
   cases h:d.nodes[k]? with
   | none=>simp
   | some x=>exact (hs1 k x h).2
  ·intro f t
   rcases gU d f t with h | ⟨row,l,hr,hl,h⟩
   ·rw [h];simp
   ·rw [h];exact hs2 f row t l hr hl
  ·intro k;unfold ay
   cases h:d.nodes[k]? with
   | none=>rfl
   | some x=>exact (N k x h).2.2.2.1
  ·intro k;unfold aT
   cases h:d.nodes[k]? with
   | none=>rfl
   | some x=>exact (N k x h).2.2.2.2.1
  ·intro k m hm;unfold ay at hm
   cases h:d.nodes[k]? with
   | none=>rw [h] at hm;simp at hm
   | some x =>
    rw [h] at hm
    obtain ⟨_,_,_,_,_,e1,e2,e3,e4⟩:=N k x h
    unfold gT at e1;unfold bE at e3
    rw [List.all_eq_true] at e1 e3
    exact ⟨e3 m hm,by simpa using e1 m hm⟩
  ·intro k m hm;unfold aT at hm
   cases h:d.nodes[k]? with
   | none=>rw [h] at hm;simp at hm
   | some x =>
    rw [h] at hm
    obtain ⟨_,_,_,_,_,e1,e2,e3,e4⟩:=N k x h
    unfold gT at e2;unfold bE at e4
    rw [List.all_eq_true] at e2 e4
    exact ⟨e4 m hm,by simpa using e2 m hm⟩
  ·intro f t m hm
   rcases gU d f t with h | ⟨row,l,hr,hl,h⟩
   ·rw [h] at hm;simp at hm
   ·rw [h] at hm
    have:=(hw2 f row hr).2 t l hl
    unfold aX mq bE at this
    simp only [Bool.and_eq_true,List.all_eq_true,decide_eq_true_eq] at this
    exact ⟨this.2.1 m hm,this.1.1 m hm⟩
  ·intro f t
   rcases gU d f t with h | ⟨row,l,hr,hl,h⟩
   ·rw [h];rfl
   ·rw [h]
    have:=(hw2 f row hr).2 t l hl
    unfold aX mq at this
    simp only [Bool.and_eq_true] at this
    exact this.1.2
  ·intro f
   rcases gU d f f with h | ⟨row,l,hr,hl,h⟩
   ·exact h
   ·rw [h]
    have:=(hw2 f row hr).2 f l hl
    unfold aX at this
    simp only [Bool.and_eq_true] at this
    exact zQ6 (by simpa using this.2.2)
 ·intro R
  have H:∀ (k:Nat) (x:Nd),d.nodes[k]? = some x->ay d k=x.held/\aT d k=x.told/\aD d k=x.clock/\∀ g i,bT d k g i=dG x.last g i:=by
   intro k x h;unfold ay aT aD bT;rw [h];exact ⟨rfl,rfl,rfl,fun _ _=>rfl⟩
  refine ⟨R.chk,⟨fun k x h=>?_,fun f row t l hr hl=>?_⟩,fun k x h=>?_,R.xg,fun f row hr=>⟨R.rlen f row hr,fun t l hl=>?_⟩⟩
  ·obtain ⟨h1,h2,_,_⟩:=H k x h;rw [<-h1,<-h2];exact ⟨R.pJ k,R.yA k⟩
  ·rw [<-tV hr hl];exact R.nQ f t
  ·obtain ⟨h1,h2,h3,h4⟩:=H k x h
   unfold bD qO rz
   simp only [Bool.and_eq_true,decide_eq_true_eq,inB,tT]
   refine ⟨⟨h3 ▸ R.clk k,R.llen k x h⟩,fun g row hr=>⟨R.oJ k x g row h hr,fun i v hv=>?_⟩,h1 ▸ R.nO k,h2 ▸ R.Bp k, ?_, ?_, ?_, ?_⟩
   ·have e:=tX hr hv
    have l1:=R.lst k g i
    have l2:=R.IZ k g i
    rw [h4,e] at l1 l2
    unfold fD
    rw [Bool.and_eq_true]
    refine ⟨by simpa [inB] using l1, ?_⟩
    cases hb:tK d k g i
    ·simp [l2 hb]
    ·rfl
   ·unfold gT;rw [List.all_eq_true];intro m hm;have:=(R.pK k m (h1 ▸ hm)).2;simp [this]
   ·unfold gT;rw [List.all_eq_true];intro m hm;have:=(R.yB k m (h2 ▸ hm)).2;simp [this]
   ·unfold bE;rw [List.all_eq_true];intro m hm;exact (R.pK k m (h1 ▸ hm)).1
   ·unfold bE;rw [List.all_eq_true];intro m hm;exact (R.yB k m (h2 ▸ hm)).1
  ·have e:=tV hr hl
   unfold aX mq bE
   simp only [Bool.and_eq_true,List.all_eq_true,decide_eq_true_eq]
   refine ⟨⟨fun m hm=>(R.mR f t m (e ▸ hm)).2,e ▸ R.vJ f t⟩,fun m hm=>(R.mR f t m (e ▸ hm)).1, ?_⟩
   by_cases hft:f=t
   ·subst hft;rw [R.yt f] at e;subst e;simp
   ·simp [hft]
/-! Lists of messages that rise. -/
theorem yC (a b:Mg):lessM a b=true↔a.st < b.st\/(a.st=b.st/\a.fr < b.fr):=by
 unfold lessM;simp
theorem kK {a b c:Mg} (h1:lessM a b=true) (h2:lessM b c=true):lessM a c=true:=by
 rw [yC] at *;omega
theorem dS:∀ l:List Mg,aP l=true↔l.Pairwise (fun a b=>lessM a b=true)
 | []=>by simp [aP]
 | [a]=>by simp [aP]
 | a::b::r=>by
  rw [aP,Bool.and_eq_true,dS (b::r),List.pairwise_cons (a:=a)]
  constructor
  ·rintro ⟨h1,h2⟩
   refine ⟨fun x hx=>?_,h2⟩
   rcases List.mem_cons.1 hx with rfl | hx
   ·exact h1
   ·exact kK h1 ((List.pairwise_cons.1 h2).1 x hx)
  ·rintro ⟨h1,h2⟩
   exact ⟨h1 b (by simp),h2⟩
theorem gV:∀ l:List Mg,eB l=true↔l.Pairwise (fun a b=>a.st < b.st)
 | []=>by simp [eB]
 | [a]=>by simp [eB]
 | a::b::r=>by
  rw [eB,Bool.and_eq_true,gV (b::r),List.pairwise_cons (a:=a),decide_eq_true_eq]
  constructor
  ·rintro ⟨h1,h2⟩
   refine ⟨fun x hx=>?_,h2⟩
   rcases List.mem_cons.1 hx with rfl | hx
   ·exact h1
   ·have:=(List.pairwise_cons.1 h2).1 x hx;omega
  ·rintro ⟨h1,h2⟩
   exact ⟨h1 b (by simp),h2⟩
theorem filter_le:∀ (l:List Mg) (v:Int),aP l=true ->
  l.take (l.filter fun m=>decide (m.st<=v)).length=l.filter (fun m=>decide (m.st<=v))/\l.drop (l.filter fun m=>decide (m.st<=v)).length=l.filter (fun m=>decide (v < m.st))
 | [],v,_=>by simp
 | a::r,v,h=>by
  have hp:=(dS _).1 h
  obtain ⟨h1,h2⟩:=List.pairwise_cons.1 hp
  obtain ⟨e1,e2⟩:=filter_le r v ((dS _).2 h2)
  by_cases ha:a.st<=v
  ·have hb:¬ v < a.st:=by omega
   simp [ha,hb,e1,e2]
  ·have hb:v < a.st:=by omega
   have hr:∀ x∈r,v < x.st:=fun x hx=>by have:=h1 x hx;rw [yC] at this;omega
   have e3:r.filter (fun m=>decide (m.st<=v))=[]:=by
    rw [List.filter_eq_nil_iff];intro x hx;have:=hr x hx;simp;omega
   have e4:r.filter (fun m=>decide (v < m.st))=r:=by
    rw [List.filter_eq_self];intro x hx;have:=hr x hx;simp;omega
   simp [ha,hb,e3,e4]
theorem jC {m:Mg} {ms:List Mg} (h:fK m ms=0) (x:Mg):x∈gQ m ms↔x=m\/x∈ms:=by
 unfold gQ
 rw [if_pos h]
 have:x∈ms↔x∈ms.take (bS m ms)\/x∈ms.drop (bS m ms):=by
  rw [<-List.mem_append,List.take_append_drop]
 rw [this]
 simp only [List.mem_append,List.mem_singleton]
 constructor
 ·rintro ((h | h) | h)
  ·exact .inr (.inl h)
  ·exact .inl h
  ·exact .inr (.inr h)
 ·rintro (h | h | h)
  ·exact .inl (.inr h)
  ·exact .inl (.inl h)
  ·exact .inr h
theorem tY (m:Mg):∀ ms:List Mg,∀ x∈ms.take (bS m ms),lessM x m=true
 | [],x,h=>by simp at h
 | y::r,x,h=>by
  unfold bS at h
  cases hl:lessM y m
  ·simp [hl] at h
  ·simp [hl] at h
   rcases h with rfl | h
   ·exact hl
   ·exact tY m r x h
theorem sO {m:Mg} {ms:List Mg} (h:fK m ms=0):aP ms=true/\ms.length < 40/\∀ x,ms[bS m ms]? = some x->lessM m x=true:=by
 unfold fK at h
 cases hr:aP ms
 ·simp [hr] at h
 ·simp only [hr] at h
  by_cases hl:40<=ms.length
  ·simp [hl] at h
  ·refine ⟨rfl,by omega,fun x hx=>?_⟩
   simp only [hl,hx] at h
   cases hm:lessM m x
   ·simp [hm] at h
   ·rfl
theorem vU {m:Mg} {ms:List Mg} (h:fK m ms=0):aP (gQ m ms)=true:=by
 obtain ⟨h1,h2,h3⟩:=sO h
 have hp:=(dS _).1 h1
 rw [dS]
 unfold gQ
 rw [if_pos h,List.append_assoc]
 have ht:=List.take_append_drop (bS m ms) ms
 rw [<-ht] at hp
 obtain ⟨p1,p2,p3⟩:=List.pairwise_append.1 hp
 have hd:∀ x∈ms.drop (bS m ms),lessM m x=true:=by
  intro x hx
  cases hdd:ms.drop (bS m ms) with
  | nil=>rw [hdd] at hx;simp at hx
  | cons y r =>
   have hy:ms[bS m ms]? = some y:=by
    have:=congrArg (·[0]?) hdd
    simpa using this
   have hmy:=h3 y hy
   rw [hdd] at hx p2
   rcases List.mem_cons.1 hx with rfl | hx
   ·exact hmy
   ·exact kK hmy ((List.pairwise_cons.1 p2).1 x hx)
 refine List.pairwise_append.2 ⟨p1,List.pairwise_append.2 ⟨by simp,p2,fun a ha b hb=>?_⟩,fun a ha b hb=>?_⟩
 ·simp at ha;subst ha;exact hd b hb
 ·rcases List.mem_append.1 hb with hb | hb
  ·simp at hb;subst hb;exact tY _ _ a ha
  ·exact p3 a ha b hb
/-! How far: the greatest number that is below all. -/
theorem DN (d:Wd) (n:Nat) (x:Nd) (v:Int):∀ (l:List (Nat × Nat)) (acc:Int),v<=l.foldl (lX d n x) acc↔v<=acc/\∀ p∈l,jG d n p=true->v<=dG x.last p.1 p.2
 | [],acc=>by simp
 | p::l,acc=>by
  rw [List.foldl_cons,DN d n x v l]
  unfold lX
  simp only [List.mem_cons,forall_eq_or_imp]
  cases ho:jG d n p
  ·simp
  ·simp only [if_true,true_implies]
   split <;> constructor <;> rintro ⟨h1,h2⟩ <;> refine ⟨?_, ?_⟩
   ·omega
   ·exact ⟨h1,h2⟩
   ·exact h2.1
   ·exact h2.2
   ·exact h1
   ·exact ⟨by omega,h2⟩
   ·omega
   ·exact h2.2
theorem jQ (G N g k:Nat):(g,k)∈pairs G N↔g < G/\k < N:=by
 unfold pairs;simp
theorem vV (d:Wd) (n g k:Nat):jG d n (g,k)=true↔k≠n/\hasB d.groups g n=true/\hasB d.groups g k=true:=by
 unfold jG;simp;intro _ _;omega
theorem DL {xs:List Int} {g:Nat} {n:Int} (h:hasB xs g n=true):g < xs.length:=by
 unfold hasB at h;simp at h;omega
theorem I4 (d:Wd) (n:Nat) (x:Nd) (v:Int):v<=um d n x↔v<=x.clock/\∀ g k:Nat,k < d.nodes.length->k≠n->hasB d.groups g n=true->hasB d.groups g k=true->v<=dG x.last g k:=by
 unfold um
 rw [DN]
 refine and_congr Iff.rfl ⟨fun h g k hk hn h1 h2=>h (g,k) ((jQ _ _ _ _).2 ⟨DL h1,hk⟩) ((vV _ _ _ _).2 ⟨hn,h1,h2⟩),fun h p hp ho=>?_⟩
 obtain ⟨g,k⟩:=p
 obtain ⟨h0,h1,h2⟩:=(vV _ _ _ _).1 ho
 exact h g k ((jQ _ _ _ _).1 hp).2 h0 h1 h2
theorem jY {d:Wd} {n:Nat} (hn:n < d.nodes.length) (v:Int):v<=dw d n↔v<=aD d n/\∀ g k:Nat,k < d.nodes.length->k≠n->hasB d.groups g n=true->hasB d.groups g k=true->v<=bT d n g k:=by
 have hx:d.nodes[n]? = some d.nodes[n]:=zQ1 hn
 unfold dw aD bT
 rw [hx]
 exact I4 d n _ v
structure Alike (d d':Wd):Prop where
 g:d'.groups=d.groups
 n:d'.nodes.length=d.nodes.length
 w:d'.wires.length=d.wires.length
 r:∀ (f:Nat) (row':List (List Mg)),d'.wires[f]? = some row'->∃ row,d.wires[f]? = some row/\row'.length=row.length
 l:∀ (k:Nat) (x':Nd),d'.nodes[k]? = some x'->∃ x,d.nodes[k]? = some x/\x'.last.length=x.last.length/\∀ (g:Nat) (row':List Int),x'.last[g]? = some row'->∃ row,x.last[g]? = some row/\row'.length=row.length
theorem Alike.refl (d:Wd):Alike d d:=⟨rfl,rfl,rfl,fun _ r h=>⟨r,h,rfl⟩,fun _ x h=>⟨x,h,rfl,fun _ r h=>⟨r,h,rfl⟩⟩⟩
theorem Alike.trans {a b c:Wd} (h:Alike a b) (k:Alike b c):Alike a c:=by
 refine ⟨k.g.trans h.g,k.n.trans h.n,k.w.trans h.w,fun f row hr=>?_,fun i x hx=>?_⟩
 ·obtain ⟨r1,e1,e2⟩:=k.r f row hr
  obtain ⟨r2,e3,e4⟩:=h.r f r1 e1
  exact ⟨r2,e3,e2.trans e4⟩
 ·obtain ⟨x1,e1,e2,e3⟩:=k.l i x hx
  obtain ⟨x2,e4,e5,e6⟩:=h.l i x1 e1
  refine ⟨x2,e4,e2.trans e5,fun g row hr=>?_⟩
  obtain ⟨r1,f1,f2⟩:=e3 g row hr
  obtain ⟨r2,f3,f4⟩:=e6 g r1 f1
  exact ⟨r2,f3,f2.trans f4⟩
theorem Alike.fine {d d':Wd} (h:Alike d d') (n:Int) (m:Mg):jB d' n m=jB d n m:=by unfold jB;rw [h.g,h.n]
theorem Alike.both {d d':Wd} (h:Alike d d') (n g k:Nat):tK d' n g k=tK d n g k:=by unfold tK;rw [h.g]
theorem kL {d:Wd} {n:Nat} (hn:n < d.nodes.length):∃ x,d.nodes[n]? = some x:=⟨_,zQ1 hn⟩
theorem bH {d:Wd} {n:Nat} {x:Nd} (h:d.nodes[n]? = some x):n < d.nodes.length:=(zQ2.1 h).1
theorem dh {d:Wd} {n:Nat} {x:Nd} (y:Nd) (hx:d.nodes[n]? = some x) (k:Nat):(setNode d n y).nodes[k]? = if k=n then some y else d.nodes[k]?:=by
 unfold setNode
 show (d.nodes.set n y)[k]? = _
 rw [List.getElem?_set]
 by_cases h:n=k
 ·subst h;simp [bH hx]
 ·have:¬ k=n:=fun e=>h e.symm
  simp [h,this]
theorem jy {d:Wd} {n:Nat} {x:Nd} (y:Nd) (hx:d.nodes[n]? = some x) (hl:y.last.length=x.last.length) (hr:∀ (g:Nat) (row':List Int),y.last[g]? = some row'->∃ row,x.last[g]? = some row/\row'.length=row.length):Alike d (setNode d n y):=by
 refine ⟨rfl,by simp [setNode],rfl,fun _ r h=>⟨r,h,rfl⟩,fun k x' h=>?_⟩
 rw [dh y hx] at h
 by_cases hk:k=n
 ·subst hk;simp at h;subst h;exact ⟨x,hx,hl,hr⟩
 ·rw [if_neg hk] at h;exact ⟨x',h,rfl,fun _ r h=>⟨r,h,rfl⟩⟩
theorem kM {d:Wd} {n:Nat} {x:Nd} (y:Nd) (hx:d.nodes[n]? = some x) (k:Nat):aD (setNode d n y) k=if k=n then y.clock else aD d k:=by
 unfold aD;rw [dh y hx];by_cases h:k=n <;> simp only [h,if_true,if_false]
theorem nR {d:Wd} {n:Nat} {x:Nd} (y:Nd) (hx:d.nodes[n]? = some x) (k g i:Nat):bT (setNode d n y) k g i=if k=n then dG y.last g i else bT d k g i:=by
 unfold bT;rw [dh y hx];by_cases h:k=n <;> simp only [h,if_true,if_false]
theorem jf {d:Wd} {n:Nat} {x:Nd} (y:Nd) (hx:d.nodes[n]? = some x) (k:Nat):ay (setNode d n y) k=if k=n then y.held else ay d k:=by
 unfold ay;rw [dh y hx];by_cases h:k=n <;> simp only [h,if_true,if_false]
theorem gW {d:Wd} {n:Nat} {x:Nd} (y:Nd) (hx:d.nodes[n]? = some x) (k:Nat):aT (setNode d n y) k=if k=n then y.told else aT d k:=by
 unfold aT;rw [dh y hx];by_cases h:k=n <;> simp only [h,if_true,if_false]
theorem zk (d:Wd) (n:Nat) (y:Nd) (f t:Nat):au (setNode d n y) f t=au d f t:=rfl
theorem dB {d:Wd} {n:Nat} {x:Nd} (hx:d.nodes[n]? = some x):aD d n=x.clock/\ay d n=x.held/\aT d n=x.told/\dw d n=um d n x/\∀ g i,bT d n g i=dG x.last g i:=by
 unfold aD ay aT dw bT;rw [hx];exact ⟨rfl,rfl,rfl,rfl,fun _ _=>rfl⟩
def dN (d:Wd):Prop:=d.wires.length=d.nodes.length/\∀ (f:Nat) (row:List (List Mg)),d.wires[f]? = some row->row.length=d.nodes.length
theorem Right.rows {d:Wd} (h:Right d):dN d:=⟨h.xg,h.rlen⟩
theorem Alike.rows {d d':Wd} (h:Alike d d') (r:dN d):dN d':=by
 refine ⟨h.w.trans (r.1.trans h.n.symm),fun f row hr=>?_⟩
 obtain ⟨r1,e1,e2⟩:=h.r f row hr
 rw [e2,h.n];exact r.2 f r1 e1
theorem yD {d:Wd} {f t:Nat} (l:List Mg) (hr:dN d) (hf:f < d.nodes.length) (ht:t < d.nodes.length) (f' t':Nat):au (aR d f t l) f' t'=if f'=f/\t'=t then l else au d f' t':=by
 obtain ⟨row,hrow⟩:∃ row,d.wires[f]? = some row:=⟨_,zQ1 (by rw [hr.1];exact hf)⟩
 have hlen:=hr.2 f row hrow
 unfold aR au
 show ((d.wires.set f ((d.wires[f]?.getD []).set t l))[f']?.getD [])[t']?.getD []=_
 rw [hrow,List.getElem?_set]
 by_cases h:f=f'
 ·subst h
  have:f < d.wires.length:=by rw [hr.1];exact hf
  simp only [this,Option.getD_some,if_true,true_and]
  rw [List.getElem?_set]
  by_cases h2:t=t'
  ·subst h2;simp [hlen,ht]
  ·have:¬ t'=t:=fun e=>h2 e.symm
   simp [h2,this,hrow]
 ·have:¬ f'=f:=fun e=>h e.symm
  simp [h,this]
theorem pO {d:Wd} {f t:Nat} (l:List Mg):Alike d (aR d f t l):=by
 refine ⟨rfl,rfl,by simp [aR],fun f' row' h=>?_,fun _ x h=>⟨x,h,rfl,fun _ r h=>⟨r,h,rfl⟩⟩⟩
 unfold aR at h
 rw [List.getElem?_set] at h
 by_cases e:f=f'
 ·subst e
  by_cases hl:f < d.wires.length
  ·simp [hl] at h
   refine ⟨d.wires[f],zQ1 hl, ?_⟩
   rw [<-h];simp
  ·simp [hl] at h
 ·simp [e] at h;exact ⟨row',h,rfl⟩
theorem sK {d d':Wd} {k:Nat} (hg:d'.groups=d.groups) (hn:d'.nodes.length=d.nodes.length) (hk:k < d.nodes.length) (hc:aD d' k=aD d k) (hl:∀ g i,bT d' k g i=bT d k g i):dw d' k=dw d k:=by
 have h1:∀ v,v<=dw d' k↔v<=dw d k:=by
  intro v
  rw [jY (by rw [hn];exact hk),jY hk,hg,hn,hc]
  simp only [hl]
 have a:=(h1 (dw d' k)).1 (Int.le_refl _)
 have b:=(h1 (dw d k)).2 (Int.le_refl _)
 omega
structure lM (d d':Wd) (n:Nat):Prop where
 alike:Alike d d'
 clk:∀ k,aD d' k=aD d k
 lst:∀ k g i,bT d' k g i=bT d k g i
 wire:∀ f t,au d' f t=au d f t
 other:∀ k,k≠n->ay d' k=ay d k/\aT d' k=aT d k
 told:aT d' n=aT d n++(ay d n).filter fun m=>decide (m.st<=dw d n)
 held:ay d' n=(ay d n).filter fun m=>decide (dw d n < m.st)
 len:(aT d' n).length<=40
 rises:aP (aT d' n)=true
theorem vL {d:Wd} {n:Nat} {p:Wd × Nat} (hh:aP (ay d n)=true) (h:dZ d n=.ok p):n < d.nodes.length/\lM d p.1 n/\p.2=((ay d n).filter fun m=>decide (m.st<=dw d n)).length:=by
 unfold dZ at h
 cases hx:d.nodes[n]? with
 | none=>rw [hx] at h;cases h
 | some x =>
  rw [hx] at h
  obtain ⟨c1,c2,c3,c4,c5⟩:=dB hx
  have e:cB d n x=(ay d n).filter fun m=>decide (m.st<=dw d n):=by unfold cB;rw [c2,c4]
  simp only at h
  by_cases h1:40 < (x.told++cB d n x).length
  ·rw [if_pos h1] at h;cases h
  ·rw [if_neg h1] at h
   cases h2:aP (x.told++cB d n x)
   ·rw [if_pos h2] at h;cases h
   ·rw [if_neg (by simp [h2])] at h
    have hp:=Except.ok.inj h
    subst hp
    obtain ⟨f1,f2⟩:=filter_le (ay d n) (dw d n) hh
    refine ⟨bH hx,⟨jy _ hx rfl (fun _ r h=>⟨r,h,rfl⟩),fun k=>?_,fun k g i=>?_,fun f t=>rfl,fun k hk=>⟨?_, ?_⟩, ?_, ?_, ?_, ?_⟩,by rw [<-e]⟩
    ·rw [kM _ hx];split
     ·subst k;exact c1.symm
     ·rfl
    ·rw [nR _ hx];split
     ·subst k;exact (c5 g i).symm
     ·rfl
    ·rw [jf _ hx,if_neg hk]
    ·rw [gW _ hx,if_neg hk]
    ·rw [gW _ hx,if_pos rfl,c3,e]
    ·rw [jf _ hx,if_pos rfl]
     show x.held.drop _=_
     rw [e,<-c2,f2]
    ·rw [gW _ hx,if_pos rfl];show (x.told++_).length<=40;omega
    ·rw [gW _ hx,if_pos rfl];exact h2
theorem sP {d:Wd} {n:Nat} {e:Int} (hn:n < d.nodes.length) (h:dZ d n=.error e):e=2\/(e=1/\aP (aT d n++(ay d n).filter fun m=>decide (m.st<=dw d n))=false):=by
 unfold dZ at h
 obtain ⟨x,hx⟩:=kL hn
 rw [hx] at h
 obtain ⟨c1,c2,c3,c4,c5⟩:=dB hx
 have e':cB d n x=(ay d n).filter fun m=>decide (m.st<=dw d n):=by unfold cB;rw [c2,c4]
 simp only at h
 by_cases h1:40 < (x.told++cB d n x).length
 ·rw [if_pos h1] at h;exact .inl (Except.error.inj h).symm
 ·rw [if_neg h1] at h
  cases h2:aP (x.told++cB d n x)
  ·rw [if_pos h2] at h;exact .inr ⟨(Except.error.inj h).symm,by rw [c3,<-e'];exact h2⟩
  ·rw [if_neg (by simp [h2])] at h;cases h
theorem bind_ok {α β:Type} {x:Except Int α} {f:α->Except Int β} {b:β} (h:x.bind f=.ok b):∃ a,x=.ok a/\f a=.ok b:=by
 cases x with
 | error e=>cases h
 | ok a=>exact ⟨a,rfl,h⟩
theorem gI {α β:Type} {x:Except Int α} {f:α->Except Int β} {e:Int} (h:x.bind f=.error e):x=.error e\/∃ a,x=.ok a/\f a=.error e:=by
 cases x with
 | error e'=>exact .inl (by cases h;rfl)
 | ok a=>exact .inr ⟨a,rfl,h⟩
structure GI (d d':Wd) (n:Nat) (m:Mg):Prop where
 alike:Alike d d'
 clk:∀ k,aD d' k=aD d k
 lst:∀ k g i,bT d' k g i=bT d k g i
 wire:∀ f t,au d' f t=au d f t
 other:∀ k,k≠n->ay d' k=ay d k
 told:∀ k,aT d' k=aT d k
 held:(m.nul=true/\ay d' n=ay d n)\/(m.nul=false/\fK m (ay d n)=0/\ay d' n=gQ m (ay d n))
theorem yE {d d':Wd} {n:Nat} {m:Mg} (hn:n < d.nodes.length) (h:fJ d n m=.ok d'):GI d d' n m:=by
 unfold fJ at h
 cases hm:m.nul
 ·rw [hm,if_neg (by simp)] at h
  unfold yx at h
  obtain ⟨x,hx⟩:=kL hn
  obtain ⟨c1,c2,c3,c4,c5⟩:=dB hx
  rw [hx] at h
  simp only at h
  by_cases h1:fK m x.held=0
  ·rw [if_pos h1] at h
   have hp:=Except.ok.inj h
   subst hp
   refine ⟨jy _ hx rfl (fun _ r h=>⟨r,h,rfl⟩),fun k=>?_,fun k g i=>?_,fun f t=>rfl,fun k hk=>?_,fun k=>?_,.inr ⟨hm,by rw [c2];exact h1, ?_⟩⟩
   ·rw [kM _ hx];split
    ·subst k;exact c1.symm
    ·rfl
   ·rw [nR _ hx];split
    ·subst k;exact (c5 g i).symm
    ·rfl
   ·rw [jf _ hx,if_neg hk]
   ·rw [gW _ hx];split
    ·subst k;exact c3.symm
    ·rfl
   ·rw [jf _ hx,if_pos rfl,c2]
  ·rw [if_neg h1] at h;cases h
 ·rw [hm,if_pos rfl] at h
  have hp:=Except.ok.inj h
  subst hp
  exact ⟨Alike.refl d,fun _=>rfl,fun _ _ _=>rfl,fun _ _=>rfl,fun _ _=>rfl,fun _=>rfl,.inl ⟨hm,rfl⟩⟩
abbrev lq (d:Wd) (m:Mg) (n i f t:Nat):Prop:=f=n/\t < i/\t≠n/\hasB d.groups m.gr t=true
structure I5 (d d':Wd) (m:Mg) (n i:Nat):Prop where
 groups:d'.groups=d.groups
 nodes:d'.nodes=d.nodes
 alike:Alike d d'
 wire:∀ f t,au d' f t=if lq d m n i f t then au d f t++[m] else au d f t
 room:∀ t,t < i->t≠n->hasB d.groups m.gr t=true->(au d n t).length≠40/\∀ x,(au d n t).getLast? = some x->x.st < m.st
theorem mF (m:Mg) (n:Nat) (d:Wd) (i:Nat):eY m n d (i+1)=(eY m n d i).bind fun d1=>jl m n d1 i:=by
 unfold eY
 rw [List.range_succ,List.foldlM_append]
 cases h:List.foldlM (jl m n) d (List.range i) with
 | error e=>rfl
 | ok a =>
  show (List.foldlM (jl m n) a [i])=_
  simp only [List.foldlM_cons,List.foldlM_nil]
  show (jl m n a i).bind _=(jl m n a i)
  cases jl m n a i <;> rfl
theorem rG {m:Mg} {n:Nat} {d:Wd} (hr:dN d) (hn:n < d.nodes.length):∀ (i:Nat) (d':Wd),i<=d.nodes.length->eY m n d i=.ok d'->I5 d d' m n i
 | 0,d',_,h=>by
  have:=Except.ok.inj h;subst this
  exact ⟨rfl,rfl,Alike.refl d,fun f t=>by rw [if_neg (by unfold lq;omega)],fun t ht=>by omega⟩
 | i+1,d',hi,h=>by
  rw [mF] at h
  obtain ⟨d1,h1,h2⟩:=bind_ok h
  have S:=rG hr hn i d1 (by omega) h1
  have R1:=S.alike.rows hr
  unfold jl at h2
  have hw:au d1 n i=au d n i:=by rw [S.wire,if_neg (by unfold lq;omega)]
  by_cases c:i=n\/hasB d1.groups m.gr i=false
  ·rw [if_pos c] at h2
   have:=Except.ok.inj h2;subst this
   rw [S.groups] at c
   refine ⟨S.groups,S.nodes,S.alike,fun f t=>?_,fun t ht h3 h4=>?_⟩
   ·rw [S.wire]
    by_cases g:lq d m n i f t
    ·rw [if_pos g,if_pos (by unfold lq at g ⊢;exact ⟨g.1,by omega,g.2.2⟩)]
    ·rw [if_neg g,if_neg]
     rintro ⟨a1,a2,a3,a4⟩
     by_cases e:t=i
     ·subst e;rcases c with c | c
      ·exact a3 c
      ·rw [c] at a4;cases a4
     ·exact g ⟨a1,by omega,a3,a4⟩
   ·by_cases e:t=i
    ·subst e;rcases c with c | c
     ·exact absurd c h3
     ·rw [c] at h4;cases h4
    ·exact S.room t (by omega) h3 h4
  ·rw [if_neg c] at h2
   have c':i≠n/\hasB d.groups m.gr i=true:=by
    rw [S.groups] at c
    refine ⟨fun e=>c (.inl e), ?_⟩
    cases hb:hasB d.groups m.gr i
    ·exact absurd (.inr hb) c
    ·rfl
   rw [hw] at h2
   by_cases h3:(au d n i).length=40
   ·rw [if_pos h3] at h2;cases h2
   ·rw [if_neg h3] at h2
    cases h4:vT m (au d n i)
    ·rw [if_neg (by simp [h4])] at h2
     have:=Except.ok.inj h2;subst this
     refine ⟨S.groups,S.nodes,S.alike.trans (pO _),fun f t=>?_,fun t ht h5 h6=>?_⟩
     ·have hnn:=S.alike.n
      rw [yD _ R1 (by omega) (by omega)]
      by_cases e:f=n/\t=i
      ·obtain ⟨rfl,rfl⟩:=e
       rw [if_pos ⟨rfl,rfl⟩,if_pos ⟨rfl,by omega,c'.1,c'.2⟩]
      ·rw [if_neg e,S.wire]
       by_cases g:lq d m n i f t
       ·rw [if_pos g,if_pos ⟨g.1,by have:=g.2.1;omega,g.2.2⟩]
       ·rw [if_neg g,if_neg]
        rintro ⟨a1,a2,a3,a4⟩
        exact g ⟨a1,by have:t≠i:=fun e2=>e ⟨a1,e2⟩
                       omega,a3,a4⟩
     ·by_cases e:t=i
      ·subst e
       refine ⟨h3,fun x hx=>?_⟩
       unfold vT at h4
       rw [hx] at h4
       simp at h4;omega
      ·exact S.room t (by omega) h5 h6
    ·rw [if_pos h4] at h2;cases h2
theorem qo {d d':Wd} {n:Nat} (R:Right d) (S:lM d d' n):Right d':=by
 have hH:∀ k m,m∈ay d' k->m∈ay d k:=by
  intro k m hm
  by_cases h:k=n
  ·subst h;rw [S.held] at hm;exact (List.mem_filter.1 hm).1
  ·rwa [(S.other k h).1] at hm
 refine ⟨by rw [S.alike.g,S.alike.n];exact R.chk,(S.alike.rows R.rows).1,(S.alike.rows R.rows).2,fun k x h=>?_,fun k x g row h hr=>?_,fun k=>by rw [S.clk];exact R.clk k,fun k g i=>by rw [S.lst];exact R.lst k g i,
  fun k g i h=>by rw [S.lst];rw [S.alike.both] at h;exact R.IZ k g i h,fun k=>?_,fun k=>?_,fun f t=>by rw [S.wire];exact R.nQ f t,fun k=>?_,fun k=>?_,fun k m hm=>?_,fun k m hm=>?_,fun f t m hm=>?_,fun f t=>by rw [S.wire];exact R.vJ f t,fun f=>by rw [S.wire];exact R.yt f⟩
 ·obtain ⟨x0,e1,e2,_⟩:=S.alike.l k x h;rw [e2,S.alike.g];exact R.llen k x0 e1
 ·obtain ⟨x0,e1,_,e3⟩:=S.alike.l k x h
  obtain ⟨r0,e4,e5⟩:=e3 g row hr
  rw [e5,S.alike.n];exact R.oJ k x0 g r0 e1 e4
 ·by_cases h:k=n
  ·subst h;rw [S.held];exact zQ5 (List.length_filter_le _ _) (R.pJ k)
  ·rw [(S.other k h).1];exact R.pJ k
 ·by_cases h:k=n
  ·subst h;exact S.len
  ·rw [(S.other k h).2];exact R.yA k
 ·by_cases h:k=n
  ·subst h;rw [S.held];rw [dS];exact ((dS _).1 (R.nO k)).sublist (List.filter_sublist)
  ·rw [(S.other k h).1];exact R.nO k
 ·by_cases h:k=n
  ·subst h;exact S.rises
  ·rw [(S.other k h).2];exact R.Bp k
 ·rw [S.alike.fine];exact R.pK k m (hH k m hm)
 ·rw [S.alike.fine]
  by_cases h:k=n
  ·subst h;rw [S.told] at hm
   rcases List.mem_append.1 hm with hm | hm
   ·exact R.yB k m hm
   ·exact R.pK k m (List.mem_filter.1 hm).1
  ·rw [(S.other k h).2] at hm;exact R.yB k m hm
 ·rw [S.wire] at hm;rw [S.alike.fine];exact R.mR f t m hm
structure rC (d d':Wd) (n:Nat) (m:Mg):Prop where
 alike:Alike d d'
 lt:n < d.nodes.length
 mfr:m.fr=n
 mst:m.st=aD d n+1
 top:m.st<=1048576
 fine:kU d.nodes.length d.groups m=0
 clk:∀ k,aD d' k=if k=n then m.st else aD d k
 lst:∀ k g i,bT d' k g i=bT d k g i
 wire:∀ f t,au d' f t=if lq d m n d.nodes.length f t then au d f t++[m] else au d f t
 room:∀ t,t < d.nodes.length->t≠n->hasB d.groups m.gr t=true->(au d n t).length≠40/\∀ x,(au d n t).getLast? = some x->x.st < m.st
 told:∀ k,aT d' k=aT d k
 other:∀ k,k≠n->ay d' k=ay d k
 held:(m.nul=true/\ay d' n=ay d n)\/(m.nul=false/\fK m (ay d n)=0/\ay d' n=gQ m (ay d n))
structure rD (d d':Wd) (f t:Nat) (m:Mg):Prop where
 alike:Alike d d'
 flt:f < d.nodes.length
 tlt:t < d.nodes.length
 clk:∀ k,aD d' k=if k=t then max (aD d t) m.st else aD d k
 lst:∀ k g i,bT d' k g i=if k=t/\g=m.gr.toNat/\i=f then max (bT d k g i) m.st else bT d k g i
 first:au d f t=m::au d' f t
 wire:∀ f' t',¬ (f'=f/\t'=t)->au d' f' t'=au d f' t'
 told:∀ k,aT d' k=aT d k
 other:∀ k,k≠t->ay d' k=ay d k
 held:(m.nul=true/\ay d' t=ay d t)\/(m.nul=false/\fK m (ay d t)=0/\ay d' t=gQ m (ay d t))
def oH (d:Wd) (n g:Int) (nul:Bool) (body:ByteArray):Mg:=⟨n,g,aD d n.toNat+1,nul,body⟩
def iF (d:Wd) (n g:Int) (nul:Bool) (body:ByteArray):Except Int Wd :=
 (eY (oH d n g nul body) n.toNat (jZ d n.toNat (aD d n.toNat+1)) d.nodes.length).bind fun d2=>fJ d2 n.toNat (oH d n g nul body)
def dO (d:Wd) (f t:Nat):Except Int Wd:=match au d f t with | []=>.error 7 | m::rest=>fJ (mU d f t m rest) t m
theorem A8 (d:Wd) (n g:Int) (nul:Bool) (body:ByteArray):iq d n g nul body=if bM d n g body.size=0 then (iF d n g nul body).bind fun d3=>(dZ d3 n.toNat).bind fun p=>.ok p.1 else .error (bM d n g body.size):=by
 unfold iq iF oH
 split
 ·cases eY ⟨n,g,aD d n.toNat+1,nul,body⟩ n.toNat (jZ d n.toNat (aD d n.toNat+1)) d.nodes.length <;> rfl
 ·rfl
theorem Ba (d:Wd) (f t:Nat):iw d f t=(dO d f t).bind fun d3=>(dZ d3 t).bind fun p=>.ok p.1:=by
 unfold iw dO
 cases au d f t <;> rfl
theorem CV {d:Wd} {n g:Int} {s:Nat} (h:bM d n g s=0):(0<=n/\n < d.nodes.length)/\(0<=g/\g < d.groups.length)/\hasB d.groups g n=true/\s<=8/\aD d n.toNat≠1048576:=by
 unfold bM at h
 split at h
 ·cases h
 ·next c =>
  split at h
  ·cases h
  ·next c2 =>
   split at h
   ·cases h
   ·split at h
    ·cases h
    ·next c4 =>
     simp only [inB] at c
     simp at c c2
     exact ⟨by omega,by omega,c2,by omega,c4⟩
theorem vW {d:Wd} {n:Nat} {x:Nd} (hx:d.nodes[n]? = some x) (c:Int):jZ d n c=setNode d n { x with clock:=c }:=by unfold jZ;rw [hx]
theorem EO {a b:Wd} (h:a.nodes=b.nodes) (k:Nat):aD a k=aD b k:=by unfold aD;rw [h]
theorem vK {d d3:Wd} {n g:Int} {nul:Bool} {body:ByteArray} (R:Right d) (hE:bM d n g body.size=0) (hb:nul=true->body.size=0) (h:iF d n g nul body=.ok d3):rC d d3 n.toNat (oH d n g nul body):=by
 obtain ⟨hn,hg,hm,hs,hc⟩:=CV hE
 have hnt:((n.toNat:Nat):Int)=n:=by omega
 have hlt:n.toNat < d.nodes.length:=by omega
 obtain ⟨x,hx⟩:=kL hlt
 obtain ⟨c1,c2,c3,c4,c5⟩:=dB hx
 unfold iF at h
 obtain ⟨d2,h1,h2⟩:=bind_ok h
 rw [vW hx] at h1
 have A0:Alike d (setNode d n.toNat { x with clock:=aD d n.toNat+1 }):=jy _ hx rfl (fun _ r h=>⟨r,h,rfl⟩)
 have S1:=rG (A0.rows R.rows) (by rw [A0.n];exact hlt) d.nodes.length d2 (by rw [A0.n];exact Nat.le_refl _) h1
 have S2:=yE (by rw [S1.alike.n,A0.n];exact hlt) h2
 have G:∀ f t,lq (setNode d n.toNat { x with clock:=aD d n.toNat+1 }) (oH d n g nul body) n.toNat d.nodes.length f t↔lq d (oH d n g nul body) n.toNat d.nodes.length f t:=fun f t=>Iff.rfl
 have KE:=R.clk n.toNat
 have e2:∀ k,aD d2 k=aD (setNode d n.toNat { x with clock:=aD d n.toNat+1 }) k:=fun k=>EO S1.nodes k
 have e3:∀ k,ay d2 k=ay d k:=fun k=>by
  unfold ay;rw [S1.nodes,dh _ hx]
  by_cases h:k=n.toNat
  ·subst h;simp [hx]
  ·simp [h]
 have e4:∀ k,aT d2 k=aT d k:=fun k=>by
  unfold aT;rw [S1.nodes,dh _ hx]
  by_cases h:k=n.toNat
  ·subst h;simp [hx]
  ·simp [h]
 have e5:∀ k g i,bT d2 k g i=bT d k g i:=fun k g i=>by
  unfold bT;rw [S1.nodes,dh _ hx]
  by_cases h:k=n.toNat
  ·subst h;simp [hx]
  ·simp [h]
 refine ⟨(A0.trans S1.alike).trans S2.alike,hlt,hnt.symm,rfl,by show aD d n.toNat+1<=_;omega, ?_,fun k=>?_,fun k g i=>(S2.lst k g i).trans (e5 k g i),fun f t=>?_,fun t h3 h4 h5=>S1.room t h3 h4 h5,fun k=>(S2.told k).trans (e4 k),fun k hk=>(S2.other k hk).trans (e3 k), ?_⟩
 ·unfold kU oH
  have:=R.chk
  rw [if_neg (by omega),if_neg,if_neg (by simp [hm]),if_neg]
  ·unfold AA;simp;exact ⟨by omega,fun h=>by simpa using hb h⟩
  ·simp only [inB];simp;omega
 ·rw [S2.clk,e2,kM _ hx];rfl
 ·rw [S2.wire,S1.wire];rfl
 ·rw [<-e3];exact S2.held
theorem vM {d d3:Wd} {f t:Nat} (R:Right d) (hf:f < d.nodes.length) (ht:t < d.nodes.length) (h:dO d f t=.ok d3):∃ m,rD d d3 f t m:=by
 unfold dO at h
 cases hw:au d f t with
 | nil=>rw [hw] at h;cases h
 | cons m rest =>
  rw [hw] at h
  refine ⟨m, ?_⟩
  have hm:=R.mR f t m (by rw [hw];simp)
  obtain ⟨x,hx⟩:=kL ht
  obtain ⟨c1,c2,c3,c4,c5⟩:=dB hx
  have GJ:0<=m.gr/\m.gr < d.groups.length:=by
   have h1:=hm.1
   unfold jB at h1;rw [Bool.and_eq_true] at h1
   have h2:=h1.2
   unfold hasB at h2;simp at h2;omega
  obtain ⟨row,hrow⟩:∃ row,x.last[m.gr.toNat]? = some row:=⟨_,zQ1 (by rw [R.llen t x hx];omega)⟩
  have hrl:=R.oJ t x m.gr.toNat row hx hrow
  have A1:Alike d (aR d f t rest):=pO rest
  have hx1:(aR d f t rest).nodes[t]? = some x:=hx
  have eC:mU d f t m rest=setNode (aR d f t rest) t (nP x m f):=by unfold mU;rw [hx]
  have A2:Alike (aR d f t rest) (mU d f t m rest):=by
   rw [eC]
   refine jy _ hx1 (by simp [nP]) fun g r hr=>?_
   unfold nP at hr
   simp only at hr
   rw [List.getElem?_set] at hr
   by_cases e:m.gr.toNat=g
   ·subst e
    have:m.gr.toNat < x.last.length:=(zQ2.1 hrow).1
    simp only [this,if_true,hrow,Option.getD_some,Option.some.injEq] at hr
    exact ⟨row,hrow,by rw [<-hr];simp⟩
   ·simp [e] at hr;exact ⟨r,hr,rfl⟩
  have S2:=yE (by rw [A2.n,A1.n];exact ht) h
  have e3:∀ k,ay (mU d f t m rest) k=ay d k:=fun k=>by
   rw [eC,jf _ hx1]
   split
   ·subst k;exact c2.symm
   ·rfl
  have e4:∀ k,aT (mU d f t m rest) k=aT d k:=fun k=>by
   rw [eC,gW _ hx1]
   split
   ·subst k;exact c3.symm
   ·rfl
  have e5:∀ f' t',au (mU d f t m rest) f' t'=if f'=f/\t'=t then rest else au d f' t':=fun f' t'=>by
   rw [eC,zk,yD _ R.rows hf ht]
  refine ⟨(A1.trans A2).trans S2.alike,hf,ht,fun k=>?_,fun k g i=>?_, ?_,fun f' t' hn=>?_,fun k=>(S2.told k).trans (e4 k),fun k hk=>(S2.other k hk).trans (e3 k), ?_⟩
  ·rw [S2.clk,eC,kM _ hx1]
   split
   ·rw [c1];rfl
   ·rfl
  ·rw [S2.lst,eC,nR _ hx1]
   by_cases hk:k=t
   ·subst hk
    rw [if_pos rfl,c5]
    unfold nP dG
    simp only
    rw [List.getElem?_set]
    by_cases e:m.gr.toNat=g
    ·subst e
     have hl:m.gr.toNat < x.last.length:=(zQ2.1 hrow).1
     simp only [hl,if_true,hrow,Option.getD_some,true_and]
     rw [List.getElem?_set]
     by_cases e2:f=i
     ·subst e2
      have:f < row.length:=by rw [hrl];exact hf
      simp [this]
     ·have:¬ i=f:=fun e=>e2 e.symm
      simp [e2,this]
    ·have:¬ g=m.gr.toNat:=fun e2=>e e2.symm
     simp [e,this]
   ·simp only [hk,false_and,if_false];rfl
  ·rw [hw,S2.wire,e5,if_pos ⟨rfl,rfl⟩]
  ·rw [S2.wire,e5,if_neg hn]
  ·rw [<-e3];exact S2.held
theorem lQ {nodes:Int} {xs:List Int} {m:Mg} (h:kU nodes xs m=0):(0<=m.fr/\m.fr < nodes)/\(0<=m.gr/\m.gr < xs.length)/\(1<=m.st/\m.st<=1048576)/\hasB xs m.gr m.fr=true:=by
 unfold kU at h
 split at h
 ·next c=>exact absurd h c
 ·split at h
  ·cases h
  ·next c =>
   split at h
   ·cases h
   ·next c2 =>
    simp only [inB] at c
    simp at c c2
    exact ⟨by omega,by omega,by omega,c2⟩
theorem lN {d:Wd} {n:Int} {m:Mg}:jB d n m=true↔kU d.nodes.length d.groups m=0/\hasB d.groups m.gr n=true:=by
 unfold jB;rw [Bool.and_eq_true,decide_eq_true_eq]
theorem EP {l:List Mg} {m:Mg} (h:eB l=true) (hl:∀ x,l.getLast? = some x->x.st < m.st):eB (l++[m])=true/\∀ x∈l,x.st < m.st:=by
 have hp:=(gV _).1 h
 have key:∀ x∈l,x.st < m.st:=by
  rcases List.eq_nil_or_concat l with rfl | ⟨l',y,rfl⟩
  ·simp
  ·intro x hx
   have hy:y.st < m.st:=hl y (by simp)
   rw [List.concat_eq_append] at hx hp
   rcases List.mem_append.1 hx with hx | hx
   ·have:=(List.pairwise_append.1 hp).2.2 x hx y (by simp)
    omega
   ·simp at hx;subst hx;exact hy
 refine ⟨(gV _).2 (List.pairwise_append.2 ⟨hp,by simp,fun a ha b hb=>?_⟩),key⟩
 simp at hb;subst hb;exact key a ha
theorem kZ {d d':Wd} {n:Nat} {m:Mg} (R:Right d) (S:rC d d' n m):Right d':=by
 obtain ⟨z1,z2,z3,z4⟩:=lQ S.fine
 have hself:jB d n m=true:=lN.2 ⟨S.fine,by rw [<-S.mfr];exact z4⟩
 refine ⟨by rw [S.alike.g,S.alike.n];exact R.chk,(S.alike.rows R.rows).1,(S.alike.rows R.rows).2,fun k x h=>?_,fun k x g row h hr=>?_,fun k=>?_,fun k g i=>by rw [S.lst];exact R.lst k g i,
  fun k g i h=>by rw [S.lst];rw [S.alike.both] at h;exact R.IZ k g i h,fun k=>?_,fun k=>by rw [S.told];exact R.yA k,fun f t=>?_,fun k=>?_,fun k=>by rw [S.told];exact R.Bp k,fun k x hm=>?_,fun k x hm=>?_,fun f t x hm=>?_,fun f t=>?_,fun f=>?_⟩
 ·obtain ⟨x0,e1,e2,_⟩:=S.alike.l k x h;rw [e2,S.alike.g];exact R.llen k x0 e1
 ·obtain ⟨x0,e1,_,e3⟩:=S.alike.l k x h
  obtain ⟨r0,e4,e5⟩:=e3 g row hr
  rw [e5,S.alike.n];exact R.oJ k x0 g r0 e1 e4
 ·rw [S.clk];split
  ·omega
  ·exact R.clk k
 ·by_cases h:k=n
  ·subst h
   rcases S.held with ⟨_,e⟩ | ⟨_,e0,e⟩
   ·rw [e];exact R.pJ k
   ·rw [e,lK _ _ e0];have:=(sO e0).2.1;omega
  ·rw [S.other k h];exact R.pJ k
 ·rw [S.wire];split
  ·next g=>rw [List.length_append];obtain ⟨rfl,g1,g2,g3⟩:=g;have:=(S.room t g1 g2 g3).1;have:=R.nQ f t;simp;omega
  ·exact R.nQ f t
 ·by_cases h:k=n
  ·subst h
   rcases S.held with ⟨_,e⟩ | ⟨_,e0,e⟩
   ·rw [e];exact R.nO k
   ·rw [e];exact vU e0
  ·rw [S.other k h];exact R.nO k
 ·rw [S.alike.fine]
  by_cases h:k=n
  ·subst h
   rcases S.held with ⟨_,e⟩ | ⟨e2,e0,e⟩
   ·rw [e] at hm;exact R.pK k x hm
   ·rw [e,jC e0] at hm
    rcases hm with rfl | hm
    ·exact ⟨hself,e2⟩
    ·exact R.pK k x hm
  ·rw [S.other k h] at hm;exact R.pK k x hm
 ·rw [S.alike.fine];rw [S.told] at hm;exact R.yB k x hm
 ·rw [S.alike.fine]
  rw [S.wire] at hm
  split at hm
  ·next g =>
   rcases List.mem_append.1 hm with hm | hm
   ·exact R.mR f t x hm
   ·simp at hm;subst hm
    exact ⟨lN.2 ⟨S.fine,g.2.2.2⟩,by rw [S.mfr,g.1]⟩
  ·exact R.mR f t x hm
 ·rw [S.wire];split
  ·next g =>
   obtain ⟨rfl,g1,g2,g3⟩:=g
   exact (EP (R.vJ f t) (S.room t g1 g2 g3).2).1
  ·exact R.vJ f t
 ·rw [S.wire,if_neg (by rintro ⟨h1,_,h2,_⟩;exact h2 h1)];exact R.yt f
theorem lg {d d':Wd} {f t:Nat} {m:Mg} (R:Right d) (S:rD d d' f t m):Right d':=by
 have hmem:m∈au d f t:=by rw [S.first];simp
 obtain ⟨hf1,hf2⟩:=R.mR f t m hmem
 obtain ⟨hf3,hf4⟩:=lN.1 hf1
 obtain ⟨z1,z2,z3,z4⟩:=lQ hf3
 have hgr:((m.gr.toNat:Nat):Int)=m.gr:=by omega
 refine ⟨by rw [S.alike.g,S.alike.n];exact R.chk,(S.alike.rows R.rows).1,(S.alike.rows R.rows).2,fun k x h=>?_,fun k x g row h hr=>?_,fun k=>?_,fun k g i=>?_,
  fun k g i h=>?_,fun k=>?_,fun k=>by rw [S.told];exact R.yA k,fun f' t'=>?_,fun k=>?_,fun k=>by rw [S.told];exact R.Bp k,fun k x hm=>?_,fun k x hm=>?_,fun f' t' x hm=>?_,fun f' t'=>?_,fun f'=>?_⟩
 ·obtain ⟨x0,e1,e2,_⟩:=S.alike.l k x h;rw [e2,S.alike.g];exact R.llen k x0 e1
 ·obtain ⟨x0,e1,_,e3⟩:=S.alike.l k x h
  obtain ⟨r0,e4,e5⟩:=e3 g row hr
  rw [e5,S.alike.n];exact R.oJ k x0 g r0 e1 e4
 ·rw [S.clk];have:=R.clk k;split
  ·subst k;omega
  ·exact this
 ·rw [S.lst];have:=R.lst k g i;split <;> omega
 ·rw [S.lst];rw [S.alike.both] at h
  rw [if_neg]
  ·exact R.IZ k g i h
  ·rintro ⟨rfl,rfl,rfl⟩
   unfold tK at h
   rw [hgr,hf4,<-hf2,z4] at h
   cases h
 ·by_cases h:k=t
  ·subst h
   rcases S.held with ⟨_,e⟩ | ⟨_,e0,e⟩
   ·rw [e];exact R.pJ k
   ·rw [e,lK _ _ e0];have:=(sO e0).2.1;omega
  ·rw [S.other k h];exact R.pJ k
 ·by_cases h:f'=f/\t'=t
  ·obtain ⟨rfl,rfl⟩:=h
   have:=R.nQ f' t';rw [S.first] at this;simp at this;omega
  ·rw [S.wire f' t' h];exact R.nQ f' t'
 ·by_cases h:k=t
  ·subst h
   rcases S.held with ⟨_,e⟩ | ⟨_,e0,e⟩
   ·rw [e];exact R.nO k
   ·rw [e];exact vU e0
  ·rw [S.other k h];exact R.nO k
 ·rw [S.alike.fine]
  by_cases h:k=t
  ·subst h
   rcases S.held with ⟨_,e⟩ | ⟨e2,e0,e⟩
   ·rw [e] at hm;exact R.pK k x hm
   ·rw [e,jC e0] at hm
    rcases hm with rfl | hm
    ·exact ⟨hf1,e2⟩
    ·exact R.pK k x hm
  ·rw [S.other k h] at hm;exact R.pK k x hm
 ·rw [S.alike.fine];rw [S.told] at hm;exact R.yB k x hm
 ·rw [S.alike.fine]
  by_cases h:f'=f/\t'=t
  ·obtain ⟨rfl,rfl⟩:=h
   exact R.mR f' t' x (by rw [S.first];exact List.mem_cons_of_mem _ hm)
  ·rw [S.wire f' t' h] at hm;exact R.mR f' t' x hm
 ·by_cases h:f'=f/\t'=t
  ·obtain ⟨rfl,rfl⟩:=h
   have:=(gV _).1 (R.vJ f' t');rw [S.first] at this
   exact (gV _).2 (List.pairwise_cons.1 this).2
  ·rw [S.wire f' t' h];exact R.vJ f' t'
 ·by_cases h:f'=f/\f'=t
  ·obtain ⟨rfl,rfl⟩:=h
   have:=R.yt f';rw [S.first] at this;cases this
  ·rw [S.wire f' f' h];exact R.yt f'
def In (d:Wd) (m:Mg):Prop:=∃ k,m∈ay d k\/m∈aT d k\/∃ f,m∈au d f k
structure Inv (d:Wd):Prop where
 right:Right d
 heard:∀ k g i,bT d k g i<=aD d i
 wire:∀ i k m,m∈au d i k->m.st<=aD d i/\∀ g,bT d k g i < m.st
 told:∀ k m,m∈aT d k->m.st<=dw d k
 held:∀ k m,m∈ay d k->dw d k < m.st
 seen:∀ k m,m∈ay d k->m.st<=aD d k/\∀ i:Nat,m.fr=i->i≠k->m.st<=bT d k m.gr.toNat i
 own:∀ m,In d m->m.st<=aD d m.fr.toNat
 uniq:∀ m m',In d m->In d m'->m.st=m'.st->m.fr=m'.fr->m=m'
 all:∀ m k,In d m->m.nul=false->k < d.nodes.length->hasB d.groups m.gr k=true->m∈aT d k\/m∈ay d k\/(m.fr≠k/\m∈au d m.fr.toNat k)
end Go.Proofs.Ytiiifecfdkjmbaa.Pu
