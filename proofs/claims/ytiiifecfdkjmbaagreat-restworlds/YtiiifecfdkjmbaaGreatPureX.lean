/- Lemmas. -/
import Derived.Test.YtiiifecfdkjmbaaGreatBoundX
namespace Go.Proofs.YtiiifecfdkjmbaaGreat.Pu
set_option maxRecDepth 8000
def ay (d:Wd) (f t:Nat):List Mg:=(d.wires[f]?.getD [])[t]?.getD []
def aV (d:Wd) (f t:Nat) (l:List Mg):Wd:={ d with wires:=d.wires.set f ((d.wires[f]?.getD []).set t l) }
def bG (d:Wd) (k:Nat):Int:=match d.nodes[k]? with | some x=>x.clock | none=>0
def dZ (d:Wd) (k g i:Nat):Int:=match d.nodes[k]? with | some x=>dU x.last g i | none=>0
def aJ (d:Wd) (k:Nat):List Mg:=match d.nodes[k]? with | some x=>x.held | none=>[]
def bC (d:Wd) (k:Nat):List Mg:=match d.nodes[k]? with | some x=>x.told | none=>[]
def eu (d:Wd) (k:Nat):Int:=match d.nodes[k]? with | some x=>sV d k x | none=>0
def setNode (d:Wd) (n:Nat) (x:Nd):Wd:={ d with nodes:=d.nodes.set n x }
def eB (d:Wd) (n:Nat):Except Int (Wd × Nat) :=
 match d.nodes[n]? with
 | none=>.error 4
 | some x =>
  if 40 < (x.told++bW d n x).length then .error 2
  else if aL (x.told++bW d n x)=false then .error 1
  else .ok (setNode d n { x with held:=x.held.drop (bW d n x).length,told:=x.told++bW d n x },(bW d n x).length)
def tV (d:Wd) (n:Nat) (m:Mg):Except Int Wd :=
 match d.nodes[n]? with
 | none=>.error 4
 | some x=>if dM m x.held=0 then .ok (setNode d n { x with held:=fV m x.held }) else .error (dM m x.held)
def dW (d:Wd) (n:Nat) (m:Mg):Except Int Wd:=if m.nul then .ok d else tV d n m
def qF (m:Mg) (l:List Mg):Bool:=match l.getLast? with | some x=>decide (m.st<=x.st) | none=>false
def gF (m:Mg) (n:Nat) (d:Wd) (k:Nat):Except Int Wd :=
 if k=n\/hasB d.groups m.gr k=false then .ok d
 else if (ay d n k).length=40 then .error 2
 else if qF m (ay d n k) then .error 1
 else .ok (aV d n k (ay d n k++[m]))
def eZ (m:Mg) (n:Nat) (d:Wd) (i:Nat):Except Int Wd:=(List.range i).foldlM (gF m n) d
def bS (d:Wd) (n g:Int) (size:Nat):Int :=
 if inB n 0 ((d.nodes.length:Int) - 1)=false\/inB g 0 ((d.groups.length:Int) - 1)=false then 4
 else if hasB d.groups g n=false then 5
 else if 8 < size then 1
 else if bG d n.toNat=1048576 then 3 else 0
def lV (d:Wd) (n:Nat) (c:Int):Wd:=match d.nodes[n]? with | some x=>setNode d n { x with clock:=c } | none=>d
def fI (d:Wd) (n g:Int) (nul:Bool) (body:ByteArray):Except Int Wd :=
 if bS d n g body.size=0 then
  (eZ ⟨n,g,bG d n.toNat+1,nul,body⟩ n.toNat (lV d n.toNat (bG d n.toNat+1)) d.nodes.length).bind fun d2 =>
  (dW d2 n.toNat ⟨n,g,bG d n.toNat+1,nul,body⟩).bind fun d3 =>
  (eB d3 n.toNat).bind fun p=>.ok p.1
 else .error (bS d n g body.size)
def ni (x:Nd) (m:Mg) (f:Nat):Nd :=
 { x with clock:=max x.clock m.st,last:=x.last.set m.gr.toNat ((x.last[m.gr.toNat]?.getD []).set f (max (dU x.last m.gr.toNat f) m.st)) }
def mD (d:Wd) (f t:Nat) (m:Mg) (rest:List Mg):Wd :=
 match d.nodes[t]? with
 | some x=>setNode (aV d f t rest) t (ni x m f)
 | none=>d
def fJ (d:Wd) (f t:Nat):Except Int Wd :=
 match ay d f t with
 | []=>.error 7
 | m::rest=>(dW (mD d f t m rest) t m).bind fun d3=>(eB d3 t).bind fun p=>.ok p.1
def dV (f t:Nat):Nat->Wd->Except Int Wd
 | 0,d=>.ok d
 | k+1,d=>(fJ d f t).bind (dV f t k)
def pG (d:Wd) (f t:Nat):Except Int (Wd × Nat):=(dV f t (ay d f t).length d).bind fun d'=>.ok (d',(ay d f t).length)
def dn (s:Wd × Nat) (p:Nat × Nat):Except Int (Wd × Nat):=(pG s.1 p.1 p.2).bind fun r=>.ok (r.1,s.2+r.2)
def iB (d:Wd):Except Int (Wd × Nat):=(pairs d.nodes.length d.nodes.length).foldlM dn (d,0)
def dh (d:Wd) (p:Nat × Nat):Except Int Wd:=if hasB d.groups p.2 p.1 then fI d p.1 p.2 true ByteArray.empty else .ok d
def zH (d:Wd):Except Int Wd:=(pairs d.nodes.length d.groups.length).foldlM dh d
def fK (d:Wd):Except Int (Wd × Nat):=(zH d).bind iB
def lM:Nat->Wd->Except Int Wd
 | 0,d=>.ok d
 | k+1,d=>(fK d).bind fun r=>lM k r.1
def tN (d:Wd):Except Int Wd:=(iB d).bind fun r=>lM 4 r.1
structure Ac where
 kind:Int
 one:Int
 two:Int
 body:ByteArray
def checked {α:Type} (d:Wd) (r:Except Int α):Except Int α:=if aD d=0 then r else .error (aD d)
def jW (d:Wd) (f t:Int):Except Int Wd :=
 if aD d=0 then (if inB f 0 ((d.nodes.length:Int) - 1) && inB t 0 ((d.nodes.length:Int) - 1) then fJ d f.toNat t.toNat else .error 4) else .error (aD d)
def doD (d:Wd) (x:Ac):Except Int Wd :=
 if x.kind=1 then checked d (fI d x.one x.two false x.body)
 else if x.kind=2 then checked d (fI d x.one x.two true ByteArray.empty)
 else if x.kind=3 then jW d x.one x.two
 else if x.kind=4 then checked d (tN d)
 else .error 6
def iI (n:Nat) (l:List Int):Wd:=⟨l,List.replicate n ⟨0,List.replicate l.length (List.replicate n 0),[],[]⟩,List.replicate n (List.replicate n [])⟩
def qg (d:Wd) (x:Ac):Wd:=match doD d x with | .ok d'=>d' | .error _=>d
def doneD (n:Nat) (l:List Int) (acts:List Ac):Wd:=acts.foldl qg (iI n l)
structure Right (d:Wd):Prop where
 chk:eX d.nodes.length d.groups=0
 vX:d.wires.length=d.nodes.length
 rlen:∀ (f:Nat) (row:List (List Mg)),d.wires[f]? = some row->row.length=d.nodes.length
 llen:∀ (k:Nat) (x:Nd),d.nodes[k]? = some x->x.last.length=d.groups.length
 lq:∀ (k:Nat) (x:Nd) (g:Nat) (row:List Int),d.nodes[k]? = some x->x.last[g]? = some row->row.length=d.nodes.length
 clk:∀ k,0<=bG d k/\bG d k<=1048576
 lst:∀ k g i,0<=dZ d k g i/\dZ d k g i<=1048576
 N7:∀ k g i,vQ d k g i=false->dZ d k g i=0
 qG:∀ k,(aJ d k).length<=40
 tJ:∀ k,(bC d k).length<=40
 nR:∀ f t,(ay d f t).length<=40
 qZ:∀ k,aL (aJ d k)=true
 EZ:∀ k,aL (bC d k)=true
 tX:∀ k m,m∈aJ d k->jh d k m=true/\m.nul=false
 BM:∀ k m,m∈bC d k->jh d k m=true/\m.nul=false
 qE:∀ f t m,m∈ay d f t->jh d t m=true/\m.fr=f
 zx:∀ f t,gq (ay d f t)=true
 BK:∀ f,ay d f f=[]
theorem getD_at {α:Type} {l:List α} {i:Nat} {a x:α} (h:l[i]? = some x):l[i]?.getD a=x:=by rw [h];rfl
theorem GR (d:Wd):iy d=true↔(∀ (k:Nat) (x:Nd),d.nodes[k]? = some x->x.held.length<=40/\x.told.length<=40)/\∀ (f:Nat) (row:List (List Mg)) (t:Nat) (l:List Mg),d.wires[f]? = some row->row[t]? = some l->l.length<=40:=by
 unfold iy gX iR jO
 rw [List.all_append,Bool.and_eq_true,List.all_eq_true,List.all_eq_true]
 simp only [List.mem_flatMap,decide_eq_true_eq]
 constructor
 ·rintro ⟨h1,h2⟩
  refine ⟨fun k x hx=>?_,fun f row t l hr hl=>?_⟩
  ·have hm:=List.mem_of_getElem? hx
   exact ⟨h1 _ ⟨x,hm,by simp⟩,h1 _ ⟨x,hm,by simp⟩⟩
  ·exact h2 _ ⟨row,List.mem_of_getElem? hr,List.mem_map.2 ⟨l,List.mem_of_getElem? hl,rfl⟩⟩
 ·rintro ⟨h1,h2⟩
  refine ⟨fun n ⟨x,hx,hn⟩=>?_,fun n ⟨row,hr,hn⟩=>?_⟩
  ·obtain ⟨k,hk⟩:=List.getElem?_of_mem hx
   obtain ⟨a,b⟩:=h1 k x hk
   simp at hn
   rcases hn with rfl | rfl <;> assumption
  ·obtain ⟨l,hl,rfl⟩:=List.mem_map.1 hn
   obtain ⟨f,hf⟩:=List.getElem?_of_mem hr
   obtain ⟨t,ht⟩:=List.getElem?_of_mem hl
   exact h2 f row t l hf ht
theorem xY (d:Wd) (n:Nat) (last:List (List Int)):d9 d n last=true↔∀ (g:Nat) (row:List Int),last[g]? = some row->row.length=d.nodes.length/\∀ (k:Nat) (v:Int),row[k]? = some v->eF d n g k v=true:=by
 unfold d9
 rw [List.all_eq_true]
 simp only [List.mem_range]
 constructor
 ·intro h g row hg
  have hl:=(zQ2.1 hg).1
  have:=h g hl
  rw [getD_at hg] at this
  unfold lG at this
  rw [Bool.and_eq_true,List.all_eq_true,decide_eq_true_eq] at this
  refine ⟨this.1,fun k v hk=>?_⟩
  have h2:=this.2 k (List.mem_range.2 (zQ2.1 hk).1)
  rwa [getD_at hk] at h2
 ·intro h g hg
  obtain ⟨row,hr⟩:∃ row,last[g]? = some row:=⟨_,zQ1 hg⟩
  obtain ⟨h1,h2⟩:=h g row hr
  rw [getD_at hr]
  unfold lG
  rw [Bool.and_eq_true,List.all_eq_true,decide_eq_true_eq]
  refine ⟨h1,fun k hk=>?_⟩
  have hk':=List.mem_range.1 hk
  obtain ⟨v,hv⟩:∃ v,row[k]? = some v:=⟨_,zQ1 hk'⟩
  rw [getD_at hv]
  exact h2 k v hv
theorem GU (d:Wd):jd d=true↔∀ (k:Nat) (x:Nd),d.nodes[k]? = some x->aH d k x=true:=by
 unfold jd
 rw [List.all_eq_true]
 simp only [List.mem_range]
 constructor
 ·intro h k x hx
  have:=h k (zQ2.1 hx).1
  rw [hx] at this
  exact this
 ·intro h k hk
  cases hx:d.nodes[k]? with
  | none=>rfl
  | some x=>exact h k x hx
theorem GV (d:Wd):eG d=true↔d.wires.length=d.nodes.length/\∀ (f:Nat) (row:List (List Mg)),d.wires[f]? = some row->row.length=d.nodes.length/\∀ (t:Nat) (l:List Mg),row[t]? = some l->aN d f t l=true:=by
 unfold eG
 rw [Bool.and_eq_true,decide_eq_true_eq,List.all_eq_true]
 simp only [List.mem_range]
 refine and_congr Iff.rfl ?_
 constructor
 ·intro h f row hf
  have:=h f (zQ2.1 hf).1
  rw [getD_at hf] at this
  unfold qC at this
  rw [Bool.and_eq_true,decide_eq_true_eq,List.all_eq_true] at this
  refine ⟨this.1,fun t l hl=>?_⟩
  have h2:=this.2 t (List.mem_range.2 (zQ2.1 hl).1)
  rwa [getD_at hl] at h2
 ·intro h f hf
  obtain ⟨row,hr⟩:∃ row,d.wires[f]? = some row:=⟨_,zQ1 hf⟩
  obtain ⟨h1,h2⟩:=h f row hr
  rw [getD_at hr]
  unfold qC
  rw [Bool.and_eq_true,decide_eq_true_eq,List.all_eq_true]
  refine ⟨h1,fun t ht=>?_⟩
  obtain ⟨l,hl⟩:∃ l,row[t]? = some l:=⟨_,zQ1 (List.mem_range.1 ht)⟩
  rw [getD_at hl]
  exact h2 t l hl
theorem nS {d:Wd} {f t:Nat} {row:List (List Mg)} {l:List Mg} (hr:d.wires[f]? = some row) (hl:row[t]? = some l):ay d f t=l:=by
 unfold ay;rw [hr];simp [hl]
theorem mK (d:Wd) (f t:Nat):(ay d f t=[])\/∃ row l,d.wires[f]? = some row/\row[t]? = some l/\ay d f t=l:=by
 unfold ay
 cases hr:d.wires[f]? with
 | none=>left;simp
 | some row =>
  cases hl:row[t]? with
  | none=>left;simp [hl]
  | some l=>right;exact ⟨row,l,rfl,hl,by simp [hl]⟩
theorem C9 (last:List (List Int)) (g k:Nat):dU last g k=0\/∃ row,last[g]? = some row/\row[k]? = some (dU last g k):=by
 unfold dU
 cases hr:last[g]? with
 | none=>left;simp
 | some row =>
  cases hl:row[k]? with
  | none=>left;simp [hl]
  | some l=>right;exact ⟨row,rfl,by simp [hl]⟩
theorem q9 {last:List (List Int)} {g k:Nat} {row:List Int} {v:Int} (hr:last[g]? = some row) (hl:row[k]? = some v):dU last g k=v:=by
 unfold dU;rw [hr];simp [hl]
theorem cu (d:Wd):aD d=0↔Right d:=by
 have hE:aD d=0↔eX d.nodes.length d.groups=0/\iy d=true/\jd d=true/\eG d=true:=by
  unfold aD
  by_cases h:eX d.nodes.length d.groups=0
  ·rw [if_pos h]
   cases hs:iy d <;> cases hn:jd d <;> cases hw:eG d <;> simp [h]
  ·rw [if_neg h];simp [h]
 rw [hE,GR,GU,GV]
 constructor
 ·rintro ⟨hc,⟨hs1,hs2⟩,hn,hw1,hw2⟩
  have N:∀ (k:Nat) (x:Nd),d.nodes[k]? = some x->(0<=x.clock/\x.clock<=1048576)/\x.last.length=d.groups.length/\(∀ (g:Nat) (row:List Int),x.last[g]? = some row->row.length=d.nodes.length/\∀ (i:Nat) (v:Int),row[i]? = some v->eF d k g i v=true)
    /\ aL x.held=true/\aL x.told=true/\gu x.held=true/\gu x.told=true/\aZ d x.held k=true/\aZ d x.told k=true:=by
   intro k x hx
   have:=hn k x hx
   unfold aH mF iT at this
   simp only [Bool.and_eq_true,decide_eq_true_eq,inB,xY] at this
   obtain ⟨⟨a,b⟩,c,d1,d2,d3,d4,d5,d6⟩:=this
   exact ⟨a,b,c,d1,d2,d3,d4,d5,d6⟩
  have C:∀ (k:Nat) (x:Nd) (g i:Nat),d.nodes[k]? = some x->eF d k g i (dU x.last g i)=true\/dU x.last g i=0:=by
   intro k x g i hx
   rcases C9 x.last g i with h0 | ⟨row,hr,hv⟩
   ·exact .inr h0
   ·exact .inl (((N k x hx).2.2.1 g row hr).2 i _ hv)
  refine ⟨hc,hw1,fun f row h=>(hw2 f row h).1,fun k x h=>(N k x h).2.1,fun k x g row h h2=>((N k x h).2.2.1 g row h2).1, ?_, ?_, ?_, ?_, ?_, ?_, ?_, ?_, ?_, ?_, ?_, ?_, ?_⟩
  ·intro k;unfold bG
   cases h:d.nodes[k]? with
   | none=>simp
   | some x=>exact (N k x h).1
  ·intro k g i;unfold dZ
   cases h:d.nodes[k]? with
   | none=>simp
   | some x =>
    rcases C k x g i h with h1 | h1
    ·unfold eF at h1;rw [Bool.and_eq_true] at h1;simpa [inB] using h1.1
    ·show 0<=dU x.last g i/\dU x.last g i<=_
     rw [h1];omega
  ·intro k g i hb;unfold dZ
   cases h:d.nodes[k]? with
   | none=>rfl
   | some x =>
    rcases C k x g i h with h1 | h1
    ·unfold eF at h1;rw [Bool.and_eq_true,hb] at h1;simpa using h1.2
    ·exact h1
  ·intro k;unfold aJ
   cases h:d.nodes[k]? with
   | none=>simp
   | some x=>exact (hs1 k x h).1
  ·intro k;unfold bC
   cases h:d.nodes[k]? with
   | none=>simp
   | some x=>exact (hs1 k x h).2
  ·intro f t
   rcases mK d f t with h | ⟨row,l,hr,hl,h⟩
   ·rw [h];simp
   ·rw [h];exact hs2 f row t l hr hl
  ·intro k;unfold aJ
   cases h:d.nodes[k]? with
   | none=>rfl
   | some x=>exact (N k x h).2.2.2.1
  ·intro k;unfold bC
   cases h:d.nodes[k]? with
   | none=>rfl
   | some x=>exact (N k x h).2.2.2.2.1
  ·intro k m hm;unfold aJ at hm
   cases h:d.nodes[k]? with
   | none=>rw [h] at hm;simp at hm
   | some x =>
    rw [h] at hm
    obtain ⟨_,_,_,_,_,e1,e2,e3,e4⟩:=N k x h
    unfold gu at e1;unfold aZ at e3
    rw [List.all_eq_true] at e1 e3
    exact ⟨e3 m hm,by simpa using e1 m hm⟩
  ·intro k m hm;unfold bC at hm
   cases h:d.nodes[k]? with
   | none=>rw [h] at hm;simp at hm
   | some x =>
    rw [h] at hm
    obtain ⟨_,_,_,_,_,e1,e2,e3,e4⟩:=N k x h
    unfold gu at e2;unfold aZ at e4
    rw [List.all_eq_true] at e2 e4
    exact ⟨e4 m hm,by simpa using e2 m hm⟩
  ·intro f t m hm
   rcases mK d f t with h | ⟨row,l,hr,hl,h⟩
   ·rw [h] at hm;simp at hm
   ·rw [h] at hm
    have:=(hw2 f row hr).2 t l hl
    unfold aN jV aZ at this
    simp only [Bool.and_eq_true,List.all_eq_true,decide_eq_true_eq] at this
    exact ⟨this.2.1 m hm,this.1.1 m hm⟩
  ·intro f t
   rcases mK d f t with h | ⟨row,l,hr,hl,h⟩
   ·rw [h];rfl
   ·rw [h]
    have:=(hw2 f row hr).2 t l hl
    unfold aN jV at this
    simp only [Bool.and_eq_true] at this
    exact this.1.2
  ·intro f
   rcases mK d f f with h | ⟨row,l,hr,hl,h⟩
   ·exact h
   ·rw [h]
    have:=(hw2 f row hr).2 f l hl
    unfold aN at this
    simp only [Bool.and_eq_true] at this
    exact zQ6 (by simpa using this.2.2)
 ·intro R
  have H:∀ (k:Nat) (x:Nd),d.nodes[k]? = some x->aJ d k=x.held/\bC d k=x.told/\bG d k=x.clock/\∀ g i,dZ d k g i=dU x.last g i:=by
   intro k x h;unfold aJ bC bG dZ;rw [h];exact ⟨rfl,rfl,rfl,fun _ _=>rfl⟩
  refine ⟨R.chk,⟨fun k x h=>?_,fun f row t l hr hl=>?_⟩,fun k x h=>?_,R.vX,fun f row hr=>⟨R.rlen f row hr,fun t l hl=>?_⟩⟩
  ·obtain ⟨h1,h2,_,_⟩:=H k x h;rw [<-h1,<-h2];exact ⟨R.qG k,R.tJ k⟩
  ·rw [<-nS hr hl];exact R.nR f t
  ·obtain ⟨h1,h2,h3,h4⟩:=H k x h
   unfold aH mF iT
   simp only [Bool.and_eq_true,decide_eq_true_eq,inB,xY]
   refine ⟨⟨h3 ▸ R.clk k,R.llen k x h⟩,fun g row hr=>⟨R.lq k x g row h hr,fun i v hv=>?_⟩,h1 ▸ R.qZ k,h2 ▸ R.EZ k, ?_, ?_, ?_, ?_⟩
   ·have e:=q9 hr hv
    have l1:=R.lst k g i
    have l2:=R.N7 k g i
    rw [h4,e] at l1 l2
    unfold eF
    rw [Bool.and_eq_true]
    refine ⟨by simpa [inB] using l1, ?_⟩
    cases hb:vQ d k g i
    ·simp [l2 hb]
    ·rfl
   ·unfold gu;rw [List.all_eq_true];intro m hm;have:=(R.tX k m (h1 ▸ hm)).2;simp [this]
   ·unfold gu;rw [List.all_eq_true];intro m hm;have:=(R.BM k m (h2 ▸ hm)).2;simp [this]
   ·unfold aZ;rw [List.all_eq_true];intro m hm;exact (R.tX k m (h1 ▸ hm)).1
   ·unfold aZ;rw [List.all_eq_true];intro m hm;exact (R.BM k m (h2 ▸ hm)).1
  ·have e:=nS hr hl
   unfold aN jV aZ
   simp only [Bool.and_eq_true,List.all_eq_true,decide_eq_true_eq]
   refine ⟨⟨fun m hm=>(R.qE f t m (e ▸ hm)).2,e ▸ R.zx f t⟩,fun m hm=>(R.qE f t m (e ▸ hm)).1, ?_⟩
   by_cases hft:f=t
   ·subst hft;rw [R.BK f] at e;subst e;simp
   ·simp [hft]
/-! Lists of messages that rise. -/
theorem mU (a b:Mg):lessM a b=true↔a.st < b.st\/(a.st=b.st/\a.fr < b.fr):=by
 unfold lessM;simp
theorem kr {a b c:Mg} (h1:lessM a b=true) (h2:lessM b c=true):lessM a c=true:=by
 rw [mU] at *;omega
theorem vY (a:Mg):lessM a a=false:=by
 cases h:lessM a a
 ·rfl
 ·rw [mU] at h;omega
theorem cO:∀ l:List Mg,aL l=true↔l.Pairwise (fun a b=>lessM a b=true)
 | []=>by simp [aL]
 | [a]=>by simp [aL]
 | a::b::r=>by
  rw [aL,Bool.and_eq_true,cO (b::r),List.pairwise_cons (a:=a)]
  constructor
  ·rintro ⟨h1,h2⟩
   refine ⟨fun x hx=>?_,h2⟩
   rcases List.mem_cons.1 hx with rfl | hx
   ·exact h1
   ·exact kr h1 ((List.pairwise_cons.1 h2).1 x hx)
  ·rintro ⟨h1,h2⟩
   exact ⟨h1 b (by simp),h2⟩
theorem jB:∀ l:List Mg,gq l=true↔l.Pairwise (fun a b=>a.st < b.st)
 | []=>by simp [gq]
 | [a]=>by simp [gq]
 | a::b::r=>by
  rw [gq,Bool.and_eq_true,jB (b::r),List.pairwise_cons (a:=a),decide_eq_true_eq]
  constructor
  ·rintro ⟨h1,h2⟩
   refine ⟨fun x hx=>?_,h2⟩
   rcases List.mem_cons.1 hx with rfl | hx
   ·exact h1
   ·have:=(List.pairwise_cons.1 h2).1 x hx;omega
  ·rintro ⟨h1,h2⟩
   exact ⟨h1 b (by simp),h2⟩
theorem filter_le:∀ (l:List Mg) (v:Int),aL l=true ->
  l.take (l.filter fun m=>decide (m.st<=v)).length=l.filter (fun m=>decide (m.st<=v))/\l.drop (l.filter fun m=>decide (m.st<=v)).length=l.filter (fun m=>decide (v < m.st))
 | [],v,_=>by simp
 | a::r,v,h=>by
  have hp:=(cO _).1 h
  obtain ⟨h1,h2⟩:=List.pairwise_cons.1 hp
  obtain ⟨e1,e2⟩:=filter_le r v ((cO _).2 h2)
  by_cases ha:a.st<=v
  ·have hb:¬ v < a.st:=by omega
   simp [ha,hb,e1,e2]
  ·have hb:v < a.st:=by omega
   have hr:∀ x∈r,v < x.st:=fun x hx=>by have:=h1 x hx;rw [mU] at this;omega
   have e3:r.filter (fun m=>decide (m.st<=v))=[]:=by
    rw [List.filter_eq_nil_iff];intro x hx;have:=hr x hx;simp;omega
   have e4:r.filter (fun m=>decide (v < m.st))=r:=by
    rw [List.filter_eq_self];intro x hx;have:=hr x hx;simp;omega
   simp [ha,hb,e3,e4]
theorem lU {m:Mg} {ms:List Mg} (h:dM m ms=0) (x:Mg):x∈fV m ms↔x=m\/x∈ms:=by
 unfold fV
 rw [if_pos h]
 have:x∈ms↔x∈ms.take (aO m ms)\/x∈ms.drop (aO m ms):=by
  rw [<-List.mem_append,List.take_append_drop]
 rw [this]
 simp only [List.mem_append,List.mem_singleton]
 constructor
 ·rintro ((h | h) | h)
  ·exact .inr (.inl h)
  ·exact .inl h
  ·exact .inr (.inr h)
 ·rintro (h | h | h)
  ·exact .inl (.inr h)
  ·exact .inl (.inl h)
  ·exact .inr h
theorem ru (m:Mg):∀ ms:List Mg,∀ x∈ms.take (aO m ms),lessM x m=true
 | [],x,h=>by simp at h
 | y::r,x,h=>by
  unfold aO at h
  cases hl:lessM y m
  ·simp [hl] at h
  ·simp [hl] at h
   rcases h with rfl | h
   ·exact hl
   ·exact ru m r x h
theorem xD {m:Mg} {ms:List Mg} (h:dM m ms=0):aL ms=true/\ms.length < 40/\∀ x,ms[aO m ms]? = some x->lessM m x=true:=by
 unfold dM at h
 cases hr:aL ms
 ·simp [hr] at h
 ·simp only [hr] at h
  by_cases hl:40<=ms.length
  ·simp [hl] at h
  ·refine ⟨rfl,by omega,fun x hx=>?_⟩
   simp only [hl,hx] at h
   cases hm:lessM m x
   ·simp [hm] at h
   ·rfl
theorem zI {m:Mg} {ms:List Mg} (h:dM m ms=0):aL (fV m ms)=true:=by
 obtain ⟨h1,h2,h3⟩:=xD h
 have hp:=(cO _).1 h1
 rw [cO]
 unfold fV
 rw [if_pos h,List.append_assoc]
 have ht:=List.take_append_drop (aO m ms) ms
 rw [<-ht] at hp
 obtain ⟨p1,p2,p3⟩:=List.pairwise_append.1 hp
 have hd:∀ x∈ms.drop (aO m ms),lessM m x=true:=by
  intro x hx
  cases hdd:ms.drop (aO m ms) with
  | nil=>rw [hdd] at hx;simp at hx
  | cons y r =>
   have hy:ms[aO m ms]? = some y:=by
    have:=congrArg (·[0]?) hdd
    simpa using this
   have hmy:=h3 y hy
   rw [hdd] at hx p2
   rcases List.mem_cons.1 hx with rfl | hx
   ·exact hmy
   ·exact kr hmy ((List.pairwise_cons.1 p2).1 x hx)
 refine List.pairwise_append.2 ⟨p1,List.pairwise_append.2 ⟨by simp,p2,fun a ha b hb=>?_⟩,fun a ha b hb=>?_⟩
 ·simp at ha;subst ha;exact hd b hb
 ·rcases List.mem_append.1 hb with hb | hb
  ·simp at hb;subst hb;exact ru _ _ a ha
  ·exact p3 a ha b hb
/-! How far: the greatest number that is below all. -/
theorem Jb (d:Wd) (n:Nat) (x:Nd) (v:Int):∀ (l:List (Nat × Nat)) (acc:Int),v<=l.foldl (nN d n x) acc↔v<=acc/\∀ p∈l,kF d n p=true->v<=dU x.last p.1 p.2
 | [],acc=>by simp
 | p::l,acc=>by
  rw [List.foldl_cons,Jb d n x v l]
  unfold nN
  simp only [List.mem_cons,forall_eq_or_imp]
  cases ho:kF d n p
  ·simp
  ·simp only [if_true,true_implies]
   split <;> constructor <;> rintro ⟨h1,h2⟩ <;> refine ⟨?_, ?_⟩
   ·omega
   ·exact ⟨h1,h2⟩
   ·exact h2.1
   ·exact h2.2
   ·exact h1
   ·exact ⟨by omega,h2⟩
   ·omega
   ·exact h2.2
theorem xC (G N g k:Nat):(g,k)∈pairs G N↔g < G/\k < N:=by
 unfold pairs;simp
theorem zJ (d:Wd) (n g k:Nat):kF d n (g,k)=true↔k≠n/\hasB d.groups g n=true/\hasB d.groups g k=true:=by
 unfold kF;simp;intro _ _;omega
theorem N8 {xs:List Int} {g:Nat} {n:Int} (h:hasB xs g n=true):g < xs.length:=by
 unfold hasB at h;simp at h;omega
theorem N9 (d:Wd) (n:Nat) (x:Nd) (v:Int):v<=sV d n x↔v<=x.clock/\∀ g k:Nat,k < d.nodes.length->k≠n->hasB d.groups g n=true->hasB d.groups g k=true->v<=dU x.last g k:=by
 unfold sV
 rw [Jb]
 refine and_congr Iff.rfl ⟨fun h g k hk hn h1 h2=>h (g,k) ((xC _ _ _ _).2 ⟨N8 h1,hk⟩) ((zJ _ _ _ _).2 ⟨hn,h1,h2⟩),fun h p hp ho=>?_⟩
 obtain ⟨g,k⟩:=p
 obtain ⟨h0,h1,h2⟩:=(zJ _ _ _ _).1 ho
 exact h g k ((xC _ _ _ _).1 hp).2 h0 h1 h2
theorem pq {d:Wd} {n:Nat} (hn:n < d.nodes.length) (v:Int):v<=eu d n↔v<=bG d n/\∀ g k:Nat,k < d.nodes.length->k≠n->hasB d.groups g n=true->hasB d.groups g k=true->v<=dZ d n g k:=by
 have hx:d.nodes[n]? = some d.nodes[n]:=zQ1 hn
 unfold eu bG dZ
 rw [hx]
 exact N9 d n _ v
structure Alike (d d':Wd):Prop where
 g:d'.groups=d.groups
 n:d'.nodes.length=d.nodes.length
 w:d'.wires.length=d.wires.length
 r:∀ (f:Nat) (row':List (List Mg)),d'.wires[f]? = some row'->∃ row,d.wires[f]? = some row/\row'.length=row.length
 l:∀ (k:Nat) (x':Nd),d'.nodes[k]? = some x'->∃ x,d.nodes[k]? = some x/\x'.last.length=x.last.length/\∀ (g:Nat) (row':List Int),x'.last[g]? = some row'->∃ row,x.last[g]? = some row/\row'.length=row.length
theorem Alike.refl (d:Wd):Alike d d:=⟨rfl,rfl,rfl,fun _ r h=>⟨r,h,rfl⟩,fun _ x h=>⟨x,h,rfl,fun _ r h=>⟨r,h,rfl⟩⟩⟩
theorem Alike.trans {a b c:Wd} (h:Alike a b) (k:Alike b c):Alike a c:=by
 refine ⟨k.g.trans h.g,k.n.trans h.n,k.w.trans h.w,fun f row hr=>?_,fun i x hx=>?_⟩
 ·obtain ⟨r1,e1,e2⟩:=k.r f row hr
  obtain ⟨r2,e3,e4⟩:=h.r f r1 e1
  exact ⟨r2,e3,e2.trans e4⟩
 ·obtain ⟨x1,e1,e2,e3⟩:=k.l i x hx
  obtain ⟨x2,e4,e5,e6⟩:=h.l i x1 e1
  refine ⟨x2,e4,e2.trans e5,fun g row hr=>?_⟩
  obtain ⟨r1,f1,f2⟩:=e3 g row hr
  obtain ⟨r2,f3,f4⟩:=e6 g r1 f1
  exact ⟨r2,f3,f2.trans f4⟩
theorem Alike.fine {d d':Wd} (h:Alike d d') (n:Int) (m:Mg):jh d' n m=jh d n m:=by unfold jh;rw [h.g,h.n]
theorem Alike.both {d d':Wd} (h:Alike d d') (n g k:Nat):vQ d' n g k=vQ d n g k:=by unfold vQ;rw [h.g]
theorem nT {d:Wd} {n:Nat} (hn:n < d.nodes.length):∃ x,d.nodes[n]? = some x:=⟨_,zQ1 hn⟩
theorem cZ {d:Wd} {n:Nat} {x:Nd} (h:d.nodes[n]? = some x):n < d.nodes.length:=(zQ2.1 h).1
theorem cB {d:Wd} {n:Nat} {x:Nd} (y:Nd) (hx:d.nodes[n]? = some x) (k:Nat):(setNode d n y).nodes[k]? = if k=n then some y else d.nodes[k]?:=by
 unfold setNode
 show (d.nodes.set n y)[k]? = _
 rw [List.getElem?_set]
 by_cases h:n=k
 ·subst h;simp [cZ hx]
 ·have:¬ k=n:=fun e=>h e.symm
  simp [h,this]
theorem jQ {d:Wd} {n:Nat} {x:Nd} (y:Nd) (hx:d.nodes[n]? = some x) (hl:y.last.length=x.last.length) (hr:∀ (g:Nat) (row':List Int),y.last[g]? = some row'->∃ row,x.last[g]? = some row/\row'.length=row.length):Alike d (setNode d n y):=by
 refine ⟨rfl,by simp [setNode],rfl,fun _ r h=>⟨r,h,rfl⟩,fun k x' h=>?_⟩
 rw [cB y hx] at h
 by_cases hk:k=n
 ·subst hk;simp at h;subst h;exact ⟨x,hx,hl,hr⟩
 ·rw [if_neg hk] at h;exact ⟨x',h,rfl,fun _ r h=>⟨r,h,rfl⟩⟩
theorem nU {d:Wd} {n:Nat} {x:Nd} (y:Nd) (hx:d.nodes[n]? = some x) (k:Nat):bG (setNode d n y) k=if k=n then y.clock else bG d k:=by
 unfold bG;rw [cB y hx];by_cases h:k=n <;> simp only [h,if_true,if_false]
theorem rz {d:Wd} {n:Nat} {x:Nd} (y:Nd) (hx:d.nodes[n]? = some x) (k g i:Nat):dZ (setNode d n y) k g i=if k=n then dU y.last g i else dZ d k g i:=by
 unfold dZ;rw [cB y hx];by_cases h:k=n <;> simp only [h,if_true,if_false]
theorem kS {d:Wd} {n:Nat} {x:Nd} (y:Nd) (hx:d.nodes[n]? = some x) (k:Nat):aJ (setNode d n y) k=if k=n then y.held else aJ d k:=by
 unfold aJ;rw [cB y hx];by_cases h:k=n <;> simp only [h,if_true,if_false]
theorem jD {d:Wd} {n:Nat} {x:Nd} (y:Nd) (hx:d.nodes[n]? = some x) (k:Nat):bC (setNode d n y) k=if k=n then y.told else bC d k:=by
 unfold bC;rw [cB y hx];by_cases h:k=n <;> simp only [h,if_true,if_false]
theorem Da (d:Wd) (n:Nat) (y:Nd) (f t:Nat):ay (setNode d n y) f t=ay d f t:=rfl
theorem dH {d:Wd} {n:Nat} {x:Nd} (hx:d.nodes[n]? = some x):bG d n=x.clock/\aJ d n=x.held/\bC d n=x.told/\eu d n=sV d n x/\∀ g i,dZ d n g i=dU x.last g i:=by
 unfold bG aJ bC eu dZ;rw [hx];exact ⟨rfl,rfl,rfl,rfl,fun _ _=>rfl⟩
def dQ (d:Wd):Prop:=d.wires.length=d.nodes.length/\∀ (f:Nat) (row:List (List Mg)),d.wires[f]? = some row->row.length=d.nodes.length
theorem Right.rows {d:Wd} (h:Right d):dQ d:=⟨h.vX,h.rlen⟩
theorem Alike.rows {d d':Wd} (h:Alike d d') (r:dQ d):dQ d':=by
 refine ⟨h.w.trans (r.1.trans h.n.symm),fun f row hr=>?_⟩
 obtain ⟨r1,e1,e2⟩:=h.r f row hr
 rw [e2,h.n];exact r.2 f r1 e1
theorem BN {d:Wd} {f t:Nat} (l:List Mg) (hr:dQ d) (hf:f < d.nodes.length) (ht:t < d.nodes.length) (f' t':Nat):ay (aV d f t l) f' t'=if f'=f/\t'=t then l else ay d f' t':=by
 obtain ⟨row,hrow⟩:∃ row,d.wires[f]? = some row:=⟨_,zQ1 (by rw [hr.1];exact hf)⟩
 have hlen:=hr.2 f row hrow
 unfold aV ay
 show ((d.wires.set f ((d.wires[f]?.getD []).set t l))[f']?.getD [])[t']?.getD []=_
 rw [hrow,List.getElem?_set]
 by_cases h:f=f'
 ·subst h
  have:f < d.wires.length:=by rw [hr.1];exact hf
  simp only [this,Option.getD_some,if_true,true_and]
  rw [List.getElem?_set]
  by_cases h2:t=t'
  ·subst h2;simp [hlen,ht]
  ·have:¬ t'=t:=fun e=>h2 e.symm
   simp [h2,this,hrow]
 ·have:¬ f'=f:=fun e=>h e.symm
  simp [h,this]
theorem tY {d:Wd} {f t:Nat} (l:List Mg):Alike d (aV d f t l):=by
 refine ⟨rfl,rfl,by simp [aV],fun f' row' h=>?_,fun _ x h=>⟨x,h,rfl,fun _ r h=>⟨r,h,rfl⟩⟩⟩
 unfold aV at h
 rw [List.getElem?_set] at h
 by_cases e:f=f'
 ·subst e
  by_cases hl:f < d.wires.length
  ·simp [hl] at h
   refine ⟨d.wires[f],zQ1 hl, ?_⟩
   rw [<-h];simp
  ·simp [hl] at h
 ·simp [e] at h;exact ⟨row',h,rfl⟩
theorem xB {d d':Wd} {k:Nat} (hg:d'.groups=d.groups) (hn:d'.nodes.length=d.nodes.length) (hk:k < d.nodes.length) (hc:bG d' k=bG d k) (hl:∀ g i,dZ d' k g i=dZ d k g i):eu d' k=eu d k:=by
 have h1:∀ v,v<=eu d' k↔v<=eu d k:=by
  intro v
  rw [pq (by rw [hn];exact hk),pq hk,hg,hn,hc]
  simp only [hl]
 have a:=(h1 (eu d' k)).1 (Int.le_refl _)
 have b:=(h1 (eu d k)).2 (Int.le_refl _)
 omega
structure pz (d d':Wd) (n:Nat):Prop where
 alike:Alike d d'
 clk:∀ k,bG d' k=bG d k
 lst:∀ k g i,dZ d' k g i=dZ d k g i
 wire:∀ f t,ay d' f t=ay d f t
 other:∀ k,k≠n->aJ d' k=aJ d k/\bC d' k=bC d k
 told:bC d' n=bC d n++(aJ d n).filter fun m=>decide (m.st<=eu d n)
 held:aJ d' n=(aJ d n).filter fun m=>decide (eu d n < m.st)
 len:(bC d' n).length<=40
 rises:aL (bC d' n)=true
theorem zB {d:Wd} {n:Nat} {p:Wd × Nat} (hh:aL (aJ d n)=true) (h:eB d n=.ok p):n < d.nodes.length/\pz d p.1 n/\p.2=((aJ d n).filter fun m=>decide (m.st<=eu d n)).length:=by
 unfold eB at h
 cases hx:d.nodes[n]? with
 | none=>rw [hx] at h;cases h
 | some x =>
  rw [hx] at h
  obtain ⟨c1,c2,c3,c4,c5⟩:=dH hx
  have e:bW d n x=(aJ d n).filter fun m=>decide (m.st<=eu d n):=by unfold bW;rw [c2,c4]
  simp only at h
  by_cases h1:40 < (x.told++bW d n x).length
  ·rw [if_pos h1] at h;cases h
  ·rw [if_neg h1] at h
   cases h2:aL (x.told++bW d n x)
   ·rw [if_pos h2] at h;cases h
   ·rw [if_neg (by simp [h2])] at h
    have hp:=Except.ok.inj h
    subst hp
    obtain ⟨f1,f2⟩:=filter_le (aJ d n) (eu d n) hh
    refine ⟨cZ hx,⟨jQ _ hx rfl (fun _ r h=>⟨r,h,rfl⟩),fun k=>?_,fun k g i=>?_,fun f t=>rfl,fun k hk=>⟨?_, ?_⟩, ?_, ?_, ?_, ?_⟩,by rw [<-e]⟩
    ·rw [nU _ hx];split
     ·subst k;exact c1.symm
     ·rfl
    ·rw [rz _ hx];split
     ·subst k;exact (c5 g i).symm
     ·rfl
    ·rw [kS _ hx,if_neg hk]
    ·rw [jD _ hx,if_neg hk]
    ·rw [jD _ hx,if_pos rfl,c3,e]
    ·rw [kS _ hx,if_pos rfl]
     show x.held.drop _=_
     rw [e,<-c2,f2]
    ·rw [jD _ hx,if_pos rfl];show (x.told++_).length<=40;omega
    ·rw [jD _ hx,if_pos rfl];exact h2
theorem xE {d:Wd} {n:Nat} {e:Int} (hn:n < d.nodes.length) (h:eB d n=.error e):e=2\/(e=1/\aL (bC d n++(aJ d n).filter fun m=>decide (m.st<=eu d n))=false):=by
 unfold eB at h
 obtain ⟨x,hx⟩:=nT hn
 rw [hx] at h
 obtain ⟨c1,c2,c3,c4,c5⟩:=dH hx
 have e':bW d n x=(aJ d n).filter fun m=>decide (m.st<=eu d n):=by unfold bW;rw [c2,c4]
 simp only at h
 by_cases h1:40 < (x.told++bW d n x).length
 ·rw [if_pos h1] at h;exact .inl (Except.error.inj h).symm
 ·rw [if_neg h1] at h
  cases h2:aL (x.told++bW d n x)
  ·rw [if_pos h2] at h;exact .inr ⟨(Except.error.inj h).symm,by rw [c3,<-e'];exact h2⟩
  ·rw [if_neg (by simp [h2])] at h;cases h
theorem bind_ok {α β:Type} {x:Except Int α} {f:α->Except Int β} {b:β} (h:x.bind f=.ok b):∃ a,x=.ok a/\f a=.ok b:=by
 cases x with
 | error e=>cases h
 | ok a=>exact ⟨a,rfl,h⟩
theorem iQ {α β:Type} {x:Except Int α} {f:α->Except Int β} {e:Int} (h:x.bind f=.error e):x=.error e\/∃ a,x=.ok a/\f a=.error e:=by
 cases x with
 | error e'=>exact .inl (by cases h;rfl)
 | ok a=>exact .inr ⟨a,rfl,h⟩
structure Me (d d':Wd) (n:Nat) (m:Mg):Prop where
 alike:Alike d d'
 clk:∀ k,bG d' k=bG d k
 lst:∀ k g i,dZ d' k g i=dZ d k g i
 wire:∀ f t,ay d' f t=ay d f t
 other:∀ k,k≠n->aJ d' k=aJ d k
 told:∀ k,bC d' k=bC d k
 held:(m.nul=true/\aJ d' n=aJ d n)\/(m.nul=false/\dM m (aJ d n)=0/\aJ d' n=fV m (aJ d n))
theorem BO {d d':Wd} {n:Nat} {m:Mg} (hn:n < d.nodes.length) (h:dW d n m=.ok d'):Me d d' n m:=by
 unfold dW at h
 cases hm:m.nul
 ·rw [hm,if_neg (by simp)] at h
  unfold tV at h
  obtain ⟨x,hx⟩:=nT hn
  obtain ⟨c1,c2,c3,c4,c5⟩:=dH hx
  rw [hx] at h
  simp only at h
  by_cases h1:dM m x.held=0
  ·rw [if_pos h1] at h
   have hp:=Except.ok.inj h
   subst hp
   refine ⟨jQ _ hx rfl (fun _ r h=>⟨r,h,rfl⟩),fun k=>?_,fun k g i=>?_,fun f t=>rfl,fun k hk=>?_,fun k=>?_,.inr ⟨hm,by rw [c2];exact h1, ?_⟩⟩
   ·rw [nU _ hx];split
    ·subst k;exact c1.symm
    ·rfl
   ·rw [rz _ hx];split
    ·subst k;exact (c5 g i).symm
    ·rfl
   ·rw [kS _ hx,if_neg hk]
   ·rw [jD _ hx];split
    ·subst k;exact c3.symm
    ·rfl
   ·rw [kS _ hx,if_pos rfl,c2]
  ·rw [if_neg h1] at h;cases h
 ·rw [hm,if_pos rfl] at h
  have hp:=Except.ok.inj h
  subst hp
  exact ⟨Alike.refl d,fun _=>rfl,fun _ _ _=>rfl,fun _ _=>rfl,fun _ _=>rfl,fun _=>rfl,.inl ⟨hm,rfl⟩⟩
abbrev ng (d:Wd) (m:Mg) (n i f t:Nat):Prop:=f=n/\t < i/\t≠n/\hasB d.groups m.gr t=true
structure Oa (d d':Wd) (m:Mg) (n i:Nat):Prop where
 groups:d'.groups=d.groups
 nodes:d'.nodes=d.nodes
 alike:Alike d d'
 wire:∀ f t,ay d' f t=if ng d m n i f t then ay d f t++[m] else ay d f t
 room:∀ t,t < i->t≠n->hasB d.groups m.gr t=true->(ay d n t).length≠40/\∀ x,(ay d n t).getLast? = some x->x.st < m.st
theorem iL (m:Mg) (n:Nat) (d:Wd) (i:Nat):eZ m n d (i+1)=(eZ m n d i).bind fun d1=>gF m n d1 i:=by
 unfold eZ
 rw [List.range_succ,List.foldlM_append]
 cases h:List.foldlM (gF m n) d (List.range i) with
 | error e=>rfl
 | ok a =>
  show (List.foldlM (gF m n) a [i])=_
  simp only [List.foldlM_cons,List.foldlM_nil]
  show (gF m n a i).bind _=(gF m n a i)
  cases gF m n a i <;> rfl
theorem pI {m:Mg} {n:Nat} {d:Wd} (hr:dQ d) (hn:n < d.nodes.length):∀ (i:Nat) (d':Wd),i<=d.nodes.length->eZ m n d i=.ok d'->Oa d d' m n i
 | 0,d',_,h=>by
  have:=Except.ok.inj h;subst this
  exact ⟨rfl,rfl,Alike.refl d,fun f t=>by rw [if_neg (by unfold ng;omega)],fun t ht=>by omega⟩
 | i+1,d',hi,h=>by
  rw [iL] at h
  obtain ⟨d1,h1,h2⟩:=bind_ok h
  have S:=pI hr hn i d1 (by omega) h1
  have R1:=S.alike.rows hr
  unfold gF at h2
  have hw:ay d1 n i=ay d n i:=by rw [S.wire,if_neg (by unfold ng;omega)]
  by_cases c:i=n\/hasB d1.groups m.gr i=false
  ·rw [if_pos c] at h2
   have:=Except.ok.inj h2;subst this
   rw [S.groups] at c
   refine ⟨S.groups,S.nodes,S.alike,fun f t=>?_,fun t ht h3 h4=>?_⟩
   ·rw [S.wire]
    by_cases g:ng d m n i f t
    ·rw [if_pos g,if_pos (by unfold ng at g ⊢;exact ⟨g.1,by omega,g.2.2⟩)]
    ·rw [if_neg g,if_neg]
     rintro ⟨a1,a2,a3,a4⟩
     by_cases e:t=i
     ·subst e;rcases c with c | c
      ·exact a3 c
      ·rw [c] at a4;cases a4
     ·exact g ⟨a1,by omega,a3,a4⟩
   ·by_cases e:t=i
    ·subst e;rcases c with c | c
     ·exact absurd c h3
     ·rw [c] at h4;cases h4
    ·exact S.room t (by omega) h3 h4
  ·rw [if_neg c] at h2
   have c':i≠n/\hasB d.groups m.gr i=true:=by
    rw [S.groups] at c
    refine ⟨fun e=>c (.inl e), ?_⟩
    cases hb:hasB d.groups m.gr i
    ·exact absurd (.inr hb) c
    ·rfl
   rw [hw] at h2
   by_cases h3:(ay d n i).length=40
   ·rw [if_pos h3] at h2;cases h2
   ·rw [if_neg h3] at h2
    cases h4:qF m (ay d n i)
    ·rw [if_neg (by simp [h4])] at h2
     have:=Except.ok.inj h2;subst this
     refine ⟨S.groups,S.nodes,S.alike.trans (tY _),fun f t=>?_,fun t ht h5 h6=>?_⟩
     ·have hnn:=S.alike.n
      rw [BN _ R1 (by omega) (by omega)]
      by_cases e:f=n/\t=i
      ·obtain ⟨rfl,rfl⟩:=e
       rw [if_pos ⟨rfl,rfl⟩,if_pos ⟨rfl,by omega,c'.1,c'.2⟩]
      ·rw [if_neg e,S.wire]
       by_cases g:ng d m n i f t
       ·rw [if_pos g,if_pos ⟨g.1,by have:=g.2.1;omega,g.2.2⟩]
       ·rw [if_neg g,if_neg]
        rintro ⟨a1,a2,a3,a4⟩
        exact g ⟨a1,by have:t≠i:=fun e2=>e ⟨a1,e2⟩
                       omega,a3,a4⟩
     ·by_cases e:t=i
      ·subst e
       refine ⟨h3,fun x hx=>?_⟩
       unfold qF at h4
       rw [hx] at h4
       simp at h4;omega
      ·exact S.room t (by omega) h5 h6
    ·rw [if_pos h4] at h2;cases h2
theorem uF {d d':Wd} {n:Nat} (R:Right d) (S:pz d d' n):Right d':=by
 have hH:∀ k m,m∈aJ d' k->m∈aJ d k:=by
  intro k m hm
  by_cases h:k=n
  ·subst h;rw [S.held] at hm;exact (List.mem_filter.1 hm).1
  ·rwa [(S.other k h).1] at hm
 refine ⟨by rw [S.alike.g,S.alike.n];exact R.chk,(S.alike.rows R.rows).1,(S.alike.rows R.rows).2,fun k x h=>?_,fun k x g row h hr=>?_,fun k=>by rw [S.clk];exact R.clk k,fun k g i=>by rw [S.lst];exact R.lst k g i,
  fun k g i h=>by rw [S.lst];rw [S.alike.both] at h;exact R.N7 k g i h,fun k=>?_,fun k=>?_,fun f t=>by rw [S.wire];exact R.nR f t,fun k=>?_,fun k=>?_,fun k m hm=>?_,fun k m hm=>?_,fun f t m hm=>?_,fun f t=>by rw [S.wire];exact R.zx f t,fun f=>by rw [S.wire];exact R.BK f⟩
 ·obtain ⟨x0,e1,e2,_⟩:=S.alike.l k x h;rw [e2,S.alike.g];exact R.llen k x0 e1
 ·obtain ⟨x0,e1,_,e3⟩:=S.alike.l k x h
  obtain ⟨r0,e4,e5⟩:=e3 g row hr
  rw [e5,S.alike.n];exact R.lq k x0 g r0 e1 e4
 ·by_cases h:k=n
  ·subst h;rw [S.held];exact zQ5 (List.length_filter_le _ _) (R.qG k)
  ·rw [(S.other k h).1];exact R.qG k
 ·by_cases h:k=n
  ·subst h;exact S.len
  ·rw [(S.other k h).2];exact R.tJ k
 ·by_cases h:k=n
  ·subst h;rw [S.held];rw [cO];exact ((cO _).1 (R.qZ k)).sublist (List.filter_sublist)
  ·rw [(S.other k h).1];exact R.qZ k
 ·by_cases h:k=n
  ·subst h;exact S.rises
  ·rw [(S.other k h).2];exact R.EZ k
 ·rw [S.alike.fine];exact R.tX k m (hH k m hm)
 ·rw [S.alike.fine]
  by_cases h:k=n
  ·subst h;rw [S.told] at hm
   rcases List.mem_append.1 hm with hm | hm
   ·exact R.BM k m hm
   ·exact R.tX k m (List.mem_filter.1 hm).1
  ·rw [(S.other k h).2] at hm;exact R.BM k m hm
 ·rw [S.wire] at hm;rw [S.alike.fine];exact R.qE f t m hm
structure vU (d d':Wd) (n:Nat) (m:Mg):Prop where
 alike:Alike d d'
 lt:n < d.nodes.length
 mfr:m.fr=n
 mst:m.st=bG d n+1
 top:m.st<=1048576
 fine:iC d.nodes.length d.groups m=0
 clk:∀ k,bG d' k=if k=n then m.st else bG d k
 lst:∀ k g i,dZ d' k g i=dZ d k g i
 wire:∀ f t,ay d' f t=if ng d m n d.nodes.length f t then ay d f t++[m] else ay d f t
 room:∀ t,t < d.nodes.length->t≠n->hasB d.groups m.gr t=true->(ay d n t).length≠40/\∀ x,(ay d n t).getLast? = some x->x.st < m.st
 told:∀ k,bC d' k=bC d k
 other:∀ k,k≠n->aJ d' k=aJ d k
 held:(m.nul=true/\aJ d' n=aJ d n)\/(m.nul=false/\dM m (aJ d n)=0/\aJ d' n=fV m (aJ d n))
structure vV (d d':Wd) (f t:Nat) (m:Mg):Prop where
 alike:Alike d d'
 flt:f < d.nodes.length
 tlt:t < d.nodes.length
 clk:∀ k,bG d' k=if k=t then max (bG d t) m.st else bG d k
 lst:∀ k g i,dZ d' k g i=if k=t/\g=m.gr.toNat/\i=f then max (dZ d k g i) m.st else dZ d k g i
 first:ay d f t=m::ay d' f t
 wire:∀ f' t',¬ (f'=f/\t'=t)->ay d' f' t'=ay d f' t'
 told:∀ k,bC d' k=bC d k
 other:∀ k,k≠t->aJ d' k=aJ d k
 held:(m.nul=true/\aJ d' t=aJ d t)\/(m.nul=false/\dM m (aJ d t)=0/\aJ d' t=fV m (aJ d t))
def zy (d:Wd) (n g:Int) (nul:Bool) (body:ByteArray):Mg:=⟨n,g,bG d n.toNat+1,nul,body⟩
def jR (d:Wd) (n g:Int) (nul:Bool) (body:ByteArray):Except Int Wd :=
 (eZ (zy d n g nul body) n.toNat (lV d n.toNat (bG d n.toNat+1)) d.nodes.length).bind fun d2=>dW d2 n.toNat (zy d n g nul body)
def fu (d:Wd) (f t:Nat):Except Int Wd:=match ay d f t with | []=>.error 7 | m::rest=>dW (mD d f t m rest) t m
theorem EU (d:Wd) (n g:Int) (nul:Bool) (body:ByteArray):fI d n g nul body=if bS d n g body.size=0 then (jR d n g nul body).bind fun d3=>(eB d3 n.toNat).bind fun p=>.ok p.1 else .error (bS d n g body.size):=by
 unfold fI jR zy
 split
 ·cases eZ ⟨n,g,bG d n.toNat+1,nul,body⟩ n.toNat (lV d n.toNat (bG d n.toNat+1)) d.nodes.length <;> rfl
 ·rfl
theorem EW (d:Wd) (f t:Nat):fJ d f t=(fu d f t).bind fun d3=>(eB d3 t).bind fun p=>.ok p.1:=by
 unfold fJ fu
 cases ay d f t <;> rfl
theorem uJ {d:Wd} {n g:Int} {s:Nat} (h:bS d n g s=0):(0<=n/\n < d.nodes.length)/\(0<=g/\g < d.groups.length)/\hasB d.groups g n=true/\s<=8/\bG d n.toNat≠1048576:=by
 unfold bS at h
 split at h
 ·cases h
 ·next c =>
  split at h
  ·cases h
  ·next c2 =>
   split at h
   ·cases h
   ·split at h
    ·cases h
    ·next c4 =>
     simp only [inB] at c
     simp at c c2
     exact ⟨by omega,by omega,c2,by omega,c4⟩
theorem zK {d:Wd} {n:Nat} {x:Nd} (hx:d.nodes[n]? = some x) (c:Int):lV d n c=setNode d n { x with clock:=c }:=by unfold lV;rw [hx]
theorem Ke {a b:Wd} (h:a.nodes=b.nodes) (k:Nat):bG a k=bG b k:=by unfold bG;rw [h]
theorem zA {d d3:Wd} {n g:Int} {nul:Bool} {body:ByteArray} (R:Right d) (hE:bS d n g body.size=0) (hb:nul=true->body.size=0) (h:jR d n g nul body=.ok d3):vU d d3 n.toNat (zy d n g nul body):=by
 obtain ⟨hn,hg,hm,hs,hc⟩:=uJ hE
 have hnt:((n.toNat:Nat):Int)=n:=by omega
 have hlt:n.toNat < d.nodes.length:=by omega
 obtain ⟨x,hx⟩:=nT hlt
 obtain ⟨c1,c2,c3,c4,c5⟩:=dH hx
 unfold jR at h
 obtain ⟨d2,h1,h2⟩:=bind_ok h
 rw [zK hx] at h1
 have A0:Alike d (setNode d n.toNat { x with clock:=bG d n.toNat+1 }):=jQ _ hx rfl (fun _ r h=>⟨r,h,rfl⟩)
 have S1:=pI (A0.rows R.rows) (by rw [A0.n];exact hlt) d.nodes.length d2 (by rw [A0.n];exact Nat.le_refl _) h1
 have S2:=BO (by rw [S1.alike.n,A0.n];exact hlt) h2
 have G:∀ f t,ng (setNode d n.toNat { x with clock:=bG d n.toNat+1 }) (zy d n g nul body) n.toNat d.nodes.length f t↔ng d (zy d n g nul body) n.toNat d.nodes.length f t:=fun f t=>Iff.rfl
 have PG:=R.clk n.toNat
 have e2:∀ k,bG d2 k=bG (setNode d n.toNat { x with clock:=bG d n.toNat+1 }) k:=fun k=>Ke S1.nodes k
 have e3:∀ k,aJ d2 k=aJ d k:=fun k=>by
  unfold aJ;rw [S1.nodes,cB _ hx]
  by_cases h:k=n.toNat
  ·subst h;simp [hx]
  ·simp [h]
 have e4:∀ k,bC d2 k=bC d k:=fun k=>by
  unfold bC;rw [S1.nodes,cB _ hx]
  by_cases h:k=n.toNat
  ·subst h;simp [hx]
  ·simp [h]
 have e5:∀ k g i,dZ d2 k g i=dZ d k g i:=fun k g i=>by
  unfold dZ;rw [S1.nodes,cB _ hx]
  by_cases h:k=n.toNat
  ·subst h;simp [hx]
  ·simp [h]
 refine ⟨(A0.trans S1.alike).trans S2.alike,hlt,hnt.symm,rfl,by show bG d n.toNat+1<=_;omega, ?_,fun k=>?_,fun k g i=>(S2.lst k g i).trans (e5 k g i),fun f t=>?_,fun t h3 h4 h5=>S1.room t h3 h4 h5,fun k=>(S2.told k).trans (e4 k),fun k hk=>(S2.other k hk).trans (e3 k), ?_⟩
 ·unfold iC zy
  have:=R.chk
  rw [if_neg (by omega),if_neg,if_neg (by simp [hm]),if_neg]
  ·unfold vP;simp;exact ⟨by omega,fun h=>by simpa using hb h⟩
  ·simp only [inB];simp;omega
 ·rw [S2.clk,e2,nU _ hx];rfl
 ·rw [S2.wire,S1.wire];rfl
 ·rw [<-e3];exact S2.held
theorem zD {d d3:Wd} {f t:Nat} (R:Right d) (hf:f < d.nodes.length) (ht:t < d.nodes.length) (h:fu d f t=.ok d3):∃ m,vV d d3 f t m:=by
 unfold fu at h
 cases hw:ay d f t with
 | nil=>rw [hw] at h;cases h
 | cons m rest =>
  rw [hw] at h
  refine ⟨m, ?_⟩
  have hm:=R.qE f t m (by rw [hw];simp)
  obtain ⟨x,hx⟩:=nT ht
  obtain ⟨c1,c2,c3,c4,c5⟩:=dH hx
  have BP:0<=m.gr/\m.gr < d.groups.length:=by
   have h1:=hm.1
   unfold jh at h1;rw [Bool.and_eq_true] at h1
   have h2:=h1.2
   unfold hasB at h2;simp at h2;omega
  obtain ⟨row,hrow⟩:∃ row,x.last[m.gr.toNat]? = some row:=⟨_,zQ1 (by rw [R.llen t x hx];omega)⟩
  have hrl:=R.lq t x m.gr.toNat row hx hrow
  have A1:Alike d (aV d f t rest):=tY rest
  have hx1:(aV d f t rest).nodes[t]? = some x:=hx
  have eC:mD d f t m rest=setNode (aV d f t rest) t (ni x m f):=by unfold mD;rw [hx]
  have A2:Alike (aV d f t rest) (mD d f t m rest):=by
   rw [eC]
   refine jQ _ hx1 (by simp [ni]) fun g r hr=>?_
   unfold ni at hr
   simp only at hr
   rw [List.getElem?_set] at hr
   by_cases e:m.gr.toNat=g
   ·subst e
    have:m.gr.toNat < x.last.length:=(zQ2.1 hrow).1
    simp only [this,if_true,hrow,Option.getD_some,Option.some.injEq] at hr
    exact ⟨row,hrow,by rw [<-hr];simp⟩
   ·simp [e] at hr;exact ⟨r,hr,rfl⟩
  have S2:=BO (by rw [A2.n,A1.n];exact ht) h
  have e3:∀ k,aJ (mD d f t m rest) k=aJ d k:=fun k=>by
   rw [eC,kS _ hx1]
   split
   ·subst k;exact c2.symm
   ·rfl
  have e4:∀ k,bC (mD d f t m rest) k=bC d k:=fun k=>by
   rw [eC,jD _ hx1]
   split
   ·subst k;exact c3.symm
   ·rfl
  have e5:∀ f' t',ay (mD d f t m rest) f' t'=if f'=f/\t'=t then rest else ay d f' t':=fun f' t'=>by
   rw [eC,Da,BN _ R.rows hf ht]
  refine ⟨(A1.trans A2).trans S2.alike,hf,ht,fun k=>?_,fun k g i=>?_, ?_,fun f' t' hn=>?_,fun k=>(S2.told k).trans (e4 k),fun k hk=>(S2.other k hk).trans (e3 k), ?_⟩
  ·rw [S2.clk,eC,nU _ hx1]
   split
   ·rw [c1];rfl
   ·rfl
  ·rw [S2.lst,eC,rz _ hx1]
   by_cases hk:k=t
   ·subst hk
    rw [if_pos rfl,c5]
    unfold ni dU
    simp only
    rw [List.getElem?_set]
    by_cases e:m.gr.toNat=g
    ·subst e
     have hl:m.gr.toNat < x.last.length:=(zQ2.1 hrow).1
     simp only [hl,if_true,hrow,Option.getD_some,true_and]
     rw [List.getElem?_set]
     by_cases e2:f=i
     ·subst e2
      have:f < row.length:=by rw [hrl];exact hf
      simp [this]
     ·have:¬ i=f:=fun e=>e2 e.symm
      simp [e2,this]
    ·have:¬ g=m.gr.toNat:=fun e2=>e e2.symm
     simp [e,this]
   ·simp only [hk,false_and,if_false];rfl
  ·rw [hw,S2.wire,e5,if_pos ⟨rfl,rfl⟩]
  ·rw [S2.wire,e5,if_neg hn]
  ·rw [<-e3];exact S2.held
theorem pF {nodes:Int} {xs:List Int} {m:Mg} (h:iC nodes xs m=0):(0<=m.fr/\m.fr < nodes)/\(0<=m.gr/\m.gr < xs.length)/\(1<=m.st/\m.st<=1048576)/\hasB xs m.gr m.fr=true:=by
 unfold iC at h
 split at h
 ·next c=>exact absurd h c
 ·split at h
  ·cases h
  ·next c =>
   split at h
   ·cases h
   ·next c2 =>
    simp only [inB] at c
    simp at c c2
    exact ⟨by omega,by omega,by omega,c2⟩
theorem pE {d:Wd} {n:Int} {m:Mg}:jh d n m=true↔iC d.nodes.length d.groups m=0/\hasB d.groups m.gr n=true:=by
 unfold jh;rw [Bool.and_eq_true,decide_eq_true_eq]
theorem Kg {l:List Mg} {m:Mg} (h:gq l=true) (hl:∀ x,l.getLast? = some x->x.st < m.st):gq (l++[m])=true/\∀ x∈l,x.st < m.st:=by
 have hp:=(jB _).1 h
 have key:∀ x∈l,x.st < m.st:=by
  rcases List.eq_nil_or_concat l with rfl | ⟨l',y,rfl⟩
  ·simp
  ·intro x hx
   have hy:y.st < m.st:=hl y (by simp)
   rw [List.concat_eq_append] at hx hp
   rcases List.mem_append.1 hx with hx | hx
   ·have:=(List.pairwise_append.1 hp).2.2 x hx y (by simp)
    omega
   ·simp at hx;subst hx;exact hy
 refine ⟨(jB _).2 (List.pairwise_append.2 ⟨hp,by simp,fun a ha b hb=>?_⟩),key⟩
 simp at hb;subst hb;exact key a ha
theorem oG {d d':Wd} {n:Nat} {m:Mg} (R:Right d) (S:vU d d' n m):Right d':=by
 obtain ⟨z1,z2,z3,z4⟩:=pF S.fine
 have hself:jh d n m=true:=pE.2 ⟨S.fine,by rw [<-S.mfr];exact z4⟩
 refine ⟨by rw [S.alike.g,S.alike.n];exact R.chk,(S.alike.rows R.rows).1,(S.alike.rows R.rows).2,fun k x h=>?_,fun k x g row h hr=>?_,fun k=>?_,fun k g i=>by rw [S.lst];exact R.lst k g i,
  fun k g i h=>by rw [S.lst];rw [S.alike.both] at h;exact R.N7 k g i h,fun k=>?_,fun k=>by rw [S.told];exact R.tJ k,fun f t=>?_,fun k=>?_,fun k=>by rw [S.told];exact R.EZ k,fun k x hm=>?_,fun k x hm=>?_,fun f t x hm=>?_,fun f t=>?_,fun f=>?_⟩
 ·obtain ⟨x0,e1,e2,_⟩:=S.alike.l k x h;rw [e2,S.alike.g];exact R.llen k x0 e1
 ·obtain ⟨x0,e1,_,e3⟩:=S.alike.l k x h
  obtain ⟨r0,e4,e5⟩:=e3 g row hr
  rw [e5,S.alike.n];exact R.lq k x0 g r0 e1 e4
 ·rw [S.clk];split
  ·omega
  ·exact R.clk k
 ·by_cases h:k=n
  ·subst h
   rcases S.held with ⟨_,e⟩ | ⟨_,e0,e⟩
   ·rw [e];exact R.qG k
   ·rw [e,kP _ _ e0];have:=(xD e0).2.1;omega
  ·rw [S.other k h];exact R.qG k
 ·rw [S.wire];split
  ·next g=>rw [List.length_append];obtain ⟨rfl,g1,g2,g3⟩:=g;have:=(S.room t g1 g2 g3).1;have:=R.nR f t;simp;omega
  ·exact R.nR f t
 ·by_cases h:k=n
  ·subst h
   rcases S.held with ⟨_,e⟩ | ⟨_,e0,e⟩
   ·rw [e];exact R.qZ k
   ·rw [e];exact zI e0
  ·rw [S.other k h];exact R.qZ k
 ·rw [S.alike.fine]
  by_cases h:k=n
  ·subst h
   rcases S.held with ⟨_,e⟩ | ⟨e2,e0,e⟩
   ·rw [e] at hm;exact R.tX k x hm
   ·rw [e,lU e0] at hm
    rcases hm with rfl | hm
    ·exact ⟨hself,e2⟩
    ·exact R.tX k x hm
  ·rw [S.other k h] at hm;exact R.tX k x hm
 ·rw [S.alike.fine];rw [S.told] at hm;exact R.BM k x hm
 ·rw [S.alike.fine]
  rw [S.wire] at hm
  split at hm
  ·next g =>
   rcases List.mem_append.1 hm with hm | hm
   ·exact R.qE f t x hm
   ·simp at hm;subst hm
    exact ⟨pE.2 ⟨S.fine,g.2.2.2⟩,by rw [S.mfr,g.1]⟩
  ·exact R.qE f t x hm
 ·rw [S.wire];split
  ·next g =>
   obtain ⟨rfl,g1,g2,g3⟩:=g
   exact (Kg (R.zx f t) (S.room t g1 g2 g3).2).1
  ·exact R.zx f t
 ·rw [S.wire,if_neg (by rintro ⟨h1,_,h2,_⟩;exact h2 h1)];exact R.BK f
theorem oH {d d':Wd} {f t:Nat} {m:Mg} (R:Right d) (S:vV d d' f t m):Right d':=by
 have hmem:m∈ay d f t:=by rw [S.first];simp
 obtain ⟨hf1,hf2⟩:=R.qE f t m hmem
 obtain ⟨hf3,hf4⟩:=pE.1 hf1
 obtain ⟨z1,z2,z3,z4⟩:=pF hf3
 have hgr:((m.gr.toNat:Nat):Int)=m.gr:=by omega
 refine ⟨by rw [S.alike.g,S.alike.n];exact R.chk,(S.alike.rows R.rows).1,(S.alike.rows R.rows).2,fun k x h=>?_,fun k x g row h hr=>?_,fun k=>?_,fun k g i=>?_,
  fun k g i h=>?_,fun k=>?_,fun k=>by rw [S.told];exact R.tJ k,fun f' t'=>?_,fun k=>?_,fun k=>by rw [S.told];exact R.EZ k,fun k x hm=>?_,fun k x hm=>?_,fun f' t' x hm=>?_,fun f' t'=>?_,fun f'=>?_⟩
 ·obtain ⟨x0,e1,e2,_⟩:=S.alike.l k x h;rw [e2,S.alike.g];exact R.llen k x0 e1
 ·obtain ⟨x0,e1,_,e3⟩:=S.alike.l k x h
  obtain ⟨r0,e4,e5⟩:=e3 g row hr
  rw [e5,S.alike.n];exact R.lq k x0 g r0 e1 e4
 ·rw [S.clk];have:=R.clk k;split
  ·subst k;omega
  ·exact this
 ·rw [S.lst];have:=R.lst k g i;split <;> omega
 ·rw [S.lst];rw [S.alike.both] at h
  rw [if_neg]
  ·exact R.N7 k g i h
  ·rintro ⟨rfl,rfl,rfl⟩
   unfold vQ at h
   rw [hgr,hf4,<-hf2,z4] at h
   cases h
 ·by_cases h:k=t
  ·subst h
   rcases S.held with ⟨_,e⟩ | ⟨_,e0,e⟩
   ·rw [e];exact R.qG k
   ·rw [e,kP _ _ e0];have:=(xD e0).2.1;omega
  ·rw [S.other k h];exact R.qG k
 ·by_cases h:f'=f/\t'=t
  ·obtain ⟨rfl,rfl⟩:=h
   have:=R.nR f' t';rw [S.first] at this;simp at this;omega
  ·rw [S.wire f' t' h];exact R.nR f' t'
 ·by_cases h:k=t
  ·subst h
   rcases S.held with ⟨_,e⟩ | ⟨_,e0,e⟩
   ·rw [e];exact R.qZ k
   ·rw [e];exact zI e0
  ·rw [S.other k h];exact R.qZ k
 ·rw [S.alike.fine]
  by_cases h:k=t
  ·subst h
   rcases S.held with ⟨_,e⟩ | ⟨e2,e0,e⟩
   ·rw [e] at hm;exact R.tX k x hm
   ·rw [e,lU e0] at hm
    rcases hm with rfl | hm
    ·exact ⟨hf1,e2⟩
    ·exact R.tX k x hm
  ·rw [S.other k h] at hm;exact R.tX k x hm
 ·rw [S.alike.fine];rw [S.told] at hm;exact R.BM k x hm
 ·rw [S.alike.fine]
  by_cases h:f'=f/\t'=t
  ·obtain ⟨rfl,rfl⟩:=h
   exact R.qE f' t' x (by rw [S.first];exact List.mem_cons_of_mem _ hm)
  ·rw [S.wire f' t' h] at hm;exact R.qE f' t' x hm
 ·by_cases h:f'=f/\t'=t
  ·obtain ⟨rfl,rfl⟩:=h
   have:=(jB _).1 (R.zx f' t');rw [S.first] at this
   exact (jB _).2 (List.pairwise_cons.1 this).2
  ·rw [S.wire f' t' h];exact R.zx f' t'
 ·by_cases h:f'=f/\f'=t
  ·obtain ⟨rfl,rfl⟩:=h
   have:=R.BK f';rw [S.first] at this;cases this
  ·rw [S.wire f' f' h];exact R.BK f'
def In (d:Wd) (m:Mg):Prop:=∃ k,m∈aJ d k\/m∈bC d k\/∃ f,m∈ay d f k
structure Inv (d:Wd):Prop where
 right:Right d
 heard:∀ k g i,dZ d k g i<=bG d i
 wire:∀ i k m,m∈ay d i k->m.st<=bG d i/\∀ g,dZ d k g i < m.st
 told:∀ k m,m∈bC d k->m.st<=eu d k
 held:∀ k m,m∈aJ d k->eu d k < m.st
 seen:∀ k m,m∈aJ d k->m.st<=bG d k/\∀ i:Nat,m.fr=i->i≠k->m.st<=dZ d k m.gr.toNat i
 own:∀ m,In d m->m.st<=bG d m.fr.toNat
 uniq:∀ m m',In d m->In d m'->m.st=m'.st->m.fr=m'.fr->m=m'
 all:∀ m k,In d m->m.nul=false->k < d.nodes.length->hasB d.groups m.gr k=true->m∈bC d k\/m∈aJ d k\/(m.fr≠k/\m∈ay d m.fr.toNat k)
end Go.Proofs.YtiiifecfdkjmbaaGreat.Pu
