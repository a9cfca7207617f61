/- Lemmas. -/
import Derived.Test.YtiiifecfdkjmbaaGreatOthers
namespace Go.Proofs.YtiiifecfdkjmbaaGreat.Pu
set_option maxRecDepth 8000
def aA (d:Wd) (f t:Nat):List Mg:=(d.wires[f]?.getD [])[t]?.getD []
def aX (d:Wd) (f t:Nat) (l:List Mg):Wd:={ d with wires:=d.wires.set f ((d.wires[f]?.getD []).set t l) }
def aJ (d:Wd) (k:Nat):Int:=match d.nodes[k]? with | some x=>x.clock | none=>0
def dQ (d:Wd) (k g i:Nat):Int:=match d.nodes[k]? with | some x=>dW x.last g i | none=>0
def aG (d:Wd) (k:Nat):List Mg:=match d.nodes[k]? with | some x=>x.held | none=>[]
def bZ (d:Wd) (k:Nat):List Mg:=match d.nodes[k]? with | some x=>x.told | none=>[]
def eD (d:Wd) (k:Nat):Int:=match d.nodes[k]? with | some x=>uE d k x | none=>0
def setNode (d:Wd) (n:Nat) (x:Nd):Wd:={ d with nodes:=d.nodes.set n x }
def eX (d:Wd) (n:Nat):Except Int (Wd × Nat) :=
 match d.nodes[n]? with
 | none=>.error 4
 | some x =>
  if 40 < (x.told++bX d n x).length then .error 2
  else if aP (x.told++bX d n x)=false then .error 1
  else .ok (setNode d n { x with held:=x.held.drop (bX d n x).length,told:=x.told++bX d n x },(bX d n x).length)
def uT (d:Wd) (n:Nat) (m:Mg):Except Int Wd :=
 match d.nodes[n]? with
 | none=>.error 4
 | some x=>if dP m x.held=0 then .ok (setNode d n { x with held:=gM m x.held }) else .error (dP m x.held)
def dZ (d:Wd) (n:Nat) (m:Mg):Except Int Wd:=if m.nul then .ok d else uT d n m
def rG (m:Mg) (l:List Mg):Bool:=match l.getLast? with | some x=>decide (m.st<=x.st) | none=>false
def gX (m:Mg) (n:Nat) (d:Wd) (k:Nat):Except Int Wd :=
 if k=n\/hasB d.groups m.gr k=false then .ok d
 else if (aA d n k).length=40 then .error 2
 else if rG m (aA d n k) then .error 1
 else .ok (aX d n k (aA d n k++[m]))
def fI (m:Mg) (n:Nat) (d:Wd) (i:Nat):Except Int Wd:=(List.range i).foldlM (gX m n) d
def bS (d:Wd) (n g:Int) (size:Nat):Int :=
 if inB n 0 ((d.nodes.length:Int) - 1)=false\/inB g 0 ((d.groups.length:Int) - 1)=false then 4
 else if hasB d.groups g n=false then 5
 else if 8 < size then 1
 else if aJ d n.toNat=1048576 then 3 else 0
def mE (d:Wd) (n:Nat) (c:Int):Wd:=match d.nodes[n]? with | some x=>setNode d n { x with clock:=c } | none=>d
def fH (d:Wd) (n g:Int) (nul:Bool) (body:ByteArray):Except Int Wd :=
 if bS d n g body.size=0 then
  (fI ⟨n,g,aJ d n.toNat+1,nul,body⟩ n.toNat (mE d n.toNat (aJ d n.toNat+1)) d.nodes.length).bind fun d2 =>
  (dZ d2 n.toNat ⟨n,g,aJ d n.toNat+1,nul,body⟩).bind fun d3 =>
  (eX d3 n.toNat).bind fun p=>.ok p.1
 else .error (bS d n g body.size)
def nS (x:Nd) (m:Mg) (f:Nat):Nd :=
 { x with clock:=max x.clock m.st,last:=x.last.set m.gr.toNat ((x.last[m.gr.toNat]?.getD []).set f (max (dW x.last m.gr.toNat f) m.st)) }
def mV (d:Wd) (f t:Nat) (m:Mg) (rest:List Mg):Wd :=
 match d.nodes[t]? with
 | some x=>setNode (aX d f t rest) t (nS x m f)
 | none=>d
def fO (d:Wd) (f t:Nat):Except Int Wd :=
 match aA d f t with
 | []=>.error 7
 | m::rest=>(dZ (mV d f t m rest) t m).bind fun d3=>(eX d3 t).bind fun p=>.ok p.1
def dY (f t:Nat):Nat->Wd->Except Int Wd
 | 0,d=>.ok d
 | k+1,d=>(fO d f t).bind (dY f t k)
def oK (d:Wd) (f t:Nat):Except Int (Wd × Nat):=(dY f t (aA d f t).length d).bind fun d'=>.ok (d',(aA d f t).length)
def bW (s:Wd × Nat) (p:Nat × Nat):Except Int (Wd × Nat):=(oK s.1 p.1 p.2).bind fun r=>.ok (r.1,s.2+r.2)
def iC (d:Wd):Except Int (Wd × Nat):=(pairs d.nodes.length d.nodes.length).foldlM bW (d,0)
def dA (d:Wd) (p:Nat × Nat):Except Int Wd:=if hasB d.groups p.2 p.1 then fH d p.1 p.2 true ByteArray.empty else .ok d
def Ao (d:Wd):Except Int Wd:=(pairs d.nodes.length d.groups.length).foldlM dA d
def fK (d:Wd):Except Int (Wd × Nat):=(Ao d).bind iC
def iW:Nat->Wd->Except Int Wd
 | 0,d=>.ok d
 | k+1,d=>(fK d).bind fun r=>iW k r.1
def qo (d:Wd):Except Int Wd:=(iC d).bind fun r=>iW 4 r.1
structure Ac where
 kind:Int
 one:Int
 two:Int
 body:ByteArray
def checked {α:Type} (d:Wd) (r:Except Int α):Except Int α:=if aL d=0 then r else .error (aL d)
def jr (d:Wd) (f t:Int):Except Int Wd :=
 if aL d=0 then (if inB f 0 ((d.nodes.length:Int) - 1) && inB t 0 ((d.nodes.length:Int) - 1) then fO d f.toNat t.toNat else .error 4) else .error (aL d)
def doD (d:Wd) (x:Ac):Except Int Wd :=
 if x.kind=1 then checked d (fH d x.one x.two false x.body)
 else if x.kind=2 then checked d (fH d x.one x.two true ByteArray.empty)
 else if x.kind=3 then jr d x.one x.two
 else if x.kind=4 then checked d (qo d)
 else .error 6
def dw (n:Nat) (l:List Int):Wd:=⟨l,List.replicate n ⟨0,List.replicate l.length (List.replicate n 0),[],[]⟩,List.replicate n (List.replicate n [])⟩
structure Right (d:Wd):Prop where
 chk:dF d.nodes.length d.groups=0
 uF:d.wires.length=d.nodes.length
 rlen:∀ (f:Nat) (row:List (List Mg)),d.wires[f]? = some row->row.length=d.nodes.length
 llen:∀ (k:Nat) (x:Nd),d.nodes[k]? = some x->x.last.length=d.groups.length
 lM:∀ (k:Nat) (x:Nd) (g:Nat) (row:List Int),d.nodes[k]? = some x->x.last[g]? = some row->row.length=d.nodes.length
 clk:∀ k,0<=aJ d k/\aJ d k<=1048576
 lst:∀ k g i,0<=dQ d k g i/\dQ d k g i<=1048576
 O7:∀ k g i,wZ d k g i=false->dQ d k g i=0
 rH:∀ k,(aG d k).length<=40
 CQ:∀ k,(bZ d k).length<=40
 oM:∀ f t,(aA d f t).length<=40
 sI:∀ k,aP (aG d k)=true
 Gc:∀ k,aP (bZ d k)=true
 uU:∀ k m,m∈aG d k->jA d k m=true/\m.nul=false
 CS:∀ k m,m∈bZ d k->jA d k m=true/\m.nul=false
 qA:∀ f t m,m∈aA d f t->jA d t m=true/\m.fr=f
 Ae:∀ f t,gU (aA d f t)=true
 CK:∀ f,aA d f f=[]
theorem getD_at {α:Type} {l:List α} {i:Nat} {a x:α} (h:l[i]? = some x):l[i]?.getD a=x:=by rw [h];rfl
theorem IG (d:Wd):iO d=true↔(∀ (k:Nat) (x:Nd),d.nodes[k]? = some x->x.held.length<=40/\x.told.length<=40)/\∀ (f:Nat) (row:List (List Mg)) (t:Nat) (l:List Mg),d.wires[f]? = some row->row[t]? = some l->l.length<=40:=by
 unfold iO iF jg ko;rw [List.all_append,Bool.and_eq_true,List.all_eq_true,List.all_eq_true];simp only [List.mem_flatMap,decide_eq_true_eq];constructor
 ·rintro ⟨h1,h2⟩;refine ⟨fun k x hx=>?_,fun f row t l hr hl=>?_⟩
  ·have hm:=List.mem_of_getElem? hx;exact ⟨h1 _ ⟨x,hm,by simp⟩,h1 _ ⟨x,hm,by simp⟩⟩
  ·exact h2 _ ⟨row,List.mem_of_getElem? hr,List.mem_map.2 ⟨l,List.mem_of_getElem? hl,rfl⟩⟩
 ·rintro ⟨h1,h2⟩;refine ⟨fun n ⟨x,hx,hn⟩=>?_,fun n ⟨row,hr,hn⟩=>?_⟩
  ·obtain ⟨k,hk⟩:=List.getElem?_of_mem hx;obtain ⟨a,b⟩:=h1 k x hk;simp at hn
   rcases hn with rfl | rfl <;> assumption
  ·obtain ⟨l,hl,rfl⟩:=List.mem_map.1 hn;obtain ⟨f,hf⟩:=List.getElem?_of_mem hr;obtain ⟨t,ht⟩:=List.getElem?_of_mem hl;exact h2 f row t l hf ht
theorem yT (d:Wd) (n:Nat) (last:List (List Int)):eF d n last=true↔∀ (g:Nat) (row:List Int),last[g]? = some row->row.length=d.nodes.length/\∀ (k:Nat) (v:Int),row[k]? = some v->fq d n g k v=true:=by
 unfold eF;rw [List.all_eq_true];simp only [List.mem_range];constructor
 ·intro h g row hg;have hl:=(zQ2.1 hg).1;have:=h g hl;rw [getD_at hg] at this;unfold lQ at this;rw [Bool.and_eq_true,List.all_eq_true,decide_eq_true_eq] at this;refine ⟨this.1,fun k v hk=>?_⟩;have h2:=this.2 k (List.mem_range.2 (zQ2.1 hk).1)
  rwa [getD_at hk] at h2
 ·intro h g hg;obtain ⟨row,hr⟩:∃ row,last[g]? = some row:=⟨_,zQ1 hg⟩;obtain ⟨h1,h2⟩:=h g row hr;rw [getD_at hr];unfold lQ;rw [Bool.and_eq_true,List.all_eq_true,decide_eq_true_eq];refine ⟨h1,fun k hk=>?_⟩;have hk':=List.mem_range.1 hk;obtain ⟨v,hv⟩:∃ v,row[k]? = some v:=⟨_,zQ1 hk'⟩;rw [getD_at hv];exact h2 k v hv
theorem II (d:Wd):jm d=true↔∀ (k:Nat) (x:Nd),d.nodes[k]? = some x->aH d k x=true:=by
 unfold jm;rw [List.all_eq_true];simp only [List.mem_range];constructor
 ·intro h k x hx;have:=h k (zQ2.1 hx).1;rw [hx] at this;exact this
 ·intro h k hk
  cases hx:d.nodes[k]? with
  | none=>rfl
  | some x=>exact h k x hx
theorem IJ (d:Wd):fC d=true↔d.wires.length=d.nodes.length/\∀ (f:Nat) (row:List (List Mg)),d.wires[f]? = some row->row.length=d.nodes.length/\∀ (t:Nat) (l:List Mg),row[t]? = some l->aN d f t l=true:=by
 unfold fC;rw [Bool.and_eq_true,decide_eq_true_eq,List.all_eq_true];simp only [List.mem_range];refine and_congr Iff.rfl ?_;constructor
 ·intro h f row hf;have:=h f (zQ2.1 hf).1;rw [getD_at hf] at this;unfold rF at this;rw [Bool.and_eq_true,decide_eq_true_eq,List.all_eq_true] at this;refine ⟨this.1,fun t l hl=>?_⟩;have h2:=this.2 t (List.mem_range.2 (zQ2.1 hl).1)
  rwa [getD_at hl] at h2
 ·intro h f hf;obtain ⟨row,hr⟩:∃ row,d.wires[f]? = some row:=⟨_,zQ1 hf⟩;obtain ⟨h1,h2⟩:=h f row hr;rw [getD_at hr];unfold rF;rw [Bool.and_eq_true,decide_eq_true_eq,List.all_eq_true];refine ⟨h1,fun t ht=>?_⟩;obtain ⟨l,hl⟩:∃ l,row[t]? = some l:=⟨_,zQ1 (List.mem_range.1 ht)⟩;rw [getD_at hl];exact h2 t l hl
theorem oN {d:Wd} {f t:Nat} {row:List (List Mg)} {l:List Mg} (hr:d.wires[f]? = some row) (hl:row[t]? = some l):aA d f t=l:=by
 unfold aA;rw [hr];simp [hl]
theorem jM (d:Wd) (f t:Nat):(aA d f t=[])\/∃ row l,d.wires[f]? = some row/\row[t]? = some l/\aA d f t=l:=by
 unfold aA
 cases hr:d.wires[f]? with
 | none=>left;simp
 | some row =>
  cases hl:row[t]? with
  | none=>left;simp [hl]
  | some l=>right;exact ⟨row,l,rfl,hl,by simp [hl]⟩
theorem xB (last:List (List Int)) (g k:Nat):dW last g k=0\/∃ row,last[g]? = some row/\row[k]? = some (dW last g k):=by
 unfold dW
 cases hr:last[g]? with
 | none=>left;simp
 | some row =>
  cases hl:row[k]? with
  | none=>left;simp [hl]
  | some l=>right;exact ⟨row,rfl,by simp [hl]⟩
theorem sK {last:List (List Int)} {g k:Nat} {row:List Int} {v:Int} (hr:last[g]? = some row) (hl:row[k]? = some v):dW last g k=v:=by
 unfold dW;rw [hr];simp [hl]
theorem dK (d:Wd):aL d=0↔Right d:=by
 have hE:aL d=0↔dF d.nodes.length d.groups=0/\iO d=true/\jm d=true/\fC d=true:=by
  unfold aL;by_cases h:dF d.nodes.length d.groups=0
  ·rw [if_pos h]
   cases hs:iO d <;> cases hn:jm d <;> cases hw:fC d <;> simp [h]
  ·rw [if_neg h];simp [h]
 rw [hE,IG,II,IJ];constructor
 ·rintro ⟨hc,⟨hs1,hs2⟩,hn,hw1,hw2⟩
  have N:∀ (k:Nat) (x:Nd),d.nodes[k]? = some x->(0<=x.clock/\x.clock<=1048576)/\x.last.length=d.groups.length/\(∀ (g:Nat) (row:List Int),x.last[g]? = some row->row.length=d.nodes.length/\∀ (i:Nat) (v:Int),row[i]? = some v->fq d k g i v=true)
    /\ aP x.held=true/\aP x.told=true/\gW x.held=true/\gW x.told=true/\bB d x.held k=true/\bB d x.told k=true:=by
   intro k x hx;have:=hn k x hx;unfold aH mX jh at this;simp only [Bool.and_eq_true,decide_eq_true_eq,inB,yT] at this;obtain ⟨⟨a,b⟩,c,d1,d2,d3,d4,d5,d6⟩:=this;exact ⟨a,b,c,d1,d2,d3,d4,d5,d6⟩
  have C:∀ (k:Nat) (x:Nd) (g i:Nat),d.nodes[k]? = some x->fq d k g i (dW x.last g i)=true\/dW x.last g i=0:=by
   intro k x g i hx;rcases xB x.last g i with h0 | ⟨row,hr,hv⟩
   ·exact .inr h0
   ·exact .inl (((N k x hx).2.2.1 g row hr).2 i _ hv)
  refine ⟨hc,hw1,fun f row h=>(hw2 f row h).1,fun k x h=>(N k x h).2.1,fun k x g row h h2=>((N k x h).2.2.1 g row h2).1, ?_, ?_, ?_, ?_, ?_, ?_, ?_, ?_, ?_, ?_, ?_, ?_, ?_⟩
  ·intro k;unfold aJ
   cases h:d.nodes[k]? with
   | none=>simp
   | some x=>exact (N k x h).1
  ·intro k g i;unfold dQ
   cases h:d.nodes[k]? with
   | none=>simp
   | some x =>
    rcases C k x g i h with h1 | h1
    ·unfold fq at h1;rw [Bool.and_eq_true] at h1;simpa [inB] using h1.1
    ·show 0<=dW x.last g i/\dW x.last g i<=_;rw [h1];omega
  ·intro k g i hb;unfold dQ
   cases h:d.nodes[k]? with
   | none=>rfl
   | some x =>
    rcases C k x g i h with h1 | h1
    ·unfold fq at h1;rw [Bool.and_eq_true,hb] at h1;simpa using h1.2
    ·exact h1
  ·intro k;unfold aG
   cases h:d.nodes[k]? with
   | none=>simp
   | some x=>exact (hs1 k x h).1
  ·intro k;unfold bZ
   cases h:d.nodes[k]? with
   | none=>simp
   | some x=>exact (hs1 k x h).2
  ·intro f t;rcases jM d f t with h | ⟨row,l,hr,hl,h⟩
   ·rw [h];simp
   ·rw [h];exact hs2 f row t l hr hl
  ·intro k;unfold aG
   cases h:d.nodes[k]? with
   | none=>rfl
   | some x=>exact (N k x h).2.2.2.1
  ·intro k;unfold bZ
   cases h:d.nodes[k]? with
   | none=>rfl
   | some x=>exact (N k x h).2.2.2.2.1
  ·intro k m hm;unfold aG at hm
   cases h:d.nodes[k]? with
   | none=>rw [h] at hm;simp at hm
   | some x =>
    rw [h] at hm;obtain ⟨_,_,_,_,_,e1,e2,e3,e4⟩:=N k x h;unfold gW at e1;unfold bB at e3;rw [List.all_eq_true] at e1 e3;exact ⟨e3 m hm,by simpa using e1 m hm⟩
  ·intro k m hm;unfold bZ at hm
   cases h:d.nodes[k]? with
   | none=>rw [h] at hm;simp at hm
   | some x =>
    rw [h] at hm;obtain ⟨_,_,_,_,_,e1,e2,e3,e4⟩:=N k x h;unfold gW at e2;unfold bB at e4;rw [List.all_eq_true] at e2 e4;exact ⟨e4 m hm,by simpa using e2 m hm⟩
  ·intro f t m hm;rcases jM d f t with h | ⟨row,l,hr,hl,h⟩
   ·rw [h] at hm;simp at hm
   ·rw [h] at hm;have:=(hw2 f row hr).2 t l hl;unfold aN kG bB at this;simp only [Bool.and_eq_true,List.all_eq_true,decide_eq_true_eq] at this;exact ⟨this.2.1 m hm,this.1.1 m hm⟩
  ·intro f t;rcases jM d f t with h | ⟨row,l,hr,hl,h⟩
   ·rw [h];rfl
   ·rw [h];have:=(hw2 f row hr).2 t l hl;unfold aN kG at this;simp only [Bool.and_eq_true] at this;exact this.1.2
  ·intro f;rcases jM d f f with h | ⟨row,l,hr,hl,h⟩
   ·exact h
   ·rw [h];have:=(hw2 f row hr).2 f l hl;unfold aN at this;simp only [Bool.and_eq_true] at this;exact zQ6 (by simpa using this.2.2)
 ·intro R
  have H:∀ (k:Nat) (x:Nd),d.nodes[k]? = some x->aG d k=x.held/\bZ d k=x.told/\aJ d k=x.clock/\∀ g i,dQ d k g i=dW x.last g i:=by
   intro k x h;unfold aG bZ aJ dQ;rw [h];exact ⟨rfl,rfl,rfl,fun _ _=>rfl⟩
  refine ⟨R.chk,⟨fun k x h=>?_,fun f row t l hr hl=>?_⟩,fun k x h=>?_,R.uF,fun f row hr=>⟨R.rlen f row hr,fun t l hl=>?_⟩⟩
  ·obtain ⟨h1,h2,_,_⟩:=H k x h;rw [<-h1,<-h2];exact ⟨R.rH k,R.CQ k⟩
  ·rw [<-oN hr hl];exact R.oM f t
  ·obtain ⟨h1,h2,h3,h4⟩:=H k x h;unfold aH mX jh;simp only [Bool.and_eq_true,decide_eq_true_eq,inB,yT];refine ⟨⟨h3 ▸ R.clk k,R.llen k x h⟩,fun g row hr=>⟨R.lM k x g row h hr,fun i v hv=>?_⟩,h1 ▸ R.sI k,h2 ▸ R.Gc k, ?_, ?_, ?_, ?_⟩
   ·have e:=sK hr hv;have l1:=R.lst k g i;have l2:=R.O7 k g i;rw [h4,e] at l1 l2;unfold fq;rw [Bool.and_eq_true];refine ⟨by simpa [inB] using l1, ?_⟩;cases hb:wZ d k g i
    ·simp [l2 hb]
    ·rfl
   ·unfold gW;rw [List.all_eq_true];intro m hm;have:=(R.uU k m (h1 ▸ hm)).2;simp [this]
   ·unfold gW;rw [List.all_eq_true];intro m hm;have:=(R.CS k m (h2 ▸ hm)).2;simp [this]
   ·unfold bB;rw [List.all_eq_true];intro m hm;exact (R.uU k m (h1 ▸ hm)).1
   ·unfold bB;rw [List.all_eq_true];intro m hm;exact (R.CS k m (h2 ▸ hm)).1
  ·have e:=oN hr hl;unfold aN kG bB;simp only [Bool.and_eq_true,List.all_eq_true,decide_eq_true_eq];refine ⟨⟨fun m hm=>(R.qA f t m (e ▸ hm)).2,e ▸ R.Ae f t⟩,fun m hm=>(R.qA f t m (e ▸ hm)).1, ?_⟩;by_cases hft:f=t
   ·subst hft;rw [R.CK f] at e;subst e;simp
   ·simp [hft]
/-! Lists of messages that rise. -/
theorem CU (a b:Mg):lessM a b=true↔a.st < b.st\/(a.st=b.st/\a.fr < b.fr):=by
 unfold lessM;simp
theorem oO {a b c:Mg} (h1:lessM a b=true) (h2:lessM b c=true):lessM a c=true:=by
 rw [CU] at *;omega
theorem gq:∀ l:List Mg,aP l=true↔l.Pairwise (fun a b=>lessM a b=true)
 | []=>by simp [aP]
 | [a]=>by simp [aP]
 | a::b::r=>by
  rw [aP,Bool.and_eq_true,gq (b::r),List.pairwise_cons (a:=a)];constructor
  ·rintro ⟨h1,h2⟩;refine ⟨fun x hx=>?_,h2⟩;rcases List.mem_cons.1 hx with rfl | hx
   ·exact h1
   ·exact oO h1 ((List.pairwise_cons.1 h2).1 x hx)
  ·rintro ⟨h1,h2⟩;exact ⟨h1 b (by simp),h2⟩
theorem jN:∀ l:List Mg,gU l=true↔l.Pairwise (fun a b=>a.st < b.st)
 | []=>by simp [gU]
 | [a]=>by simp [gU]
 | a::b::r=>by
  rw [gU,Bool.and_eq_true,jN (b::r),List.pairwise_cons (a:=a),decide_eq_true_eq];constructor
  ·rintro ⟨h1,h2⟩;refine ⟨fun x hx=>?_,h2⟩;rcases List.mem_cons.1 hx with rfl | hx
   ·exact h1
   ·have:=(List.pairwise_cons.1 h2).1 x hx;omega
  ·rintro ⟨h1,h2⟩;exact ⟨h1 b (by simp),h2⟩
theorem filter_le:∀ (l:List Mg) (v:Int),aP l=true ->
  l.take (l.filter fun m=>decide (m.st<=v)).length=l.filter (fun m=>decide (m.st<=v))/\l.drop (l.filter fun m=>decide (m.st<=v)).length=l.filter (fun m=>decide (v < m.st))
 | [],v,_=>by simp
 | a::r,v,h=>by
  have hp:=(gq _).1 h;obtain ⟨h1,h2⟩:=List.pairwise_cons.1 hp;obtain ⟨e1,e2⟩:=filter_le r v ((gq _).2 h2);by_cases ha:a.st<=v
  ·have hb:¬ v < a.st:=by omega
   simp [ha,hb,e1,e2]
  ·have hb:v < a.st:=by omega
   have hr:∀ x∈r,v < x.st:=fun x hx=>by have:=h1 x hx;rw [CU] at this;omega
   have e3:r.filter (fun m=>decide (m.st<=v))=[]:=by
    rw [List.filter_eq_nil_iff];intro x hx;have:=hr x hx;simp;omega
   have e4:r.filter (fun m=>decide (v < m.st))=r:=by
    rw [List.filter_eq_self];intro x hx;have:=hr x hx;simp;omega
   simp [ha,hb,e3,e4]
theorem mD {m:Mg} {ms:List Mg} (h:dP m ms=0) (x:Mg):x∈gM m ms↔x=m\/x∈ms:=by
 unfold gM;rw [if_pos h]
 have:x∈ms↔x∈ms.take (dB m ms)\/x∈ms.drop (dB m ms):=by
  rw [<-List.mem_append,List.take_append_drop]
 rw [this];simp only [List.mem_append,List.mem_singleton];constructor
 ·rintro ((h | h) | h)
  ·exact .inr (.inl h)
  ·exact .inl h
  ·exact .inr (.inr h)
 ·rintro (h | h | h)
  ·exact .inl (.inr h)
  ·exact .inl (.inl h)
  ·exact .inr h
theorem yU (m:Mg):∀ ms:List Mg,∀ x∈ms.take (dB m ms),lessM x m=true
 | [],x,h=>by simp at h
 | y::r,x,h=>by
  unfold dB at h;cases hl:lessM y m
  ·simp [hl] at h
  ·simp [hl] at h;rcases h with rfl | h
   ·exact hl
   ·exact yU m r x h
theorem yu {m:Mg} {ms:List Mg} (h:dP m ms=0):aP ms=true/\ms.length < 40/\∀ x,ms[dB m ms]? = some x->lessM m x=true:=by
 unfold dP at h;cases hr:aP ms
 ·simp [hr] at h
 ·simp only [hr] at h;by_cases hl:40<=ms.length
  ·simp [hl] at h
  ·refine ⟨rfl,by omega,fun x hx=>?_⟩;simp only [hl,hx] at h;cases hm:lessM m x
   ·simp [hm] at h
   ·rfl
theorem Aq {m:Mg} {ms:List Mg} (h:dP m ms=0):aP (gM m ms)=true:=by
 obtain ⟨h1,h2,h3⟩:=yu h;have hp:=(gq _).1 h1;rw [gq];unfold gM;rw [if_pos h,List.append_assoc];have ht:=List.take_append_drop (dB m ms) ms;rw [<-ht] at hp;obtain ⟨p1,p2,p3⟩:=List.pairwise_append.1 hp
 have hd:∀ x∈ms.drop (dB m ms),lessM m x=true:=by
  intro x hx
  cases hdd:ms.drop (dB m ms) with
  | nil=>rw [hdd] at hx;simp at hx
  | cons y r =>
   have hy:ms[dB m ms]? = some y:=by
    have:=congrArg (·[0]?) hdd;simpa using this
   have hmy:=h3 y hy;rw [hdd] at hx p2;rcases List.mem_cons.1 hx with rfl | hx
   ·exact hmy
   ·exact oO hmy ((List.pairwise_cons.1 p2).1 x hx)
 refine List.pairwise_append.2 ⟨p1,List.pairwise_append.2 ⟨by simp,p2,fun a ha b hb=>?_⟩,fun a ha b hb=>?_⟩
 ·simp at ha;subst ha;exact hd b hb
 ·rcases List.mem_append.1 hb with hb | hb
  ·simp at hb;subst hb;exact yU _ _ a ha
  ·exact p3 a ha b hb
/-! How far: the greatest number that is below all. -/
theorem JY (d:Wd) (n:Nat) (x:Nd) (v:Int):∀ (l:List (Nat × Nat)) (acc:Int),v<=l.foldl (oz d n x) acc↔v<=acc/\∀ p∈l,kV d n p=true->v<=dW x.last p.1 p.2
 | [],acc=>by simp
 | p::l,acc=>by
  rw [List.foldl_cons,JY d n x v l];unfold oz;simp only [List.mem_cons,forall_eq_or_imp];cases ho:kV d n p
  ·simp
  ·simp only [if_true,true_implies]
   split <;> constructor <;> rintro ⟨h1,h2⟩ <;> refine ⟨?_, ?_⟩
   ·omega
   ·exact ⟨h1,h2⟩
   ·exact h2.1
   ·exact h2.2
   ·exact h1
   ·exact ⟨by omega,h2⟩
   ·omega
   ·exact h2.2
theorem nI (G N g k:Nat):(g,k)∈pairs G N↔g < G/\k < N:=by
 unfold pairs;simp
theorem Ar (d:Wd) (n g k:Nat):kV d n (g,k)=true↔k≠n/\hasB d.groups g n=true/\hasB d.groups g k=true:=by
 unfold kV;simp;intro _ _;omega
theorem JX {xs:List Int} {g:Nat} {n:Int} (h:hasB xs g n=true):g < xs.length:=by
 unfold hasB at h;simp at h;omega
theorem O8 (d:Wd) (n:Nat) (x:Nd) (v:Int):v<=uE d n x↔v<=x.clock/\∀ g k:Nat,k < d.nodes.length->k≠n->hasB d.groups g n=true->hasB d.groups g k=true->v<=dW x.last g k:=by
 unfold uE;rw [JY];refine and_congr Iff.rfl ⟨fun h g k hk hn h1 h2=>h (g,k) ((nI _ _ _ _).2 ⟨JX h1,hk⟩) ((Ar _ _ _ _).2 ⟨hn,h1,h2⟩),fun h p hp ho=>?_⟩;obtain ⟨g,k⟩:=p;obtain ⟨h0,h1,h2⟩:=(Ar _ _ _ _).1 ho;exact h g k ((nI _ _ _ _).1 hp).2 h0 h1 h2
theorem nP {d:Wd} {n:Nat} (hn:n < d.nodes.length) (v:Int):v<=eD d n↔v<=aJ d n/\∀ g k:Nat,k < d.nodes.length->k≠n->hasB d.groups g n=true->hasB d.groups g k=true->v<=dQ d n g k:=by
 have hx:d.nodes[n]? = some d.nodes[n]:=zQ1 hn;unfold eD aJ dQ;rw [hx];exact O8 d n _ v
structure Alike (d d':Wd):Prop where
 g:d'.groups=d.groups
 n:d'.nodes.length=d.nodes.length
 w:d'.wires.length=d.wires.length
 r:∀ (f:Nat) (row':List (List Mg)),d'.wires[f]? = some row'->∃ row,d.wires[f]? = some row/\row'.length=row.length
 l:∀ (k:Nat) (x':Nd),d'.nodes[k]? = some x'->∃ x,d.nodes[k]? = some x/\x'.last.length=x.last.length/\∀ (g:Nat) (row':List Int),x'.last[g]? = some row'->∃ row,x.last[g]? = some row/\row'.length=row.length
theorem Alike.refl (d:Wd):Alike d d:=⟨rfl,rfl,rfl,fun _ r h=>⟨r,h,rfl⟩,fun _ x h=>⟨x,h,rfl,fun _ r h=>⟨r,h,rfl⟩⟩⟩
theorem Alike.trans {a b c:Wd} (h:Alike a b) (k:Alike b c):Alike a c:=by
 refine ⟨k.g.trans h.g,k.n.trans h.n,k.w.trans h.w,fun f row hr=>?_,fun i x hx=>?_⟩
 ·obtain ⟨r1,e1,e2⟩:=k.r f row hr;obtain ⟨r2,e3,e4⟩:=h.r f r1 e1;exact ⟨r2,e3,e2.trans e4⟩
 ·obtain ⟨x1,e1,e2,e3⟩:=k.l i x hx;obtain ⟨x2,e4,e5,e6⟩:=h.l i x1 e1;refine ⟨x2,e4,e2.trans e5,fun g row hr=>?_⟩;obtain ⟨r1,f1,f2⟩:=e3 g row hr;obtain ⟨r2,f3,f4⟩:=e6 g r1 f1;exact ⟨r2,f3,f2.trans f4⟩
theorem Alike.fine {d d':Wd} (h:Alike d d') (n:Int) (m:Mg):jA d' n m=jA d n m:=by unfold jA;rw [h.g,h.n]
theorem Alike.both {d d':Wd} (h:Alike d d') (n g k:Nat):wZ d' n g k=wZ d n g k:=by unfold wZ;rw [h.g]
theorem oP {d:Wd} {n:Nat} (hn:n < d.nodes.length):∃ x,d.nodes[n]? = some x:=⟨_,zQ1 hn⟩
theorem dz {d:Wd} {n:Nat} {x:Nd} (h:d.nodes[n]? = some x):n < d.nodes.length:=(zQ2.1 h).1
theorem cZ {d:Wd} {n:Nat} {x:Nd} (y:Nd) (hx:d.nodes[n]? = some x) (k:Nat):(setNode d n y).nodes[k]? = if k=n then some y else d.nodes[k]?:=by
 unfold setNode;show (d.nodes.set n y)[k]? = _;rw [List.getElem?_set];by_cases h:n=k
 ·subst h;simp [dz hx]
 ·have:¬ k=n:=fun e=>h e.symm;simp [h,this]
theorem kC {d:Wd} {n:Nat} {x:Nd} (y:Nd) (hx:d.nodes[n]? = some x) (hl:y.last.length=x.last.length) (hr:∀ (g:Nat) (row':List Int),y.last[g]? = some row'->∃ row,x.last[g]? = some row/\row'.length=row.length):Alike d (setNode d n y):=by
 refine ⟨rfl,by simp [setNode],rfl,fun _ r h=>⟨r,h,rfl⟩,fun k x' h=>?_⟩;rw [cZ y hx] at h;by_cases hk:k=n
 ·subst hk;simp at h;subst h;exact ⟨x,hx,hl,hr⟩
 ·rw [if_neg hk] at h;exact ⟨x',h,rfl,fun _ r h=>⟨r,h,rfl⟩⟩
theorem oQ {d:Wd} {n:Nat} {x:Nd} (y:Nd) (hx:d.nodes[n]? = some x) (k:Nat):aJ (setNode d n y) k=if k=n then y.clock else aJ d k:=by
 unfold aJ;rw [cZ y hx];by_cases h:k=n <;> simp only [h,if_true,if_false]
theorem sM {d:Wd} {n:Nat} {x:Nd} (y:Nd) (hx:d.nodes[n]? = some x) (k g i:Nat):dQ (setNode d n y) k g i=if k=n then dW y.last g i else dQ d k g i:=by
 unfold dQ;rw [cZ y hx];by_cases h:k=n <;> simp only [h,if_true,if_false]
theorem lD {d:Wd} {n:Nat} {x:Nd} (y:Nd) (hx:d.nodes[n]? = some x) (k:Nat):aG (setNode d n y) k=if k=n then y.held else aG d k:=by
 unfold aG;rw [cZ y hx];by_cases h:k=n <;> simp only [h,if_true,if_false]
theorem jO {d:Wd} {n:Nat} {x:Nd} (y:Nd) (hx:d.nodes[n]? = some x) (k:Nat):bZ (setNode d n y) k=if k=n then y.told else bZ d k:=by
 unfold bZ;rw [cZ y hx];by_cases h:k=n <;> simp only [h,if_true,if_false]
theorem DW (d:Wd) (n:Nat) (y:Nd) (f t:Nat):aA (setNode d n y) f t=aA d f t:=rfl
theorem dL {d:Wd} {n:Nat} {x:Nd} (hx:d.nodes[n]? = some x):aJ d n=x.clock/\aG d n=x.held/\bZ d n=x.told/\eD d n=uE d n x/\∀ g i,dQ d n g i=dW x.last g i:=by
 unfold aJ aG bZ eD dQ;rw [hx];exact ⟨rfl,rfl,rfl,rfl,fun _ _=>rfl⟩
def dU (d:Wd):Prop:=d.wires.length=d.nodes.length/\∀ (f:Nat) (row:List (List Mg)),d.wires[f]? = some row->row.length=d.nodes.length
theorem Right.rows {d:Wd} (h:Right d):dU d:=⟨h.uF,h.rlen⟩
theorem Alike.rows {d d':Wd} (h:Alike d d') (r:dU d):dU d':=by
 refine ⟨h.w.trans (r.1.trans h.n.symm),fun f row hr=>?_⟩;obtain ⟨r1,e1,e2⟩:=h.r f row hr;rw [e2,h.n];exact r.2 f r1 e1
theorem CV {d:Wd} {f t:Nat} (l:List Mg) (hr:dU d) (hf:f < d.nodes.length) (ht:t < d.nodes.length) (f' t':Nat):aA (aX d f t l) f' t'=if f'=f/\t'=t then l else aA d f' t':=by
 obtain ⟨row,hrow⟩:∃ row,d.wires[f]? = some row:=⟨_,zQ1 (by rw [hr.1];exact hf)⟩;have hlen:=hr.2 f row hrow;unfold aX aA;show ((d.wires.set f ((d.wires[f]?.getD []).set t l))[f']?.getD [])[t']?.getD []=_;rw [hrow,List.getElem?_set];by_cases h:f=f'
 ·subst h;have:f < d.wires.length:=by rw [hr.1];exact hf
  simp only [this,Option.getD_some,if_true,true_and];rw [List.getElem?_set];by_cases h2:t=t'
  ·subst h2;simp [hlen,ht]
  ·have:¬ t'=t:=fun e=>h2 e.symm;simp [h2,this,hrow]
 ·have:¬ f'=f:=fun e=>h e.symm;simp [h,this]
theorem uV {d:Wd} {f t:Nat} (l:List Mg):Alike d (aX d f t l):=by
 refine ⟨rfl,rfl,by simp [aX],fun f' row' h=>?_,fun _ x h=>⟨x,h,rfl,fun _ r h=>⟨r,h,rfl⟩⟩⟩;unfold aX at h;rw [List.getElem?_set] at h;by_cases e:f=f'
 ·subst e;by_cases hl:f < d.wires.length
  ·simp [hl] at h;refine ⟨d.wires[f],zQ1 hl, ?_⟩;rw [<-h];simp
  ·simp [hl] at h
 ·simp [e] at h;exact ⟨row',h,rfl⟩
theorem yj {d d':Wd} {k:Nat} (hg:d'.groups=d.groups) (hn:d'.nodes.length=d.nodes.length) (hk:k < d.nodes.length) (hc:aJ d' k=aJ d k) (hl:∀ g i,dQ d' k g i=dQ d k g i):eD d' k=eD d k:=by
 have h1:∀ v,v<=eD d' k↔v<=eD d k:=by
  intro v;rw [nP (by rw [hn];exact hk),nP hk,hg,hn,hc];simp only [hl]
 have a:=(h1 (eD d' k)).1 (Int.le_refl _);have b:=(h1 (eD d k)).2 (Int.le_refl _);omega
structure qy (d d':Wd) (n:Nat):Prop where
 alike:Alike d d'
 clk:∀ k,aJ d' k=aJ d k
 lst:∀ k g i,dQ d' k g i=dQ d k g i
 wire:∀ f t,aA d' f t=aA d f t
 other:∀ k,k≠n->aG d' k=aG d k/\bZ d' k=bZ d k
 told:bZ d' n=bZ d n++(aG d n).filter fun m=>decide (m.st<=eD d n)
 held:aG d' n=(aG d n).filter fun m=>decide (eD d n < m.st)
 len:(bZ d' n).length<=40
 rises:aP (bZ d' n)=true
theorem Ag {d:Wd} {n:Nat} {p:Wd × Nat} (hh:aP (aG d n)=true) (h:eX d n=.ok p):n < d.nodes.length/\qy d p.1 n/\p.2=((aG d n).filter fun m=>decide (m.st<=eD d n)).length:=by
 unfold eX at h
 cases hx:d.nodes[n]? with
 | none=>rw [hx] at h;cases h
 | some x =>
  rw [hx] at h;obtain ⟨c1,c2,c3,c4,c5⟩:=dL hx;have e:bX d n x=(aG d n).filter fun m=>decide (m.st<=eD d n):=by unfold bX;rw [c2,c4]
  simp only at h;by_cases h1:40 < (x.told++bX d n x).length
  ·rw [if_pos h1] at h;cases h
  ·rw [if_neg h1] at h;cases h2:aP (x.told++bX d n x)
   ·rw [if_pos h2] at h;cases h
   ·rw [if_neg (by simp [h2])] at h;have hp:=Except.ok.inj h;subst hp;obtain ⟨f1,f2⟩:=filter_le (aG d n) (eD d n) hh;refine ⟨dz hx,⟨kC _ hx rfl (fun _ r h=>⟨r,h,rfl⟩),fun k=>?_,fun k g i=>?_,fun f t=>rfl,fun k hk=>⟨?_, ?_⟩, ?_, ?_, ?_, ?_⟩,by rw [<-e]⟩
    ·rw [oQ _ hx];split
     ·subst k;exact c1.symm
     ·rfl
    ·rw [sM _ hx];split
     ·subst k;exact (c5 g i).symm
     ·rfl
    ·rw [lD _ hx,if_neg hk]
    ·rw [jO _ hx,if_neg hk]
    ·rw [jO _ hx,if_pos rfl,c3,e]
    ·rw [lD _ hx,if_pos rfl];show x.held.drop _=_;rw [e,<-c2,f2]
    ·rw [jO _ hx,if_pos rfl];show (x.told++_).length<=40;omega
    ·rw [jO _ hx,if_pos rfl];exact h2
theorem yw {d:Wd} {n:Nat} {e:Int} (hn:n < d.nodes.length) (h:eX d n=.error e):e=2\/(e=1/\aP (bZ d n++(aG d n).filter fun m=>decide (m.st<=eD d n))=false):=by
 unfold eX at h;obtain ⟨x,hx⟩:=oP hn;rw [hx] at h;obtain ⟨c1,c2,c3,c4,c5⟩:=dL hx;have e':bX d n x=(aG d n).filter fun m=>decide (m.st<=eD d n):=by unfold bX;rw [c2,c4]
 simp only at h;by_cases h1:40 < (x.told++bX d n x).length
 ·rw [if_pos h1] at h;exact .inl (Except.error.inj h).symm
 ·rw [if_neg h1] at h;cases h2:aP (x.told++bX d n x)
  ·rw [if_pos h2] at h;exact .inr ⟨(Except.error.inj h).symm,by rw [c3,<-e'];exact h2⟩
  ·rw [if_neg (by simp [h2])] at h;cases h
theorem bind_ok {α β:Type} {x:Except Int α} {f:α->Except Int β} {b:β} (h:x.bind f=.ok b):∃ a,x=.ok a/\f a=.ok b:=by
 cases x with
 | error e=>cases h
 | ok a=>exact ⟨a,rfl,h⟩
theorem jC {α β:Type} {x:Except Int α} {f:α->Except Int β} {e:Int} (h:x.bind f=.error e):x=.error e\/∃ a,x=.ok a/\f a=.error e:=by
 cases x with
 | error e'=>exact .inl (by cases h;rfl)
 | ok a=>exact .inr ⟨a,rfl,h⟩
structure Nj (d d':Wd) (n:Nat) (m:Mg):Prop where
 alike:Alike d d'
 clk:∀ k,aJ d' k=aJ d k
 lst:∀ k g i,dQ d' k g i=dQ d k g i
 wire:∀ f t,aA d' f t=aA d f t
 other:∀ k,k≠n->aG d' k=aG d k
 told:∀ k,bZ d' k=bZ d k
 held:(m.nul=true/\aG d' n=aG d n)\/(m.nul=false/\dP m (aG d n)=0/\aG d' n=gM m (aG d n))
theorem CW {d d':Wd} {n:Nat} {m:Mg} (hn:n < d.nodes.length) (h:dZ d n m=.ok d'):Nj d d' n m:=by
 unfold dZ at h;cases hm:m.nul
 ·rw [hm,if_neg (by simp)] at h;unfold uT at h;obtain ⟨x,hx⟩:=oP hn;obtain ⟨c1,c2,c3,c4,c5⟩:=dL hx;rw [hx] at h;simp only at h;by_cases h1:dP m x.held=0
  ·rw [if_pos h1] at h;have hp:=Except.ok.inj h;subst hp;refine ⟨kC _ hx rfl (fun _ r h=>⟨r,h,rfl⟩),fun k=>?_,fun k g i=>?_,fun f t=>rfl,fun k hk=>?_,fun k=>?_,.inr ⟨hm,by rw [c2];exact h1, ?_⟩⟩
   ·rw [oQ _ hx];split
    ·subst k;exact c1.symm
    ·rfl
   ·rw [sM _ hx];split
    ·subst k;exact (c5 g i).symm
    ·rfl
   ·rw [lD _ hx,if_neg hk]
   ·rw [jO _ hx];split
    ·subst k;exact c3.symm
    ·rfl
   ·rw [lD _ hx,if_pos rfl,c2]
  ·rw [if_neg h1] at h;cases h
 ·rw [hm,if_pos rfl] at h;have hp:=Except.ok.inj h;subst hp;exact ⟨Alike.refl d,fun _=>rfl,fun _ _ _=>rfl,fun _ _=>rfl,fun _ _=>rfl,fun _=>rfl,.inl ⟨hm,rfl⟩⟩
abbrev nR (d:Wd) (m:Mg) (n i f t:Nat):Prop:=f=n/\t < i/\t≠n/\hasB d.groups m.gr t=true
structure O9 (d d':Wd) (m:Mg) (n i:Nat):Prop where
 groups:d'.groups=d.groups
 nodes:d'.nodes=d.nodes
 alike:Alike d d'
 wire:∀ f t,aA d' f t=if nR d m n i f t then aA d f t++[m] else aA d f t
 room:∀ t,t < i->t≠n->hasB d.groups m.gr t=true->(aA d n t).length≠40/\∀ x,(aA d n t).getLast? = some x->x.st < m.st
theorem jc (m:Mg) (n:Nat) (d:Wd) (i:Nat):fI m n d (i+1)=(fI m n d i).bind fun d1=>gX m n d1 i:=by
 unfold fI;rw [List.range_succ,List.foldlM_append]
 cases h:List.foldlM (gX m n) d (List.range i) with
 | error e=>rfl
 | ok a =>
  show (List.foldlM (gX m n) a [i])=_;simp only [List.foldlM_cons,List.foldlM_nil];show (gX m n a i).bind _=(gX m n a i)
  cases gX m n a i <;> rfl
theorem qB {m:Mg} {n:Nat} {d:Wd} (hr:dU d) (hn:n < d.nodes.length):∀ (i:Nat) (d':Wd),i<=d.nodes.length->fI m n d i=.ok d'->O9 d d' m n i
 | 0,d',_,h=>by
  have:=Except.ok.inj h;subst this;exact ⟨rfl,rfl,Alike.refl d,fun f t=>by rw [if_neg (by unfold nR;omega)],fun t ht=>by omega⟩
 | i+1,d',hi,h=>by
  rw [jc] at h;obtain ⟨d1,h1,h2⟩:=bind_ok h;have S:=qB hr hn i d1 (by omega) h1;have R1:=S.alike.rows hr;unfold gX at h2;have hw:aA d1 n i=aA d n i:=by rw [S.wire,if_neg (by unfold nR;omega)]
  by_cases c:i=n\/hasB d1.groups m.gr i=false
  ·rw [if_pos c] at h2;have:=Except.ok.inj h2;subst this;rw [S.groups] at c;refine ⟨S.groups,S.nodes,S.alike,fun f t=>?_,fun t ht h3 h4=>?_⟩
   ·rw [S.wire];by_cases g:nR d m n i f t
    ·rw [if_pos g,if_pos (by unfold nR at g ⊢;exact ⟨g.1,by omega,g.2.2⟩)]
    ·rw [if_neg g,if_neg];rintro ⟨a1,a2,a3,a4⟩;by_cases e:t=i
     ·subst e;rcases c with c | c
      ·exact a3 c
      ·rw [c] at a4;cases a4
     ·exact g ⟨a1,by omega,a3,a4⟩
   ·by_cases e:t=i
    ·subst e;rcases c with c | c
     ·exact absurd c h3
     ·rw [c] at h4;cases h4
    ·exact S.room t (by omega) h3 h4
  ·rw [if_neg c] at h2
   have c':i≠n/\hasB d.groups m.gr i=true:=by
    rw [S.groups] at c;refine ⟨fun e=>c (.inl e), ?_⟩;cases hb:hasB d.groups m.gr i
    ·exact absurd (.inr hb) c
    ·rfl
   rw [hw] at h2;by_cases h3:(aA d n i).length=40
   ·rw [if_pos h3] at h2;cases h2
   ·rw [if_neg h3] at h2;cases h4:rG m (aA d n i)
    ·rw [if_neg (by simp [h4])] at h2;have:=Except.ok.inj h2;subst this;refine ⟨S.groups,S.nodes,S.alike.trans (uV _),fun f t=>?_,fun t ht h5 h6=>?_⟩
     ·have hnn:=S.alike.n;rw [CV _ R1 (by omega) (by omega)];by_cases e:f=n/\t=i
      ·obtain ⟨rfl,rfl⟩:=e;rw [if_pos ⟨rfl,rfl⟩,if_pos ⟨rfl,by omega,c'.1,c'.2⟩]
      ·rw [if_neg e,S.wire];by_cases g:nR d m n i f t
       ·rw [if_pos g,if_pos ⟨g.1,by have:=g.2.1;omega,g.2.2⟩]
       ·rw [if_neg g,if_neg];rintro ⟨a1,a2,a3,a4⟩
        exact g ⟨a1,by have:t≠i:=fun e2=>e ⟨a1,e2⟩
                       omega,a3,a4⟩
     ·by_cases e:t=i
      ·subst e;refine ⟨h3,fun x hx=>?_⟩;unfold rG at h4;rw [hx] at h4;simp at h4;omega
      ·exact S.room t (by omega) h5 h6
    ·rw [if_pos h4] at h2;cases h2
theorem vG {d d':Wd} {n:Nat} (R:Right d) (S:qy d d' n):Right d':=by
 have hH:∀ k m,m∈aG d' k->m∈aG d k:=by
  intro k m hm;by_cases h:k=n
  ·subst h;rw [S.held] at hm;exact (List.mem_filter.1 hm).1
  ·rwa [(S.other k h).1] at hm
 refine ⟨by rw [S.alike.g,S.alike.n];exact R.chk,(S.alike.rows R.rows).1,(S.alike.rows R.rows).2,fun k x h=>?_,fun k x g row h hr=>?_,fun k=>by rw [S.clk];exact R.clk k,fun k g i=>by rw [S.lst];exact R.lst k g i,
  fun k g i h=>by rw [S.lst];rw [S.alike.both] at h;exact R.O7 k g i h,fun k=>?_,fun k=>?_,fun f t=>by rw [S.wire];exact R.oM f t,fun k=>?_,fun k=>?_,fun k m hm=>?_,fun k m hm=>?_,fun f t m hm=>?_,fun f t=>by rw [S.wire];exact R.Ae f t,fun f=>by rw [S.wire];exact R.CK f⟩
 ·obtain ⟨x0,e1,e2,_⟩:=S.alike.l k x h;rw [e2,S.alike.g];exact R.llen k x0 e1
 ·obtain ⟨x0,e1,_,e3⟩:=S.alike.l k x h;obtain ⟨r0,e4,e5⟩:=e3 g row hr;rw [e5,S.alike.n];exact R.lM k x0 g r0 e1 e4
 ·by_cases h:k=n
  ·subst h;rw [S.held];exact zQ5 (List.length_filter_le _ _) (R.rH k)
  ·rw [(S.other k h).1];exact R.rH k
 ·by_cases h:k=n
  ·subst h;exact S.len
  ·rw [(S.other k h).2];exact R.CQ k
 ·by_cases h:k=n
  ·subst h;rw [S.held];rw [gq];exact ((gq _).1 (R.sI k)).sublist (List.filter_sublist)
  ·rw [(S.other k h).1];exact R.sI k
 ·by_cases h:k=n
  ·subst h;exact S.rises
  ·rw [(S.other k h).2];exact R.Gc k
 ·rw [S.alike.fine];exact R.uU k m (hH k m hm)
 ·rw [S.alike.fine];by_cases h:k=n
  ·subst h;rw [S.told] at hm;rcases List.mem_append.1 hm with hm | hm
   ·exact R.CS k m hm
   ·exact R.uU k m (List.mem_filter.1 hm).1
  ·rw [(S.other k h).2] at hm;exact R.CS k m hm
 ·rw [S.wire] at hm;rw [S.alike.fine];exact R.qA f t m hm
structure xw (d d':Wd) (n:Nat) (m:Mg):Prop where
 alike:Alike d d'
 lt:n < d.nodes.length
 mfr:m.fr=n
 mst:m.st=aJ d n+1
 top:m.st<=1048576
 fine:iP d.nodes.length d.groups m=0
 clk:∀ k,aJ d' k=if k=n then m.st else aJ d k
 lst:∀ k g i,dQ d' k g i=dQ d k g i
 wire:∀ f t,aA d' f t=if nR d m n d.nodes.length f t then aA d f t++[m] else aA d f t
 room:∀ t,t < d.nodes.length->t≠n->hasB d.groups m.gr t=true->(aA d n t).length≠40/\∀ x,(aA d n t).getLast? = some x->x.st < m.st
 told:∀ k,bZ d' k=bZ d k
 other:∀ k,k≠n->aG d' k=aG d k
 held:(m.nul=true/\aG d' n=aG d n)\/(m.nul=false/\dP m (aG d n)=0/\aG d' n=gM m (aG d n))
structure xA (d d':Wd) (f t:Nat) (m:Mg):Prop where
 alike:Alike d d'
 flt:f < d.nodes.length
 tlt:t < d.nodes.length
 clk:∀ k,aJ d' k=if k=t then max (aJ d t) m.st else aJ d k
 lst:∀ k g i,dQ d' k g i=if k=t/\g=m.gr.toNat/\i=f then max (dQ d k g i) m.st else dQ d k g i
 first:aA d f t=m::aA d' f t
 wire:∀ f' t',¬ (f'=f/\t'=t)->aA d' f' t'=aA d f' t'
 told:∀ k,bZ d' k=bZ d k
 other:∀ k,k≠t->aG d' k=aG d k
 held:(m.nul=true/\aG d' t=aG d t)\/(m.nul=false/\dP m (aG d t)=0/\aG d' t=gM m (aG d t))
def uG (d:Wd) (n g:Int) (nul:Bool) (body:ByteArray):Mg:=⟨n,g,aJ d n.toNat+1,nul,body⟩
def kD (d:Wd) (n g:Int) (nul:Bool) (body:ByteArray):Except Int Wd :=
 (fI (uG d n g nul body) n.toNat (mE d n.toNat (aJ d n.toNat+1)) d.nodes.length).bind fun d2=>dZ d2 n.toNat (uG d n g nul body)
def fP (d:Wd) (f t:Nat):Except Int Wd:=match aA d f t with | []=>.error 7 | m::rest=>dZ (mV d f t m rest) t m
theorem FZ (d:Wd) (n g:Int) (nul:Bool) (body:ByteArray):fH d n g nul body=if bS d n g body.size=0 then (kD d n g nul body).bind fun d3=>(eX d3 n.toNat).bind fun p=>.ok p.1 else .error (bS d n g body.size):=by
 unfold fH kD uG;split
 ·cases fI ⟨n,g,aJ d n.toNat+1,nul,body⟩ n.toNat (mE d n.toNat (aJ d n.toNat+1)) d.nodes.length <;> rfl
 ·rfl
theorem F4 (d:Wd) (f t:Nat):fO d f t=(fP d f t).bind fun d3=>(eX d3 t).bind fun p=>.ok p.1:=by
 unfold fO fP
 cases aA d f t <;> rfl
theorem vL {d:Wd} {n g:Int} {s:Nat} (h:bS d n g s=0):(0<=n/\n < d.nodes.length)/\(0<=g/\g < d.groups.length)/\hasB d.groups g n=true/\s<=8/\aJ d n.toNat≠1048576:=by
 unfold bS at h;split at h
 ·cases h
 ·next c =>
  split at h
  ·cases h
  ·next c2 =>
   split at h
   ·cases h
   ·split at h
    ·cases h
    ·next c4 =>
     simp only [inB] at c;simp at c c2;exact ⟨by omega,by omega,c2,by omega,c4⟩
theorem Au {d:Wd} {n:Nat} {x:Nd} (hx:d.nodes[n]? = some x) (c:Int):mE d n c=setNode d n { x with clock:=c }:=by unfold mE;rw [hx]
theorem Lb {a b:Wd} (h:a.nodes=b.nodes) (k:Nat):aJ a k=aJ b k:=by unfold aJ;rw [h]
theorem Af {d d3:Wd} {n g:Int} {nul:Bool} {body:ByteArray} (R:Right d) (hE:bS d n g body.size=0) (hb:nul=true->body.size=0) (h:kD d n g nul body=.ok d3):xw d d3 n.toNat (uG d n g nul body):=by
 obtain ⟨hn,hg,hm,hs,hc⟩:=vL hE;have hnt:((n.toNat:Nat):Int)=n:=by omega
 have hlt:n.toNat < d.nodes.length:=by omega
 obtain ⟨x,hx⟩:=oP hlt;obtain ⟨c1,c2,c3,c4,c5⟩:=dL hx;unfold kD at h;obtain ⟨d2,h1,h2⟩:=bind_ok h;rw [Au hx] at h1
 have A0:Alike d (setNode d n.toNat { x with clock:=aJ d n.toNat+1 }):=kC _ hx rfl (fun _ r h=>⟨r,h,rfl⟩)
 have S1:=qB (A0.rows R.rows) (by rw [A0.n];exact hlt) d.nodes.length d2 (by rw [A0.n];exact Nat.le_refl _) h1;have S2:=CW (by rw [S1.alike.n,A0.n];exact hlt) h2
 have G:∀ f t,nR (setNode d n.toNat { x with clock:=aJ d n.toNat+1 }) (uG d n g nul body) n.toNat d.nodes.length f t↔nR d (uG d n g nul body) n.toNat d.nodes.length f t:=fun f t=>Iff.rfl
 have DX:=R.clk n.toNat
 have e2:∀ k,aJ d2 k=aJ (setNode d n.toNat { x with clock:=aJ d n.toNat+1 }) k:=fun k=>Lb S1.nodes k
 have e3:∀ k,aG d2 k=aG d k:=fun k=>by
  unfold aG;rw [S1.nodes,cZ _ hx];by_cases h:k=n.toNat
  ·subst h;simp [hx]
  ·simp [h]
 have e4:∀ k,bZ d2 k=bZ d k:=fun k=>by
  unfold bZ;rw [S1.nodes,cZ _ hx];by_cases h:k=n.toNat
  ·subst h;simp [hx]
  ·simp [h]
 have e5:∀ k g i,dQ d2 k g i=dQ d k g i:=fun k g i=>by
  unfold dQ;rw [S1.nodes,cZ _ hx];by_cases h:k=n.toNat
  ·subst h;simp [hx]
  ·simp [h]
 refine ⟨(A0.trans S1.alike).trans S2.alike,hlt,hnt.symm,rfl,by show aJ d n.toNat+1<=_;omega, ?_,fun k=>?_,fun k g i=>(S2.lst k g i).trans (e5 k g i),fun f t=>?_,fun t h3 h4 h5=>S1.room t h3 h4 h5,fun k=>(S2.told k).trans (e4 k),fun k hk=>(S2.other k hk).trans (e3 k), ?_⟩
 ·unfold iP uG;have:=R.chk;rw [if_neg (by omega),if_neg,if_neg (by simp [hm]),if_neg]
  ·unfold wY;simp;exact ⟨by omega,fun h=>by simpa using hb h⟩
  ·simp only [inB];simp;omega
 ·rw [S2.clk,e2,oQ _ hx];rfl
 ·rw [S2.wire,S1.wire];rfl
 ·rw [<-e3];exact S2.held
theorem Ah {d d3:Wd} {f t:Nat} (R:Right d) (hf:f < d.nodes.length) (ht:t < d.nodes.length) (h:fP d f t=.ok d3):∃ m,xA d d3 f t m:=by
 unfold fP at h
 cases hw:aA d f t with
 | nil=>rw [hw] at h;cases h
 | cons m rest =>
  rw [hw] at h;refine ⟨m, ?_⟩;have hm:=R.qA f t m (by rw [hw];simp);obtain ⟨x,hx⟩:=oP ht;obtain ⟨c1,c2,c3,c4,c5⟩:=dL hx
  have CX:0<=m.gr/\m.gr < d.groups.length:=by
   have h1:=hm.1;unfold jA at h1;rw [Bool.and_eq_true] at h1;have h2:=h1.2;unfold hasB at h2;simp at h2;omega
  obtain ⟨row,hrow⟩:∃ row,x.last[m.gr.toNat]? = some row:=⟨_,zQ1 (by rw [R.llen t x hx];omega)⟩;have hrl:=R.lM t x m.gr.toNat row hx hrow;have A1:Alike d (aX d f t rest):=uV rest;have hx1:(aX d f t rest).nodes[t]? = some x:=hx;have eC:mV d f t m rest=setNode (aX d f t rest) t (nS x m f):=by unfold mV;rw [hx]
  have A2:Alike (aX d f t rest) (mV d f t m rest):=by
   rw [eC];refine kC _ hx1 (by simp [nS]) fun g r hr=>?_;unfold nS at hr;simp only at hr;rw [List.getElem?_set] at hr;by_cases e:m.gr.toNat=g
   ·subst e;have:m.gr.toNat < x.last.length:=(zQ2.1 hrow).1;simp only [this,if_true,hrow,Option.getD_some,Option.some.injEq] at hr;exact ⟨row,hrow,by rw [<-hr];simp⟩
   ·simp [e] at hr;exact ⟨r,hr,rfl⟩
  have S2:=CW (by rw [A2.n,A1.n];exact ht) h
  have e3:∀ k,aG (mV d f t m rest) k=aG d k:=fun k=>by
   rw [eC,lD _ hx1];split
   ·subst k;exact c2.symm
   ·rfl
  have e4:∀ k,bZ (mV d f t m rest) k=bZ d k:=fun k=>by
   rw [eC,jO _ hx1];split
   ·subst k;exact c3.symm
   ·rfl
  have e5:∀ f' t',aA (mV d f t m rest) f' t'=if f'=f/\t'=t then rest else aA d f' t':=fun f' t'=>by
   rw [eC,DW,CV _ R.rows hf ht]
  refine ⟨(A1.trans A2).trans S2.alike,hf,ht,fun k=>?_,fun k g i=>?_, ?_,fun f' t' hn=>?_,fun k=>(S2.told k).trans (e4 k),fun k hk=>(S2.other k hk).trans (e3 k), ?_⟩
  ·rw [S2.clk,eC,oQ _ hx1];split
   ·rw [c1];rfl
   ·rfl
  ·rw [S2.lst,eC,sM _ hx1];by_cases hk:k=t
   ·subst hk;rw [if_pos rfl,c5];unfold nS dW;simp only;rw [List.getElem?_set];by_cases e:m.gr.toNat=g
    ·subst e;have hl:m.gr.toNat < x.last.length:=(zQ2.1 hrow).1;simp only [hl,if_true,hrow,Option.getD_some,true_and];rw [List.getElem?_set];by_cases e2:f=i
     ·subst e2;have:f < row.length:=by rw [hrl];exact hf
      simp [this]
     ·have:¬ i=f:=fun e=>e2 e.symm;simp [e2,this]
    ·have:¬ g=m.gr.toNat:=fun e2=>e e2.symm;simp [e,this]
   ·simp only [hk,false_and,if_false];rfl
  ·rw [hw,S2.wire,e5,if_pos ⟨rfl,rfl⟩]
  ·rw [S2.wire,e5,if_neg hn]
  ·rw [<-e3];exact S2.held
theorem nH {nodes:Int} {xs:List Int} {m:Mg} (h:iP nodes xs m=0):(0<=m.fr/\m.fr < nodes)/\(0<=m.gr/\m.gr < xs.length)/\(1<=m.st/\m.st<=1048576)/\hasB xs m.gr m.fr=true:=by
 unfold iP at h;split at h
 ·next c=>exact absurd h c
 ·split at h
  ·cases h
  ·next c =>
   split at h
   ·cases h
   ·next c2 =>
    simp only [inB] at c;simp at c c2;exact ⟨by omega,by omega,by omega,c2⟩
theorem nQ {d:Wd} {n:Int} {m:Mg}:jA d n m=true↔iP d.nodes.length d.groups m=0/\hasB d.groups m.gr n=true:=by
 unfold jA;rw [Bool.and_eq_true,decide_eq_true_eq]
theorem Lc {l:List Mg} {m:Mg} (h:gU l=true) (hl:∀ x,l.getLast? = some x->x.st < m.st):gU (l++[m])=true/\∀ x∈l,x.st < m.st:=by
 have hp:=(jN _).1 h
 have key:∀ x∈l,x.st < m.st:=by
  rcases List.eq_nil_or_concat l with rfl | ⟨l',y,rfl⟩
  ·simp
  ·intro x hx;have hy:y.st < m.st:=hl y (by simp);rw [List.concat_eq_append] at hx hp;rcases List.mem_append.1 hx with hx | hx
   ·have:=(List.pairwise_append.1 hp).2.2 x hx y (by simp);omega
   ·simp at hx;subst hx;exact hy
 refine ⟨(jN _).2 (List.pairwise_append.2 ⟨hp,by simp,fun a ha b hb=>?_⟩),key⟩;simp at hb;subst hb;exact key a ha
theorem pU {d d':Wd} {n:Nat} {m:Mg} (R:Right d) (S:xw d d' n m):Right d':=by
 obtain ⟨z1,z2,z3,z4⟩:=nH S.fine;have hself:jA d n m=true:=nQ.2 ⟨S.fine,by rw [<-S.mfr];exact z4⟩
 refine ⟨by rw [S.alike.g,S.alike.n];exact R.chk,(S.alike.rows R.rows).1,(S.alike.rows R.rows).2,fun k x h=>?_,fun k x g row h hr=>?_,fun k=>?_,fun k g i=>by rw [S.lst];exact R.lst k g i,
  fun k g i h=>by rw [S.lst];rw [S.alike.both] at h;exact R.O7 k g i h,fun k=>?_,fun k=>by rw [S.told];exact R.CQ k,fun f t=>?_,fun k=>?_,fun k=>by rw [S.told];exact R.Gc k,fun k x hm=>?_,fun k x hm=>?_,fun f t x hm=>?_,fun f t=>?_,fun f=>?_⟩
 ·obtain ⟨x0,e1,e2,_⟩:=S.alike.l k x h;rw [e2,S.alike.g];exact R.llen k x0 e1
 ·obtain ⟨x0,e1,_,e3⟩:=S.alike.l k x h;obtain ⟨r0,e4,e5⟩:=e3 g row hr;rw [e5,S.alike.n];exact R.lM k x0 g r0 e1 e4
 ·rw [S.clk];split
  ·omega
  ·exact R.clk k
 ·by_cases h:k=n
  ·subst h;rcases S.held with ⟨_,e⟩ | ⟨_,e0,e⟩
   ·rw [e];exact R.rH k
   ·rw [e,lu _ _ e0];have:=(yu e0).2.1;omega
  ·rw [S.other k h];exact R.rH k
 ·rw [S.wire];split
  ·next g=>rw [List.length_append];obtain ⟨rfl,g1,g2,g3⟩:=g;have:=(S.room t g1 g2 g3).1;have:=R.oM f t;simp;omega
  ·exact R.oM f t
 ·by_cases h:k=n
  ·subst h;rcases S.held with ⟨_,e⟩ | ⟨_,e0,e⟩
   ·rw [e];exact R.sI k
   ·rw [e];exact Aq e0
  ·rw [S.other k h];exact R.sI k
 ·rw [S.alike.fine];by_cases h:k=n
  ·subst h;rcases S.held with ⟨_,e⟩ | ⟨e2,e0,e⟩
   ·rw [e] at hm;exact R.uU k x hm
   ·rw [e,mD e0] at hm;rcases hm with rfl | hm
    ·exact ⟨hself,e2⟩
    ·exact R.uU k x hm
  ·rw [S.other k h] at hm;exact R.uU k x hm
 ·rw [S.alike.fine];rw [S.told] at hm;exact R.CS k x hm
 ·rw [S.alike.fine];rw [S.wire] at hm;split at hm
  ·next g =>
   rcases List.mem_append.1 hm with hm | hm
   ·exact R.qA f t x hm
   ·simp at hm;subst hm;exact ⟨nQ.2 ⟨S.fine,g.2.2.2⟩,by rw [S.mfr,g.1]⟩
  ·exact R.qA f t x hm
 ·rw [S.wire];split
  ·next g =>
   obtain ⟨rfl,g1,g2,g3⟩:=g;exact (Lc (R.Ae f t) (S.room t g1 g2 g3).2).1
  ·exact R.Ae f t
 ·rw [S.wire,if_neg (by rintro ⟨h1,_,h2,_⟩;exact h2 h1)];exact R.CK f
theorem pV {d d':Wd} {f t:Nat} {m:Mg} (R:Right d) (S:xA d d' f t m):Right d':=by
 have hmem:m∈aA d f t:=by rw [S.first];simp
 obtain ⟨hf1,hf2⟩:=R.qA f t m hmem;obtain ⟨hf3,hf4⟩:=nQ.1 hf1;obtain ⟨z1,z2,z3,z4⟩:=nH hf3;have hgr:((m.gr.toNat:Nat):Int)=m.gr:=by omega
 refine ⟨by rw [S.alike.g,S.alike.n];exact R.chk,(S.alike.rows R.rows).1,(S.alike.rows R.rows).2,fun k x h=>?_,fun k x g row h hr=>?_,fun k=>?_,fun k g i=>?_,
  fun k g i h=>?_,fun k=>?_,fun k=>by rw [S.told];exact R.CQ k,fun f' t'=>?_,fun k=>?_,fun k=>by rw [S.told];exact R.Gc k,fun k x hm=>?_,fun k x hm=>?_,fun f' t' x hm=>?_,fun f' t'=>?_,fun f'=>?_⟩
 ·obtain ⟨x0,e1,e2,_⟩:=S.alike.l k x h;rw [e2,S.alike.g];exact R.llen k x0 e1
 ·obtain ⟨x0,e1,_,e3⟩:=S.alike.l k x h;obtain ⟨r0,e4,e5⟩:=e3 g row hr;rw [e5,S.alike.n];exact R.lM k x0 g r0 e1 e4
 ·rw [S.clk];have:=R.clk k;split
  ·subst k;omega
  ·exact this
 ·rw [S.lst];have:=R.lst k g i;split <;> omega
 ·rw [S.lst];rw [S.alike.both] at h;rw [if_neg]
  ·exact R.O7 k g i h
  ·rintro ⟨rfl,rfl,rfl⟩;unfold wZ at h;rw [hgr,hf4,<-hf2,z4] at h;cases h
 ·by_cases h:k=t
  ·subst h;rcases S.held with ⟨_,e⟩ | ⟨_,e0,e⟩
   ·rw [e];exact R.rH k
   ·rw [e,lu _ _ e0];have:=(yu e0).2.1;omega
  ·rw [S.other k h];exact R.rH k
 ·by_cases h:f'=f/\t'=t
  ·obtain ⟨rfl,rfl⟩:=h
   have:=R.oM f' t';rw [S.first] at this;simp at this;omega
  ·rw [S.wire f' t' h];exact R.oM f' t'
 ·by_cases h:k=t
  ·subst h;rcases S.held with ⟨_,e⟩ | ⟨_,e0,e⟩
   ·rw [e];exact R.sI k
   ·rw [e];exact Aq e0
  ·rw [S.other k h];exact R.sI k
 ·rw [S.alike.fine];by_cases h:k=t
  ·subst h;rcases S.held with ⟨_,e⟩ | ⟨e2,e0,e⟩
   ·rw [e] at hm;exact R.uU k x hm
   ·rw [e,mD e0] at hm;rcases hm with rfl | hm
    ·exact ⟨hf1,e2⟩
    ·exact R.uU k x hm
  ·rw [S.other k h] at hm;exact R.uU k x hm
 ·rw [S.alike.fine];rw [S.told] at hm;exact R.CS k x hm
 ·rw [S.alike.fine];by_cases h:f'=f/\t'=t
  ·obtain ⟨rfl,rfl⟩:=h
   exact R.qA f' t' x (by rw [S.first];exact List.mem_cons_of_mem _ hm)
  ·rw [S.wire f' t' h] at hm;exact R.qA f' t' x hm
 ·by_cases h:f'=f/\t'=t
  ·obtain ⟨rfl,rfl⟩:=h
   have:=(jN _).1 (R.Ae f' t');rw [S.first] at this
   exact (jN _).2 (List.pairwise_cons.1 this).2
  ·rw [S.wire f' t' h];exact R.Ae f' t'
 ·by_cases h:f'=f/\f'=t
  ·obtain ⟨rfl,rfl⟩:=h
   have:=R.CK f';rw [S.first] at this;cases this
  ·rw [S.wire f' f' h];exact R.CK f'
def In (d:Wd) (m:Mg):Prop:=∃ k,m∈aG d k\/m∈bZ d k\/∃ f,m∈aA d f k
structure Inv (d:Wd):Prop where
 right:Right d
 heard:∀ k g i,dQ d k g i<=aJ d i
 wire:∀ i k m,m∈aA d i k->m.st<=aJ d i/\∀ g,dQ d k g i < m.st
 told:∀ k m,m∈bZ d k->m.st<=eD d k
 held:∀ k m,m∈aG d k->eD d k < m.st
 seen:∀ k m,m∈aG d k->m.st<=aJ d k/\∀ i:Nat,m.fr=i->i≠k->m.st<=dQ d k m.gr.toNat i
 own:∀ m,In d m->m.st<=aJ d m.fr.toNat
 uniq:∀ m m',In d m->In d m'->m.st=m'.st->m.fr=m'.fr->m=m'
 all:∀ m k,In d m->m.nul=false->k < d.nodes.length->hasB d.groups m.gr k=true->m∈bZ d k\/m∈aG d k\/(m.fr≠k/\m∈aA d m.fr.toNat k)
end Go.Proofs.YtiiifecfdkjmbaaGreat.Pu
