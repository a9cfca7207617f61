/- Lemmas. -/
import Derived.Test.YtiiifecfdkjmbaaBoundS
namespace Go.Proofs.Ytiiifecfdkjmbaa.Pu
set_option maxRecDepth 8000
def aG (d:Wd) (f t:Nat):List Mg:=(d.wires[f]?.getD [])[t]?.getD []
def aQ (d:Wd) (f t:Nat) (l:List Mg):Wd:={ d with wires:=d.wires.set f ((d.wires[f]?.getD []).set t l) }
def jF (d:Wd) (k:Nat):Int:=match d.nodes[k]? with | some x=>x.clock | none=>0
def lI (d:Wd) (k g i:Nat):Int:=match d.nodes[k]? with | some x=>bT x.last g i | none=>0
def iZ (d:Wd) (k:Nat):List Mg:=match d.nodes[k]? with | some x=>x.held | none=>[]
def jc (d:Wd) (k:Nat):List Mg:=match d.nodes[k]? with | some x=>x.told | none=>[]
def DC (d:Wd) (k:Nat):Int:=match d.nodes[k]? with | some x=>tq d k x | none=>0
def setNode (d:Wd) (n:Nat) (x:Nd):Wd:={ d with nodes:=d.nodes.set n x }
def jQ (d:Wd) (n:Nat):Except Int (Wd × Nat) :=
 match d.nodes[n]? with
 | none=>.error 4
 | some x =>
  if 40 < (x.told++dU d n x).length then .error 2
  else if aM (x.told++dU d n x)=false then .error 1
  else .ok (setNode d n { x with held:=x.held.drop (dU d n x).length,told:=x.told++dU d n x },(dU d n x).length)
def sI (d:Wd) (n:Nat) (m:Mg):Except Int Wd :=
 match d.nodes[n]? with
 | none=>.error 4
 | some x=>if bV m x.held=0 then .ok (setNode d n { x with held:=eU m x.held }) else .error (bV m x.held)
def eZ (d:Wd) (n:Nat) (m:Mg):Except Int Wd:=if m.nul then .ok d else sI d n m
def oQ (m:Mg) (l:List Mg):Bool:=match l.getLast? with | some x=>decide (m.st<=x.st) | none=>false
def dX (m:Mg) (n:Nat) (d:Wd) (k:Nat):Except Int Wd :=
 if k=n\/hasB d.groups m.gr k=false then .ok d
 else if (aG d n k).length=40 then .error 2
 else if oQ m (aG d n k) then .error 1
 else .ok (aQ d n k (aG d n k++[m]))
def jg (m:Mg) (n:Nat) (d:Wd) (i:Nat):Except Int Wd:=(List.range i).foldlM (dX m n) d
def fP (d:Wd) (n g:Int) (size:Nat):Int :=
 if inB n 0 ((d.nodes.length:Int) - 1)=false\/inB g 0 ((d.groups.length:Int) - 1)=false then 4
 else if hasB d.groups g n=false then 5
 else if 8 < size then 1
 else if jF d n.toNat=1048576 then 3 else 0
def vV (d:Wd) (n:Nat) (c:Int):Wd:=match d.nodes[n]? with | some x=>setNode d n { x with clock:=c } | none=>d
def gU (d:Wd) (n g:Int) (nul:Bool) (body:ByteArray):Except Int Wd :=
 if fP d n g body.size=0 then
  (jg ⟨n,g,jF d n.toNat+1,nul,body⟩ n.toNat (vV d n.toNat (jF d n.toNat+1)) d.nodes.length).bind fun d2 =>
  (eZ d2 n.toNat ⟨n,g,jF d n.toNat+1,nul,body⟩).bind fun d3 =>
  (jQ d3 n.toNat).bind fun p=>.ok p.1
 else .error (fP d n g body.size)
def um (x:Nd) (m:Mg) (f:Nat):Nd :=
 { x with clock:=max x.clock m.st,last:=x.last.set m.gr.toNat ((x.last[m.gr.toNat]?.getD []).set f (max (bT x.last m.gr.toNat f) m.st)) }
def vW (d:Wd) (f t:Nat) (m:Mg) (rest:List Mg):Wd :=
 match d.nodes[t]? with
 | some x=>setNode (aQ d f t rest) t (um x m f)
 | none=>d
def iQ (d:Wd) (f t:Nat):Except Int Wd :=
 match aG d f t with
 | []=>.error 7
 | m::rest=>(eZ (vW d f t m rest) t m).bind fun d3=>(jQ d3 t).bind fun p=>.ok p.1
def Bn (f t:Nat):Nat->Wd->Except Int Wd
 | 0,d=>.ok d
 | k+1,d=>(iQ d f t).bind (Bn f t k)
def FR (d:Wd) (f t:Nat):Except Int (Wd × Nat):=(Bn f t (aG d f t).length d).bind fun d'=>.ok (d',(aG d f t).length)
def Bo (s:Wd × Nat) (p:Nat × Nat):Except Int (Wd × Nat):=(FR s.1 p.1 p.2).bind fun r=>.ok (r.1,s.2+r.2)
def Bp (d:Wd):Except Int (Wd × Nat):=(pairs d.nodes.length d.nodes.length).foldlM Bo (d,0)
def CV (d:Wd) (p:Nat × Nat):Except Int Wd:=if hasB d.groups p.2 p.1 then gU d p.1 p.2 true ByteArray.empty else .ok d
def Ec (d:Wd):Except Int Wd:=(pairs d.nodes.length d.groups.length).foldlM CV d
def Ed (d:Wd):Except Int (Wd × Nat):=(Ec d).bind Bp
def zl:Nat->Wd->Except Int Wd
 | 0,d=>.ok d
 | k+1,d=>(Ed d).bind fun r=>zl k r.1
def FT (d:Wd):Except Int Wd:=(Bp d).bind fun r=>zl 4 r.1
structure Ac where
 kind:Int
 one:Int
 two:Int
 body:ByteArray
def checked {α:Type} (d:Wd) (r:Except Int α):Except Int α:=if aA d=0 then r else .error (aA d)
def kK (d:Wd) (f t:Int):Except Int Wd :=
 if aA d=0 then (if inB f 0 ((d.nodes.length:Int) - 1) && inB t 0 ((d.nodes.length:Int) - 1) then iQ d f.toNat t.toNat else .error 4) else .error (aA d)
def doD (d:Wd) (x:Ac):Except Int Wd :=
 if x.kind=1 then checked d (gU d x.one x.two false x.body)
 else if x.kind=2 then checked d (gU d x.one x.two true ByteArray.empty)
 else if x.kind=3 then kK d x.one x.two
 else if x.kind=4 then checked d (FT d)
 else .error 6
def mY (n:Nat) (l:List Int):Wd:=⟨l,List.replicate n ⟨0,List.replicate l.length (List.replicate n 0),[],[]⟩,List.replicate n (List.replicate n [])⟩
def pR (d:Wd) (x:Ac):Wd:=match doD d x with | .ok d'=>d' | .error _=>d
def doneD (n:Nat) (l:List Int) (acts:List Ac):Wd:=acts.foldl pR (mY n l)
structure Right (d:Wd):Prop where
 chk:bP d.nodes.length d.groups=0
 vX:d.wires.length=d.nodes.length
 rlen:∀ (f:Nat) (row:List (List Mg)),d.wires[f]? = some row->row.length=d.nodes.length
 llen:∀ (k:Nat) (x:Nd),d.nodes[k]? = some x->x.last.length=d.groups.length
 mZ:∀ (k:Nat) (x:Nd) (g:Nat) (row:List Int),d.nodes[k]? = some x->x.last[g]? = some row->row.length=d.nodes.length
 clk:∀ k,0<=jF d k/\jF d k<=1048576
 lst:∀ k g i,0<=lI d k g i/\lI d k g i<=1048576
 Ic:∀ k g i,vO d k g i=false->lI d k g i=0
 vY:∀ k,(iZ d k).length<=40
 Bq:∀ k,(jc d k).length<=40
 vZ:∀ f t,(aG d f t).length<=40
 FU:∀ k,aM (iZ d k)=true
 FV:∀ k,aM (jc d k)=true
 Br:∀ k m,m∈iZ d k->gQ d k m=true/\m.nul=false
 Bt:∀ k m,m∈jc d k->gQ d k m=true/\m.nul=false
 zm:∀ f t m,m∈aG d f t->gQ d t m=true/\m.fr=f
 FW:∀ f t,fI (aG d f t)=true
 FX:∀ f,aG d f f=[]
theorem getD_at {α:Type} {l:List α} {i:Nat} {a x:α} (h:l[i]? = some x):l[i]?.getD a=x:=by rw [h];rfl
theorem xX (d:Wd):fq d=true↔(∀ (k:Nat) (x:Nd),d.nodes[k]? = some x->x.held.length<=40/\x.told.length<=40)/\∀ (f:Nat) (row:List (List Mg)) (t:Nat) (l:List Mg),d.wires[f]? = some row->row[t]? = some l->l.length<=40:=by
 unfold fq dF eF fV
 rw [List.all_append,Bool.and_eq_true,List.all_eq_true,List.all_eq_true]
 simp only [List.mem_flatMap,decide_eq_true_eq]
 constructor
 ·rintro ⟨h1,h2⟩
  refine ⟨fun k x hx=>?_,fun f row t l hr hl=>?_⟩
  ·have hm:=List.mem_of_getElem? hx
   exact ⟨h1 _ ⟨x,hm,by simp⟩,h1 _ ⟨x,hm,by simp⟩⟩
  ·exact h2 _ ⟨row,List.mem_of_getElem? hr,List.mem_map.2 ⟨l,List.mem_of_getElem? hl,rfl⟩⟩
 ·rintro ⟨h1,h2⟩
  refine ⟨fun n ⟨x,hx,hn⟩=>?_,fun n ⟨row,hr,hn⟩=>?_⟩
  ·obtain ⟨k,hk⟩:=List.getElem?_of_mem hx
   obtain ⟨a,b⟩:=h1 k x hk
   simp at hn
   rcases hn with rfl | rfl <;> assumption
  ·obtain ⟨l,hl,rfl⟩:=List.mem_map.1 hn
   obtain ⟨f,hf⟩:=List.getElem?_of_mem hr
   obtain ⟨t,ht⟩:=List.getElem?_of_mem hl
   exact h2 f row t l hf ht
theorem oU (d:Wd) (n:Nat) (last:List (List Int)):bJ d n last=true↔∀ (g:Nat) (row:List Int),last[g]? = some row->row.length=d.nodes.length/\∀ (k:Nat) (v:Int),row[k]? = some v->bK d n g k v=true:=by
 unfold bJ
 rw [List.all_eq_true]
 simp only [List.mem_range]
 constructor
 ·intro h g row hg
  have hl:=(zQ2.1 hg).1
  have:=h g hl
  rw [getD_at hg] at this
  unfold iX at this
  rw [Bool.and_eq_true,List.all_eq_true,decide_eq_true_eq] at this
  refine ⟨this.1,fun k v hk=>?_⟩
  have h2:=this.2 k (List.mem_range.2 (zQ2.1 hk).1)
  rwa [getD_at hk] at h2
 ·intro h g hg
  obtain ⟨row,hr⟩:∃ row,last[g]? = some row:=⟨_,zQ1 hg⟩
  obtain ⟨h1,h2⟩:=h g row hr
  rw [getD_at hr]
  unfold iX
  rw [Bool.and_eq_true,List.all_eq_true,decide_eq_true_eq]
  refine ⟨h1,fun k hk=>?_⟩
  have hk':=List.mem_range.1 hk
  obtain ⟨v,hv⟩:∃ v,row[k]? = some v:=⟨_,zQ1 hk'⟩
  rw [getD_at hv]
  exact h2 k v hv
theorem xY (d:Wd):gM d=true↔∀ (k:Nat) (x:Nd),d.nodes[k]? = some x->av d k x=true:=by
 unfold gM
 rw [List.all_eq_true]
 simp only [List.mem_range]
 constructor
 ·intro h k x hx
  have:=h k (zQ2.1 hx).1
  rw [hx] at this
  exact this
 ·intro h k hk
  cases hx:d.nodes[k]? with
  | none=>rfl
  | some x=>exact h k x hx
theorem xZ (d:Wd):bM d=true↔d.wires.length=d.nodes.length/\∀ (f:Nat) (row:List (List Mg)),d.wires[f]? = some row->row.length=d.nodes.length/\∀ (t:Nat) (l:List Mg),row[t]? = some l->ay d f t l=true:=by
 unfold bM
 rw [Bool.and_eq_true,decide_eq_true_eq,List.all_eq_true]
 simp only [List.mem_range]
 refine and_congr Iff.rfl ?_
 constructor
 ·intro h f row hf
  have:=h f (zQ2.1 hf).1
  rw [getD_at hf] at this
  unfold kX at this
  rw [Bool.and_eq_true,decide_eq_true_eq,List.all_eq_true] at this
  refine ⟨this.1,fun t l hl=>?_⟩
  have h2:=this.2 t (List.mem_range.2 (zQ2.1 hl).1)
  rwa [getD_at hl] at h2
 ·intro h f hf
  obtain ⟨row,hr⟩:∃ row,d.wires[f]? = some row:=⟨_,zQ1 hf⟩
  obtain ⟨h1,h2⟩:=h f row hr
  rw [getD_at hr]
  unfold kX
  rw [Bool.and_eq_true,decide_eq_true_eq,List.all_eq_true]
  refine ⟨h1,fun t ht=>?_⟩
  obtain ⟨l,hl⟩:∃ l,row[t]? = some l:=⟨_,zQ1 (List.mem_range.1 ht)⟩
  rw [getD_at hl]
  exact h2 t l hl
theorem jR {d:Wd} {f t:Nat} {row:List (List Mg)} {l:List Mg} (hr:d.wires[f]? = some row) (hl:row[t]? = some l):aG d f t=l:=by
 unfold aG;rw [hr];simp [hl]
theorem jk (d:Wd) (f t:Nat):(aG d f t=[])\/∃ row l,d.wires[f]? = some row/\row[t]? = some l/\aG d f t=l:=by
 unfold aG
 cases hr:d.wires[f]? with
 | none=>left;simp
 | some row =>
  cases hl:row[t]? with
  | none=>left;simp [hl]
  | some l=>right;exact ⟨row,l,rfl,hl,by simp [hl]⟩
theorem uo (last:List (List Int)) (g k:Nat):bT last g k=0\/∃ row,last[g]? = some row/\row[k]? = some (bT last g k):=by
 unfold bT
 cases hr:last[g]? with
 | none=>left;simp
 | some row =>
  cases hl:row[k]? with
  | none=>left;simp [hl]
  | some l=>right;exact ⟨row,rfl,by simp [hl]⟩
theorem oV {last:List (List Int)} {g k:Nat} {row:List Int} {v:Int} (hr:last[g]? = some row) (hl:row[k]? = some v):bT last g k=v:=by
 unfold bT;rw [hr];simp [hl]
theorem jr (d:Wd):aA d=0↔Right d:=by
 have hE:aA d=0↔bP d.nodes.length d.groups=0/\fq d=true/\gM d=true/\bM d=true:=by
  unfold aA
  by_cases h:bP d.nodes.length d.groups=0
  ·rw [if_pos h]
   cases hs:fq d <;> cases hn:gM d <;> cases hw:bM d <;> simp [h]
  ·rw [if_neg h];simp [h]
 rw [hE,xX,xY,xZ]
 constructor
 ·rintro ⟨hc,⟨hs1,hs2⟩,hn,hw1,hw2⟩
  have N:∀ (k:Nat) (x:Nd),d.nodes[k]? = some x->(0<=x.clock/\x.clock<=1048576)/\x.last.length=d.groups.length/\(∀ (g:Nat) (row:List Int),x.last[g]? = some row->row.length=d.nodes.length/\∀ (i:Nat) (v:Int),row[i]? = some v->bK d k g i v=true)
    /\ aM x.held=true/\aM x.told=true/\cO x.held=true/\cO x.told=true/\aH d x.held k=true/\aH d x.told k=true:=by
   intro k x hx
   have:=hn k x hx
   unfold av jP eG at this
   simp only [Bool.and_eq_true,decide_eq_true_eq,inB,oU] at this
   obtain ⟨⟨a,b⟩,c,d1,d2,d3,d4,d5,d6⟩:=this
   exact ⟨a,b,c,d1,d2,d3,d4,d5,d6⟩
  have C:∀ (k:Nat) (x:Nd) (g i:Nat),d.nodes[k]? = some x->bK d k g i (bT x.last g i)=true\/bT x.last g i=0:=by
   intro k x g i hx
   rcases uo x.last g i with h0 | ⟨row,hr,hv⟩
   ·exact .inr h0
   ·exact .inl (((N k x hx).2.2.1 g row hr).2 i _ hv)
  refine ⟨hc,hw1,fun f row h=>(hw2 f row h).1,fun k x h=>(N k x h).2.1,fun k x g row h h2=>((N k x h).2.2.1 g row h2).1, ?_, ?_, ?_, ?_, ?_, ?_, ?_, ?_, ?_, ?_, ?_, ?_, ?_⟩
  ·intro k;unfold jF
   cases h:d.nodes[k]? with
   | none=>simp
   | some x=>exact (N k x h).1
  ·intro k g i;unfold lI
   cases h:d.nodes[k]? with
   | none=>simp
   | some x =>
    rcases C k x g i h with h1 | h1
    ·unfold bK at h1;rw [Bool.and_eq_true] at h1;simpa [inB] using h1.1
    ·show 0<=bT x.last g i/\bT x.last g i<=_
     rw [h1];omega
  ·intro k g i hb;unfold lI
   cases h:d.nodes[k]? with
   | none=>rfl
   | some x =>
    rcases C k x g i h with h1 | h1
    ·unfold bK at h1;rw [Bool.and_eq_true,hb] at h1;simpa using h1.2
    ·exact h1
  ·intro k;unfold iZ
   cases h:d.nodes[k]? with
   | none=>simp
   | some x=>exact (hs1 k x h).1
  ·intro k;unfold jc
   cases h:d.nodes[k]? with
   | none=>simp
   | some x=>exact (hs1 k x h).2
  ·intro f t
   rcases jk d f t with h | ⟨row,l,hr,hl,h⟩
   ·rw [h];simp
   ·rw [h];exact hs2 f row t l hr hl
  ·intro k;unfold iZ
   cases h:d.nodes[k]? with
   | none=>rfl
   | some x=>exact (N k x h).2.2.2.1
  ·intro k;unfold jc
   cases h:d.nodes[k]? with
   | none=>rfl
   | some x=>exact (N k x h).2.2.2.2.1
  ·intro k m hm;unfold iZ at hm
   cases h:d.nodes[k]? with
   | none=>rw [h] at hm;simp at hm
   | some x =>
    rw [h] at hm
    obtain ⟨_,_,_,_,_,e1,e2,e3,e4⟩:=N k x h
    unfold cO at e1;unfold aH at e3
    rw [List.all_eq_true] at e1 e3
    exact ⟨e3 m hm,by simpa using e1 m hm⟩
  ·intro k m hm;unfold jc at hm
   cases h:d.nodes[k]? with
   | none=>rw [h] at hm;simp at hm
   | some x =>
    rw [h] at hm
    obtain ⟨_,_,_,_,_,e1,e2,e3,e4⟩:=N k x h
    unfold cO at e2;unfold aH at e4
    rw [List.all_eq_true] at e2 e4
    exact ⟨e4 m hm,by simpa using e2 m hm⟩
  ·intro f t m hm
   rcases jk d f t with h | ⟨row,l,hr,hl,h⟩
   ·rw [h] at hm;simp at hm
   ·rw [h] at hm
    have:=(hw2 f row hr).2 t l hl
    unfold ay gF aH at this
    simp only [Bool.and_eq_true,List.all_eq_true,decide_eq_true_eq] at this
    exact ⟨this.2.1 m hm,this.1.1 m hm⟩
  ·intro f t
   rcases jk d f t with h | ⟨row,l,hr,hl,h⟩
   ·rw [h];rfl
   ·rw [h]
    have:=(hw2 f row hr).2 t l hl
    unfold ay gF at this
    simp only [Bool.and_eq_true] at this
    exact this.1.2
  ·intro f
   rcases jk d f f with h | ⟨row,l,hr,hl,h⟩
   ·exact h
   ·rw [h]
    have:=(hw2 f row hr).2 f l hl
    unfold ay at this
    simp only [Bool.and_eq_true] at this
    exact zQ6 (by simpa using this.2.2)
 ·intro R
  have H:∀ (k:Nat) (x:Nd),d.nodes[k]? = some x->iZ d k=x.held/\jc d k=x.told/\jF d k=x.clock/\∀ g i,lI d k g i=bT x.last g i:=by
   intro k x h;unfold iZ jc jF lI;rw [h];exact ⟨rfl,rfl,rfl,fun _ _=>rfl⟩
  refine ⟨R.chk,⟨fun k x h=>?_,fun f row t l hr hl=>?_⟩,fun k x h=>?_,R.vX,fun f row hr=>⟨R.rlen f row hr,fun t l hl=>?_⟩⟩
  ·obtain ⟨h1,h2,_,_⟩:=H k x h;rw [<-h1,<-h2];exact ⟨R.vY k,R.Bq k⟩
  ·rw [<-jR hr hl];exact R.vZ f t
  ·obtain ⟨h1,h2,h3,h4⟩:=H k x h
   unfold av jP eG
   simp only [Bool.and_eq_true,decide_eq_true_eq,inB,oU]
   refine ⟨⟨h3 ▸ R.clk k,R.llen k x h⟩,fun g row hr=>⟨R.mZ k x g row h hr,fun i v hv=>?_⟩,h1 ▸ R.FU k,h2 ▸ R.FV k, ?_, ?_, ?_, ?_⟩
   ·have e:=oV hr hv
    have l1:=R.lst k g i
    have l2:=R.Ic k g i
    rw [h4,e] at l1 l2
    unfold bK
    rw [Bool.and_eq_true]
    refine ⟨by simpa [inB] using l1, ?_⟩
    cases hb:vO d k g i
    ·simp [l2 hb]
    ·rfl
   ·unfold cO;rw [List.all_eq_true];intro m hm;have:=(R.Br k m (h1 ▸ hm)).2;simp [this]
   ·unfold cO;rw [List.all_eq_true];intro m hm;have:=(R.Bt k m (h2 ▸ hm)).2;simp [this]
   ·unfold aH;rw [List.all_eq_true];intro m hm;exact (R.Br k m (h1 ▸ hm)).1
   ·unfold aH;rw [List.all_eq_true];intro m hm;exact (R.Bt k m (h2 ▸ hm)).1
  ·have e:=jR hr hl
   unfold ay gF aH
   simp only [Bool.and_eq_true,List.all_eq_true,decide_eq_true_eq]
   refine ⟨⟨fun m hm=>(R.zm f t m (e ▸ hm)).2,e ▸ R.FW f t⟩,fun m hm=>(R.zm f t m (e ▸ hm)).1, ?_⟩
   by_cases hft:f=t
   ·subst hft;rw [R.FX f] at e;subst e;simp
   ·simp [hft]
/-! Lists of messages that rise. -/
/-! How far: the greatest number that is below all. -/
structure Alike (d d':Wd):Prop where
 g:d'.groups=d.groups
 n:d'.nodes.length=d.nodes.length
 w:d'.wires.length=d.wires.length
 r:∀ (f:Nat) (row':List (List Mg)),d'.wires[f]? = some row'->∃ row,d.wires[f]? = some row/\row'.length=row.length
 l:∀ (k:Nat) (x':Nd),d'.nodes[k]? = some x'->∃ x,d.nodes[k]? = some x/\x'.last.length=x.last.length/\∀ (g:Nat) (row':List Int),x'.last[g]? = some row'->∃ row,x.last[g]? = some row/\row'.length=row.length
theorem Alike.refl (d:Wd):Alike d d:=⟨rfl,rfl,rfl,fun _ r h=>⟨r,h,rfl⟩,fun _ x h=>⟨x,h,rfl,fun _ r h=>⟨r,h,rfl⟩⟩⟩
theorem Alike.trans {a b c:Wd} (h:Alike a b) (k:Alike b c):Alike a c:=by
 refine ⟨k.g.trans h.g,k.n.trans h.n,k.w.trans h.w,fun f row hr=>?_,fun i x hx=>?_⟩
 ·obtain ⟨r1,e1,e2⟩:=k.r f row hr
  obtain ⟨r2,e3,e4⟩:=h.r f r1 e1
  exact ⟨r2,e3,e2.trans e4⟩
 ·obtain ⟨x1,e1,e2,e3⟩:=k.l i x hx
  obtain ⟨x2,e4,e5,e6⟩:=h.l i x1 e1
  refine ⟨x2,e4,e2.trans e5,fun g row hr=>?_⟩
  obtain ⟨r1,f1,f2⟩:=e3 g row hr
  obtain ⟨r2,f3,f4⟩:=e6 g r1 f1
  exact ⟨r2,f3,f2.trans f4⟩
theorem dH {d:Wd} {n:Nat} {x:Nd} (h:d.nodes[n]? = some x):n < d.nodes.length:=(zQ2.1 h).1
theorem fM {d:Wd} {n:Nat} {x:Nd} (y:Nd) (hx:d.nodes[n]? = some x) (k:Nat):(setNode d n y).nodes[k]? = if k=n then some y else d.nodes[k]?:=by
 unfold setNode
 show (d.nodes.set n y)[k]? = _
 rw [List.getElem?_set]
 by_cases h:n=k
 ·subst h;simp [dH hx]
 ·have:¬ k=n:=fun e=>h e.symm
  simp [h,this]
theorem rH {d:Wd} {n:Nat} {x:Nd} (y:Nd) (hx:d.nodes[n]? = some x) (hl:y.last.length=x.last.length) (hr:∀ (g:Nat) (row':List Int),y.last[g]? = some row'->∃ row,x.last[g]? = some row/\row'.length=row.length):Alike d (setNode d n y):=by
 refine ⟨rfl,by simp [setNode],rfl,fun _ r h=>⟨r,h,rfl⟩,fun k x' h=>?_⟩
 rw [fM y hx] at h
 by_cases hk:k=n
 ·subst hk;simp at h;subst h;exact ⟨x,hx,hl,hr⟩
 ·rw [if_neg hk] at h;exact ⟨x',h,rfl,fun _ r h=>⟨r,h,rfl⟩⟩
theorem jl {d:Wd} {n:Nat} {x:Nd} (hx:d.nodes[n]? = some x):jF d n=x.clock/\iZ d n=x.held/\jc d n=x.told/\DC d n=tq d n x/\∀ g i,lI d n g i=bT x.last g i:=by
 unfold jF iZ jc DC lI;rw [hx];exact ⟨rfl,rfl,rfl,rfl,fun _ _=>rfl⟩
def fu (d:Wd):Prop:=d.wires.length=d.nodes.length/\∀ (f:Nat) (row:List (List Mg)),d.wires[f]? = some row->row.length=d.nodes.length
theorem Right.rows {d:Wd} (h:Right d):fu d:=⟨h.vX,h.rlen⟩
theorem Alike.rows {d d':Wd} (h:Alike d d') (r:fu d):fu d':=by
 refine ⟨h.w.trans (r.1.trans h.n.symm),fun f row hr=>?_⟩
 obtain ⟨r1,e1,e2⟩:=h.r f row hr
 rw [e2,h.n];exact r.2 f r1 e1
theorem zU {d:Wd} {f t:Nat} (l:List Mg) (hr:fu d) (hf:f < d.nodes.length) (ht:t < d.nodes.length) (f' t':Nat):aG (aQ d f t l) f' t'=if f'=f/\t'=t then l else aG d f' t':=by
 obtain ⟨row,hrow⟩:∃ row,d.wires[f]? = some row:=⟨_,zQ1 (by rw [hr.1];exact hf)⟩
 have hlen:=hr.2 f row hrow
 unfold aQ aG
 show ((d.wires.set f ((d.wires[f]?.getD []).set t l))[f']?.getD [])[t']?.getD []=_
 rw [hrow,List.getElem?_set]
 by_cases h:f=f'
 ·subst h
  have:f < d.wires.length:=by rw [hr.1];exact hf
  simp only [this,Option.getD_some,if_true,true_and]
  rw [List.getElem?_set]
  by_cases h2:t=t'
  ·subst h2;simp [hlen,ht]
  ·have:¬ t'=t:=fun e=>h2 e.symm
   simp [h2,this,hrow]
 ·have:¬ f'=f:=fun e=>h e.symm
  simp [h,this]
theorem rJ {d:Wd} {f t:Nat} (l:List Mg):Alike d (aQ d f t l):=by
 refine ⟨rfl,rfl,by simp [aQ],fun f' row' h=>?_,fun _ x h=>⟨x,h,rfl,fun _ r h=>⟨r,h,rfl⟩⟩⟩
 unfold aQ at h
 rw [List.getElem?_set] at h
 by_cases e:f=f'
 ·subst e
  by_cases hl:f < d.wires.length
  ·simp [hl] at h
   refine ⟨d.wires[f],zQ1 hl, ?_⟩
   rw [<-h];simp
  ·simp [hl] at h
 ·simp [e] at h;exact ⟨row',h,rfl⟩
theorem bind_ok {α β:Type} {x:Except Int α} {f:α->Except Int β} {b:β} (h:x.bind f=.ok b):∃ a,x=.ok a/\f a=.ok b:=by
 cases x with
 | error e=>cases h
 | ok a=>exact ⟨a,rfl,h⟩
theorem nL {α β:Type} {x:Except Int α} {f:α->Except Int β} {e:Int} (h:x.bind f=.error e):x=.error e\/∃ a,x=.ok a/\f a=.error e:=by
 cases x with
 | error e'=>exact .inl (by cases h;rfl)
 | ok a=>exact .inr ⟨a,rfl,h⟩
abbrev ng (d:Wd) (m:Mg) (n i f t:Nat):Prop:=f=n/\t < i/\t≠n/\hasB d.groups m.gr t=true
structure CW (d d':Wd) (m:Mg) (n i:Nat):Prop where
 groups:d'.groups=d.groups
 nodes:d'.nodes=d.nodes
 alike:Alike d d'
 wire:∀ f t,aG d' f t=if ng d m n i f t then aG d f t++[m] else aG d f t
 room:∀ t,t < i->t≠n->hasB d.groups m.gr t=true->(aG d n t).length≠40/\∀ x,(aG d n t).getLast? = some x->x.st < m.st
theorem fA (m:Mg) (n:Nat) (d:Wd) (i:Nat):jg m n d (i+1)=(jg m n d i).bind fun d1=>dX m n d1 i:=by
 unfold jg
 rw [List.range_succ,List.foldlM_append]
 cases h:List.foldlM (dX m n) d (List.range i) with
 | error e=>rfl
 | ok a =>
  show (List.foldlM (dX m n) a [i])=_
  simp only [List.foldlM_cons,List.foldlM_nil]
  show (dX m n a i).bind _=(dX m n a i)
  cases dX m n a i <;> rfl
theorem qA {m:Mg} {n:Nat} {d:Wd} (hr:fu d) (hn:n < d.nodes.length):∀ (i:Nat) (d':Wd),i<=d.nodes.length->jg m n d i=.ok d'->CW d d' m n i
 | 0,d',_,h=>by
  have:=Except.ok.inj h;subst this
  exact ⟨rfl,rfl,Alike.refl d,fun f t=>by rw [if_neg (by unfold ng;omega)],fun t ht=>by omega⟩
 | i+1,d',hi,h=>by
  rw [fA] at h
  obtain ⟨d1,h1,h2⟩:=bind_ok h
  have S:=qA hr hn i d1 (by omega) h1
  have R1:=S.alike.rows hr
  unfold dX at h2
  have hw:aG d1 n i=aG d n i:=by rw [S.wire,if_neg (by unfold ng;omega)]
  by_cases c:i=n\/hasB d1.groups m.gr i=false
  ·rw [if_pos c] at h2
   have:=Except.ok.inj h2;subst this
   rw [S.groups] at c
   refine ⟨S.groups,S.nodes,S.alike,fun f t=>?_,fun t ht h3 h4=>?_⟩
   ·rw [S.wire]
    by_cases g:ng d m n i f t
    ·rw [if_pos g,if_pos (by unfold ng at g ⊢;exact ⟨g.1,by omega,g.2.2⟩)]
    ·rw [if_neg g,if_neg]
     rintro ⟨a1,a2,a3,a4⟩
     by_cases e:t=i
     ·subst e;rcases c with c | c
      ·exact a3 c
      ·rw [c] at a4;cases a4
     ·exact g ⟨a1,by omega,a3,a4⟩
   ·by_cases e:t=i
    ·subst e;rcases c with c | c
     ·exact absurd c h3
     ·rw [c] at h4;cases h4
    ·exact S.room t (by omega) h3 h4
  ·rw [if_neg c] at h2
   have c':i≠n/\hasB d.groups m.gr i=true:=by
    rw [S.groups] at c
    refine ⟨fun e=>c (.inl e), ?_⟩
    cases hb:hasB d.groups m.gr i
    ·exact absurd (.inr hb) c
    ·rfl
   rw [hw] at h2
   by_cases h3:(aG d n i).length=40
   ·rw [if_pos h3] at h2;cases h2
   ·rw [if_neg h3] at h2
    cases h4:oQ m (aG d n i)
    ·rw [if_neg (by simp [h4])] at h2
     have:=Except.ok.inj h2;subst this
     refine ⟨S.groups,S.nodes,S.alike.trans (rJ _),fun f t=>?_,fun t ht h5 h6=>?_⟩
     ·have hnn:=S.alike.n
      rw [zU _ R1 (by omega) (by omega)]
      by_cases e:f=n/\t=i
      ·obtain ⟨rfl,rfl⟩:=e
       rw [if_pos ⟨rfl,rfl⟩,if_pos ⟨rfl,by omega,c'.1,c'.2⟩]
      ·rw [if_neg e,S.wire]
       by_cases g:ng d m n i f t
       ·rw [if_pos g,if_pos ⟨g.1,by have:=g.2.1;omega,g.2.2⟩]
       ·rw [if_neg g,if_neg]
        rintro ⟨a1,a2,a3,a4⟩
        exact g ⟨a1,by have:t≠i:=fun e2=>e ⟨a1,e2⟩
                       omega,a3,a4⟩
     ·by_cases e:t=i
      ·subst e
       refine ⟨h3,fun x hx=>?_⟩
       unfold oQ at h4
       rw [hx] at h4
       simp at h4;omega
      ·exact S.room t (by omega) h5 h6
    ·rw [if_pos h4] at h2;cases h2
theorem qB {d:Wd} {n g:Int} {s:Nat} (h:fP d n g s=0):(0<=n/\n < d.nodes.length)/\(0<=g/\g < d.groups.length)/\hasB d.groups g n=true/\s<=8/\jF d n.toNat≠1048576:=by
 unfold fP at h
 split at h
 ·cases h
 ·next c =>
  split at h
  ·cases h
  ·next c2 =>
   split at h
   ·cases h
   ·split at h
    ·cases h
    ·next c4 =>
     simp only [inB] at c
     simp at c c2
     exact ⟨by omega,by omega,c2,by omega,c4⟩
theorem zV {nodes:Int} {xs:List Int} {m:Mg} (h:eB nodes xs m=0):(0<=m.fr/\m.fr < nodes)/\(0<=m.gr/\m.gr < xs.length)/\(1<=m.st/\m.st<=1048576)/\hasB xs m.gr m.fr=true:=by
 unfold eB at h
 split at h
 ·next c=>exact absurd h c
 ·split at h
  ·cases h
  ·next c =>
   split at h
   ·cases h
   ·next c2 =>
    simp only [inB] at c
    simp at c c2
    exact ⟨by omega,by omega,by omega,c2⟩
theorem Bu {d:Wd} {n:Int} {m:Mg}:gQ d n m=true↔eB d.nodes.length d.groups m=0/\hasB d.groups m.gr n=true:=by
 unfold gQ;rw [Bool.and_eq_true,decide_eq_true_eq]
end Go.Proofs.Ytiiifecfdkjmbaa.Pu
