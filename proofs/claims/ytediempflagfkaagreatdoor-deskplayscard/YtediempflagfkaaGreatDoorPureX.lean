/- Lemmas. -/
import Derived.Test.YtediempflagfkaaGreatDoorBoundX
set_option linter.unusedVariables false
set_option linter.unusedSimpArgs false
set_option linter.unnecessarySimpa false
namespace Go.Proofs.YtediempflagfkaaGreatDoor.Pu
set_option maxRecDepth 8000
def aJ(d:Wd)(f t:Nat):List Mg:=(d.aB[f]?.getD [])[t]?.getD []
def bK(d:Wd)(f t:Nat)(l:List Mg):Wd:={ d with aB:=d.aB.set f ((d.aB[f]?.getD []).set t l) }
def bB(d:Wd)(k:Nat):Int:=match d.ah[k]? with | some x=>x.aK | none=>0
def eB(d:Wd)(k g i:Nat):Int:=match d.ah[k]? with | some x=>eX x.last g i | none=>0
def aQ(d:Wd)(k:Nat):List Mg:=match d.ah[k]? with | some x=>x.held | none=>[]
def bM(d:Wd)(k:Nat):List Mg:=match d.ah[k]? with | some x=>x.aG | none=>[]
def dQ(d:Wd)(k:Nat):Int:=match d.ah[k]? with | some x=>p8 d k x | none=>0
def aD(d:Wd)(n:Nat)(x:Nd):Wd:={ d with ah:=d.ah.set n x }
def eZ(d:Wd)(n:Nat):Except Int (Wd × Nat) :=
 match d.ah[n]? with
 | none=>.error 4
 | some x =>
  if 40 < (x.aG++dD d n x).length then .error 2
  else if bC (x.aG++dD d n x)=false then .error 1
  else .ok (aD d n { x with held:=x.held.drop (dD d n x).length,aG:=x.aG++dD d n x },(dD d n x).length)
def sJ(d:Wd)(n:Nat)(m:Mg):Except Int Wd :=
 match d.ah[n]? with
 | none=>.error 4
 | some x=>if dV m x.held=0 then .ok (aD d n { x with held:=gK m x.held }) else .error (dV m x.held)
def eD(d:Wd)(n:Nat)(m:Mg):Except Int Wd:=if m.nul then .ok d else sJ d n m
def sM(m:Mg)(l:List Mg):Bool:=match l.getLast? with | some x=>decide (m.st<=x.st) | none=>false
def fZ(m:Mg)(n:Nat)(d:Wd)(k:Nat):Except Int Wd :=
 if k=n\/hasB d.au m.gr k=false then .ok d
 else if (aJ d n k).length=40 then .error 2
 else if sM m (aJ d n k) then .error 1
 else .ok (bK d n k (aJ d n k++[m]))
def fO(m:Mg)(n:Nat)(d:Wd)(i:Nat):Except Int Wd:=(List.range i).foldlM (fZ m n) d
def cK(d:Wd)(n g:Int)(size:Nat):Int :=
 if inB n 0 ((d.ah.length:Int) - 1)=false\/inB g 0 ((d.au.length:Int) - 1)=false then 4
 else if hasB d.au g n=false then 5
 else if 8 < size then 1
 else if bB d n.toNat=1048576 then 3 else 0
def mV(d:Wd)(n:Nat)(c:Int):Wd:=match d.ah[n]? with | some x=>aD d n { x with aK:=c } | none=>d
def dR(d:Wd)(n g:Int)(nul:Bool)(body:ByteArray):Except Int Wd :=
 if cK d n g body.size=0 then
  (fO ⟨n,g,bB d n.toNat+1,nul,body⟩ n.toNat (mV d n.toNat (bB d n.toNat+1)) d.ah.length).bind fun d2 =>
  (eD d2 n.toNat ⟨n,g,bB d n.toNat+1,nul,body⟩).bind fun d3 =>
  (eZ d3 n.toNat).bind fun p=>.ok p.1
 else .error (cK d n g body.size)
def oz(x:Nd)(m:Mg)(f:Nat):Nd :=
 { x with aK:=max x.aK m.st,last:=x.last.set m.gr.toNat ((x.last[m.gr.toNat]?.getD []).set f (max (eX x.last m.gr.toNat f) m.st)) }
def nC(d:Wd)(f t:Nat)(m:Mg)(rest:List Mg):Wd :=
 match d.ah[t]? with
 | some x=>aD (bK d f t rest) t (oz x m f)
 | none=>d
def fI(d:Wd)(f t:Nat):Except Int Wd :=
 match aJ d f t with
 | []=>.error 7
 | m::rest=>(eD (nC d f t m rest) t m).bind fun d3=>(eZ d3 t).bind fun p=>.ok p.1
def eO(f t:Nat):Nat->Wd->Except Int Wd
 | 0,d=>.ok d
 | k+1,d=>(fI d f t).bind (eO f t k)
def pJ(d:Wd)(f t:Nat):Except Int (Wd × Nat):=(eO f t (aJ d f t).length d).bind fun d'=>.ok (d',(aJ d f t).length)
def dB(s:Wd × Nat)(p:Nat × Nat):Except Int (Wd × Nat):=(pJ s.1 p.1 p.2).bind fun r=>.ok (r.1,s.2+r.2)
def gY(d:Wd):Except Int (Wd × Nat):=(pairs d.ah.length d.ah.length).foldlM dB (d,0)
def dH(d:Wd)(p:Nat × Nat):Except Int Wd:=if hasB d.au p.2 p.1 then dR d p.1 p.2 true ByteArray.empty else .ok d
def yU(d:Wd):Except Int Wd:=(pairs d.ah.length d.au.length).foldlM dH d
def fJ(d:Wd):Except Int (Wd × Nat):=(yU d).bind gY
def jE:Nat->Wd->Except Int Wd
 | 0,d=>.ok d
 | k+1,d=>(fJ d).bind fun r=>jE k r.1
def lD(d:Wd):Except Int Wd:=(gY d).bind fun r=>jE 4 r.1
structure Ac where
 kind:Int
 one:Int
 two:Int
 body:ByteArray
def checked{α:Type}(d:Wd)(r:Except Int α):Except Int α:=if aZ d=0 then r else .error (aZ d)
def fC(d:Wd)(f t:Int):Except Int Wd :=
 if aZ d=0 then (if inB f 0 ((d.ah.length:Int) - 1) && inB t 0 ((d.ah.length:Int) - 1) then fI d f.toNat t.toNat else .error 4) else .error (aZ d)
def doD(d:Wd)(x:Ac):Except Int Wd :=
 if x.kind=1 then checked d (dR d x.one x.two false x.body)
 else if x.kind=2 then checked d (dR d x.one x.two true ByteArray.empty)
 else if x.kind=3 then fC d x.one x.two
 else if x.kind=4 then checked d (lD d)
 else .error 6
def eG(n:Nat)(l:List Int):Wd:=⟨l,List.replicate n ⟨0,List.replicate l.length (List.replicate n 0),[],[]⟩,List.replicate n (List.replicate n [])⟩
structure aL (d:Wd):Prop where
 chk:dS d.ah.length d.au=0
 yu:d.aB.length=d.ah.length
 rlen:∀(f:Nat) (row:List (List Mg)),d.aB[f]? = some row->row.length=d.ah.length
 llen:∀(k:Nat) (x:Nd),d.ah[k]? = some x->x.last.length=d.au.length
 lW:∀(k:Nat) (x:Nd) (g:Nat) (row:List Int),d.ah[k]? = some x->x.last[g]? = some row->row.length=d.ah.length
 clk:∀k,0<=bB d k/\bB d k<=1048576
 lst:∀k g i,0<=eB d k g i/\eB d k g i<=1048576
 PX:∀k g i,xY d k g i=false->eB d k g i=0
 nW:∀k,(aQ d k).length<=40
 vH:∀k,(bM d k).length<=40
 pK:∀f t,(aJ d f t).length<=40
 tY:∀k,bC (aQ d k)=true
 Hr:∀k,bC (bM d k)=true
 vN:∀k m,m∈aQ d k->jC d k m=true/\m.nul=false
 Ad:∀k m,m∈bM d k->jC d k m=true/\m.nul=false
 sK:∀f t m,m∈aJ d f t->jC d t m=true/\m.fr=f
 Ba:∀f t,gP (aJ d f t)=true
 DU:∀f,aJ d f f=[]
theorem getD_at{α:Type}{l:List α}{i:Nat}{a x:α}(h:l[i]? = some x):l[i]?.getD a=x:=by rw[h];rfl
theorem JI(d:Wd):iM d=true↔(∀(k:Nat) (x:Nd),d.ah[k]? = some x->x.held.length<=40/\x.aG.length<=40)/\∀(f:Nat) (row:List (List Mg)) (t:Nat) (l:List Mg),d.aB[f]? = some row->row[t]? = some l->l.length<=40:=by
 unfold iM iE jl kD;rw[List.all_append,Bool.and_eq_true,List.all_eq_true,List.all_eq_true];simp only[List.mem_flatMap,decide_eq_true_eq];constructor
 ·rintro⟨h1,h2⟩;refine⟨fun k x hx=>?_,fun f row t l hr hl=>?_⟩
  ·have hm:=List.mem_of_getElem? hx;exact⟨h1 _ ⟨x,hm,by simp⟩,h1 _ ⟨x,hm,by simp⟩⟩
  ·exact h2 _ ⟨row,List.mem_of_getElem? hr,List.mem_map.2 ⟨l,List.mem_of_getElem? hl,rfl⟩⟩
 ·rintro⟨h1,h2⟩;refine⟨fun n ⟨x,hx,hn⟩=>?_,fun n ⟨row,hr,hn⟩=>?_⟩
  ·obtain⟨k,hk⟩:=List.getElem?_of_mem hx;obtain⟨a,b⟩:=h1 k x hk;simp at hn
   rcases hn with rfl | rfl <;> assumption
  ·obtain⟨l,hl,rfl⟩:=List.mem_map.1 hn;obtain⟨f,hf⟩:=List.getElem?_of_mem hr;obtain⟨t,ht⟩:=List.getElem?_of_mem hl;exact h2 f row t l hf ht
theorem zA(d:Wd)(n:Nat)(last:List (List Int)):fu d n last=true↔∀(g:Nat) (row:List Int),last[g]? = some row->row.length=d.ah.length/\∀(k:Nat) (v:Int),row[k]? = some v->fD d n g k v=true:=by
 unfold fu;rw[List.all_eq_true];simp only[List.mem_range];constructor
 ·intro h g row hg;have hl:=(zQ2.1 hg).1;have:=h g hl;rw[getD_at hg]at this;unfold lY at this;rw[Bool.and_eq_true,List.all_eq_true,decide_eq_true_eq]at this;refine⟨this.1,fun k v hk=>?_⟩;have h2:=this.2 k (List.mem_range.2 (zQ2.1 hk).1)
  rwa[getD_at hk]at h2
 ·intro h g hg;obtain⟨row,hr⟩:∃row,last[g]? = some row:=⟨_,zQ1 hg⟩;obtain⟨h1,h2⟩:=h g row hr;rw[getD_at hr];unfold lY;rw[Bool.and_eq_true,List.all_eq_true,decide_eq_true_eq];refine⟨h1,fun k hk=>?_⟩;have hk':=List.mem_range.1 hk;obtain⟨v,hv⟩:∃v,row[k]? = some v:=⟨_,zQ1 hk'⟩;rw[getD_at hv];exact h2 k v hv
theorem JJ(d:Wd):jy d=true↔∀(k:Nat) (x:Nd),d.ah[k]? = some x->aX d k x=true:=by
 unfold jy;rw[List.all_eq_true];simp only[List.mem_range];constructor
 ·intro h k x hx;have:=h k (zQ2.1 hx).1;rw[hx]at this;exact this
 ·intro h k hk
  cases hx:d.ah[k]? with
  | none=>rfl
  | some x=>exact h k x hx
theorem JK(d:Wd):fF d=true↔d.aB.length=d.ah.length/\∀(f:Nat) (row:List (List Mg)),d.aB[f]? = some row->row.length=d.ah.length/\∀(t:Nat) (l:List Mg),row[t]? = some l->bA d f t l=true:=by
 unfold fF;rw[Bool.and_eq_true,decide_eq_true_eq,List.all_eq_true];simp only[List.mem_range];refine and_congr Iff.rfl ?_;constructor
 ·intro h f row hf;have:=h f (zQ2.1 hf).1;rw[getD_at hf]at this;unfold sI at this;rw[Bool.and_eq_true,decide_eq_true_eq,List.all_eq_true]at this;refine⟨this.1,fun t l hl=>?_⟩;have h2:=this.2 t (List.mem_range.2 (zQ2.1 hl).1)
  rwa[getD_at hl]at h2
 ·intro h f hf;obtain⟨row,hr⟩:∃row,d.aB[f]? = some row:=⟨_,zQ1 hf⟩;obtain⟨h1,h2⟩:=h f row hr;rw[getD_at hr];unfold sI;rw[Bool.and_eq_true,decide_eq_true_eq,List.all_eq_true];refine⟨h1,fun t ht=>?_⟩;obtain⟨l,hl⟩:∃l,row[t]? = some l:=⟨_,zQ1 (List.mem_range.1 ht)⟩;rw[getD_at hl];exact h2 t l hl
theorem pO{d:Wd}{f t:Nat}{row:List (List Mg)}{l:List Mg}(hr:d.aB[f]? = some row)(hl:row[t]? = some l):aJ d f t=l:=by
 unfold aJ;rw[hr];simp[hl]
theorem jT(d:Wd)(f t:Nat):(aJ d f t=[])\/∃row l,d.aB[f]? = some row/\row[t]? = some l/\aJ d f t=l:=by
 unfold aJ
 cases hr:d.aB[f]? with
 | none=>left;simp
 | some row =>
  cases hl:row[t]? with
  | none=>left;simp[hl]
  | some l=>right;exact⟨row,l,rfl,hl,by simp[hl]⟩
theorem yt(last:List (List Int))(g k:Nat):eX last g k=0\/∃row,last[g]? = some row/\row[k]? = some (eX last g k):=by
 unfold eX
 cases hr:last[g]? with
 | none=>left;simp
 | some row =>
  cases hl:row[k]? with
  | none=>left;simp[hl]
  | some l=>right;exact⟨row,rfl,by simp[hl]⟩
theorem uf{last:List (List Int)}{g k:Nat}{row:List Int}{v:Int}(hr:last[g]? = some row)(hl:row[k]? = some v):eX last g k=v:=by
 unfold eX;rw[hr];simp[hl]
theorem cZ(d:Wd):aZ d=0↔aL d:=by
 have hE:aZ d=0↔dS d.ah.length d.au=0/\iM d=true/\jy d=true/\fF d=true:=by
  unfold aZ;by_cases h:dS d.ah.length d.au=0
  ·rw[if_pos h]
   cases hs:iM d <;> cases hn:jy d <;> cases hw:fF d <;> simp[h]
  ·rw[if_neg h];simp[h]
 rw[hE,JI,JJ,JK];constructor
 ·rintro⟨hc,⟨hs1,hs2⟩,hn,hw1,hw2⟩
  have N:∀(k:Nat) (x:Nd),d.ah[k]? = some x->(0<=x.aK/\x.aK<=1048576)/\x.last.length=d.au.length/\(∀(g:Nat) (row:List Int),x.last[g]? = some row->row.length=d.ah.length/\∀(i:Nat) (v:Int),row[i]? = some v->fD d k g i v=true)
    /\ bC x.held=true/\bC x.aG=true/\gQ x.held=true/\gQ x.aG=true/\bW d x.held k=true/\bW d x.aG k=true:=by
   intro k x hx;have:=hn k x hx;unfold aX nE jm at this;simp only[Bool.and_eq_true,decide_eq_true_eq,inB,zA]at this;obtain⟨⟨a,b⟩,c,d1,d2,d3,d4,d5,d6⟩:=this;exact⟨a,b,c,d1,d2,d3,d4,d5,d6⟩
  have C:∀(k:Nat) (x:Nd) (g i:Nat),d.ah[k]? = some x->fD d k g i (eX x.last g i)=true\/eX x.last g i=0:=by
   intro k x g i hx;rcases yt x.last g i with h0 | ⟨row,hr,hv⟩
   ·exact .inr h0
   ·exact .inl (((N k x hx).2.2.1 g row hr).2 i _ hv)
  refine⟨hc,hw1,fun f row h=>(hw2 f row h).1,fun k x h=>(N k x h).2.1,fun k x g row h h2=>((N k x h).2.2.1 g row h2).1, ?_, ?_, ?_, ?_, ?_, ?_, ?_, ?_, ?_, ?_, ?_, ?_, ?_⟩
  ·intro k;unfold bB
   cases h:d.ah[k]? with
   | none=>simp
   | some x=>exact(N k x h).1
  ·intro k g i;unfold eB
   cases h:d.ah[k]? with
   | none=>simp
   | some x =>
    rcases C k x g i h with h1 | h1
    ·unfold fD at h1;rw[Bool.and_eq_true]at h1;simpa[inB] using h1.1
    ·show 0<=eX x.last g i/\eX x.last g i<=_;rw[h1];omega
  ·intro k g i hb;unfold eB
   cases h:d.ah[k]? with
   | none=>rfl
   | some x =>
    rcases C k x g i h with h1 | h1
    ·unfold fD at h1;rw[Bool.and_eq_true,hb]at h1;simpa using h1.2
    ·exact h1
  ·intro k;unfold aQ
   cases h:d.ah[k]? with
   | none=>simp
   | some x=>exact(hs1 k x h).1
  ·intro k;unfold bM
   cases h:d.ah[k]? with
   | none=>simp
   | some x=>exact(hs1 k x h).2
  ·intro f t;rcases jT d f t with h | ⟨row,l,hr,hl,h⟩
   ·rw[h];simp
   ·rw[h];exact hs2 f row t l hr hl
  ·intro k;unfold aQ
   cases h:d.ah[k]? with
   | none=>rfl
   | some x=>exact(N k x h).2.2.2.1
  ·intro k;unfold bM
   cases h:d.ah[k]? with
   | none=>rfl
   | some x=>exact(N k x h).2.2.2.2.1
  ·intro k m hm;unfold aQ at hm
   cases h:d.ah[k]? with
   | none=>rw[h]at hm;simp at hm
   | some x =>
    rw[h]at hm;obtain⟨_,_,_,_,_,e1,e2,e3,e4⟩:=N k x h;unfold gQ at e1;unfold bW at e3;rw[List.all_eq_true]at e1 e3;exact⟨e3 m hm,by simpa using e1 m hm⟩
  ·intro k m hm;unfold bM at hm
   cases h:d.ah[k]? with
   | none=>rw[h]at hm;simp at hm
   | some x =>
    rw[h]at hm;obtain⟨_,_,_,_,_,e1,e2,e3,e4⟩:=N k x h;unfold gQ at e2;unfold bW at e4;rw[List.all_eq_true]at e2 e4;exact⟨e4 m hm,by simpa using e2 m hm⟩
  ·intro f t m hm;rcases jT d f t with h | ⟨row,l,hr,hl,h⟩
   ·rw[h]at hm;simp at hm
   ·rw[h]at hm;have:=(hw2 f row hr).2 t l hl;unfold bA kM bW at this;simp only[Bool.and_eq_true,List.all_eq_true,decide_eq_true_eq]at this;exact⟨this.2.1 m hm,this.1.1 m hm⟩
  ·intro f t;rcases jT d f t with h | ⟨row,l,hr,hl,h⟩
   ·rw[h];rfl
   ·rw[h];have:=(hw2 f row hr).2 t l hl;unfold bA kM at this;simp only[Bool.and_eq_true]at this;exact this.1.2
  ·intro f;rcases jT d f f with h | ⟨row,l,hr,hl,h⟩
   ·exact h
   ·rw[h];have:=(hw2 f row hr).2 f l hl;unfold bA at this;simp only[Bool.and_eq_true]at this;exact zQ6 (by simpa using this.2.2)
 ·intro R
  have H:∀(k:Nat) (x:Nd),d.ah[k]? = some x->aQ d k=x.held/\bM d k=x.aG/\bB d k=x.aK/\∀g i,eB d k g i=eX x.last g i:=by
   intro k x h;unfold aQ bM bB eB;rw[h];exact⟨rfl,rfl,rfl,fun _ _=>rfl⟩
  refine⟨R.chk,⟨fun k x h=>?_,fun f row t l hr hl=>?_⟩,fun k x h=>?_,R.yu,fun f row hr=>⟨R.rlen f row hr,fun t l hl=>?_⟩⟩
  ·obtain⟨h1,h2,_,_⟩:=H k x h;rw[<-h1,<-h2];exact⟨R.nW k,R.vH k⟩
  ·rw[<-pO hr hl];exact R.pK f t
  ·obtain⟨h1,h2,h3,h4⟩:=H k x h;unfold aX nE jm;simp only[Bool.and_eq_true,decide_eq_true_eq,inB,zA];refine⟨⟨h3 ▸ R.clk k,R.llen k x h⟩,fun g row hr=>⟨R.lW k x g row h hr,fun i v hv=>?_⟩,h1 ▸ R.tY k,h2 ▸ R.Hr k, ?_, ?_, ?_, ?_⟩
   ·have e:=uf hr hv;have l1:=R.lst k g i;have l2:=R.PX k g i;rw[h4,e]at l1 l2;unfold fD;rw[Bool.and_eq_true];refine⟨by simpa[inB] using l1, ?_⟩;cases hb:xY d k g i
    ·simp[l2 hb]
    ·rfl
   ·unfold gQ;rw[List.all_eq_true];intro m hm;have:=(R.vN k m (h1 ▸ hm)).2;simp[this]
   ·unfold gQ;rw[List.all_eq_true];intro m hm;have:=(R.Ad k m (h2 ▸ hm)).2;simp[this]
   ·unfold bW;rw[List.all_eq_true];intro m hm;exact(R.vN k m (h1 ▸ hm)).1
   ·unfold bW;rw[List.all_eq_true];intro m hm;exact(R.Ad k m (h2 ▸ hm)).1
  ·have e:=pO hr hl;unfold bA kM bW;simp only[Bool.and_eq_true,List.all_eq_true,decide_eq_true_eq];refine⟨⟨fun m hm=>(R.sK f t m (e ▸ hm)).2,e ▸ R.Ba f t⟩,fun m hm=>(R.sK f t m (e ▸ hm)).1, ?_⟩;by_cases hft:f=t
   ·subst hft;rw[R.DU f]at e;subst e;simp
   ·simp[hft]
/-! Lists of messages that rise. -/
theorem DX(a b:Mg):lessM a b=true↔a.st < b.st\/(a.st=b.st/\a.fr < b.fr):=by
 unfold lessM;simp
theorem pQ{a b c:Mg}(h1:lessM a b=true)(h2:lessM b c=true):lessM a c=true:=by
 rw[DX]at *;omega
theorem gq:∀l:List Mg,bC l=true↔l.Pairwise (fun a b=>lessM a b=true)
 | []=>by simp[bC]
 | [a]=>by simp[bC]
 | a::b::r=>by
  rw[bC,Bool.and_eq_true,gq (b::r),List.pairwise_cons (a:=a)];constructor
  ·rintro⟨h1,h2⟩;refine⟨fun x hx=>?_,h2⟩;rcases List.mem_cons.1 hx with rfl | hx
   ·exact h1
   ·exact pQ h1 ((List.pairwise_cons.1 h2).1 x hx)
  ·rintro⟨h1,h2⟩;exact⟨h1 b (by simp),h2⟩
theorem jU:∀l:List Mg,gP l=true↔l.Pairwise (fun a b=>a.st < b.st)
 | []=>by simp[gP]
 | [a]=>by simp[gP]
 | a::b::r=>by
  rw[gP,Bool.and_eq_true,jU (b::r),List.pairwise_cons (a:=a),decide_eq_true_eq];constructor
  ·rintro⟨h1,h2⟩;refine⟨fun x hx=>?_,h2⟩;rcases List.mem_cons.1 hx with rfl | hx
   ·exact h1
   ·have:=(List.pairwise_cons.1 h2).1 x hx;omega
  ·rintro⟨h1,h2⟩;exact⟨h1 b (by simp),h2⟩
theorem filter_le:∀(l:List Mg) (v:Int),bC l=true ->
  l.take (l.filter fun m=>decide (m.st<=v)).length=l.filter (fun m=>decide (m.st<=v))/\l.drop (l.filter fun m=>decide (m.st<=v)).length=l.filter (fun m=>decide (v < m.st))
 | [],v,_=>by simp
 | a::r,v,h=>by
  have hp:=(gq _).1 h;obtain⟨h1,h2⟩:=List.pairwise_cons.1 hp;obtain⟨e1,e2⟩:=filter_le r v ((gq _).2 h2);by_cases ha:a.st<=v
  ·have hb:¬ v < a.st:=by omega
   simp[ha,hb,e1,e2]
  ·have hb:v < a.st:=by omega
   have hr:∀x∈r,v < x.st:=fun x hx=>by have:=h1 x hx;rw[DX]at this;omega
   have e3:r.filter (fun m=>decide (m.st<=v))=[]:=by
    rw[List.filter_eq_nil_iff];intro x hx;have:=hr x hx;simp;omega
   have e4:r.filter (fun m=>decide (v < m.st))=r:=by
    rw[List.filter_eq_self];intro x hx;have:=hr x hx;simp;omega
   simp[ha,hb,e3,e4]
theorem mU{m:Mg}{ms:List Mg}(h:dV m ms=0)(x:Mg):x∈gK m ms↔x=m\/x∈ms:=by
 unfold gK;rw[if_pos h]
 have:x∈ms↔x∈ms.take (dK m ms)\/x∈ms.drop (dK m ms):=by
  rw[<-List.mem_append,List.take_append_drop]
 rw[this];simp only[List.mem_append,List.mem_singleton];constructor
 ·rintro((h | h) | h)
  ·exact .inr (.inl h)
  ·exact .inl h
  ·exact .inr (.inr h)
 ·rintro(h | h | h)
  ·exact .inl (.inr h)
  ·exact .inl (.inl h)
  ·exact .inr h
theorem zB(m:Mg):∀ms:List Mg,∀x∈ms.take (dK m ms),lessM x m=true
 | [],x,h=>by simp at h
 | y::r,x,h=>by
  unfold dK at h;cases hl:lessM y m
  ·simp[hl]at h
  ·simp[hl]at h;rcases h with rfl | h
   ·exact hl
   ·exact zB m r x h
theorem yY{m:Mg}{ms:List Mg}(h:dV m ms=0):bC ms=true/\ms.length < 40/\∀x,ms[dK m ms]? = some x->lessM m x=true:=by
 unfold dV at h;cases hr:bC ms
 ·simp[hr]at h
 ·simp only[hr]at h;by_cases hl:40<=ms.length
  ·simp[hl]at h
  ·refine⟨rfl,by omega,fun x hx=>?_⟩;simp only[hl,hx]at h;cases hm:lessM m x
   ·simp[hm]at h
   ·rfl
theorem Br{m:Mg}{ms:List Mg}(h:dV m ms=0):bC (gK m ms)=true:=by
 obtain⟨h1,h2,h3⟩:=yY h;have hp:=(gq _).1 h1;rw[gq];unfold gK;rw[if_pos h,List.append_assoc];have ht:=List.take_append_drop (dK m ms) ms;rw[<-ht]at hp;obtain⟨p1,p2,p3⟩:=List.pairwise_append.1 hp
 have hd:∀x∈ms.drop (dK m ms),lessM m x=true:=by
  intro x hx
  cases hdd:ms.drop (dK m ms) with
  | nil=>rw[hdd]at hx;simp at hx
  | cons y r =>
   have hy:ms[dK m ms]? = some y:=by
    have:=congrArg (·[0]?) hdd;simpa using this
   have hmy:=h3 y hy;rw[hdd]at hx p2;rcases List.mem_cons.1 hx with rfl | hx
   ·exact hmy
   ·exact pQ hmy ((List.pairwise_cons.1 p2).1 x hx)
 refine List.pairwise_append.2 ⟨p1,List.pairwise_append.2 ⟨by simp,p2,fun a ha b hb=>?_⟩,fun a ha b hb=>?_⟩
 ·simp at ha;subst ha;exact hd b hb
 ·rcases List.mem_append.1 hb with hb | hb
  ·simp at hb;subst hb;exact zB _ _ a ha
  ·exact p3 a ha b hb
/-! How far: the greatest number that is below all. -/
theorem K5(d:Wd)(n:Nat)(x:Nd)(v:Int):∀(l:List (Nat × Nat)) (acc:Int),v<=l.foldl (oV d n x) acc↔v<=acc/\∀p∈l,kZ d n p=true->v<=eX x.last p.1 p.2
 | [],acc=>by simp
 | p::l,acc=>by
  rw[List.foldl_cons,K5 d n x v l];unfold oV;simp only[List.mem_cons,forall_eq_or_imp];cases ho:kZ d n p
  ·simp
  ·simp only[if_true,true_implies]
   split <;> constructor <;> rintro⟨h1,h2⟩ <;> refine⟨?_, ?_⟩
   ·omega
   ·exact⟨h1,h2⟩
   ·exact h2.1
   ·exact h2.2
   ·exact h1
   ·exact⟨by omega,h2⟩
   ·omega
   ·exact h2.2
theorem nR(G N g k:Nat):(g,k)∈pairs G N↔g < G/\k < N:=by
 unfold pairs;simp
theorem Bt(d:Wd)(n g k:Nat):kZ d n (g,k)=true↔k≠n/\hasB d.au g n=true/\hasB d.au g k=true:=by
 unfold kZ;simp;intro _ _;omega
theorem K4{xs:List Int}{g:Nat}{n:Int}(h:hasB xs g n=true):g < xs.length:=by
 unfold hasB at h;simp at h;omega
theorem PY(d:Wd)(n:Nat)(x:Nd)(v:Int):v<=p8 d n x↔v<=x.aK/\∀g k:Nat,k < d.ah.length->k≠n->hasB d.au g n=true->hasB d.au g k=true->v<=eX x.last g k:=by
 unfold p8;rw[K5];refine and_congr Iff.rfl ⟨fun h g k hk hn h1 h2=>h (g,k) ((nR _ _ _ _).2 ⟨K4 h1,hk⟩) ((Bt _ _ _ _).2 ⟨hn,h1,h2⟩),fun h p hp ho=>?_⟩;obtain⟨g,k⟩:=p;obtain⟨h0,h1,h2⟩:=(Bt _ _ _ _).1 ho;exact h g k ((nR _ _ _ _).1 hp).2 h0 h1 h2
theorem mO{d:Wd}{n:Nat}(hn:n < d.ah.length)(v:Int):v<=dQ d n↔v<=bB d n/\∀g k:Nat,k < d.ah.length->k≠n->hasB d.au g n=true->hasB d.au g k=true->v<=eB d n g k:=by
 have hx:d.ah[n]? = some d.ah[n]:=zQ1 hn;unfold dQ bB eB;rw[hx];exact PY d n _ v
structure Alike (d d':Wd):Prop where
 g:d'.au=d.au
 n:d'.ah.length=d.ah.length
 w:d'.aB.length=d.aB.length
 r:∀(f:Nat) (row':List (List Mg)),d'.aB[f]? = some row'->∃row,d.aB[f]? = some row/\row'.length=row.length
 l:∀(k:Nat) (x':Nd),d'.ah[k]? = some x'->∃x,d.ah[k]? = some x/\x'.last.length=x.last.length/\∀(g:Nat) (row':List Int),x'.last[g]? = some row'->∃row,x.last[g]? = some row/\row'.length=row.length
theorem Alike.refl(d:Wd):Alike d d:=⟨rfl,rfl,rfl,fun _ r h=>⟨r,h,rfl⟩,fun _ x h=>⟨x,h,rfl,fun _ r h=>⟨r,h,rfl⟩⟩⟩
theorem Alike.trans{a b c:Wd}(h:Alike a b)(k:Alike b c):Alike a c:=by
 refine⟨k.g.trans h.g,k.n.trans h.n,k.w.trans h.w,fun f row hr=>?_,fun i x hx=>?_⟩
 ·obtain⟨r1,e1,e2⟩:=k.r f row hr;obtain⟨r2,e3,e4⟩:=h.r f r1 e1;exact⟨r2,e3,e2.trans e4⟩
 ·obtain⟨x1,e1,e2,e3⟩:=k.l i x hx;obtain⟨x2,e4,e5,e6⟩:=h.l i x1 e1;refine⟨x2,e4,e2.trans e5,fun g row hr=>?_⟩;obtain⟨r1,f1,f2⟩:=e3 g row hr;obtain⟨r2,f3,f4⟩:=e6 g r1 f1;exact⟨r2,f3,f2.trans f4⟩
theorem Alike.fine{d d':Wd}(h:Alike d d')(n:Int)(m:Mg):jC d' n m=jC d n m:=by unfold jC;rw[h.g,h.n]
theorem Alike.both{d d':Wd}(h:Alike d d')(n g k:Nat):xY d' n g k=xY d n g k:=by unfold xY;rw[h.g]
theorem pR{d:Wd}{n:Nat}(hn:n < d.ah.length):∃x,d.ah[n]? = some x:=⟨_,zQ1 hn⟩
theorem bT{d:Wd}{n:Nat}{x:Nd}(h:d.ah[n]? = some x):n < d.ah.length:=(zQ2.1 h).1
theorem dI{d:Wd}{n:Nat}{x:Nd}(y:Nd)(hx:d.ah[n]? = some x)(k:Nat):(aD d n y).ah[k]? = if k=n then some y else d.ah[k]?:=by
 unfold aD;show(d.ah.set n y)[k]? = _;rw[List.getElem?_set];by_cases h:n=k
 ·subst h;simp[bT hx]
 ·have:¬ k=n:=fun e=>h e.symm;simp[h,this]
theorem kG{d:Wd}{n:Nat}{x:Nd}(y:Nd)(hx:d.ah[n]? = some x)(hl:y.last.length=x.last.length)(hr:∀(g:Nat) (row':List Int),y.last[g]? = some row'->∃row,x.last[g]? = some row/\row'.length=row.length):Alike d (aD d n y):=by
 refine⟨rfl,by simp[aD],rfl,fun _ r h=>⟨r,h,rfl⟩,fun k x' h=>?_⟩;rw[dI y hx]at h;by_cases hk:k=n
 ·subst hk;simp at h;subst h;exact⟨x,hx,hl,hr⟩
 ·rw[if_neg hk]at h;exact⟨x',h,rfl,fun _ r h=>⟨r,h,rfl⟩⟩
theorem pU{d:Wd}{n:Nat}{x:Nd}(y:Nd)(hx:d.ah[n]? = some x)(k:Nat):bB (aD d n y) k=if k=n then y.aK else bB d k:=by
 unfold bB;rw[dI y hx];by_cases h:k=n <;> simp only[h,if_true,if_false]
theorem ug{d:Wd}{n:Nat}{x:Nd}(y:Nd)(hx:d.ah[n]? = some x)(k g i:Nat):eB (aD d n y) k g i=if k=n then eX y.last g i else eB d k g i:=by
 unfold eB;rw[dI y hx];by_cases h:k=n <;> simp only[h,if_true,if_false]
theorem lM{d:Wd}{n:Nat}{x:Nd}(y:Nd)(hx:d.ah[n]? = some x)(k:Nat):aQ (aD d n y) k=if k=n then y.held else aQ d k:=by
 unfold aQ;rw[dI y hx];by_cases h:k=n <;> simp only[h,if_true,if_false]
theorem jV{d:Wd}{n:Nat}{x:Nd}(y:Nd)(hx:d.ah[n]? = some x)(k:Nat):bM (aD d n y) k=if k=n then y.aG else bM d k:=by
 unfold bM;rw[dI y hx];by_cases h:k=n <;> simp only[h,if_true,if_false]
theorem ES(d:Wd)(n:Nat)(y:Nd)(f t:Nat):aJ (aD d n y) f t=aJ d f t:=rfl
theorem dU{d:Wd}{n:Nat}{x:Nd}(hx:d.ah[n]? = some x):bB d n=x.aK/\aQ d n=x.held/\bM d n=x.aG/\dQ d n=p8 d n x/\∀g i,eB d n g i=eX x.last g i:=by
 unfold bB aQ bM dQ eB;rw[hx];exact⟨rfl,rfl,rfl,rfl,fun _ _=>rfl⟩
def eF(d:Wd):Prop:=d.aB.length=d.ah.length/\∀(f:Nat) (row:List (List Mg)),d.aB[f]? = some row->row.length=d.ah.length
theorem aL.rows{d:Wd}(h:aL d):eF d:=⟨h.yu,h.rlen⟩
theorem Alike.rows{d d':Wd}(h:Alike d d')(r:eF d):eF d':=by
 refine⟨h.w.trans (r.1.trans h.n.symm),fun f row hr=>?_⟩;obtain⟨r1,e1,e2⟩:=h.r f row hr;rw[e2,h.n];exact r.2 f r1 e1
theorem DY{d:Wd}{f t:Nat}(l:List Mg)(hr:eF d)(hf:f < d.ah.length)(ht:t < d.ah.length)(f' t':Nat):aJ (bK d f t l) f' t'=if f'=f/\t'=t then l else aJ d f' t':=by
 obtain⟨row,hrow⟩:∃row,d.aB[f]? = some row:=⟨_,zQ1 (by rw[hr.1];exact hf)⟩;have bq:=hr.2 f row hrow;unfold bK aJ;show((d.aB.set f ((d.aB[f]?.getD []).set t l))[f']?.getD [])[t']?.getD []=_;rw[hrow,List.getElem?_set];by_cases h:f=f'
 ·subst h;have:f < d.aB.length:=by rw[hr.1];exact hf
  simp only[this,Option.getD_some,if_true,true_and];rw[List.getElem?_set];by_cases h2:t=t'
  ·subst h2;simp[bq,ht]
  ·have:¬ t'=t:=fun e=>h2 e.symm;simp[h2,this,hrow]
 ·have:¬ f'=f:=fun e=>h e.symm;simp[h,this]
theorem vO{d:Wd}{f t:Nat}(l:List Mg):Alike d (bK d f t l):=by
 refine⟨rfl,rfl,by simp[bK],fun f' row' h=>?_,fun _ x h=>⟨x,h,rfl,fun _ r h=>⟨r,h,rfl⟩⟩⟩;unfold bK at h;rw[List.getElem?_set]at h;by_cases e:f=f'
 ·subst e;by_cases hl:f < d.aB.length
  ·simp[hl]at h;refine⟨d.aB[f],zQ1 hl, ?_⟩;rw[<-h];simp
  ·simp[hl]at h
 ·simp[e]at h;exact⟨row',h,rfl⟩
theorem yV{d d':Wd}{k:Nat}(hg:d'.au=d.au)(hn:d'.ah.length=d.ah.length)(hk:k < d.ah.length)(hc:bB d' k=bB d k)(hl:∀g i,eB d' k g i=eB d k g i):dQ d' k=dQ d k:=by
 have h1:∀v,v<=dQ d' k↔v<=dQ d k:=by
  intro v;rw[mO (by rw[hn];exact hk),mO hk,hg,hn,hc];simp only[hl]
 have a:=(h1 (dQ d' k)).1 (Int.le_refl _);have b:=(h1 (dQ d k)).2 (Int.le_refl _);omega
structure qU (d d':Wd) (n:Nat):Prop where
 alike:Alike d d'
 clk:∀k,bB d' k=bB d k
 lst:∀k g i,eB d' k g i=eB d k g i
 wire:∀f t,aJ d' f t=aJ d f t
 other:∀k,k≠n->aQ d' k=aQ d k/\bM d' k=bM d k
 aG:bM d' n=bM d n++(aQ d n).filter fun m=>decide (m.st<=dQ d n)
 held:aQ d' n=(aQ d n).filter fun m=>decide (dQ d n < m.st)
 len:(bM d' n).length<=40
 rises:bC (bM d' n)=true
theorem Bd{d:Wd}{n:Nat}{p:Wd × Nat}(hh:bC (aQ d n)=true)(h:eZ d n=.ok p):n < d.ah.length/\qU d p.1 n/\p.2=((aQ d n).filter fun m=>decide (m.st<=dQ d n)).length:=by
 unfold eZ at h
 cases hx:d.ah[n]? with
 | none=>rw[hx]at h;cases h
 | some x =>
  rw[hx]at h;obtain⟨c1,c2,c3,c4,c5⟩:=dU hx;have e:dD d n x=(aQ d n).filter fun m=>decide (m.st<=dQ d n):=by unfold dD;rw[c2,c4]
  simp only at h;by_cases h1:40 < (x.aG++dD d n x).length
  ·rw[if_pos h1]at h;cases h
  ·rw[if_neg h1]at h;cases h2:bC (x.aG++dD d n x)
   ·rw[if_pos h2]at h;cases h
   ·rw[if_neg (by simp[h2])]at h;have hp:=Except.ok.inj h;subst hp;obtain⟨f1,f2⟩:=filter_le (aQ d n) (dQ d n) hh;refine⟨bT hx,⟨kG _ hx rfl (fun _ r h=>⟨r,h,rfl⟩),fun k=>?_,fun k g i=>?_,fun f t=>rfl,fun k hk=>⟨?_, ?_⟩, ?_, ?_, ?_, ?_⟩,by rw[<-e]⟩
    ·rw[pU _ hx];split
     ·subst k;exact c1.symm
     ·rfl
    ·rw[ug _ hx];split
     ·subst k;exact(c5 g i).symm
     ·rfl
    ·rw[lM _ hx,if_neg hk]
    ·rw[jV _ hx,if_neg hk]
    ·rw[jV _ hx,if_pos rfl,c3,e]
    ·rw[lM _ hx,if_pos rfl];show x.held.drop _=_;rw[e,<-c2,f2]
    ·rw[jV _ hx,if_pos rfl];show(x.aG++_).length<=40;omega
    ·rw[jV _ hx,if_pos rfl];exact h2
theorem yZ{d:Wd}{n:Nat}{e:Int}(hn:n < d.ah.length)(h:eZ d n=.error e):e=2\/(e=1/\bC (bM d n++(aQ d n).filter fun m=>decide (m.st<=dQ d n))=false):=by
 unfold eZ at h;obtain⟨x,hx⟩:=pR hn;rw[hx]at h;obtain⟨c1,c2,c3,c4,c5⟩:=dU hx;have e':dD d n x=(aQ d n).filter fun m=>decide (m.st<=dQ d n):=by unfold dD;rw[c2,c4]
 simp only at h;by_cases h1:40 < (x.aG++dD d n x).length
 ·rw[if_pos h1]at h;exact .inl (Except.error.inj h).symm
 ·rw[if_neg h1]at h;cases h2:bC (x.aG++dD d n x)
  ·rw[if_pos h2]at h;exact .inr ⟨(Except.error.inj h).symm,by rw[c3,<-e'];exact h2⟩
  ·rw[if_neg (by simp[h2])]at h;cases h
theorem bind_ok{α β:Type}{x:Except Int α}{f:α->Except Int β}{b:β}(h:x.bind f=.ok b):∃a,x=.ok a/\f a=.ok b:=by
 cases x with
 | error e=>cases h
 | ok a=>exact⟨a,rfl,h⟩
theorem lK{α β:Type}{x:Except Int α}{f:α->Except Int β}{e:Int}(h:x.bind f=.error e):x=.error e\/∃a,x=.ok a/\f a=.error e:=by
 cases x with
 | error e'=>exact .inl (by cases h;rfl)
 | ok a=>exact .inr ⟨a,rfl,h⟩
structure Ou (d d':Wd) (n:Nat) (m:Mg):Prop where
 alike:Alike d d'
 clk:∀k,bB d' k=bB d k
 lst:∀k g i,eB d' k g i=eB d k g i
 wire:∀f t,aJ d' f t=aJ d f t
 other:∀k,k≠n->aQ d' k=aQ d k
 aG:∀k,bM d' k=bM d k
 held:(m.nul=true/\aQ d' n=aQ d n)\/(m.nul=false/\dV m (aQ d n)=0/\aQ d' n=gK m (aQ d n))
theorem DZ{d d':Wd}{n:Nat}{m:Mg}(hn:n < d.ah.length)(h:eD d n m=.ok d'):Ou d d' n m:=by
 unfold eD at h;cases hm:m.nul
 ·rw[hm,if_neg (by simp)]at h;unfold sJ at h;obtain⟨x,hx⟩:=pR hn;obtain⟨c1,c2,c3,c4,c5⟩:=dU hx;rw[hx]at h;simp only at h;by_cases h1:dV m x.held=0
  ·rw[if_pos h1]at h;have hp:=Except.ok.inj h;subst hp;refine⟨kG _ hx rfl (fun _ r h=>⟨r,h,rfl⟩),fun k=>?_,fun k g i=>?_,fun f t=>rfl,fun k hk=>?_,fun k=>?_,.inr ⟨hm,by rw[c2];exact h1, ?_⟩⟩
   ·rw[pU _ hx];split
    ·subst k;exact c1.symm
    ·rfl
   ·rw[ug _ hx];split
    ·subst k;exact(c5 g i).symm
    ·rfl
   ·rw[lM _ hx,if_neg hk]
   ·rw[jV _ hx];split
    ·subst k;exact c3.symm
    ·rfl
   ·rw[lM _ hx,if_pos rfl,c2]
  ·rw[if_neg h1]at h;cases h
 ·rw[hm,if_pos rfl]at h;have hp:=Except.ok.inj h;subst hp;exact⟨Alike.refl d,fun _=>rfl,fun _ _ _=>rfl,fun _ _=>rfl,fun _ _=>rfl,fun _=>rfl,.inl ⟨hm,rfl⟩⟩
abbrev ou (d:Wd) (m:Mg) (n i f t:Nat):Prop:=f=n/\t < i/\t≠n/\hasB d.au m.gr t=true
structure PZ (d d':Wd) (m:Mg) (n i:Nat):Prop where
 au:d'.au=d.au
 ah:d'.ah=d.ah
 alike:Alike d d'
 wire:∀f t,aJ d' f t=if ou d m n i f t then aJ d f t++[m] else aJ d f t
 room:∀t,t < i->t≠n->hasB d.au m.gr t=true->(aJ d n t).length≠40/\∀x,(aJ d n t).getLast? = some x->x.st < m.st
theorem jh(m:Mg)(n:Nat)(d:Wd)(i:Nat):fO m n d (i+1)=(fO m n d i).bind fun d1=>fZ m n d1 i:=by
 unfold fO;rw[List.range_succ,List.foldlM_append]
 cases h:List.foldlM (fZ m n) d (List.range i) with
 | error e=>rfl
 | ok a =>
  show(List.foldlM (fZ m n) a [i])=_;simp only[List.foldlM_cons,List.foldlM_nil];show(fZ m n a i).bind _=(fZ m n a i)
  cases fZ m n a i <;> rfl
theorem qX{m:Mg}{n:Nat}{d:Wd}(hr:eF d)(hn:n < d.ah.length):∀(i:Nat) (d':Wd),i<=d.ah.length->fO m n d i=.ok d'->PZ d d' m n i
 | 0,d',_,h=>by
  have:=Except.ok.inj h;subst this;exact⟨rfl,rfl,Alike.refl d,fun f t=>by rw[if_neg (by unfold ou;omega)],fun t ht=>by omega⟩
 | i+1,d',hi,h=>by
  rw[jh]at h;obtain⟨d1,h1,h2⟩:=bind_ok h;have S:=qX hr hn i d1 (by omega) h1;have R1:=S.alike.rows hr;unfold fZ at h2;have hw:aJ d1 n i=aJ d n i:=by rw[S.wire,if_neg (by unfold ou;omega)]
  by_cases c:i=n\/hasB d1.au m.gr i=false
  ·rw[if_pos c]at h2;have:=Except.ok.inj h2;subst this;rw[S.au]at c;refine⟨S.au,S.ah,S.alike,fun f t=>?_,fun t ht h3 h4=>?_⟩
   ·rw[S.wire];by_cases g:ou d m n i f t
    ·rw[if_pos g,if_pos (by unfold ou at g ⊢;exact⟨g.1,by omega,g.2.2⟩)]
    ·rw[if_neg g,if_neg];rintro⟨a1,a2,a3,a4⟩;by_cases e:t=i
     ·subst e;rcases c with c | c
      ·exact a3 c
      ·rw[c]at a4;cases a4
     ·exact g ⟨a1,by omega,a3,a4⟩
   ·by_cases e:t=i
    ·subst e;rcases c with c | c
     ·exact absurd c h3
     ·rw[c]at h4;cases h4
    ·exact S.room t (by omega) h3 h4
  ·rw[if_neg c]at h2
   have c':i≠n/\hasB d.au m.gr i=true:=by
    rw[S.au]at c;refine⟨fun e=>c (.inl e), ?_⟩;cases hb:hasB d.au m.gr i
    ·exact absurd (.inr hb) c
    ·rfl
   rw[hw]at h2;by_cases h3:(aJ d n i).length=40
   ·rw[if_pos h3]at h2;cases h2
   ·rw[if_neg h3]at h2;cases h4:sM m (aJ d n i)
    ·rw[if_neg (by simp[h4])]at h2;have:=Except.ok.inj h2;subst this;refine⟨S.au,S.ah,S.alike.trans (vO _),fun f t=>?_,fun t ht h5 h6=>?_⟩
     ·have hnn:=S.alike.n;rw[DY _ R1 (by omega) (by omega)];by_cases e:f=n/\t=i
      ·obtain⟨rfl,rfl⟩:=e;rw[if_pos ⟨rfl,rfl⟩,if_pos ⟨rfl,by omega,c'.1,c'.2⟩]
      ·rw[if_neg e,S.wire];by_cases g:ou d m n i f t
       ·rw[if_pos g,if_pos ⟨g.1,by have:=g.2.1;omega,g.2.2⟩]
       ·rw[if_neg g,if_neg];rintro⟨a1,a2,a3,a4⟩
        exact g ⟨a1,by have:t≠i:=fun e2=>e ⟨a1,e2⟩
                       omega,a3,a4⟩
     ·by_cases e:t=i
      ·subst e;refine⟨h3,fun x hx=>?_⟩;unfold sM at h4;rw[hx]at h4;simp at h4;omega
      ·exact S.room t (by omega) h5 h6
    ·rw[if_pos h4]at h2;cases h2
theorem wD{d d':Wd}{n:Nat}(R:aL d)(S:qU d d' n):aL d':=by
 have hH:∀k m,m∈aQ d' k->m∈aQ d k:=by
  intro k m hm;by_cases h:k=n
  ·subst h;rw[S.held]at hm;exact(List.mem_filter.1 hm).1
  ·rwa[(S.other k h).1]at hm
 refine⟨by rw[S.alike.g,S.alike.n];exact R.chk,(S.alike.rows R.rows).1,(S.alike.rows R.rows).2,fun k x h=>?_,fun k x g row h hr=>?_,fun k=>by rw[S.clk];exact R.clk k,fun k g i=>by rw[S.lst];exact R.lst k g i,
  fun k g i h=>by rw[S.lst];rw[S.alike.both]at h;exact R.PX k g i h,fun k=>?_,fun k=>?_,fun f t=>by rw[S.wire];exact R.pK f t,fun k=>?_,fun k=>?_,fun k m hm=>?_,fun k m hm=>?_,fun f t m hm=>?_,fun f t=>by rw[S.wire];exact R.Ba f t,fun f=>by rw[S.wire];exact R.DU f⟩
 ·obtain⟨x0,e1,e2,_⟩:=S.alike.l k x h;rw[e2,S.alike.g];exact R.llen k x0 e1
 ·obtain⟨x0,e1,_,e3⟩:=S.alike.l k x h;obtain⟨r0,e4,e5⟩:=e3 g row hr;rw[e5,S.alike.n];exact R.lW k x0 g r0 e1 e4
 ·by_cases h:k=n
  ·subst h;rw[S.held];exact zQ5 (List.length_filter_le _ _) (R.nW k)
  ·rw[(S.other k h).1];exact R.nW k
 ·by_cases h:k=n
  ·subst h;exact S.len
  ·rw[(S.other k h).2];exact R.vH k
 ·by_cases h:k=n
  ·subst h;rw[S.held];rw[gq];exact((gq _).1 (R.tY k)).sublist (List.filter_sublist)
  ·rw[(S.other k h).1];exact R.tY k
 ·by_cases h:k=n
  ·subst h;exact S.rises
  ·rw[(S.other k h).2];exact R.Hr k
 ·rw[S.alike.fine];exact R.vN k m (hH k m hm)
 ·rw[S.alike.fine];by_cases h:k=n
  ·subst h;rw[S.aG]at hm;rcases List.mem_append.1 hm with hm | hm
   ·exact R.Ad k m hm
   ·exact R.vN k m (List.mem_filter.1 hm).1
  ·rw[(S.other k h).2]at hm;exact R.Ad k m hm
 ·rw[S.wire]at hm;rw[S.alike.fine];exact R.sK f t m hm
structure yh (d d':Wd) (n:Nat) (m:Mg):Prop where
 alike:Alike d d'
 lt:n < d.ah.length
 mfr:m.fr=n
 mst:m.st=bB d n+1
 top:m.st<=1048576
 fine:iN d.ah.length d.au m=0
 clk:∀k,bB d' k=if k=n then m.st else bB d k
 lst:∀k g i,eB d' k g i=eB d k g i
 wire:∀f t,aJ d' f t=if ou d m n d.ah.length f t then aJ d f t++[m] else aJ d f t
 room:∀t,t < d.ah.length->t≠n->hasB d.au m.gr t=true->(aJ d n t).length≠40/\∀x,(aJ d n t).getLast? = some x->x.st < m.st
 aG:∀k,bM d' k=bM d k
 other:∀k,k≠n->aQ d' k=aQ d k
 held:(m.nul=true/\aQ d' n=aQ d n)\/(m.nul=false/\dV m (aQ d n)=0/\aQ d' n=gK m (aQ d n))
structure yj (d d':Wd) (f t:Nat) (m:Mg):Prop where
 alike:Alike d d'
 flt:f < d.ah.length
 tlt:t < d.ah.length
 clk:∀k,bB d' k=if k=t then max (bB d t) m.st else bB d k
 lst:∀k g i,eB d' k g i=if k=t/\g=m.gr.toNat/\i=f then max (eB d k g i) m.st else eB d k g i
 first:aJ d f t=m::aJ d' f t
 wire:∀f' t',¬ (f'=f/\t'=t)->aJ d' f' t'=aJ d f' t'
 aG:∀k,bM d' k=bM d k
 other:∀k,k≠t->aQ d' k=aQ d k
 held:(m.nul=true/\aQ d' t=aQ d t)\/(m.nul=false/\dV m (aQ d t)=0/\aQ d' t=gK m (aQ d t))
def Bb(d:Wd)(n g:Int)(nul:Bool)(body:ByteArray):Mg:=⟨n,g,bB d n.toNat+1,nul,body⟩
def kH(d:Wd)(n g:Int)(nul:Bool)(body:ByteArray):Except Int Wd :=
 (fO (Bb d n g nul body) n.toNat (mV d n.toNat (bB d n.toNat+1)) d.ah.length).bind fun d2=>eD d2 n.toNat (Bb d n g nul body)
def fP(d:Wd)(f t:Nat):Except Int Wd:=match aJ d f t with | []=>.error 7 | m::rest=>eD (nC d f t m rest) t m
theorem G6(d:Wd)(n g:Int)(nul:Bool)(body:ByteArray):dR d n g nul body=if cK d n g body.size=0 then (kH d n g nul body).bind fun d3=>(eZ d3 n.toNat).bind fun p=>.ok p.1 else .error (cK d n g body.size):=by
 unfold dR kH Bb;split
 ·cases fO ⟨n,g,bB d n.toNat+1,nul,body⟩ n.toNat (mV d n.toNat (bB d n.toNat+1)) d.ah.length <;> rfl
 ·rfl
theorem G8(d:Wd)(f t:Nat):fI d f t=(fP d f t).bind fun d3=>(eZ d3 t).bind fun p=>.ok p.1:=by
 unfold fI fP
 cases aJ d f t <;> rfl
theorem wI{d:Wd}{n g:Int}{s:Nat}(h:cK d n g s=0):(0<=n/\n < d.ah.length)/\(0<=g/\g < d.au.length)/\hasB d.au g n=true/\s<=8/\bB d n.toNat≠1048576:=by
 unfold cK at h;split at h
 ·cases h
 ·next c =>
  split at h
  ·cases h
  ·next c2 =>
   split at h
   ·cases h
   ·split at h
    ·cases h
    ·next c4 =>
     simp only[inB]at c;simp at c c2;exact⟨by omega,by omega,c2,by omega,c4⟩
theorem Bu{d:Wd}{n:Nat}{x:Nd}(hx:d.ah[n]? = some x)(c:Int):mV d n c=aD d n { x with aK:=c }:=by unfold mV;rw[hx]
theorem MI{a b:Wd}(h:a.ah=b.ah)(k:Nat):bB a k=bB b k:=by unfold bB;rw[h]
theorem Bc{d d3:Wd}{n g:Int}{nul:Bool}{body:ByteArray}(R:aL d)(hE:cK d n g body.size=0)(hb:nul=true->body.size=0)(h:kH d n g nul body=.ok d3):yh d d3 n.toNat (Bb d n g nul body):=by
 obtain⟨hn,hg,hm,hs,hc⟩:=wI hE;have hnt:((n.toNat:Nat):Int)=n:=by omega
 have hlt:n.toNat < d.ah.length:=by omega
 obtain⟨x,hx⟩:=pR hlt;obtain⟨c1,c2,c3,c4,c5⟩:=dU hx;unfold kH at h;obtain⟨d2,h1,h2⟩:=bind_ok h;rw[Bu hx]at h1
 have A0:Alike d (aD d n.toNat { x with aK:=bB d n.toNat+1 }):=kG _ hx rfl (fun _ r h=>⟨r,h,rfl⟩)
 have S1:=qX (A0.rows R.rows) (by rw[A0.n];exact hlt) d.ah.length d2 (by rw[A0.n];exact Nat.le_refl _) h1;have S2:=DZ (by rw[S1.alike.n,A0.n];exact hlt) h2
 have G:∀f t,ou (aD d n.toNat { x with aK:=bB d n.toNat+1 }) (Bb d n g nul body) n.toNat d.ah.length f t↔ou d (Bb d n g nul body) n.toNat d.ah.length f t:=fun f t=>Iff.rfl
 have Ri:=R.clk n.toNat
 have e2:∀k,bB d2 k=bB (aD d n.toNat { x with aK:=bB d n.toNat+1 }) k:=fun k=>MI S1.ah k
 have e3:∀k,aQ d2 k=aQ d k:=fun k=>by
  unfold aQ;rw[S1.ah,dI _ hx];by_cases h:k=n.toNat
  ·subst h;simp[hx]
  ·simp[h]
 have e4:∀k,bM d2 k=bM d k:=fun k=>by
  unfold bM;rw[S1.ah,dI _ hx];by_cases h:k=n.toNat
  ·subst h;simp[hx]
  ·simp[h]
 have e5:∀k g i,eB d2 k g i=eB d k g i:=fun k g i=>by
  unfold eB;rw[S1.ah,dI _ hx];by_cases h:k=n.toNat
  ·subst h;simp[hx]
  ·simp[h]
 refine⟨(A0.trans S1.alike).trans S2.alike,hlt,hnt.symm,rfl,by show bB d n.toNat+1<=_;omega, ?_,fun k=>?_,fun k g i=>(S2.lst k g i).trans (e5 k g i),fun f t=>?_,fun t h3 h4 h5=>S1.room t h3 h4 h5,fun k=>(S2.aG k).trans (e4 k),fun k hk=>(S2.other k hk).trans (e3 k), ?_⟩
 ·unfold iN Bb;have:=R.chk;rw[if_neg (by omega),if_neg,if_neg (by simp[hm]),if_neg]
  ·unfold vV;simp;exact⟨by omega,fun h=>by simpa using hb h⟩
  ·simp only[inB];simp;omega
 ·rw[S2.clk,e2,pU _ hx];rfl
 ·rw[S2.wire,S1.wire];rfl
 ·rw[<-e3];exact S2.held
theorem Bf{d d3:Wd}{f t:Nat}(R:aL d)(hf:f < d.ah.length)(ht:t < d.ah.length)(h:fP d f t=.ok d3):∃m,yj d d3 f t m:=by
 unfold fP at h
 cases hw:aJ d f t with
 | nil=>rw[hw]at h;cases h
 | cons m rest =>
  rw[hw]at h;refine⟨m, ?_⟩;have hm:=R.sK f t m (by rw[hw];simp);obtain⟨x,hx⟩:=pR ht;obtain⟨c1,c2,c3,c4,c5⟩:=dU hx
  have D5:0<=m.gr/\m.gr < d.au.length:=by
   have h1:=hm.1;unfold jC at h1;rw[Bool.and_eq_true]at h1;have h2:=h1.2;unfold hasB at h2;simp at h2;omega
  obtain⟨row,hrow⟩:∃row,x.last[m.gr.toNat]? = some row:=⟨_,zQ1 (by rw[R.llen t x hx];omega)⟩;have hrl:=R.lW t x m.gr.toNat row hx hrow;have A1:Alike d (bK d f t rest):=vO rest;have hx1:(bK d f t rest).ah[t]? = some x:=hx;have eC:nC d f t m rest=aD (bK d f t rest) t (oz x m f):=by unfold nC;rw[hx]
  have A2:Alike (bK d f t rest) (nC d f t m rest):=by
   rw[eC];refine kG _ hx1 (by simp[oz]) fun g r hr=>?_;unfold oz at hr;simp only at hr;rw[List.getElem?_set]at hr;by_cases e:m.gr.toNat=g
   ·subst e;have:m.gr.toNat < x.last.length:=(zQ2.1 hrow).1;simp only[this,if_true,hrow,Option.getD_some,Option.some.injEq]at hr;exact⟨row,hrow,by rw[<-hr];simp⟩
   ·simp[e]at hr;exact⟨r,hr,rfl⟩
  have S2:=DZ (by rw[A2.n,A1.n];exact ht) h
  have e3:∀k,aQ (nC d f t m rest) k=aQ d k:=fun k=>by
   rw[eC,lM _ hx1];split
   ·subst k;exact c2.symm
   ·rfl
  have e4:∀k,bM (nC d f t m rest) k=bM d k:=fun k=>by
   rw[eC,jV _ hx1];split
   ·subst k;exact c3.symm
   ·rfl
  have e5:∀f' t',aJ (nC d f t m rest) f' t'=if f'=f/\t'=t then rest else aJ d f' t':=fun f' t'=>by
   rw[eC,ES,DY _ R.rows hf ht]
  refine⟨(A1.trans A2).trans S2.alike,hf,ht,fun k=>?_,fun k g i=>?_, ?_,fun f' t' hn=>?_,fun k=>(S2.aG k).trans (e4 k),fun k hk=>(S2.other k hk).trans (e3 k), ?_⟩
  ·rw[S2.clk,eC,pU _ hx1];split
   ·rw[c1];rfl
   ·rfl
  ·rw[S2.lst,eC,ug _ hx1];by_cases hk:k=t
   ·subst hk;rw[if_pos rfl,c5];unfold oz eX;simp only;rw[List.getElem?_set];by_cases e:m.gr.toNat=g
    ·subst e;have hl:m.gr.toNat < x.last.length:=(zQ2.1 hrow).1;simp only[hl,if_true,hrow,Option.getD_some,true_and];rw[List.getElem?_set];by_cases e2:f=i
     ·subst e2;have:f < row.length:=by rw[hrl];exact hf
      simp[this]
     ·have:¬ i=f:=fun e=>e2 e.symm;simp[e2,this]
    ·have:¬ g=m.gr.toNat:=fun e2=>e e2.symm;simp[e,this]
   ·simp only[hk,false_and,if_false];rfl
  ·rw[hw,S2.wire,e5,if_pos ⟨rfl,rfl⟩]
  ·rw[S2.wire,e5,if_neg hn]
  ·rw[<-e3];exact S2.held
theorem qW{ah:Int}{xs:List Int}{m:Mg}(h:iN ah xs m=0):(0<=m.fr/\m.fr < ah)/\(0<=m.gr/\m.gr < xs.length)/\(1<=m.st/\m.st<=1048576)/\hasB xs m.gr m.fr=true:=by
 unfold iN at h;split at h
 ·next c=>exact absurd h c
 ·split at h
  ·cases h
  ·next c =>
   split at h
   ·cases h
   ·next c2 =>
    simp only[inB]at c;simp at c c2;exact⟨by omega,by omega,by omega,c2⟩
theorem qV{d:Wd}{n:Int}{m:Mg}:jC d n m=true↔iN d.ah.length d.au m=0/\hasB d.au m.gr n=true:=by
 unfold jC;rw[Bool.and_eq_true,decide_eq_true_eq]
theorem MJ{l:List Mg}{m:Mg}(h:gP l=true)(hl:∀x,l.getLast? = some x->x.st < m.st):gP (l++[m])=true/\∀x∈l,x.st < m.st:=by
 have hp:=(jU _).1 h
 have key:∀x∈l,x.st < m.st:=by
  rcases List.eq_nil_or_concat l with rfl | ⟨l',y,rfl⟩
  ·simp
  ·intro x hx;have hy:y.st < m.st:=hl y (by simp);rw[List.concat_eq_append]at hx hp;rcases List.mem_append.1 hx with hx | hx
   ·have:=(List.pairwise_append.1 hp).2.2 x hx y (by simp);omega
   ·simp at hx;subst hx;exact hy
 refine⟨(jU _).2 (List.pairwise_append.2 ⟨hp,by simp,fun a ha b hb=>?_⟩),key⟩;simp at hb;subst hb;exact key a ha
theorem qp{d d':Wd}{n:Nat}{m:Mg}(R:aL d)(S:yh d d' n m):aL d':=by
 obtain⟨z1,z2,z3,z4⟩:=qW S.fine;have hself:jC d n m=true:=qV.2 ⟨S.fine,by rw[<-S.mfr];exact z4⟩
 refine⟨by rw[S.alike.g,S.alike.n];exact R.chk,(S.alike.rows R.rows).1,(S.alike.rows R.rows).2,fun k x h=>?_,fun k x g row h hr=>?_,fun k=>?_,fun k g i=>by rw[S.lst];exact R.lst k g i,
  fun k g i h=>by rw[S.lst];rw[S.alike.both]at h;exact R.PX k g i h,fun k=>?_,fun k=>by rw[S.aG];exact R.vH k,fun f t=>?_,fun k=>?_,fun k=>by rw[S.aG];exact R.Hr k,fun k x hm=>?_,fun k x hm=>?_,fun f t x hm=>?_,fun f t=>?_,fun f=>?_⟩
 ·obtain⟨x0,e1,e2,_⟩:=S.alike.l k x h;rw[e2,S.alike.g];exact R.llen k x0 e1
 ·obtain⟨x0,e1,_,e3⟩:=S.alike.l k x h;obtain⟨r0,e4,e5⟩:=e3 g row hr;rw[e5,S.alike.n];exact R.lW k x0 g r0 e1 e4
 ·rw[S.clk];split
  ·omega
  ·exact R.clk k
 ·by_cases h:k=n
  ·subst h;rcases S.held with ⟨_,e⟩ | ⟨_,e0,e⟩
   ·rw[e];exact R.nW k
   ·rw[e,lH _ _ e0];have:=(yY e0).2.1;omega
  ·rw[S.other k h];exact R.nW k
 ·rw[S.wire];split
  ·next g=>rw[List.length_append];obtain⟨rfl,g1,g2,g3⟩:=g;have:=(S.room t g1 g2 g3).1;have:=R.pK f t;simp;omega
  ·exact R.pK f t
 ·by_cases h:k=n
  ·subst h;rcases S.held with ⟨_,e⟩ | ⟨_,e0,e⟩
   ·rw[e];exact R.tY k
   ·rw[e];exact Br e0
  ·rw[S.other k h];exact R.tY k
 ·rw[S.alike.fine];by_cases h:k=n
  ·subst h;rcases S.held with ⟨_,e⟩ | ⟨e2,e0,e⟩
   ·rw[e]at hm;exact R.vN k x hm
   ·rw[e,mU e0]at hm;rcases hm with rfl | hm
    ·exact⟨hself,e2⟩
    ·exact R.vN k x hm
  ·rw[S.other k h]at hm;exact R.vN k x hm
 ·rw[S.alike.fine];rw[S.aG]at hm;exact R.Ad k x hm
 ·rw[S.alike.fine];rw[S.wire]at hm;split at hm
  ·next g =>
   rcases List.mem_append.1 hm with hm | hm
   ·exact R.sK f t x hm
   ·simp at hm;subst hm;exact⟨qV.2 ⟨S.fine,g.2.2.2⟩,by rw[S.mfr,g.1]⟩
  ·exact R.sK f t x hm
 ·rw[S.wire];split
  ·next g =>
   obtain⟨rfl,g1,g2,g3⟩:=g;exact(MJ (R.Ba f t) (S.room t g1 g2 g3).2).1
  ·exact R.Ba f t
 ·rw[S.wire,if_neg (by rintro⟨h1,_,h2,_⟩;exact h2 h1)];exact R.DU f
theorem qx{d d':Wd}{f t:Nat}{m:Mg}(R:aL d)(S:yj d d' f t m):aL d':=by
 have hmem:m∈aJ d f t:=by rw[S.first];simp
 obtain⟨hf1,hf2⟩:=R.sK f t m hmem;obtain⟨hf3,hf4⟩:=qV.1 hf1;obtain⟨z1,z2,z3,z4⟩:=qW hf3;have hgr:((m.gr.toNat:Nat):Int)=m.gr:=by omega
 refine⟨by rw[S.alike.g,S.alike.n];exact R.chk,(S.alike.rows R.rows).1,(S.alike.rows R.rows).2,fun k x h=>?_,fun k x g row h hr=>?_,fun k=>?_,fun k g i=>?_,
  fun k g i h=>?_,fun k=>?_,fun k=>by rw[S.aG];exact R.vH k,fun f' t'=>?_,fun k=>?_,fun k=>by rw[S.aG];exact R.Hr k,fun k x hm=>?_,fun k x hm=>?_,fun f' t' x hm=>?_,fun f' t'=>?_,fun f'=>?_⟩
 ·obtain⟨x0,e1,e2,_⟩:=S.alike.l k x h;rw[e2,S.alike.g];exact R.llen k x0 e1
 ·obtain⟨x0,e1,_,e3⟩:=S.alike.l k x h;obtain⟨r0,e4,e5⟩:=e3 g row hr;rw[e5,S.alike.n];exact R.lW k x0 g r0 e1 e4
 ·rw[S.clk];have:=R.clk k;split
  ·subst k;omega
  ·exact this
 ·rw[S.lst];have:=R.lst k g i;split <;> omega
 ·rw[S.lst];rw[S.alike.both]at h;rw[if_neg]
  ·exact R.PX k g i h
  ·rintro⟨rfl,rfl,rfl⟩;unfold xY at h;rw[hgr,hf4,<-hf2,z4]at h;cases h
 ·by_cases h:k=t
  ·subst h;rcases S.held with ⟨_,e⟩ | ⟨_,e0,e⟩
   ·rw[e];exact R.nW k
   ·rw[e,lH _ _ e0];have:=(yY e0).2.1;omega
  ·rw[S.other k h];exact R.nW k
 ·by_cases h:f'=f/\t'=t
  ·obtain⟨rfl,rfl⟩:=h
   have:=R.pK f' t';rw[S.first]at this;simp at this;omega
  ·rw[S.wire f' t' h];exact R.pK f' t'
 ·by_cases h:k=t
  ·subst h;rcases S.held with ⟨_,e⟩ | ⟨_,e0,e⟩
   ·rw[e];exact R.tY k
   ·rw[e];exact Br e0
  ·rw[S.other k h];exact R.tY k
 ·rw[S.alike.fine];by_cases h:k=t
  ·subst h;rcases S.held with ⟨_,e⟩ | ⟨e2,e0,e⟩
   ·rw[e]at hm;exact R.vN k x hm
   ·rw[e,mU e0]at hm;rcases hm with rfl | hm
    ·exact⟨hf1,e2⟩
    ·exact R.vN k x hm
  ·rw[S.other k h]at hm;exact R.vN k x hm
 ·rw[S.alike.fine];rw[S.aG]at hm;exact R.Ad k x hm
 ·rw[S.alike.fine];by_cases h:f'=f/\t'=t
  ·obtain⟨rfl,rfl⟩:=h
   exact R.sK f' t' x (by rw[S.first];exact List.mem_cons_of_mem _ hm)
  ·rw[S.wire f' t' h]at hm;exact R.sK f' t' x hm
 ·by_cases h:f'=f/\t'=t
  ·obtain⟨rfl,rfl⟩:=h
   have:=(jU _).1 (R.Ba f' t');rw[S.first]at this
   exact(jU _).2 (List.pairwise_cons.1 this).2
  ·rw[S.wire f' t' h];exact R.Ba f' t'
 ·by_cases h:f'=f/\f'=t
  ·obtain⟨rfl,rfl⟩:=h
   have:=R.DU f';rw[S.first]at this;cases this
  ·rw[S.wire f' f' h];exact R.DU f'
def In(d:Wd)(m:Mg):Prop:=∃k,m∈aQ d k\/m∈bM d k\/∃f,m∈aJ d f k
structure Inv (d:Wd):Prop where
 right:aL d
 heard:∀k g i,eB d k g i<=bB d i
 wire:∀i k m,m∈aJ d i k->m.st<=bB d i/\∀g,eB d k g i < m.st
 aG:∀k m,m∈bM d k->m.st<=dQ d k
 held:∀k m,m∈aQ d k->dQ d k < m.st
 seen:∀k m,m∈aQ d k->m.st<=bB d k/\∀i:Nat,m.fr=i->i≠k->m.st<=eB d k m.gr.toNat i
 own:∀m,In d m->m.st<=bB d m.fr.toNat
 uniq:∀m m',In d m->In d m'->m.st=m'.st->m.fr=m'.fr->m=m'
 all:∀m k,In d m->m.nul=false->k < d.ah.length->hasB d.au m.gr k=true->m∈bM d k\/m∈aQ d k\/(m.fr≠k/\m∈aJ d m.fr.toNat k)
end Go.Proofs.YtediempflagfkaaGreatDoor.Pu
