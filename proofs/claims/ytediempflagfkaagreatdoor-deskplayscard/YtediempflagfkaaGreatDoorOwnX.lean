/- Lemmas. -/
import Derived.Test.YtediempflagfkaaGreatDoorPureX
import Derived.Deep.OwnRows
import Derived.Test.YtediempflagfkaaGreatDoorPutOwn
set_option linter.unusedVariables false
set_option linter.unusedSimpArgs false
set_option linter.unnecessarySimpa false
namespace Go.Proofs.YtediempflagfkaaGreatDoor
open _root_.Go.Proofs.Tryz hiding checked
set_option maxRecDepth 8000
open Go.RowKit Go.Shelf
structure Fr (B:Nat->Prop) (w w':World):Prop where
 os:w'.os=w.os
 tape:w'.tape=w.tape
 output:w'.output=w.output
 size:w.heap.size<=w'.heap.size
 block:∀k,k < w.heap.size->¬ B k->w'.heap[k]? = w.heap[k]?
theorem Fr.refl(B:Nat->Prop)(w:World):Fr B w w:=⟨rfl,rfl,rfl,Nat.le_refl _,fun _ _ _=>rfl⟩
theorem Fr.trans{B C D:Nat->Prop}{a b c:World}(h:Fr B a b)(k:Fr C b c)(hB:∀i,i < a.heap.size->B i->D i)(hC:∀i,i < a.heap.size->C i->D i):Fr D a c :=
 ⟨k.os.trans h.os,k.tape.trans h.tape,k.output.trans h.output,zQ5 h.size k.size,fun i hi hD=>(k.block i (zQ4 hi h.size) (fun x=>hD (hC i hi x))).trans (h.block i hi (fun x=>hD (hB i hi x)))⟩
theorem Fr.mono{B C:Nat->Prop}{a b:World}(h:Fr B a b)(hB:∀i,i < a.heap.size->B i->C i):Fr C a b:=⟨h.os,h.tape,h.output,h.size,fun i hi hC=>h.block i hi (fun x=>hC (hB i hi x))⟩
theorem Fr.ay{B:Nat->Prop}{a b:World}(h:Fr B a b)(hB:∀i,i < a.heap.size->¬ B i):ak a b:=⟨⟨h.os,h.tape,h.output,h.size,fun i hi=>h.block i hi (hB i hi)⟩⟩
theorem ak.fr{a b:World}(h:ak a b)(B:Nat->Prop):Fr B a b:=⟨h.below.os,h.below.tape,h.below.output,h.below.size,fun i hi _=>h.below.block i hi⟩
theorem Fr.aI{B:Nat->Prop}{w0 a b:World}(h:Fr B a b)(h0:ak w0 a)(hB:∀i,i < w0.heap.size->¬ B i):ak w0 b :=
 ⟨h.os.trans h0.below.os,h.tape.trans h0.below.tape,h.output.trans h0.below.output,zQ5 h0.size h.size,fun i hi=>(h.block i (zQ4 hi h0.size) (hB i hi)).trans (h0.below.block i hi)⟩
theorem Fr.alloc{B:Nat->Prop}{a b:World}(h:Fr B a b)(o:Obj):Fr B a (b.alloc o) :=
 h.trans (ak.fr ((ak.refl b).alloc o) B) (fun _ _ x=>x) (fun _ _ x=>x)
theorem Fr.drew{B:Nat->Prop}{a b:World}(h:Fr B a b):Fr B a b.drew:=⟨h.os,h.tape,h.output,h.size,h.block⟩
theorem Fr.setCell{B:Nat->Prop}{a b:World}(h:Fr B a b)(p:Addr)(v:Value)(hp:p.block < a.heap.size->B p.block):Fr B a (b.setCell p v) :=
 ⟨h.os,h.tape,h.output,by simpa using h.size,fun i hi hB=>(Below.heap_setCell b p v i (fun e=>hB (e ▸ hp (e ▸ hi)))).trans (h.block i hi hB)⟩
theorem Fr.cell{B:Nat->Prop}{a b:World}(h:Fr B a b){p:Addr}(hp:p.block < a.heap.size)(hB:¬ B p.block):b.cell? p=a.cell? p:=World.cell?_of_block (h.block _ hp hB)
theorem Fr.frozen{B:Nat->Prop}{a b:World}(h:Fr B a b){p:Addr}(hp:p.block < a.heap.size)(hB:¬ B p.block):b.frozen? p=a.frozen? p:=World.frozen?_of_block (h.block _ hp hB)
structure Sl where
 a:Option Addr
 cap:Nat
def Sl.v(s:Sl)(n:Nat):Value:=.slice s.a n s.cap
def Sl.blk(s:Sl):Option Nat:=if s.cap=0 then none else s.a.map (·.block)
structure Row (w:World) (lo sz:Nat) (s:Sl) (n:Nat) (xs:List Value):Prop where
 len:xs.length=n*sz
 cap:n<=s.cap
 yT:s.cap<=maxLen
 bare:s.cap=0->s.a=none\/∃b off,s.a=some ⟨b,off,none⟩
 body:0 < s.cap->∃b off,s.a=some ⟨b,off,none⟩/\lo<=b/\b < w.heap.size/\(∀j,j < s.cap*sz->(w.cell? ⟨b,off+j,none⟩).isSome=true/\w.frozen? ⟨b,off+j,none⟩=false)/\∀j u,xs[j]? = some u->w.cell? ⟨b,off+j,none⟩=some u
theorem Row.kept{w w':World}{lo sz:Nat}{s:Sl}{n:Nat}{xs:List Value}(h:Row w lo sz s n xs)(hs:w.heap.size<=w'.heap.size)(hk:∀b,s.blk=some b->w'.heap[b]? = w.heap[b]?):Row w' lo sz s n xs:=by
 refine⟨h.len,h.cap,h.yT,h.bare,fun hp=>?_⟩;obtain⟨b,off,e,hl,hb,hc,hx⟩:=h.body hp;have hbk:w'.heap[b]? = w.heap[b]?:=hk b (by unfold Sl.blk;rw[if_neg (by omega),e];rfl);refine⟨b,off,e,hl,by omega,fun j hj=>?_,fun j u hu=>(World.cell?_of_block (a:=⟨b,off+j,none⟩) hbk).trans (hx j u hu)⟩;rw[World.cell?_of_block (a:=⟨b,off+j,none⟩) hbk,World.frozen?_of_block (a:=⟨b,off+j,none⟩) hbk];exact hc j hj
theorem Row.gW{w:World}{lo sz:Nat}{s:Sl}{n:Nat}{xs:List Value}(h:Row w lo sz s n xs){b:Nat}(hb:s.blk=some b):0 < s.cap/\lo<=b/\b < w.heap.size/\∃off,s.a=some ⟨b,off,none⟩:=by
 unfold Sl.blk at hb;split at hb
 ·cases hb
 ·obtain⟨b',off,e,hl,hb',_,_⟩:=h.body (by omega);rw[e]at hb;cases hb;exact⟨by omega,hl,hb',off,e⟩
theorem Row.fr{B:Nat->Prop}{w w':World}{lo sz:Nat}{s:Sl}{n:Nat}{xs:List Value}(h:Row w lo sz s n xs)(k:Fr B w w')(hB:∀b,s.blk=some b->¬ B b):Row w' lo sz s n xs :=
 h.kept k.size fun b hb=>k.block b (h.gW hb).2.2.1 (hB b hb)
theorem Row.ay{w w':World}{lo sz:Nat}{s:Sl}{n:Nat}{xs:List Value}(h:Row w lo sz s n xs)(k:ak w w'):Row w' lo sz s n xs:=h.fr (k.fr fun _=>False) (fun _ _ x=>x)
theorem Row.nil(w:World)(lo sz:Nat):Row w lo sz ⟨none,0⟩ 0 []:=⟨by simp,Nat.le_refl _,Nat.zero_le _,fun _=>.inl rfl,fun h=>absurd h (by simp)⟩
theorem Row.mono{w:World}{lo lo' sz:Nat}{s:Sl}{n:Nat}{xs:List Value}(h:Row w lo sz s n xs)(hl:lo'<=lo):Row w lo' sz s n xs:=by
 refine⟨h.len,h.cap,h.yT,h.bare,fun hp=>?_⟩;obtain⟨b,off,e,hl',rest⟩:=h.body hp;exact⟨b,off,e,by omega,rest⟩
theorem Row.new(w:World)(lo sz:Nat)(cs:Array Value)(T:TypeId)(n:Nat)(hl:lo<=w.heap.size)(hc:cs.size=n*sz)(hm:n<=maxLen):Row (w.alloc (.cells cs T)) lo sz ⟨some ⟨w.heap.size,0,none⟩,n⟩ n cs.toList:=by
 have hh:=World.alloc_heap_new w (.cells cs T);refine⟨by simpa using hc,Nat.le_refl _,hm,fun _=>.inr ⟨_,_,rfl⟩,fun hp=>⟨w.heap.size,0,rfl,hl,by simp,fun j hj=>?_,fun j u hu=>?_⟩⟩
 ·have hj':j < cs.size:=by rw[hc];exact hj
  unfold World.cell? World.frozen?;simp only[hh,Nat.zero_add];simp[hj']
 ·have h2:cs[j]? = some u:=by simpa using hu
  unfold World.cell?;simp only[hh,Nat.zero_add];simpa using h2
theorem Row.take{w:World}{lo sz:Nat}{s:Sl}{n:Nat}{xs:List Value}(h:Row w lo sz s n xs)(m:Nat)(hm:m<=n):Row w lo sz s m (xs.take (m*sz)):=by
 refine⟨?_,zQ5 hm h.cap,h.yT,h.bare,fun hp=>?_⟩
 ·rw[List.length_take,h.len];exact Nat.min_eq_left (Nat.mul_le_mul_right _ hm)
 ·obtain⟨b,off,e,hl,hb,hc,hx⟩:=h.body hp;refine⟨b,off,e,hl,hb,hc,fun j u hu=>hx j u ?_⟩;rw[List.getElem?_take]at hu;split at hu
  ·exact hu
  ·cases hu
theorem Row.drop{w:World}{lo sz:Nat}{b off cap:Nat}{n:Nat}{xs:List Value}(h:Row w lo sz ⟨some ⟨b,off,none⟩,cap⟩ n xs)(m:Nat)(hm:m<=n)(hlt:m < cap):Row w lo sz ⟨some ⟨b,off+m*sz,none⟩,cap - m⟩ (n - m) (xs.drop (m*sz)):=by
 have hcap:=h.cap;have hcm:=h.yT;dsimp only at hcap hcm;refine⟨?_,by show n - m<=cap - m;omega,by show cap - m<=_;omega,fun hz=>.inr ⟨_,_,rfl⟩,fun hp=>?_⟩
 ·rw[List.length_drop,h.len,Nat.sub_mul]
 ·obtain⟨b',off',e,hl,hb,hc,hx⟩:=h.body (by show 0 < cap;omega);cases e;refine⟨b,off+m*sz,rfl,hl,hb,fun j hj=>?_,fun j u hu=>?_⟩
  ·have hj':m*sz+j < cap*sz:=by
    have:(cap - m)*sz=cap*sz - m*sz:=Nat.sub_mul _ _ _;have h2:m*sz<=cap*sz:=Nat.mul_le_mul_right _ (by omega);dsimp only at hj;omega
   have:=hc (m*sz+j) hj'
   rwa[<-Nat.add_assoc]at this
  ·rw[List.getElem?_drop]at hu;have:=hx _ _ hu
   rwa[<-Nat.add_assoc]at this
theorem tT(b:Nat):∀(vs:List Value) (o:Nat) (w:World) (k:Nat),k≠b->(w.setCells b o vs).heap[k]? = w.heap[k]?
 | [],_,_,_,_=>rfl
 | v::r,o,w,k,h=>by rw[World.setCells,tT b r _ _ k h];exact Below.heap_setCell w ⟨b,o,none⟩ v k h
theorem setCells_size(b:Nat):∀(vs:List Value) (o:Nat) (w:World),(w.setCells b o vs).heap.size=w.heap.size
 | [],_,_=>rfl
 | v::r,o,w=>by rw[World.setCells,setCells_size b r];simp
theorem mI(b:Nat):∀(vs:List Value) (o:Nat) (w:World),(w.setCells b o vs).os=w.os/\(w.setCells b o vs).tape=w.tape/\(w.setCells b o vs).output=w.output
 | [],_,_=>⟨rfl,rfl,rfl⟩
 | v::r,o,w=>by rw[World.setCells];exact mI b r _ (w.setCell ⟨b,o,none⟩ v)
theorem vL(b:Nat):∀(vs:List Value) (o:Nat) (w:World) (a:Addr),(w.cell? a).isSome=true->((w.setCells b o vs).cell? a).isSome=true
 | [],_,_,_,h=>h
 | v::r,o,w,a,h=>by
  rw[World.setCells];refine vL b r _ _ a ?_;by_cases e:(⟨b,o,none⟩:Addr)=a
  ·subst e;obtain⟨u,hu⟩:=Option.isSome_iff_exists.1 h;rw[World.cell?_setCell_same w _ v hu];rfl
  ·rw[World.cell?_setCell_other w _ _ v e];exact h
theorem vU{P:Program}(w:World)(t tx ty e:TypeId)(i:TypeInfo)(z:Value)(size bytes:Nat)(ht:P.underlying t=some (.slice e))(hi:P.info? e=some i)(hz:i.zero=some z)
  (hsize:i.size=size) (hby:i.bytes=bytes) (hzs:z.cells.size=size)
  {lo:Nat} {s:Sl} {n:Nat} {xs:List Value} (hR:Row w lo size s n xs) {x:Value} {m:Nat} {news:List Value} (hs:Src P size tx x m news w)
  (h63:n+m<=maxLen) (hbytes:(n+m)*bytes<=140737488355328) (hlo:lo<=w.heap.size) :
  ∃s' w',(Builtin.append_ #[t,tx] ty #[s.v n,x]).run P w=.ok (s'.v (n+m)) w'/\Row w' lo size s' (n+m) (xs++news)/\Fr (fun k=>s.blk=some k) w w'/\(s'=s\/(ak w w'/\s'.blk=some w.heap.size)):=by
 subst hsize;subst hby;have bq:(xs++news).length=(n+m)*i.size:=by rw[List.length_append,hR.len,hs.newsLen,Nat.add_mul]
 by_cases hroom:n+m<=s.cap
 ·by_cases hp:0 < s.cap
  ·obtain⟨b,off,e0,hl,hb,hc,hx⟩:=hR.body hp;have hfit:n*i.size+news.length<=s.cap*i.size:=by rw[hs.newsLen,<-Nat.add_mul];exact Nat.mul_le_mul_right _ hroom
   have hr:=run_append_room_src (P:=P) w t tx ty e i ht hi b off n s.cap x m news hs hroom
    (fun j hj=>by have:=(hc (n*i.size+j) (by omega)).1;rwa[<-Nat.add_assoc]at this) (fun j hj=>by have:=(hc (n*i.size+j) (by omega)).2;rwa[<-Nat.add_assoc]at this)
   have hblk:s.blk=some b:=by unfold Sl.blk;rw[if_neg (by omega),e0];rfl
   refine⟨s,w.setCells b (off+n*i.size) news,by unfold Sl.v;rw[e0];exact hr,⟨bq,hroom,hR.yT,hR.bare,fun _=>⟨b,off,e0,hl,by rw[setCells_size];exact hb,fun j hj=>⟨vL _ _ _ _ _ (hc j hj).1,by rw[World.frozen?_setCells];exact(hc j hj).2⟩,fun j u hu=>?_⟩⟩,
    ⟨(mI _ _ _ _).1,(mI _ _ _ _).2.1,(mI _ _ _ _).2.2,by rw[setCells_size];exact Nat.le_refl _,fun k _ hk=>tT b news _ w k (fun e=>hk (e ▸ hblk))⟩,.inl rfl⟩
   by_cases hj:j < xs.length
   ·rw[List.getElem?_append_left hj]at hu;rw[World.cell?_setCells_out b news _ w _ (fun _ _=>.inl (by show off+j < _;rw[hR.len]at hj;omega))];exact hx j u hu
   ·rw[List.getElem?_append_right (by omega)]at hu;have hjl:=(zQ2.1 hu).1;have:=World.cell?_setCells_in b news (off+n*i.size) w (fun j' hj'=>by have:=(hc (n*i.size+j') (by omega)).1;rwa[<-Nat.add_assoc]at this) (j - xs.length) hjl;rw[show off+n*i.size+(j - xs.length)=off+j from by rw[hR.len]at hj hjl ⊢;omega]at this;rw[this,<-hu,zQ1 hjl]
  ·have h0:n=0/\m=0/\s.cap=0:=by have:=hR.cap;omega
   obtain⟨rfl,rfl,hc0⟩:=h0;have hn:news=[]:=zQ6 (by simpa using hs.newsLen);subst hn;have hx0:xs=[]:=zQ6 (by simpa using hR.len);subst hx0;refine⟨s,w, ?_,hR,Fr.refl _ _,.inl rfl⟩;rcases hR.bare hc0 with e0 | ⟨b,off,e0⟩
   ·unfold Sl.v;rw[e0,hc0];have hc:=hs.cells
    rcases hs.kind with ⟨e',hk⟩ | hk <;> simp[Builtin.append_,run_underlying ht,run_underlying hk,sizeOf,typeInfo,hi,hs.len,hc]
   ·have hr:=run_append_room_src (P:=P) w t tx ty e i ht hi b off 0 s.cap x 0 [] hs (by omega) (fun j hj=>by simp at hj) (fun j hj=>by simp at hj);unfold Sl.v;rw[e0];simpa[World.setCells] using hr
 ·have hold:(Builtin.firstCells i.size n (.slice s.a n s.cap)).run P w.drew=.ok xs.toArray w.drew:=by
   by_cases hp:0 < s.cap
   ·obtain⟨b,off,e0,hl,hb,hc,hx⟩:=hR.body hp;rw[e0];exact run_firstCells_some w.drew i.size n ⟨b,off,none⟩ n s.cap xs hR.len (fun j u hj=>by rw[Addr.add_lit];simpa using hx j u hj)
   ·have hc0:s.cap=0:=by omega
    have hn0:n=0:=by have:=hR.cap;omega
    have hx0:xs=[]:=zQ6 (by rw[hR.len,hn0];simp);subst hn0 hx0;rcases hR.bare hc0 with e0 | ⟨b,off,e0⟩
    ·rw[e0];exact run_firstCells_none w.drew i.size 0 0 s.cap
    ·rw[e0];exact run_firstCells_some w.drew i.size 0 ⟨b,off,none⟩ 0 s.cap [] (by simp) (fun j u hj=>by simp at hj)
  have hr:=run_append_grow_src (P:=P) w t tx ty e i z ht hi hz s.a n s.cap xs hold x m news hs (by omega) (by simp only[maxLen]at h63;omega) (growslice_fits (by omega) hbytes);have hge:=grownCap_ge w (n+m) s.cap e;have hcm:grownCap w (n+m) s.cap e<=maxLen:=grownCap_le_maxLen w (n+m) s.cap e h63
  have hcs:((xs++news).toArray++Builtin.zeroCells z.cells (grownCap w (n+m) s.cap e - (n+m))).size=grownCap w (n+m) s.cap e*i.size:=by
   simp only[Array.size_append,List.size_toArray,size_zeroCells,hzs,bq,<-Nat.add_mul];congr 1;omega
  obtain⟨G,hG⟩:∃G,grownCap w (n+m) s.cap e=G:=⟨_,rfl⟩;rw[hG]at hr hge hcm hcs;have hrow:=Row.new w.drew lo i.size ((xs++news).toArray++Builtin.zeroCells z.cells (G - (n+m))) e G (by simpa using hlo) hcs hcm;have hrow2:=hrow.take (n+m) hge
  have htk:List.take ((n+m)*i.size) ((xs++news).toArray++Builtin.zeroCells z.cells (G - (n+m))).toList=xs++news:=by
   simp only[Array.toList_append];rw[<-bq];exact List.take_left
  rw[htk]at hrow2;refine⟨⟨some ⟨w.heap.size,0,none⟩,G⟩,_,hr,hrow2,(((Fr.refl _ w).drew).alloc _),.inr ⟨((ak.refl w).drew).alloc _, ?_⟩⟩;unfold Sl.blk;have hpos:0 < G:=by omega
  rw[if_neg (by dsimp only;omega)];rfl
theorem xZ{P:Program}(w:World){ops:Array Oper}{rest:List Oper}{o:Oper}{a:Act}{Q:Exit->Act->World->Prop}(hgd:o.guard=none)(ds dx:Operand)(t tx:TypeId)
  (ho:o.op=.call { callee:=.builtin .append,args:=#[ds,dx],argTypes:=#[t,tx] })
  (e:TypeId) (i:TypeInfo) (z:Value) (size bytes:Nat) (ht:P.underlying t=some (.slice e)) (hi:P.info? e=some i) (hz:i.zero=some z)
  (hsize:i.size=size) (hby:i.bytes=bytes) (hzs:z.cells.size=size)
  {lo:Nat} {s:Sl} {n:Nat} {xs:List Value} (hd:a.eval ds=s.v n) (hR:Row w lo size s n xs) {x:Value} {m:Nat} {news:List Value} (hx:a.eval dx=x) (hs:Src P size tx x m news w)
  (h63:n+m<=maxLen) (hbytes:(n+m)*bytes<=140737488355328) (hlo:lo<=w.heap.size)
  (h:∀s' w',Row w' lo size s' (n+m) (xs++news)->Fr (fun k=>s.blk=some k) w w'->(s'=s\/(ak w w'/\s'.blk=some w.heap.size))->wpList P ops Q rest (a.put o.dst (s'.v (n+m))) w'):wpList P ops Q (o::rest) a w :=
 wpList_plain hgd fun _ hK=>by
  obtain⟨s',w',hr,h2,h3,h4⟩:=vU (P:=P) w t tx o.type e i z size bytes ht hi hz hsize hby hzs hR hs h63 hbytes hlo;unfold Oper.wp execOp;simp only[ho,resolve,invoke,builtin,Sem.run_bind,Sem.run_pure,Result.andThen_ok,List.map_toArray,List.map_cons,List.map_nil,hd,hx,hr];exact hK _ _ (h s' w' h2 h3 h4)
theorem zI{P:Program}{ops:Array Oper}{o:Oper}{a:Act}{w:World}{K:Act->World->Prop}{Q:Exit->Act->World->Prop}{E:Prop}(hgd:o.guard=none)(ds dx:Operand)(t tx:TypeId)
  (ho:o.op=.call { callee:=.builtin .append,args:=#[ds,dx],argTypes:=#[t,tx] })
  (e:TypeId) (i:TypeInfo) (z:Value) (size bytes:Nat) (ht:P.underlying t=some (.slice e)) (hi:P.info? e=some i) (hz:i.zero=some z)
  (hsize:i.size=size) (hby:i.bytes=bytes) (hzs:z.cells.size=size)
  {lo:Nat} {s:Sl} {n:Nat} {xs:List Value} (hd:a.eval ds=s.v n) (hR:Row w lo size s n xs) {x:Value} {m:Nat} {news:List Value} (hx:a.eval dx=x) (hs:Src P size tx x m news w)
  (h63:n+m<=maxLen) (hbytes:(n+m)*bytes<=140737488355328) (hlo:lo<=w.heap.size)
  (h:∀s' w',Row w' lo size s' (n+m) (xs++news)->Fr (fun k=>s.blk=some k) w w'->(s'=s\/(ak w w'/\s'.blk=some w.heap.size))->K (a.put o.dst (s'.v (n+m))) w') :
  if Region.wanted o (yielded ops a.tmps)=true then Oper.wp P o a w K Q else E:=by
 have hw:Region.wanted o (yielded ops a.tmps)=true:=by simp[Region.wanted,hgd]
 rw[if_pos hw];obtain⟨s',w',hr,h2,h3,h4⟩:=vU (P:=P) w t tx o.type e i z size bytes ht hi hz hsize hby hzs hR hs h63 hbytes hlo;unfold Oper.wp;simp only[execOp,ho,resolve,invoke,builtin,Sem.run_bind,Sem.run_pure,Result.andThen_ok,List.map_toArray,List.map_cons,List.map_nil,hd,hx,hr];exact h s' w' h2 h3 h4
open Pu
abbrev Ix:=Nat × Nat × Nat
abbrev Lay:=Ix->Sl
def bD(d:Wd)(i:Nat):Nd:=d.ah[i]?.getD ⟨0,[],[],[]⟩
def rowAt(d:Wd)(i:Nat):List (List Mg):=d.aB[i]?.getD []
def fA(d:Wd)(i k:Nat):List Int:=(bD d i).last[k]?.getD []
def gF(d:Wd)(i k:Nat):List Mg:=(rowAt d i)[k]?.getD []
def qo(d:Wd):Ix->Nat
 | (0,_,_)=>d.au.length
 | (1,_,_)=>d.ah.length
 | (2,_,_)=>d.aB.length
 | (3,i,_)=>(bD d i).last.length
 | (4,i,k)=>(fA d i k).length
 | (5,i,_)=>(bD d i).held.length
 | (6,i,_)=>(bD d i).aG.length
 | (7,i,_)=>(rowAt d i).length
 | (8,i,k)=>(gF d i k).length
 | _=>0
def okI(d:Wd):Ix->Prop
 | (0,i,k)=>i=0/\k=0
 | (1,i,k)=>i=0/\k=0
 | (2,i,k)=>i=0/\k=0
 | (3,i,k)=>i < d.ah.length/\k=0
 | (4,i,k)=>i < d.ah.length/\k < (bD d i).last.length
 | (5,i,k)=>i < d.ah.length/\k=0
 | (6,i,k)=>i < d.ah.length/\k=0
 | (7,i,k)=>i < d.aB.length/\k=0
 | (8,i,k)=>i < d.aB.length/\k < (rowAt d i).length
 | _=>False
def szI:Ix->Nat
 | (1,_,_)=>4
 | (5,_,_)=>5
 | (6,_,_)=>5
 | (8,_,_)=>5
 | _=>1
def j6(x:Int):Value:=.int .i64 x
def dz(d:Wd)(L:Lay)(i:Nat):List Value :=
 [.int .i64 (bD d i).aK,(L (3,i,0)).v (bD d i).last.length,(L (5,i,0)).v (bD d i).held.length,(L (6,i,0)).v (bD d i).aG.length]
def dX(d:Wd)(L:Lay):Ix->List Value
 | (0,_,_)=>d.au.map j6
 | (1,_,_)=>(List.range d.ah.length).flatMap (dz d L)
 | (2,_,_)=>(List.range d.aB.length).map fun i=>(L (7,i,0)).v (rowAt d i).length
 | (3,i,_)=>(List.range (bD d i).last.length).map fun k=>(L (4,i,k)).v (fA d i k).length
 | (4,i,k)=>(fA d i k).map j6
 | (5,i,_)=>flat (bD d i).held
 | (6,i,_)=>flat (bD d i).aG
 | (7,i,_)=>(List.range (rowAt d i).length).map fun k=>(L (8,i,k)).v (gF d i k).length
 | (8,i,k)=>flat (gF d i k)
 | _=>[]
structure bG (lo:Nat) (w:World) (d:Wd) (L:Lay):Prop where
 row:∀ix,okI d ix->Row w lo (szI ix) (L ix) (qo d ix) (dX d L ix)
 small:∀ix,okI d ix->qo d ix<=1000
 inj:∀i j b,okI d i->okI d j->(L i).blk=some b->(L j).blk=some b->i=j
def gT(d:Wd)(L:Lay)(b:Nat):Prop:=∃ix,okI d ix/\(L ix).blk=some b
theorem bG.blk{lo:Nat}{w:World}{d:Wd}{L:Lay}(h:bG lo w d L){b:Nat}(hb:gT d L b):lo<=b/\b < w.heap.size:=by
 obtain⟨ix,hi,e⟩:=hb;have:=(h.row ix hi).gW e;exact⟨this.2.1,this.2.2.1⟩
theorem bG.fr{B:Nat->Prop}{lo:Nat}{w w':World}{d:Wd}{L:Lay}(h:bG lo w d L)(k:Fr B w w')(hB:∀b,gT d L b->¬ B b):bG lo w' d L :=
 ⟨fun ix hi=>(h.row ix hi).fr k (fun b hb=>hB b ⟨ix,hi,hb⟩),h.small,h.inj⟩
theorem bG.ay{lo:Nat}{w w':World}{d:Wd}{L:Lay}(h:bG lo w d L)(k:ak w w'):bG lo w' d L:=h.fr (k.fr fun _=>False) (fun _ _ x=>x)
theorem bG.mono{lo lo':Nat}{w:World}{d:Wd}{L:Lay}(h:bG lo w d L)(hl:lo'<=lo):bG lo' w d L:=⟨fun ix hi=>(h.row ix hi).mono hl,h.small,h.inj⟩
theorem bG.grown{lo:Nat}{w w':World}{d:Wd}{L:Lay}(h:bG lo w d L){ix:Ix}(hi:okI d ix){s':Sl}{m:Nat}{ys:List Value}(hR:Row w' lo (szI ix) s' m ys)(hm:qo d ix<=m)(hy:ys.take (qo d ix*szI ix)=dX d L ix)
  (hF:Fr (fun k=>(L ix).blk=some k) w w') (hs:s'=L ix\/(ak w w'/\s'.blk=some w.heap.size)):bG lo w' d L:=by
 rcases hs with rfl | ⟨hS,_⟩
 ·refine⟨fun jx hj=>?_,h.small,h.inj⟩;by_cases e:jx=ix
  ·subst e;have:=hR.take _ hm
   rwa[hy]at this
  ·exact(h.row jx hj).fr hF (fun b hb hb'=>e (h.inj jx ix b hj hi hb hb'))
 ·exact h.ay hS
def Lay.upd(L:Lay)(ix:Ix)(s:Sl):Lay:=fun j=>if j=ix then s else L j
theorem Lay.upd_same(L:Lay)(ix:Ix)(s:Sl):L.upd ix s ix=s:=if_pos rfl
theorem Lay.gG(L:Lay){ix j:Ix}(s:Sl)(h:j≠ix):L.upd ix s j=L j:=if_neg h
theorem Row.set{w:World}{lo sz:Nat}{b off cap n:Nat}{xs:List Value}(h:Row w lo sz ⟨some ⟨b,off,none⟩,cap⟩ n xs)(j:Nat)(hj:j < n*sz)(v:Value):Row (w.setCell ⟨b,off+j,none⟩ v) lo sz ⟨some ⟨b,off,none⟩,cap⟩ n (xs.set j v):=by
 refine⟨by rw[List.length_set];exact h.len,h.cap,h.yT,h.bare,fun hp=>?_⟩;obtain⟨b',off',e,hl,hb,hc,hx⟩:=h.body hp;cases e;refine⟨b,off,rfl,hl,by simpa using hb,fun i hi=>⟨?_,by rw[World.frozen?_setCell];exact(hc i hi).2⟩,fun i u hu=>?_⟩
 ·by_cases e:i=j
  ·subst e;obtain⟨u,hu⟩:=Option.isSome_iff_exists.1 (hc i hi).1;rw[World.cell?_setCell_same w _ v hu];rfl
  ·rw[World.cell?_setCell_other w _ _ v (fun e2=>e (by injection e2;omega))];exact(hc i hi).1
 ·by_cases e:i=j
  ·subst e;have hi:i < xs.length:=by rw[h.len];exact hj
   rw[List.getElem?_set_self hi]at hu;cases hu;have hc1:=(hc i (zQ4 hj (Nat.mul_le_mul_right _ h.cap))).1;obtain⟨u,hu⟩:=Option.isSome_iff_exists.1 hc1;exact World.cell?_setCell_same w _ v hu
  ·rw[List.getElem?_set_ne (fun e2=>e e2.symm)]at hu;rw[World.cell?_setCell_other w _ _ v (fun e2=>e (by injection e2;omega))];exact hx i u hu
theorem bG.store{lo:Nat}{w:World}{d d':Wd}{L L':Lay}(h:bG lo w d L){ip:Ix}(hi:okI d ip){b off cap:Nat}(he:L ip=⟨some ⟨b,off,none⟩,cap⟩){j:Nat}(hj:j < qo d ip*szI ip)(v:Value)(ic:Ix)
  (hok:∀ix,okI d' ix↔okI d ix) (hL:∀ix,ix≠ic->L' ix=L ix) (hip:ic≠ip)
  (bq:∀ix,okI d ix->ix≠ic->qo d' ix=qo d ix) (hcell:∀ix,okI d ix->ix≠ip->ix≠ic->dX d' L' ix=dX d L ix) (hset:dX d' L' ip=(dX d L ip).set j v)
  (hc:okI d ic->qo d' ic<=1000/\Row w lo (szI ic) (L' ic) (qo d' ic) (dX d' L' ic)/\∀c,(L' ic).blk=some c->¬ ∃ix,ix≠ic/\okI d ix/\(L ix).blk=some c) :
  bG lo (w.setCell ⟨b,off+j,none⟩ v) d' L':=by
 have hcap:0 < cap:=by
  have:=(h.row ip hi).cap;rw[he]at this;dsimp only at this;have:0 < qo d ip:=Nat.pos_of_ne_zero (fun e=>by rw[e]at hj;simp at hj);omega
 have hpb:(L ip).blk=some b:=by rw[he];unfold Sl.blk;rw[if_neg (by dsimp only;omega)];rfl
 have kept:∀{sz s n xs},Row w lo sz s n xs->s.blk≠some b->Row (w.setCell ⟨b,off+j,none⟩ v) lo sz s n xs:=fun hr hne =>
  hr.kept (by simp) (fun c hcb=>Below.heap_setCell w ⟨b,off+j,none⟩ v c (fun e=>hne (by rw[hcb,e])))
 refine⟨fun ix hx=>?_,fun ix hx=>?_,fun i k c hx hy hb1 hb2=>?_⟩
 ·have hx':=(hok ix).1 hx;by_cases e1:ix=ic
  ·subst e1;obtain⟨_,hR,hd⟩:=hc hx';exact kept hR (fun e=>hd b e ⟨ip,Ne.symm hip,hi,hpb⟩)
  ·rw[hL ix e1];by_cases e2:ix=ip
   ·subst e2;rw[bq ix hx' e1,hset,he];have:=h.row ix hx';rw[he]at this;exact this.set j hj v
   ·rw[bq ix hx' e1,hcell ix hx' e2 e1];exact kept (h.row ix hx') (fun e=>e2 (h.inj ix ip b hx' hi e hpb))
 ·have hx':=(hok ix).1 hx;by_cases e1:ix=ic
  ·subst e1;exact(hc hx').1
  ·rw[bq ix hx' e1];exact h.small ix hx'
 ·have hx':=(hok i).1 hx;have hy':=(hok k).1 hy;by_cases e1:i=ic
  ·by_cases e2:k=ic
   ·rw[e1,e2]
   ·subst e1;rw[hL k e2]at hb2;exact absurd ⟨k,e2,hy',hb2⟩ ((hc hx').2.2 c hb1)
  ·rw[hL i e1]at hb1;by_cases e2:k=ic
   ·subst e2;exact absurd ⟨i,e1,hx',hb1⟩ ((hc hy').2.2 c hb2)
   ·rw[hL k e2]at hb2;exact h.inj i k c hx' hy' hb1 hb2
theorem GL{w:World}{lo:Nat}{s:Sl}{xs:List Int}(h:Row w lo 1 s xs.length (xs.map j6))(hm:xs.length<=1000):Ints w s.a xs.length xs:=by
 refine⟨rfl,by omega,fun hp=>?_⟩;obtain⟨b,off,e,_,hb,_,hx⟩:=h.body (by have:=h.cap;omega);exact⟨b,off,e,hb,fun i hi=>hx i _ (by simp[j6,hi])⟩
theorem lI{w:World}{lo:Nat}{s:Sl}{ms:List Mg}(h:Row w lo 5 s ms.length (flat ms))(hm:ms.length<=1000):gD w s.a ms.length ms:=by
 refine⟨rfl,by omega,fun hp=>?_⟩;obtain⟨b,off,e,_,hb,_,hx⟩:=h.body (by have:=h.cap;omega);exact⟨b,off,e,hb,hx⟩
theorem vY{α:Type}{P:World->Value->α->Prop}{w:World}{lo:Nat}{s:Sl}{xs:List α}{cs:List Value}(h:Row w lo 1 s xs.length cs)(hm:xs.length<=1000)(hP:∀(i:Nat) (x:α),xs[i]? = some x->∃v,cs[i]? = some v/\P w v x):Slices P w s.a xs.length xs:=by
 refine⟨rfl,by omega,fun hp=>?_⟩;obtain⟨b,off,e,_,hb,_,hx⟩:=h.body (by have:=h.cap;omega);refine⟨b,off,e,hb,fun i x hi=>?_⟩;obtain⟨v,hv,hp2⟩:=hP i x hi;exact⟨v,hx i v hv,hp2⟩
theorem dh{d:Wd}{i:Nat}{x:Nd}(h:d.ah[i]? = some x):bD d i=x:=by unfold bD;rw[h];rfl
theorem dP{d:Wd}{i:Nat}{x:List (List Mg)}(h:d.aB[i]? = some x):rowAt d i=x:=by unfold rowAt;rw[h];rfl
theorem range_map_get{β:Type}(n:Nat)(f:Nat->β)(i:Nat)(h:i < n):((List.range n).map f)[i]? = some (f i):=by simp[h]
theorem tV{n:Nat}{f:Nat->List Value}{sz:Nat}(hf:∀i,(f i).length=sz)(i j:Nat)(hi:i < n)(hj:j < sz):((List.range n).flatMap f)[i*sz+j]? = (f i)[j]?:=by
 have pre:∀m,((List.range m).flatMap f).length=m*sz:=by
  intro m
  induction m with
  | zero=>simp
  | succ m ih=>rw[List.range_succ,List.flatMap_append,List.length_append,ih];simp[hf,Nat.succ_mul]
 induction n with
 | zero=>omega
 | succ n ih =>
  rw[List.range_succ,List.flatMap_append];by_cases h:i < n
  ·have:i*sz+j < n*sz:=by
    have h1:(i+1)*sz<=n*sz:=Nat.mul_le_mul_right _ h;rw[Nat.succ_mul]at h1;omega
   rw[List.getElem?_append_left (by rw[pre];exact this)];exact ih h
  ·obtain rfl:i=n:=by omega
   rw[List.getElem?_append_right (by rw[pre];omega),pre];simp[Nat.add_sub_cancel_left]
def fE(L:Lay)(d:Wd):WV:=⟨(L (0,0,0)).a,d.au.length,(L (0,0,0)).cap,(L (1,0,0)).a,d.ah.length,(L (1,0,0)).cap,(L (2,0,0)).a,d.aB.length,(L (2,0,0)).cap⟩
theorem bG.SN{lo:Nat}{w:World}{d:Wd}{L:Lay}(h:bG lo w d L){i k:Nat}{x:Nd}{r:List Int}(hx:d.ah[i]? = some x)(hr:x.last[k]? = some r):zw w ((L (4,i,k)).v (fA d i k).length) r:=by
 have hk:=(zQ2.1 hr).1;have hl:fA d i k=r:=by unfold fA;rw[dh hx,hr];rfl
 have hok:okI d (4,i,k):=⟨bT hx,by rw[dh hx];exact hk⟩;have hR:Row w lo 1 (L (4,i,k)) (fA d i k).length ((fA d i k).map j6):=h.row _ hok;have hs:(fA d i k).length<=1000:=h.small _ hok;rw[hl]at hR hs ⊢;exact⟨_,_,rfl,hR.cap,GL hR hs⟩
theorem bG.GN{lo:Nat}{w:World}{d:Wd}{L:Lay}(h:bG lo w d L){i:Nat}{x:Nd}(hx:d.ah[i]? = some x):oq w ((L (5,i,0)).v x.held.length) x.held:=by
 have hok:okI d (5,i,0):=⟨bT hx,rfl⟩;have hR:Row w lo 5 (L (5,i,0)) (bD d i).held.length (flat (bD d i).held):=h.row _ hok;have hs:(bD d i).held.length<=1000:=h.small _ hok;rw[dh hx]at hR hs;exact⟨_,_,rfl,hR.cap,lI hR hs⟩
theorem bG.Qq{lo:Nat}{w:World}{d:Wd}{L:Lay}(h:bG lo w d L){i:Nat}{x:Nd}(hx:d.ah[i]? = some x):oq w ((L (6,i,0)).v x.aG.length) x.aG:=by
 have hok:okI d (6,i,0):=⟨bT hx,rfl⟩;have hR:Row w lo 5 (L (6,i,0)) (bD d i).aG.length (flat (bD d i).aG):=h.row _ hok;have hs:(bD d i).aG.length<=1000:=h.small _ hok;rw[dh hx]at hR hs;exact⟨_,_,rfl,hR.cap,lI hR hs⟩
theorem bG.SQ{lo:Nat}{w:World}{d:Wd}{L:Lay}(h:bG lo w d L){i:Nat}{x:Nd}(hx:d.ah[i]? = some x):pG zw w ((L (3,i,0)).v x.last.length) x.last:=by
 have hok:okI d (3,i,0):=⟨bT hx,rfl⟩;have hR:Row w lo 1 (L (3,i,0)) (bD d i).last.length ((List.range (bD d i).last.length).map fun k=>(L (4,i,k)).v (fA d i k).length):=h.row _ hok;have hs:(bD d i).last.length<=1000:=h.small _ hok;rw[dh hx]at hR hs;exact⟨_,_,rfl,hR.cap,vY hR hs (fun k r hr=>⟨_,range_map_get _ _ k (zQ2.1 hr).1,h.SN hx hr⟩)⟩
theorem bG.SS{lo:Nat}{w:World}{d:Wd}{L:Lay}(h:bG lo w d L){i k:Nat}{r:List (List Mg)}{l:List Mg}(hx:d.aB[i]? = some r)(hr:r[k]? = some l):oq w ((L (8,i,k)).v l.length) l:=by
 have hk:=(zQ2.1 hr).1;have hl:gF d i k=l:=by unfold gF;rw[dP hx,hr];rfl
 have hok:okI d (8,i,k):=⟨(zQ2.1 hx).1,by rw[dP hx];exact hk⟩;have hR:Row w lo 5 (L (8,i,k)) (gF d i k).length (flat (gF d i k)):=h.row _ hok;have hs:(gF d i k).length<=1000:=h.small _ hok;rw[hl]at hR hs;exact⟨_,_,rfl,hR.cap,lI hR hs⟩
theorem EI{d:Wd}{i k:Nat}{r:List (List Mg)}{l:List Mg}(hx:d.aB[i]? = some r)(hr:r[k]? = some l):gF d i k=l:=by unfold gF;rw[dP hx,hr];rfl
theorem bG.U2{lo:Nat}{w:World}{d:Wd}{L:Lay}(h:bG lo w d L){i:Nat}{r:List (List Mg)}(hx:d.aB[i]? = some r):pG oq w ((L (7,i,0)).v r.length) r:=by
 have hok:okI d (7,i,0):=⟨(zQ2.1 hx).1,rfl⟩;have hR:Row w lo 1 (L (7,i,0)) (rowAt d i).length ((List.range (rowAt d i).length).map fun k=>(L (8,i,k)).v (gF d i k).length):=h.row _ hok;have hs:(rowAt d i).length<=1000:=h.small _ hok;rw[dP hx]at hR hs;refine⟨_,_,rfl,hR.cap,vY hR hs (fun k l hl=>⟨_,range_map_get _ _ k (zQ2.1 hl).1, ?_⟩)⟩;rw[EI hx hl];exact h.SS hx hl
theorem bG.cells{lo:Nat}{w:World}{d:Wd}{L:Lay}(h:bG lo w d L){i:Nat}{x:Nd}(hx:d.ah[i]? = some x){b off cap:Nat}(he:L (1,0,0)=⟨some ⟨b,off,none⟩,cap⟩) :
  w.cell? ⟨b,off+i*4,none⟩=some (.int .i64 x.aK)/\w.cell? ⟨b,off+i*4+1,none⟩=some ((L (3,i,0)).v x.last.length)/\w.cell? ⟨b,off+i*4+2,none⟩=some ((L (5,i,0)).v x.held.length)/\w.cell? ⟨b,off+i*4+3,none⟩=some ((L (6,i,0)).v x.aG.length)
  /\ (∀j,j < 4->w.frozen? ⟨b,off+i*4+j,none⟩=false):=by
 have hi:=bT hx;have hR:Row w lo 4 (L (1,0,0)) d.ah.length ((List.range d.ah.length).flatMap (dz d L)):=h.row (1,0,0) ⟨rfl,rfl⟩;rw[he]at hR;have hcap:=hR.cap;dsimp only at hcap;obtain⟨b',off',e,_,hb,hc,hxs⟩:=hR.body (by dsimp only;omega);cases e
 have hg:∀j v,j < 4->(dz d L i)[j]? = some v->w.cell? ⟨b,off+(i*4+j),none⟩=some v:=fun j v hj hv =>
  hxs _ _ ((tV (f:=dz d L) (sz:=4) (fun i=>rfl) i j hi hj).trans hv)
 have hz:∀j,j < 4->w.frozen? ⟨b,off+i*4+j,none⟩=false:=fun j hj=>by
  have:i*4+j < cap*4:=by omega
  have:=(hc (i*4+j) (by dsimp only;omega)).2
  rwa[<-Nat.add_assoc]at this
 have e:=dh hx;refine⟨?_, ?_, ?_, ?_,hz⟩
 ·have:=hg 0 _ (by omega) rfl;rw[e]at this;exact this
 ·have:=hg 1 _ (by omega) rfl;rw[e,<-Nat.add_assoc]at this;exact this
 ·have:=hg 2 _ (by omega) rfl;rw[e,<-Nat.add_assoc]at this;exact this
 ·have:=hg 3 _ (by omega) rfl;rw[e,<-Nat.add_assoc]at this;exact this
theorem bG.lies{lo:Nat}{w:World}{d:Wd}{L:Lay}(h:bG lo w d L){ix:Ix}(hi:okI d ix)(hp:0 < qo d ix):∃b off cap,L ix=⟨some ⟨b,off,none⟩,cap⟩/\lo<=b/\b < w.heap.size/\(L ix).blk=some b/\qo d ix<=cap:=by
 have hR:=h.row ix hi;have hcap:=hR.cap;obtain⟨b,off,e,hl,hb,_,_⟩:=hR.body (by omega);refine⟨b,off,(L ix).cap, ?_,hl,hb, ?_,hcap⟩
 ·show(⟨(L ix).a,(L ix).cap⟩:Sl)=_;rw[e]
 ·unfold Sl.blk;rw[if_neg (by omega),e];rfl
theorem bG.wat{lo:Nat}{w:World}{d:Wd}{L:Lay}(h:bG lo w d L):WAt w (fE L d) d:=by
 have h0:Row w lo 1 (L (0,0,0)) d.au.length (d.au.map j6):=h.row (0,0,0) ⟨rfl,rfl⟩;have h1:=h.row (1,0,0) ⟨rfl,rfl⟩;have h2:Row w lo 1 (L (2,0,0)) d.aB.length ((List.range d.aB.length).map fun i=>(L (7,i,0)).v (rowAt d i).length):=h.row (2,0,0) ⟨rfl,rfl⟩;have s0:d.au.length<=1000:=h.small (0,0,0) ⟨rfl,rfl⟩;have s1:d.ah.length<=1000:=h.small (1,0,0) ⟨rfl,rfl⟩;have s2:d.aB.length<=1000:=h.small (2,0,0) ⟨rfl,rfl⟩;refine⟨GL h0 s0,h0.cap,⟨rfl, ?_,fun hp=>?_⟩,h1.cap,vY h2 s2 (fun i r hr=>⟨_,range_map_get _ _ i (zQ2.1 hr).1, ?_⟩),h2.cap⟩
 ·dsimp only[fE];omega
 ·obtain⟨b,off,cap,e,_,hb,_,_⟩:=h.lies (ix:=(1,0,0)) ⟨rfl,rfl⟩ hp;refine⟨b,off,by unfold fE;rw[e],hb,fun i x hx=>?_⟩;obtain⟨c0,c1,c2,c3,_⟩:=h.cells hx e;exact⟨c0,⟨_,c1,h.SQ hx⟩,⟨_,c2,h.GN hx⟩,⟨_,c3,h.Qq hx⟩⟩
 ·rw[dP hr];exact h.U2 hr
theorem tX{f:Nat->List Value}{sz:Nat}(hf:∀i,(f i).length=sz)(m:Nat):((List.range m).flatMap f).length=m*sz:=by
 induction m with
 | zero=>simp
 | succ m ih=>rw[List.range_succ,List.flatMap_append,List.length_append,ih];simp[hf,Nat.succ_mul]
theorem AU{f f':Nat->List Value}{sz:Nat}(hf:∀i,(f i).length=sz){n r:Nat}{v:Value}(hr:r < sz)(hne:∀i,i≠n->f' i=f i)(hn:f' n=(f n).set r v) :
  ∀N,n < N->(List.range N).flatMap f'=((List.range N).flatMap f).set (n*sz+r) v:=by
 have same:∀N,N<=n->(List.range N).flatMap f'=(List.range N).flatMap f:=by
  intro N
  induction N with
  | zero=>intro _;rfl
  | succ N ih=>intro h;rw[List.range_succ,List.flatMap_append,List.flatMap_append,ih (by omega)];simp[hne N (by omega)]
 intro N
 induction N with
 | zero=>intro h;omega
 | succ N ih =>
  intro h;rw[List.range_succ,List.flatMap_append,List.flatMap_append,List.set_append,tX hf];by_cases e:n < N
  ·have:n*sz+r < N*sz:=by
    have h1:(n+1)*sz<=N*sz:=Nat.mul_le_mul_right _ e;rw[Nat.succ_mul]at h1;omega
   rw[if_pos this,ih e];simp[hne N (by omega)]
  ·obtain rfl:n=N:=by omega
   rw[if_neg (by omega),same n (Nat.le_refl _)];simp[hn,Nat.add_sub_cancel_left]
theorem vM{f f':Nat->Value}{n:Nat}(hne:∀i,i≠n->f' i=f i)(N:Nat):(List.range N).map f'=((List.range N).map f).set n (f' n):=by
 apply List.ext_getElem?;intro i;rw[List.getElem?_set];by_cases e:n=i
 ·subst e;by_cases h:n < N
  ·simp[h]
  ·simp[h]
 ·rw[if_neg e];by_cases h:i < N
  ·simp[h,hne i (fun x=>e x.symm)]
  ·simp[h]
theorem lJ{d:Wd}{n:Nat}{x:Nd}(y:Nd)(hx:d.ah[n]? = some x)(i:Nat):bD (aD d n y) i=if i=n then y else bD d i:=by
 unfold bD;rw[dI y hx]
 split <;> rfl
theorem fV{d:Wd}{n:Nat}{x y:Nd}(hx:d.ah[n]? = some x)(hl:y.last.length=x.last.length)(ix:Ix):okI (aD d n y) ix↔okI d ix:=by
 have hn:(aD d n y).ah.length=d.ah.length:=by simp[aD]
 have hw:(aD d n y).aB=d.aB:=rfl;obtain⟨t,i,k⟩:=ix
 have e4:(bD (aD d n y) i).last.length=(bD d i).last.length:=by
  rw[lJ y hx];split
  ·rename_i e;rw[e,dh hx,hl]
  ·rfl
 match t with
 | 0=>exact Iff.rfl
 | 1=>exact Iff.rfl
 | 2=>exact Iff.rfl
 | 3=>show(i < _/\k=0)↔(i < _/\k=0);rw[hn]
 | 4=>show(i < _/\k < _)↔(i < _/\k < _);rw[hn,e4]
 | 5=>show(i < _/\k=0)↔(i < _/\k=0);rw[hn]
 | 6=>show(i < _/\k=0)↔(i < _/\k=0);rw[hn]
 | 7=>exact Iff.rfl
 | 8=>exact Iff.rfl
 | t+9=>exact Iff.rfl
theorem bG.EJ{lo:Nat}{w:World}{d:Wd}{L L':Lay}(h:bG lo w d L){n:Nat}{x y:Nd}(hx:d.ah[n]? = some x){b off cap:Nat}(he:L (1,0,0)=⟨some ⟨b,off,none⟩,cap⟩)(r:Nat)(hr:r < 4)(v:Value)(ic:Ix)
  (hic:(r=0/\ic=(9,0,0))\/(r=2/\ic=(5,n,0))\/(r=3/\ic=(6,n,0))) (hL:∀ix,ix≠ic->L' ix=L ix) (hlast:y.last=x.last) (SV:ic≠(5,n,0)->y.held=x.held) (htold:ic≠(6,n,0)->y.aG=x.aG)
  (hset:dz (aD d n y) L' n=(dz d L n).set r v)
  (hc:okI d ic->qo (aD d n y) ic<=1000/\Row w lo (szI ic) (L' ic) (qo (aD d n y) ic) (dX (aD d n y) L' ic)/\∀c,(L' ic).blk=some c->¬ ∃ix,ix≠ic/\okI d ix/\(L ix).blk=some c) :
  bG lo (w.setCell ⟨b,off+n*4+r,none⟩ v) (aD d n y) L':=by
 have hn:=bT hx;have hnl:(aD d n y).ah.length=d.ah.length:=by simp[aD]
 have hl4:∀i k,fA (aD d n y) i k=fA d i k:=by
  intro i k;unfold fA;rw[lJ y hx];split
  ·rename_i e;rw[e,dh hx,hlast]
  ·rfl
 have hl3:∀i,(bD (aD d n y) i).last=(bD d i).last:=by
  intro i;rw[lJ y hx];split
  ·rename_i e;rw[e,dh hx,hlast]
  ·rfl
 have hne0:∀{t i k},t < 5->(t,i,k)≠ic:=by
  rintro t i k ht rfl
  rcases hic with ⟨_,e⟩ | ⟨_,e⟩ | ⟨_,e⟩ <;> (injection e with e1 e2;omega)
 have hn5:∀i k,(5,i,k)≠ic->okI d (5,i,k)->(bD (aD d n y) i).held=(bD d i).held:=by
  intro i k hi hok;rw[lJ y hx];split
  ·rename_i e;rw[e,dh hx];exact SV (fun e2=>hi (by rw[e2,e,hok.2]))
  ·rfl
 have hn6:∀i k,(6,i,k)≠ic->okI d (6,i,k)->(bD (aD d n y) i).aG=(bD d i).aG:=by
  intro i k hi hok;rw[lJ y hx];split
  ·rename_i e;rw[e,dh hx];exact htold (fun e2=>hi (by rw[e2,e,hok.2]))
  ·rfl
 have key:=h.store (d':=aD d n y) (L':=L') (ip:=(1,0,0)) ⟨rfl,rfl⟩ he (j:=n*4+r) (by show n*4+r < d.ah.length*4;omega) v ic (fV hx (by rw[hlast])) hL (Ne.symm (hne0 (by omega))) ?_ ?_ ?_ hc
 ·rwa[<-Nat.add_assoc]at key
 ·rintro⟨t,i,k⟩ hok hne
  match t with
  | 0=>rfl
  | 1=>exact hnl
  | 2=>rfl
  | 3=>show(bD _ i).last.length=(bD d i).last.length;rw[hl3]
  | 4=>show(fA _ i k).length=_;rw[hl4];rfl
  | 5=>show(bD _ i).held.length=(bD d i).held.length;rw[hn5 i k hne hok]
  | 6=>show(bD _ i).aG.length=(bD d i).aG.length;rw[hn6 i k hne hok]
  | 7=>rfl
  | 8=>rfl
  | t+9=>rfl
 ·rintro⟨t,i,k⟩ hok hne1 hne
  match t with
  | 0=>rfl
  | 1=>obtain⟨rfl,rfl⟩:=hok;exact absurd rfl hne1
  | 2 =>
   show(List.range _).map _=(List.range _).map _;refine List.map_congr_left fun i _=>?_
   rw[hL (7,i,0) (by rcases hic with ⟨_,e⟩ | ⟨_,e⟩ | ⟨_,e⟩ <;> rw[e] <;> simp)]
   rfl
  | 3 =>
   show(List.range _).map _=(List.range _).map _;rw[hl3];refine List.map_congr_left fun k _=>?_;rw[hL (4,i,k) (hne0 (by omega)),hl4]
  | 4=>show(fA _ i k).map j6=_;rw[hl4];rfl
  | 5=>show flat (bD _ i).held=flat (bD d i).held;rw[hn5 i k hne hok]
  | 6=>show flat (bD _ i).aG=flat (bD d i).aG;rw[hn6 i k hne hok]
  | 7 =>
   show(List.range _).map _=(List.range _).map _;refine List.map_congr_left fun k _=>?_
   rw[hL (8,i,k) (by rcases hic with ⟨_,e⟩ | ⟨_,e⟩ | ⟨_,e⟩ <;> rw[e] <;> simp)]
   rfl
  | 8=>rfl
  | t+9=>rfl
 ·show(List.range (aD d n y).ah.length).flatMap _=((List.range d.ah.length).flatMap _).set _ _;rw[hnl];refine AU (sz:=4) (fun i=>rfl) hr ?_ hset _ hn;intro i hi;unfold dz;have e:bD (aD d n y) i=bD d i:=by rw[lJ y hx,if_neg hi]
  rw[e,hL (3,i,0) (hne0 (by omega)),hL (5,i,0) (by rcases hic with ⟨_,e⟩ | ⟨_,e⟩ | ⟨_,e⟩ <;> rw[e] <;> simp[hi]),hL (6,i,0) (by rcases hic with ⟨_,e⟩ | ⟨_,e⟩ | ⟨_,e⟩ <;> rw[e] <;> simp[hi])]
theorem bG.GQ{lo:Nat}{w:World}{d:Wd}{L:Lay}(h:bG lo w d L){n:Nat}{x:Nd}(hx:d.ah[n]? = some x){b off cap:Nat}(he:L (1,0,0)=⟨some ⟨b,off,none⟩,cap⟩)(c:Int) :
  bG lo (w.setCell ⟨b,off+n*4,none⟩ (.int .i64 c)) (aD d n { x with aK:=c }) L:=by
 refine h.EJ (y:={ x with aK:=c }) hx he 0 (by omega) _ (9,0,0) (.inl ⟨rfl,rfl⟩) (fun _ _=>rfl) rfl (fun _=>rfl) (fun _=>rfl) ?_ (fun hf=>hf.elim)
 unfold dz;rw[lJ _ hx,if_pos rfl,dh hx];rfl
theorem bG.zW{lo:Nat}{w:World}{d:Wd}{L:Lay}(h:bG lo w d L){n:Nat}{x:Nd}(hx:d.ah[n]? = some x){b off cap:Nat}(he:L (1,0,0)=⟨some ⟨b,off,none⟩,cap⟩){s:Sl}{l:List Mg}(hR:Row w lo 5 s l.length (flat l))(hm:l.length<=1000)
  (hd:∀c,s.blk=some c->¬ ∃ix,ix≠(5,n,0)/\okI d ix/\(L ix).blk=some c):bG lo (w.setCell ⟨b,off+n*4+2,none⟩ (s.v l.length)) (aD d n { x with held:=l }) (L.upd (5,n,0) s):=by
 have e:bD (aD d n { x with held:=l }) n={ x with held:=l }:=by rw[lJ _ hx,if_pos rfl]
 refine h.EJ (y:={ x with held:=l }) hx he 2 (by omega) _ (5,n,0) (.inr (.inl ⟨rfl,rfl⟩)) (fun ix hne=>Lay.gG L s hne) rfl (fun hf=>absurd rfl hf) (fun _=>rfl) ?_ (fun _=>?_)
 ·unfold dz;rw[e,dh hx,Lay.upd_same,Lay.gG L s (by simp:(3,n,0)≠(5,n,0)),Lay.gG L s (by simp:(6,n,0)≠(5,n,0))];rfl
 ·refine⟨by show(bD _ n).held.length<=1000;rw[e];exact hm, ?_,by rw[Lay.upd_same];exact hd⟩;show Row w lo 5 (L.upd (5,n,0) s (5,n,0)) (bD _ n).held.length (flat (bD _ n).held);rw[e,Lay.upd_same];exact hR
theorem bG.KR{lo:Nat}{w:World}{d:Wd}{L:Lay}(h:bG lo w d L){n:Nat}{x:Nd}(hx:d.ah[n]? = some x){b off cap:Nat}(he:L (1,0,0)=⟨some ⟨b,off,none⟩,cap⟩){s:Sl}{l:List Mg}(hR:Row w lo 5 s l.length (flat l))(hm:l.length<=1000)
  (hd:∀c,s.blk=some c->¬ ∃ix,ix≠(6,n,0)/\okI d ix/\(L ix).blk=some c):bG lo (w.setCell ⟨b,off+n*4+3,none⟩ (s.v l.length)) (aD d n { x with aG:=l }) (L.upd (6,n,0) s):=by
 have e:bD (aD d n { x with aG:=l }) n={ x with aG:=l }:=by rw[lJ _ hx,if_pos rfl]
 refine h.EJ (y:={ x with aG:=l }) hx he 3 (by omega) _ (6,n,0) (.inr (.inr ⟨rfl,rfl⟩)) (fun ix hne=>Lay.gG L s hne) rfl (fun _=>rfl) (fun hf=>absurd rfl hf) ?_ (fun _=>?_)
 ·unfold dz;rw[e,dh hx,Lay.upd_same,Lay.gG L s (by simp:(3,n,0)≠(6,n,0)),Lay.gG L s (by simp:(5,n,0)≠(6,n,0))];rfl
 ·refine⟨by show(bD _ n).aG.length<=1000;rw[e];exact hm, ?_,by rw[Lay.upd_same];exact hd⟩;show Row w lo 5 (L.upd (6,n,0) s (6,n,0)) (bD _ n).aG.length (flat (bD _ n).aG);rw[e,Lay.upd_same];exact hR
theorem bG.PL{lo:Nat}{w:World}{d:Wd}{L:Lay}(h:bG lo w d L){n g k:Nat}{x:Nd}{row:List Int}(hx:d.ah[n]? = some x)(hrow:x.last[g]? = some row)(hk:k < row.length){b off cap:Nat}(he:L (4,n,g)=⟨some ⟨b,off,none⟩,cap⟩)(v:Int) :
  bG lo (w.setCell ⟨b,off+k,none⟩ (.int .i64 v)) (aD d n { x with last:=x.last.set g (row.set k v) }) L:=by
 have hn:=bT hx;have hg:=(zQ2.1 hrow).1
 obtain⟨y,hy⟩:∃y:Nd,y={ x with last:=x.last.set g (row.set k v) }:=⟨_,rfl⟩
 rw[<-hy];have y1:y.last=x.last.set g (row.set k v):=by rw[hy]
 have y2:y.aK=x.aK:=by rw[hy]
 have y3:y.held=x.held:=by rw[hy]
 have y4:y.aG=x.aG:=by rw[hy]
 have hnl:(aD d n y).ah.length=d.ah.length:=by simp[aD]
 have hll:∀i,(bD (aD d n y) i).last.length=(bD d i).last.length:=by
  intro i;rw[lJ y hx];split
  ·rename_i e;rw[e,dh hx,y1,List.length_set]
  ·rfl
 have h5:∀i,(bD (aD d n y) i).held=(bD d i).held:=by
  intro i;rw[lJ y hx];split
  ·rename_i e;rw[e,dh hx,y3]
  ·rfl
 have h6:∀i,(bD (aD d n y) i).aG=(bD d i).aG:=by
  intro i;rw[lJ y hx];split
  ·rename_i e;rw[e,dh hx,y4]
  ·rfl
 have hlr:∀i j,fA (aD d n y) i j=if i=n/\j=g then row.set k v else fA d i j:=by
  intro i j;unfold fA;rw[lJ y hx];by_cases e:i=n
  ·subst e;rw[if_pos rfl,dh hx,y1,List.getElem?_set];by_cases e2:g=j
   ·subst e2;simp[hg]
   ·rw[if_neg e2,if_neg (fun hh=>e2 hh.2.symm)]
  ·rw[if_neg e,if_neg (fun hh=>e hh.1)]
 have Q7:fA d n g=row:=by unfold fA;rw[dh hx,hrow];rfl
 have Qr:∀i j,(fA (aD d n y) i j).length=(fA d i j).length:=by
  intro i j;rw[hlr];split
  ·rename_i e;rw[e.1,e.2,Q7,List.length_set]
  ·rfl
 refine h.store (d':=aD d n y) (L':=L) (ip:=(4,n,g)) ⟨hn,by rw[dh hx];exact hg⟩ he (j:=k) (by show k < (fA d n g).length*1;rw[Q7];omega) _ (9,0,0) (fV hx (by rw[y1,List.length_set])) (fun _ _=>rfl) (by simp) ?_ ?_ ?_ (fun hf=>hf.elim)
 ·rintro⟨t,i,j⟩ hok hne
  match t with
  | 0=>rfl
  | 1=>exact hnl
  | 2=>rfl
  | 3=>exact hll i
  | 4=>exact Qr i j
  | 5=>show(bD _ i).held.length=(bD d i).held.length;rw[h5]
  | 6=>show(bD _ i).aG.length=(bD d i).aG.length;rw[h6]
  | 7=>rfl
  | 8=>rfl
  | t+9=>rfl
 ·rintro⟨t,i,j⟩ hok hne hne2
  match t with
  | 0=>rfl
  | 1 =>
   show(List.range (aD d n y).ah.length).flatMap _=(List.range d.ah.length).flatMap _;rw[hnl]
   have:dz (aD d n y) L=dz d L:=by
    funext i
    unfold dz;rw[hll,h5,h6]
    have:(bD (aD d n y) i).aK=(bD d i).aK:=by
     rw[lJ y hx];split
     ·rename_i e;rw[e,dh hx,y2]
     ·rfl
    rw[this]
   rw[this]
  | 2=>rfl
  | 3 =>
   show(List.range _).map _=(List.range _).map _;rw[hll];refine List.map_congr_left fun k _=>?_;rw[Qr]
  | 4 =>
   show(fA _ i j).map j6=(fA d i j).map j6;rw[hlr,if_neg (fun hh=>hne (by rw[hh.1,hh.2]))]
  | 5=>show flat (bD _ i).held=flat (bD d i).held;rw[h5]
  | 6=>show flat (bD _ i).aG=flat (bD d i).aG;rw[h6]
  | 7=>rfl
  | 8=>rfl
  | t+9=>rfl
 ·show(fA _ n g).map j6=((fA d n g).map j6).set k _;rw[hlr,if_pos ⟨rfl,rfl⟩,Q7,List.map_set];rfl
theorem EK{d:Wd}{f t:Nat}{r:List (List Mg)}(l:List Mg)(hr:d.aB[f]? = some r)(i:Nat):rowAt (bK d f t l) i=if i=f then r.set t l else rowAt d i:=by
 have hf:=(zQ2.1 hr).1;unfold rowAt bK;show(d.aB.set f _)[i]?.getD []=_;rw[List.getElem?_set];by_cases e:f=i
 ·subst e;rw[if_pos rfl,if_pos hf,if_pos rfl,hr];rfl
 ·rw[if_neg e,if_neg (fun h=>e h.symm)]
theorem bG.KT{lo:Nat}{w:World}{d:Wd}{L:Lay}(h:bG lo w d L){f t:Nat}{r:List (List Mg)}(hr:d.aB[f]? = some r)(ht:t < r.length){b off cap:Nat}(he:L (7,f,0)=⟨some ⟨b,off,none⟩,cap⟩){s:Sl}{l:List Mg}(hR:Row w lo 5 s l.length (flat l))(hm:l.length<=1000)
  (hd:∀c,s.blk=some c->¬ ∃ix,ix≠(8,f,t)/\okI d ix/\(L ix).blk=some c):bG lo (w.setCell ⟨b,off+t,none⟩ (s.v l.length)) (bK d f t l) (L.upd (8,f,t) s):=by
 have hf:=(zQ2.1 hr).1;have hwl:(bK d f t l).aB.length=d.aB.length:=by simp[bK]
 have hrl:∀i,(rowAt (bK d f t l) i).length=(rowAt d i).length:=by
  intro i;rw[EK l hr];split
  ·rename_i e;rw[e,dP hr,List.length_set]
  ·rfl
 have hwr:∀i j,gF (bK d f t l) i j=if i=f/\j=t then l else gF d i j:=by
  intro i j;unfold gF;rw[EK l hr];by_cases e:i=f
  ·subst e;rw[if_pos rfl,dP hr,List.getElem?_set];by_cases e2:t=j
   ·subst e2;simp[ht]
   ·rw[if_neg e2,if_neg (fun hh=>e2 hh.2.symm)]
  ·rw[if_neg e,if_neg (fun hh=>e hh.1)]
 have PN:∀{i j},(8,i,j)≠((8,f,t):Ix)->¬ (i=f/\j=t):=fun hne hh=>hne (by rw[hh.1,hh.2]);have hLo:∀ix,ix≠(8,f,t)->L.upd (8,f,t) s ix=L ix:=fun ix hne=>Lay.gG L s hne;refine h.store (d':=bK d f t l) (L':=L.upd (8,f,t) s) (ip:=(7,f,0)) ⟨hf,rfl⟩ he (j:=t) (by show t < (rowAt d f).length*1;rw[dP hr];omega) _ (8,f,t) ?_ hLo (by simp) ?_ ?_ ?_ (fun _=>?_)
 ·rintro⟨u,i,j⟩
  match u with
  | 0=>exact Iff.rfl
  | 1=>exact Iff.rfl
  | 2=>exact Iff.rfl
  | 3=>exact Iff.rfl
  | 4=>exact Iff.rfl
  | 5=>exact Iff.rfl
  | 6=>exact Iff.rfl
  | 7=>show(i < _/\j=0)↔(i < _/\j=0);rw[hwl]
  | 8=>show(i < _/\j < _)↔(i < _/\j < _);rw[hwl,hrl]
  | u+9=>exact Iff.rfl
 ·rintro⟨u,i,j⟩ hok hne
  match u with
  | 0=>rfl
  | 1=>rfl
  | 2=>exact hwl
  | 3=>rfl
  | 4=>rfl
  | 5=>rfl
  | 6=>rfl
  | 7=>exact hrl i
  | 8=>show(gF _ i j).length=(gF d i j).length;rw[hwr,if_neg (PN hne)]
  | u+9=>rfl
 ·rintro⟨u,i,j⟩ hok hne hne2
  match u with
  | 0=>rfl
  | 1 =>
   show(List.range _).flatMap _=(List.range _).flatMap _
   have:dz (bK d f t l) (L.upd (8,f,t) s)=dz d L:=by
    funext i
    unfold dz;rw[hLo (3,i,0) (by simp),hLo (5,i,0) (by simp),hLo (6,i,0) (by simp)];rfl
   rw[this];rfl
  | 2 =>
   show(List.range _).map _=(List.range _).map _;rw[hwl];refine List.map_congr_left fun i _=>?_;rw[hLo (7,i,0) (by simp),hrl]
  | 3 =>
   show(List.range _).map _=(List.range _).map _;refine List.map_congr_left fun k _=>?_;rw[hLo (4,i,k) (by simp)];rfl
  | 4=>rfl
  | 5=>rfl
  | 6=>rfl
  | 7 =>
   show(List.range _).map _=(List.range _).map _;rw[hrl];have hi:i≠f:=fun e=>hne (by rw[e,hok.2]);refine List.map_congr_left fun k _=>?_;rw[hLo (8,i,k) (by simp[hi]),hwr,if_neg (fun hh=>hi hh.1)]
  | 8=>show flat (gF _ i j)=flat (gF d i j);rw[hwr,if_neg (PN hne2)]
  | u+9=>rfl
 ·show(List.range (rowAt (bK d f t l) f).length).map _=((List.range (rowAt d f).length).map _).set t _
  rw[hrl,vM (n:=t) (f:=fun k=>(L (8,f,k)).v (gF d f k).length) (fun k hk=>by
   rw[hLo (8,f,k) (by simp[hk]),hwr,if_neg (fun hh=>hk hh.2)])]
  rw[Lay.upd_same,hwr,if_pos ⟨rfl,rfl⟩]
 ·refine⟨by show(gF _ f t).length<=1000;rw[hwr,if_pos ⟨rfl,rfl⟩];exact hm, ?_,by rw[Lay.upd_same];exact hd⟩;show Row w lo 5 (L.upd (8,f,t) s (8,f,t)) (gF _ f t).length (flat (gF _ f t));rw[hwr,if_pos ⟨rfl,rfl⟩,Lay.upd_same];exact hR
structure eU {α:Type} (sz:Nat) (enc:List α->List Value) (lo:Nat) (w:World) (s:Sl) (rs:Nat->Sl) (xss:List (List α)):Prop where
 top:Row w lo 1 s xss.length ((List.range xss.length).map fun k=>(rs k).v (xss[k]?.getD []).length)
 rows:∀k xs,xss[k]? = some xs->Row w lo sz (rs k) xs.length (enc xs)
 apart:∀k b,k < xss.length->(rs k).blk=some b->s.blk≠some b
 inj:∀j k b,j < xss.length->k < xss.length->(rs j).blk=some b->(rs k).blk=some b->j=k
def AV{α:Type}(s:Sl)(rs:Nat->Sl)(xss:List (List α))(b:Nat):Prop:=s.blk=some b\/∃k,k < xss.length/\(rs k).blk=some b
section
variable {α:Type} {sz:Nat} {enc:List α->List Value} {lo:Nat} {w w':World} {s:Sl} {rs:Nat->Sl} {xss:List (List α)}
theorem eU.blk(h:eU sz enc lo w s rs xss){b:Nat}(hb:AV s rs xss b):lo<=b/\b < w.heap.size:=by
 rcases hb with e | ⟨k,hk,e⟩
 ·have:=h.top.gW e;exact⟨this.2.1,this.2.2.1⟩
 ·have:=(h.rows k _ (zQ1 hk)).gW e;exact⟨this.2.1,this.2.2.1⟩
theorem eU.fr{B:Nat->Prop}(h:eU sz enc lo w s rs xss)(k:Fr B w w')(hB:∀b,AV s rs xss b->¬ B b):eU sz enc lo w' s rs xss :=
 ⟨h.top.fr k (fun b e=>hB b (.inl e)),fun i xs hi=>(h.rows i xs hi).fr k (fun b e=>hB b (.inr ⟨i,(zQ2.1 hi).1,e⟩)),h.apart,h.inj⟩
theorem eU.ay(h:eU sz enc lo w s rs xss)(k:ak w w'):eU sz enc lo w' s rs xss:=h.fr (k.fr fun _=>False) (fun _ _ x=>x)
theorem eU.mono{lo':Nat}(h:eU sz enc lo w s rs xss)(hl:lo'<=lo):eU sz enc lo' w s rs xss:=⟨h.top.mono hl,fun i xs hi=>(h.rows i xs hi).mono hl,h.apart,h.inj⟩
theorem eU.nil:eU sz enc lo w ⟨none,0⟩ rs ([]:List (List α)):=⟨Row.nil w lo 1,fun k xs h=>by simp at h,fun k b h=>by simp at h,fun j k b h=>by simp at h⟩
def CY(rs:Nat->Sl)(n:Nat)(r:Sl):Nat->Sl:=fun k=>if k=n then r else rs k
theorem jw(n:Nat)(r:Sl):CY rs n r n=r:=if_pos rfl
theorem kS{n k:Nat}(r:Sl)(h:k≠n):CY rs n r k=rs k:=if_neg h
theorem eU.push(h:eU sz enc lo w s rs xss){r:Sl}{xs:List α}(hr:Row w lo sz r xs.length (enc xs))(hd:∀b,r.blk=some b->¬ AV s rs xss b){s':Sl}(hs:Row w' lo 1 s' (xss.length+1) (((List.range xss.length).map fun k=>(rs k).v (xss[k]?.getD []).length)++[r.v xs.length]))
  (hF:Fr (fun k=>s.blk=some k) w w') (hb:s'=s\/(ak w w'/\s'.blk=some w.heap.size)):eU sz enc lo w' s' (CY rs xss.length r) (xss++[xs]):=by
 have bq:(xss++[xs]).length=xss.length+1:=by simp
 have hget:∀k,k < xss.length->(xss++[xs])[k]? = xss[k]?:=fun k hk=>List.getElem?_append_left hk;have hlast:(xss++[xs])[xss.length]? = some xs:=by simp
 have hrb:∀b,r.blk=some b->b < w.heap.size:=fun b e=>(hr.gW e).2.2.1
 have hsb:∀b,s'.blk=some b->s.blk=some b\/b=w.heap.size:=by
  intro b e;rcases hb with rfl | ⟨_,e2⟩
  ·exact .inl e
  ·rw[e2]at e;cases e;exact .inr rfl
 have ho:∀k,k < xss.length->CY rs xss.length r k=rs k:=fun k hk=>kS r (by omega);refine⟨?_,fun k ys hk=>?_,fun k b hk e1 e2=>?_,fun j k b hj hk e1 e2=>?_⟩
 ·rw[bq,List.range_succ,List.map_append]
  have e1:((List.range xss.length).map fun k=>(CY rs xss.length r k).v ((xss++[xs])[k]?.getD []).length)=(List.range xss.length).map fun k=>(rs k).v (xss[k]?.getD []).length :=
   List.map_congr_left fun k hk=>by rw[ho k (by simpa using hk),hget k (by simpa using hk)]
  have e2:([xss.length].map fun k=>(CY rs xss.length r k).v ((xss++[xs])[k]?.getD []).length)=[r.v xs.length]:=by
   simp only[List.map_cons,List.map_nil,jw,hlast,Option.getD_some]
  rw[e1,e2];exact hs
 ·by_cases hk':k < xss.length
  ·rw[hget k hk']at hk;rw[ho k hk'];exact(h.rows k ys hk).fr hF (fun b e e2=>h.apart k b hk' e e2)
  ·have e:k=xss.length:=by have:=(zQ2.1 hk).1;omega
   subst e;rw[hlast]at hk;cases hk;rw[jw];exact hr.fr hF (fun b e e2=>hd b e (.inl e2))
 ·by_cases hk':k < xss.length
  ·rw[ho k hk']at e1;rcases hsb b e2 with e3 | e3
   ·exact h.apart k b hk' e1 e3
   ·have:=(h.blk (.inr ⟨k,hk',e1⟩)).2;omega
  ·have e:k=xss.length:=by omega
   subst e;rw[jw]at e1;rcases hsb b e2 with e3 | e3
   ·exact hd b e1 (.inl e3)
   ·have:=hrb b e1;omega
 ·by_cases hj':j < xss.length
  ·rw[ho j hj']at e1;by_cases hk':k < xss.length
   ·rw[ho k hk']at e2;exact h.inj j k b hj' hk' e1 e2
   ·have e:k=xss.length:=by omega
    subst e;rw[jw]at e2;exact absurd (.inr ⟨j,hj',e1⟩) (hd b e2)
  ·have e:j=xss.length:=by omega
   subst e;rw[jw]at e1;by_cases hk':k < xss.length
   ·rw[ho k hk']at e2;exact absurd (.inr ⟨k,hk',e2⟩) (hd b e1)
   ·omega
theorem eU.put(h:eU sz enc lo w s rs xss){k:Nat}(hk:k < xss.length){b off cap:Nat}(he:s=⟨some ⟨b,off,none⟩,cap⟩){r:Sl}{xs:List α}(hr:Row w lo sz r xs.length (enc xs))(hd:∀c,r.blk=some c->s.blk≠some c/\∀j,j≠k->j < xss.length->(rs j).blk≠some c) :
  eU sz enc lo (w.setCell ⟨b,off+k,none⟩ (r.v xs.length)) s (CY rs k r) (xss.set k xs):=by
 have hcap:0 < cap:=by have:=h.top.cap;rw[he]at this;dsimp only at this;omega
 have hsb:s.blk=some b:=by rw[he];unfold Sl.blk;rw[if_neg (by dsimp only;omega)];rfl
 have kept:∀{sz t n ys},Row w lo sz t n ys->t.blk≠some b->Row (w.setCell ⟨b,off+k,none⟩ (r.v xs.length)) lo sz t n ys:=fun hr hne =>
  hr.kept (by simp) (fun c hcb=>Below.heap_setCell w ⟨b,off+k,none⟩ _ c (fun e=>hne (by rw[hcb,e])))
 refine⟨?_,fun j ys hj=>?_,fun j c hj e1=>?_,fun i j c hi hj e1 e2=>?_⟩
 ·rw[List.length_set,vM (n:=k) (f:=fun k=>(rs k).v (xss[k]?.getD []).length) (fun i hi=>by rw[kS r hi,List.getElem?_set_ne (fun e=>hi e.symm)])];have:=h.top;rw[he]at this ⊢;rw[jw,List.getElem?_set_self hk,Option.getD_some];exact this.set k (by omega) _
 ·by_cases e:j=k
  ·subst e;rw[List.getElem?_set_self hk]at hj;cases hj;rw[jw];exact kept hr (fun e=>(hd b e).1 hsb)
  ·rw[List.getElem?_set_ne (fun x=>e x.symm)]at hj;rw[kS r e];exact kept (h.rows j ys hj) (fun e=>h.apart j b (zQ2.1 hj).1 e hsb)
 ·rw[List.length_set]at hj;by_cases e:j=k
  ·subst e;rw[jw]at e1;exact(hd c e1).1
  ·rw[kS r e]at e1;exact h.apart j c hj e1
 ·rw[List.length_set]at hi hj;by_cases ei:i=k
  ·by_cases ej:j=k
   ·omega
   ·subst ei;rw[jw]at e1;rw[kS r ej]at e2;exact absurd e2 ((hd c e1).2 j ej hj)
  ·rw[kS r ei]at e1;by_cases ej:j=k
   ·subst ej;rw[jw]at e2;exact absurd e1 ((hd c e2).2 i ei hi)
   ·rw[kS r ej]at e2;exact h.inj i j c hi hj e1 e2
end
theorem bG.extend{lo:Nat}{w w':World}{d d':Wd}{L L':Lay}(h:bG lo w d L)(hsz:w.heap.size<=w'.heap.size)(ip:Ix)(hip:okI d ip)
  (hL:∀ix,okI d ix->ix≠ip->L' ix=L ix/\qo d' ix=qo d ix/\dX d' L' ix=dX d L ix)
  (hkeep:∀ix b,okI d ix->ix≠ip->(L ix).blk=some b->w'.heap[b]? = w.heap[b]?)
  (U3:Row w' lo (szI ip) (L' ip) (qo d' ip) (dX d' L' ip)) (U4:qo d' ip<=1000) (SX:∀b,(L' ip).blk=some b->(L ip).blk=some b\/w.heap.size<=b)
  (hnew:∀ix,okI d' ix->¬ okI d ix->Row w' lo (szI ix) (L' ix) (qo d' ix) (dX d' L' ix)/\qo d' ix<=1000)
  (KU:∀ix b,okI d' ix->¬ okI d ix->(L' ix).blk=some b->¬ gT d L b/\(L' ip).blk≠some b)
  (SY:∀i j b,okI d' i->¬ okI d i->okI d' j->¬ okI d j->(L' i).blk=some b->(L' j).blk=some b->i=j):bG lo w' d' L':=by
 refine⟨fun ix hx=>?_,fun ix hx=>?_,fun i j b hi hj e1 e2=>?_⟩
 ·by_cases ho:okI d ix
  ·by_cases e:ix=ip
   ·rw[e];exact U3
   ·obtain⟨a1,a2,a3⟩:=hL ix ho e;rw[a1,a2,a3];exact(h.row ix ho).kept hsz (fun b hb=>hkeep ix b ho e hb)
  ·exact(hnew ix hx ho).1
 ·by_cases ho:okI d ix
  ·by_cases e:ix=ip
   ·rw[e];exact U4
   ·rw[(hL ix ho e).2.1];exact h.small ix ho
  ·exact(hnew ix hx ho).2
 ·have tell:∀ix,okI d ix->(L' ix).blk=some b->ix=ip\/(L ix).blk=some b:=by
   intro ix ho e;by_cases e3:ix=ip
   ·exact .inl e3
   ·rw[(hL ix ho e3).1]at e;exact .inr e
  by_cases hoi:okI d i
  ·by_cases hoj:okI d j
   ·rcases tell i hoi e1 with ei | ei
    ·rcases tell j hoj e2 with ej | ej
     ·rw[ei,ej]
     ·subst ei;rcases SX b e1 with e3 | e3
      ·exact h.inj i j b hoi hoj e3 ej
      ·have:=((h.row j hoj).gW ej).2.2.1;omega
    ·rcases tell j hoj e2 with ej | ej
     ·subst ej;rcases SX b e2 with e3 | e3
      ·exact h.inj i j b hoi hoj ei e3
      ·have:=((h.row i hoi).gW ei).2.2.1;omega
     ·exact h.inj i j b hoi hoj ei ej
   ·rcases tell i hoi e1 with ei | ei
    ·subst ei;exact absurd e1 (KU j b hj hoj e2).2
    ·exact absurd ⟨i,hoi,ei⟩ (KU j b hj hoj e2).1
  ·by_cases hoj:okI d j
   ·rcases tell j hoj e2 with ej | ej
    ·subst ej;exact absurd e2 (KU i b hi hoi e1).2
    ·exact absurd ⟨j,hoj,ej⟩ (KU i b hi hoi e1).1
   ·exact SY i j b hi hoi hj hoj e1 e2
def qP(l:List Int):List Value:=l.map j6
def dL(L:Lay)(N:Nat)(s ls:Sl)(rs:Nat->Sl)(hs ts:Sl):Lay:=fun ix =>
 if ix=(1,0,0) then s else if ix.2.1=N then (if ix.1=3 then ls else if ix.1=4 then rs ix.2.2 else if ix.1=5 then hs else if ix.1=6 then ts else L ix) else L ix
structure oo (lo:Nat) (w:World) (x:Nd) (ls:Sl) (rs:Nat->Sl) (hs ts:Sl):Prop where
 last:eU 1 qP lo w ls rs x.last
 held:Row w lo 5 hs x.held.length (flat x.held)
 aG:Row w lo 5 ts x.aG.length (flat x.aG)
 d1:∀b,hs.blk=some b->¬ AV ls rs x.last b/\ts.blk≠some b
 d2:∀b,ts.blk=some b->¬ AV ls rs x.last b
def KV(x:Nd)(ls:Sl)(rs:Nat->Sl)(hs ts:Sl)(b:Nat):Prop:=AV ls rs x.last b\/hs.blk=some b\/ts.blk=some b
def x9(x:Nd):Prop:=x.last.length<=1000/\(∀(k:Nat) (r:List Int),x.last[k]? = some r->r.length<=1000)/\x.held.length<=1000/\x.aG.length<=1000
theorem oo.fr{B:Nat->Prop}{lo:Nat}{w w':World}{x:Nd}{ls:Sl}{rs:Nat->Sl}{hs ts:Sl}(h:oo lo w x ls rs hs ts)(k:Fr B w w')(hB:∀b,KV x ls rs hs ts b->¬ B b):oo lo w' x ls rs hs ts :=
 ⟨h.last.fr k (fun b e=>hB b (.inl e)),h.held.fr k (fun b e=>hB b (.inr (.inl e))),h.aG.fr k (fun b e=>hB b (.inr (.inr e))),h.d1,h.d2⟩
theorem zX{d:Wd}{x:Nd}(i:Nat):bD { d with ah:=d.ah++[x] } i=if i=d.ah.length then x else bD d i:=by
 unfold bD;show(d.ah++[x])[i]?.getD _=_;by_cases h:i=d.ah.length
 ·subst h;simp
 ·rw[if_neg h];by_cases h2:i < d.ah.length
  ·rw[List.getElem?_append_left h2]
  ·rw[List.getElem?_append_right (by omega)];have:¬ i - d.ah.length=0:=by omega
   rw[List.getElem?_eq_none (by simp;omega),List.getElem?_eq_none (by omega)]
theorem bG.addNode{lo:Nat}{w w':World}{d:Wd}{L:Lay}(h:bG lo w d L)(hsz:w.heap.size<=w'.heap.size){x:Nd}{s ls:Sl}{rs:Nat->Sl}{hs ts:Sl}(hn:oo lo w' x ls rs hs ts)(hx:x9 x)(hN:d.ah.length+1<=1000)
  (hd:∀b,KV x ls rs hs ts b->¬ gT d L b/\s.blk≠some b)
  (hR:Row w' lo 4 s (d.ah.length+1) (dX d L (1,0,0)++[.int .i64 x.aK,ls.v x.last.length,hs.v x.held.length,ts.v x.aG.length]))
  (hK:∀b,gT d L b->(L (1,0,0)).blk≠some b->w'.heap[b]? = w.heap[b]?) (hB:∀b,s.blk=some b->(L (1,0,0)).blk=some b\/w.heap.size<=b) :
  bG lo w' { d with ah:=d.ah++[x] } (dL L d.ah.length s ls rs hs ts):=by
 obtain⟨N,hNe⟩:∃N,d.ah.length=N:=⟨_,rfl⟩
 obtain⟨d',hd'⟩:∃d':Wd,d'={ d with ah:=d.ah++[x] }:=⟨_,rfl⟩
 obtain⟨L',hL'⟩:∃L':Lay,L'=dL L d.ah.length s ls rs hs ts:=⟨_,rfl⟩;have hnd:∀i,bD d' i=if i=N then x else bD d i:=by intro i;rw[hd',<-hNe];exact zX i
 have hnl:d'.ah.length=N+1:=by rw[hd',<-hNe];simp
 have hw:d'.aB=d.aB:=by rw[hd']
 have hg:d'.au=d.au:=by rw[hd']
 have hro:∀i,rowAt d' i=rowAt d i:=by intro i;unfold rowAt;rw[hw]
 have hwr:∀i k,gF d' i k=gF d i k:=by intro i k;unfold gF;rw[hro]
 have l1:L' (1,0,0)=s:=by rw[hL'];rfl
 have l3:L' (3,N,0)=ls:=by rw[hL',<-hNe];simp[dL]
 have l4:∀k,L' (4,N,k)=rs k:=by intro k;rw[hL',<-hNe];simp[dL]
 have l5:L' (5,N,0)=hs:=by rw[hL',<-hNe];simp[dL]
 have l6:L' (6,N,0)=ts:=by rw[hL',<-hNe];simp[dL]
 have lo':∀t i k,(t,i,k)≠(1,0,0)->(i≠N\/t < 3\/6 < t)->L' (t,i,k)=L (t,i,k):=by
  intro t i k h1 h2;rw[hL'];unfold dL;rw[if_neg h1,hNe];by_cases e:i=N
  ·rw[if_pos e,if_neg (by dsimp only;omega),if_neg (by dsimp only;omega),if_neg (by dsimp only;omega),if_neg (by dsimp only;omega)]
  ·rw[if_neg e]
 rw[<-hd',<-hL']
 have U5:∀{t i k},okI d (t,i,k)->(t,i,k)≠(1,0,0)->L' (t,i,k)=L (t,i,k):=by
  intro t i k hok hne;refine lo' t i k hne ?_
  match t,hok with
  | 0,_=>exact .inr (.inl (by omega))
  | 1,_=>exact .inr (.inl (by omega))
  | 2,_=>exact .inr (.inl (by omega))
  | 3,hok=>have:=hok.1;exact .inl (by omega)
  | 4,hok=>have:=hok.1;exact .inl (by omega)
  | 5,hok=>have:=hok.1;exact .inl (by omega)
  | 6,hok=>have:=hok.1;exact .inl (by omega)
  | 7,_=>exact .inr (.inr (by omega))
  | 8,_=>exact .inr (.inr (by omega))
  | t+9,hok=>exact hok.elim
 have Oe:∀ix,okI d' ix->¬ okI d ix->ix=(3,N,0)\/(∃k,ix=(4,N,k)/\k < x.last.length)\/ix=(5,N,0)\/ix=(6,N,0):=by
  rintro⟨t,i,k⟩ hok hno
  match t,hok,hno with
  | 0,hok,hno=>exact absurd hok hno
  | 1,hok,hno=>exact absurd hok hno
  | 2,hok,hno=>exact absurd hok hno
  | 3,hok,hno =>
   obtain⟨h1,rfl⟩:=hok;have:¬ i < d.ah.length:=fun h=>hno ⟨h,rfl⟩;exact .inl (by rw[show i=N by omega])
  | 4,hok,hno =>
   obtain⟨h1,h2⟩:=hok;by_cases e:i=N
   ·rw[hnd,if_pos e]at h2;exact .inr (.inl ⟨k,by rw[e],h2⟩)
   ·rw[hnd,if_neg e]at h2;exact absurd ⟨by omega,h2⟩ hno
  | 5,hok,hno =>
   obtain⟨h1,rfl⟩:=hok;have:¬ i < d.ah.length:=fun h=>hno ⟨h,rfl⟩;exact .inr (.inr (.inl (by rw[show i=N by omega])))
  | 6,hok,hno =>
   obtain⟨h1,rfl⟩:=hok;have:¬ i < d.ah.length:=fun h=>hno ⟨h,rfl⟩;exact .inr (.inr (.inr (by rw[show i=N by omega])))
  | 7,hok,hno=>exact absurd (by obtain⟨a,b⟩:=hok;exact⟨by rw[<-hw];exact a,b⟩) hno
  | 8,hok,hno=>exact absurd (by obtain⟨a,b⟩:=hok;exact⟨by rw[<-hw];exact a,by rw[<-hro];exact b⟩) hno
  | t+9,hok,hno=>exact hok.elim
 have hNN:bD d' N=x:=by rw[hnd,if_pos rfl]
 have S9:∀k,fA d' N k=x.last[k]?.getD []:=by intro k;unfold fA;rw[hNN]
 have vZ:∀ix b,okI d' ix->¬ okI d ix->(L' ix).blk=some b->(ix=(3,N,0)/\ls.blk=some b)\/(∃k,ix=(4,N,k)/\k < x.last.length/\(rs k).blk=some b)\/(ix=(5,N,0)/\hs.blk=some b)\/(ix=(6,N,0)/\ts.blk=some b):=by
  intro ix b hok hno e;rcases Oe ix hok hno with rfl | ⟨k,rfl,hk⟩ | rfl | rfl
  ·rw[l3]at e;exact .inl ⟨rfl,e⟩
  ·rw[l4]at e;exact .inr (.inl ⟨k,rfl,hk,e⟩)
  ·rw[l5]at e;exact .inr (.inr (.inl ⟨rfl,e⟩))
  ·rw[l6]at e;exact .inr (.inr (.inr ⟨rfl,e⟩))
 refine h.extend hsz (1,0,0) ⟨rfl,rfl⟩ ?_ ?_ ?_ ?_ ?_ ?_ ?_ ?_
 ·rintro⟨t,i,k⟩ hok hne;have hnd':i < N->bD d' i=bD d i:=fun hi=>by rw[hnd,if_neg (by omega)]
  refine⟨U5 hok hne, ?_, ?_⟩
  ·match t,hok with
   | 0,_=>show d'.au.length=_;rw[hg];rfl
   | 1,hok=>obtain⟨rfl,rfl⟩:=hok;exact absurd rfl hne
   | 2,_=>show d'.aB.length=_;rw[hw];rfl
   | 3,hok=>show(bD d' i).last.length=(bD d i).last.length;rw[hnd' (by have:=hok.1;omega)]
   | 4,hok=>show(fA d' i k).length=(fA d i k).length;unfold fA;rw[hnd' (by have:=hok.1;omega)]
   | 5,hok=>show(bD d' i).held.length=(bD d i).held.length;rw[hnd' (by have:=hok.1;omega)]
   | 6,hok=>show(bD d' i).aG.length=(bD d i).aG.length;rw[hnd' (by have:=hok.1;omega)]
   | 7,_=>show(rowAt d' i).length=(rowAt d i).length;rw[hro]
   | 8,_=>show(gF d' i k).length=(gF d i k).length;rw[hwr]
   | t+9,hok=>exact hok.elim
  ·match t,hok with
   | 0,_=>show d'.au.map j6=_;rw[hg];rfl
   | 1,hok=>obtain⟨rfl,rfl⟩:=hok;exact absurd rfl hne
   | 2,_ =>
    show(List.range d'.aB.length).map _=(List.range d.aB.length).map _;rw[hw];refine List.map_congr_left fun j _=>?_;rw[lo' 7 j 0 (by simp) (.inr (.inr (by omega))),hro]
   | 3,hok =>
    show(List.range _).map _=(List.range _).map _;have hi:i < N:=by have:=hok.1;omega
    rw[hnd' hi];refine List.map_congr_left fun j _=>?_;rw[lo' 4 i j (by simp) (.inl (by omega))];unfold fA;rw[hnd' hi]
   | 4,hok=>show(fA d' i k).map j6=(fA d i k).map j6;unfold fA;rw[hnd' (by have:=hok.1;omega)]
   | 5,hok=>show flat (bD d' i).held=flat (bD d i).held;rw[hnd' (by have:=hok.1;omega)]
   | 6,hok=>show flat (bD d' i).aG=flat (bD d i).aG;rw[hnd' (by have:=hok.1;omega)]
   | 7,_ =>
    show(List.range _).map _=(List.range _).map _;rw[hro];refine List.map_congr_left fun j _=>?_;rw[lo' 8 i j (by simp) (.inr (.inr (by omega))),hwr]
   | 8,_=>show flat (gF d' i k)=flat (gF d i k);rw[hwr]
   | t+9,hok=>exact hok.elim
 ·intro ix b hok hne e;exact hK b ⟨ix,hok,e⟩ (fun e2=>hne (h.inj ix (1,0,0) b hok ⟨rfl,rfl⟩ e e2))
 ·show Row w' lo 4 (L' (1,0,0)) d'.ah.length ((List.range d'.ah.length).flatMap (dz d' L'))
  have e1:(List.range N).flatMap (dz d' L')=dX d L (1,0,0):=by
   show _=(List.range d.ah.length).flatMap (dz d L);rw[hNe]
   have:∀i,i < N->dz d' L' i=dz d L i:=by
    intro i hi;unfold dz;rw[hnd,if_neg (by omega),lo' 3 i 0 (by simp) (.inl (by omega)),lo' 5 i 0 (by simp) (.inl (by omega)),lo' 6 i 0 (by simp) (.inl (by omega))]
   have h2:∀M,M<=N->(List.range M).flatMap (dz d' L')=(List.range M).flatMap (dz d L):=by
    intro M
    induction M with
    | zero=>intro _;rfl
    | succ M ih=>intro hM;rw[List.range_succ,List.flatMap_append,List.flatMap_append,ih (by omega)];simp[this M (by omega)]
   exact h2 N (Nat.le_refl _)
  have e2:dz d' L' N=[.int .i64 x.aK,ls.v x.last.length,hs.v x.held.length,ts.v x.aG.length]:=by
   unfold dz;rw[hNN,l3,l5,l6]
  rw[l1,hnl,List.range_succ,List.flatMap_append,e1,List.flatMap_cons,List.flatMap_nil,List.append_nil,e2];rw[hNe]at hR;exact hR
 ·show d'.ah.length<=1000;omega
 ·rw[l1];exact hB
 ·intro ix hok hno;rcases Oe ix hok hno with rfl | ⟨k,rfl,hk⟩ | rfl | rfl
  ·refine⟨?_,by show(bD d' N).last.length<=1000;rw[hNN];exact hx.1⟩;show Row w' lo 1 (L' (3,N,0)) (bD d' N).last.length ((List.range (bD d' N).last.length).map fun k=>(L' (4,N,k)).v (fA d' N k).length);rw[l3,hNN];have:=hn.last.top;have e:((List.range x.last.length).map fun k=>(L' (4,N,k)).v (fA d' N k).length)=(List.range x.last.length).map fun k=>(rs k).v (x.last[k]?.getD []).length:=List.map_congr_left fun k _=>by rw[l4,S9]
   rw[e];exact this
  ·have hr:=hn.last.rows k _ (zQ1 hk);have e:fA d' N k=x.last[k]:=by rw[S9,zQ1 hk];rfl
   refine⟨?_,by show(fA d' N k).length<=1000;rw[e];exact hx.2.1 k _ (zQ1 hk)⟩;show Row w' lo 1 (L' (4,N,k)) (fA d' N k).length ((fA d' N k).map j6);rw[l4,e];exact hr
  ·refine⟨?_,by show(bD d' N).held.length<=1000;rw[hNN];exact hx.2.2.1⟩;show Row w' lo 5 (L' (5,N,0)) (bD d' N).held.length (flat (bD d' N).held);rw[l5,hNN];exact hn.held
  ·refine⟨?_,by show(bD d' N).aG.length<=1000;rw[hNN];exact hx.2.2.2⟩;show Row w' lo 5 (L' (6,N,0)) (bD d' N).aG.length (flat (bD d' N).aG);rw[l6,hNN];exact hn.aG
 ·intro ix b hok hno e;rw[l1];rcases vZ ix b hok hno e with ⟨_,e2⟩ | ⟨k,_,hk,e2⟩ | ⟨_,e2⟩ | ⟨_,e2⟩
  ·exact hd b (.inl (.inl e2))
  ·exact hd b (.inl (.inr ⟨k,hk,e2⟩))
  ·exact hd b (.inr (.inl e2))
  ·exact hd b (.inr (.inr e2))
 ·intro i j b hi hni hj hnj e1 e2
  rcases vZ i b hi hni e1 with ⟨rfl,f1⟩ | ⟨k,rfl,hk,f1⟩ | ⟨rfl,f1⟩ | ⟨rfl,f1⟩ <;>
  rcases vZ j b hj hnj e2 with ⟨rfl,f2⟩ | ⟨k',rfl,hk',f2⟩ | ⟨rfl,f2⟩ | ⟨rfl,f2⟩
  ·rfl
  ·exact absurd f1 (hn.last.apart k' b hk' f2)
  ·exact absurd (.inl f1) (hn.d1 b f2).1
  ·exact absurd (.inl f1) (hn.d2 b f2)
  ·exact absurd f2 (hn.last.apart k b hk f1)
  ·rw[hn.last.inj k k' b hk hk' f1 f2]
  ·exact absurd (.inr ⟨k,hk,f1⟩) (hn.d1 b f2).1
  ·exact absurd (.inr ⟨k,hk,f1⟩) (hn.d2 b f2)
  ·exact absurd (.inl f2) (hn.d1 b f1).1
  ·exact absurd (.inr ⟨k',hk',f2⟩) (hn.d1 b f1).1
  ·rfl
  ·exact absurd f2 (hn.d1 b f1).2
  ·exact absurd (.inl f2) (hn.d2 b f1)
  ·exact absurd (.inr ⟨k',hk',f2⟩) (hn.d2 b f1)
  ·exact absurd f1 (hn.d1 b f2).2
  ·rfl
def kg(L:Lay)(N:Nat)(s ls:Sl)(rs:Nat->Sl):Lay:=fun ix =>
 if ix=(2,0,0) then s else if ix.2.1=N then (if ix.1=7 then ls else if ix.1=8 then rs ix.2.2 else L ix) else L ix
theorem AX{d:Wd}{x:List (List Mg)}(i:Nat):rowAt { d with aB:=d.aB++[x] } i=if i=d.aB.length then x else rowAt d i:=by
 unfold rowAt;show(d.aB++[x])[i]?.getD _=_;by_cases h:i=d.aB.length
 ·subst h;simp
 ·rw[if_neg h];by_cases h2:i < d.aB.length
  ·rw[List.getElem?_append_left h2]
  ·rw[List.getElem?_append_right (by omega),List.getElem?_eq_none (by simp;omega),List.getElem?_eq_none (by omega)]
theorem bG.yR{lo:Nat}{w w':World}{d:Wd}{L:Lay}(h:bG lo w d L)(hsz:w.heap.size<=w'.heap.size){x:List (List Mg)}{s ls:Sl}{rs:Nat->Sl}(hn:eU 5 flat lo w' ls rs x)(hx:x.length<=1000/\∀(k:Nat) (r:List Mg),x[k]? = some r->r.length<=1000)(hN:d.aB.length+1<=1000)
  (hd:∀b,AV ls rs x b->¬ gT d L b/\s.blk≠some b)
  (hR:Row w' lo 1 s (d.aB.length+1) (dX d L (2,0,0)++[ls.v x.length]))
  (hK:∀b,gT d L b->(L (2,0,0)).blk≠some b->w'.heap[b]? = w.heap[b]?) (hB:∀b,s.blk=some b->(L (2,0,0)).blk=some b\/w.heap.size<=b) :
  bG lo w' { d with aB:=d.aB++[x] } (kg L d.aB.length s ls rs):=by
 obtain⟨N,hNe⟩:∃N,d.aB.length=N:=⟨_,rfl⟩
 obtain⟨d',hd'⟩:∃d':Wd,d'={ d with aB:=d.aB++[x] }:=⟨_,rfl⟩
 obtain⟨L',hL'⟩:∃L':Lay,L'=kg L d.aB.length s ls rs:=⟨_,rfl⟩;have hro:∀i,rowAt d' i=if i=N then x else rowAt d i:=by intro i;rw[hd',<-hNe];exact AX i
 have hwl:d'.aB.length=N+1:=by rw[hd',<-hNe];simp
 have hn':d'.ah=d.ah:=by rw[hd']
 have hg:d'.au=d.au:=by rw[hd']
 have hnd:∀i,bD d' i=bD d i:=by intro i;unfold bD;rw[hn']
 have hlr:∀i k,fA d' i k=fA d i k:=by intro i k;unfold fA;rw[hnd]
 have l2:L' (2,0,0)=s:=by rw[hL'];rfl
 have l7:L' (7,N,0)=ls:=by rw[hL',<-hNe];simp[kg]
 have l8:∀k,L' (8,N,k)=rs k:=by intro k;rw[hL',<-hNe];simp[kg]
 have lo':∀t i k,(t,i,k)≠(2,0,0)->(i≠N\/t < 7\/8 < t)->L' (t,i,k)=L (t,i,k):=by
  intro t i k h1 h2;rw[hL'];unfold kg;rw[if_neg h1,hNe];by_cases e:i=N
  ·rw[if_pos e,if_neg (by dsimp only;omega),if_neg (by dsimp only;omega)]
  ·rw[if_neg e]
 rw[<-hd',<-hL']
 have Oe:∀ix,okI d' ix->¬ okI d ix->ix=(7,N,0)\/(∃k,ix=(8,N,k)/\k < x.length):=by
  rintro⟨t,i,k⟩ hok hno
  match t,hok,hno with
  | 0,hok,hno=>exact absurd hok hno
  | 1,hok,hno=>exact absurd hok hno
  | 2,hok,hno=>exact absurd hok hno
  | 3,hok,hno=>exact absurd (by obtain⟨a,b⟩:=hok;exact⟨by rw[<-hn'];exact a,b⟩) hno
  | 4,hok,hno=>exact absurd (by obtain⟨a,b⟩:=hok;exact⟨by rw[<-hn'];exact a,by rw[<-hnd];exact b⟩) hno
  | 5,hok,hno=>exact absurd (by obtain⟨a,b⟩:=hok;exact⟨by rw[<-hn'];exact a,b⟩) hno
  | 6,hok,hno=>exact absurd (by obtain⟨a,b⟩:=hok;exact⟨by rw[<-hn'];exact a,b⟩) hno
  | 7,hok,hno =>
   obtain⟨h1,rfl⟩:=hok;have:¬ i < d.aB.length:=fun h=>hno ⟨h,rfl⟩;exact .inl (by rw[show i=N by omega])
  | 8,hok,hno =>
   obtain⟨h1,h2⟩:=hok;by_cases e:i=N
   ·rw[hro,if_pos e]at h2;exact .inr ⟨k,by rw[e],h2⟩
   ·rw[hro,if_neg e]at h2;exact absurd ⟨by omega,h2⟩ hno
  | t+9,hok,hno=>exact hok.elim
 have hNN:rowAt d' N=x:=by rw[hro,if_pos rfl]
 have Ta:∀k,gF d' N k=x[k]?.getD []:=by intro k;unfold gF;rw[hNN]
 have vZ:∀ix b,okI d' ix->¬ okI d ix->(L' ix).blk=some b->(ix=(7,N,0)/\ls.blk=some b)\/(∃k,ix=(8,N,k)/\k < x.length/\(rs k).blk=some b):=by
  intro ix b hok hno e;rcases Oe ix hok hno with rfl | ⟨k,rfl,hk⟩
  ·rw[l7]at e;exact .inl ⟨rfl,e⟩
  ·rw[l8]at e;exact .inr ⟨k,rfl,hk,e⟩
 refine h.extend hsz (2,0,0) ⟨rfl,rfl⟩ ?_ ?_ ?_ ?_ ?_ ?_ ?_ ?_
 ·rintro⟨t,i,k⟩ hok hne;have Og:i < N->rowAt d' i=rowAt d i:=fun hi=>by rw[hro,if_neg (by omega)]
  refine⟨?_, ?_, ?_⟩
  ·refine lo' t i k hne ?_
   match t,hok with
   | 0,_=>exact .inr (.inl (by omega))
   | 1,_=>exact .inr (.inl (by omega))
   | 2,_=>exact .inr (.inl (by omega))
   | 3,_=>exact .inr (.inl (by omega))
   | 4,_=>exact .inr (.inl (by omega))
   | 5,_=>exact .inr (.inl (by omega))
   | 6,_=>exact .inr (.inl (by omega))
   | 7,hok=>have:=hok.1;exact .inl (by omega)
   | 8,hok=>have:=hok.1;exact .inl (by omega)
   | t+9,hok=>exact hok.elim
  ·match t,hok with
   | 0,_=>show d'.au.length=_;rw[hg];rfl
   | 1,_=>show d'.ah.length=_;rw[hn'];rfl
   | 2,hok=>obtain⟨rfl,rfl⟩:=hok;exact absurd rfl hne
   | 3,_=>show(bD d' i).last.length=(bD d i).last.length;rw[hnd]
   | 4,_=>show(fA d' i k).length=(fA d i k).length;rw[hlr]
   | 5,_=>show(bD d' i).held.length=(bD d i).held.length;rw[hnd]
   | 6,_=>show(bD d' i).aG.length=(bD d i).aG.length;rw[hnd]
   | 7,hok=>show(rowAt d' i).length=(rowAt d i).length;rw[Og (by have:=hok.1;omega)]
   | 8,hok=>show(gF d' i k).length=(gF d i k).length;unfold gF;rw[Og (by have:=hok.1;omega)]
   | t+9,hok=>exact hok.elim
  ·match t,hok with
   | 0,_=>show d'.au.map j6=_;rw[hg];rfl
   | 1,_ =>
    show(List.range d'.ah.length).flatMap _=(List.range d.ah.length).flatMap _;rw[hn']
    have:dz d' L'=dz d L:=by
     funext j
     unfold dz;rw[hnd,lo' 3 j 0 (by simp) (.inr (.inl (by omega))),lo' 5 j 0 (by simp) (.inr (.inl (by omega))),lo' 6 j 0 (by simp) (.inr (.inl (by omega)))]
    rw[this]
   | 2,hok=>obtain⟨rfl,rfl⟩:=hok;exact absurd rfl hne
   | 3,_ =>
    show(List.range _).map _=(List.range _).map _;rw[hnd];refine List.map_congr_left fun j _=>?_;rw[lo' 4 i j (by simp) (.inr (.inl (by omega))),hlr]
   | 4,_=>show(fA d' i k).map j6=(fA d i k).map j6;rw[hlr]
   | 5,_=>show flat (bD d' i).held=flat (bD d i).held;rw[hnd]
   | 6,_=>show flat (bD d' i).aG=flat (bD d i).aG;rw[hnd]
   | 7,hok =>
    show(List.range _).map _=(List.range _).map _;have hi:i < N:=by have:=hok.1;omega
    rw[Og hi];refine List.map_congr_left fun j _=>?_;rw[lo' 8 i j (by simp) (.inl (by omega))];unfold gF;rw[Og hi]
   | 8,hok=>show flat (gF d' i k)=flat (gF d i k);unfold gF;rw[Og (by have:=hok.1;omega)]
   | t+9,hok=>exact hok.elim
 ·intro ix b hok hne e;exact hK b ⟨ix,hok,e⟩ (fun e2=>hne (h.inj ix (2,0,0) b hok ⟨rfl,rfl⟩ e e2))
 ·show Row w' lo 1 (L' (2,0,0)) d'.aB.length ((List.range d'.aB.length).map fun i=>(L' (7,i,0)).v (rowAt d' i).length)
  have e1:((List.range N).map fun i=>(L' (7,i,0)).v (rowAt d' i).length)=dX d L (2,0,0):=by
   show _=(List.range d.aB.length).map fun i=>(L (7,i,0)).v (rowAt d i).length;rw[hNe];refine List.map_congr_left fun i hi=>?_;have hi':i < N:=by simpa using hi
   rw[hro,if_neg (by omega),lo' 7 i 0 (by simp) (.inl (by omega))]
  rw[l2,hwl,List.range_succ,List.map_append,e1,List.map_cons,List.map_nil,l7,hNN];rw[hNe]at hR;exact hR
 ·show d'.aB.length<=1000;omega
 ·rw[l2];exact hB
 ·intro ix hok hno;rcases Oe ix hok hno with rfl | ⟨k,rfl,hk⟩
  ·refine⟨?_,by show(rowAt d' N).length<=1000;rw[hNN];exact hx.1⟩;show Row w' lo 1 (L' (7,N,0)) (rowAt d' N).length ((List.range (rowAt d' N).length).map fun k=>(L' (8,N,k)).v (gF d' N k).length);rw[l7,hNN];have e:((List.range x.length).map fun k=>(L' (8,N,k)).v (gF d' N k).length)=(List.range x.length).map fun k=>(rs k).v (x[k]?.getD []).length:=List.map_congr_left fun k _=>by rw[l8,Ta]
   rw[e];exact hn.top
  ·have hr:=hn.rows k _ (zQ1 hk);have e:gF d' N k=x[k]:=by rw[Ta,zQ1 hk];rfl
   refine⟨?_,by show(gF d' N k).length<=1000;rw[e];exact hx.2 k _ (zQ1 hk)⟩;show Row w' lo 5 (L' (8,N,k)) (gF d' N k).length (flat (gF d' N k));rw[l8,e];exact hr
 ·intro ix b hok hno e;rw[l2];rcases vZ ix b hok hno e with ⟨_,e2⟩ | ⟨k,_,hk,e2⟩
  ·exact hd b (.inl e2)
  ·exact hd b (.inr ⟨k,hk,e2⟩)
 ·intro i j b hi hni hj hnj e1 e2
  rcases vZ i b hi hni e1 with ⟨rfl,f1⟩ | ⟨k,rfl,hk,f1⟩ <;>
  rcases vZ j b hj hnj e2 with ⟨rfl,f2⟩ | ⟨k',rfl,hk',f2⟩
  ·rfl
  ·exact absurd f1 (hn.apart k' b hk' f2)
  ·exact absurd f2 (hn.apart k b hk f1)
  ·rw[hn.inj k k' b hk hk' f1 f2]
structure ET (t e:TypeId) (size bytes:Nat):Prop where
 und:prog.underlying t=some (.slice e)
 info:∃i z,prog.info? e=some i/\i.zero=some z/\i.size=size/\i.bytes=bytes/\z.cells.size=size
theorem Ai{t e:TypeId}{size bytes:Nat}{z:Value}(hu:prog.underlying t=some (.slice e))(hi:(prog.info? e).map (fun i=>(i.zero,i.size,i.bytes))=some (some z,size,bytes))(hz:z.cells.size=size):ET t e size bytes:=by
 obtain⟨i0,hi,hz0,hz1,hz2⟩:=info_parts hi;exact⟨hu,i0,z,hi,hz0,hz1,hz2,hz⟩
theorem xJ:ET 22 3 1 8:=Ai (z:=.int .i64 0) (by kernel_rfl) (by kernel_rfl) rfl
theorem EL:ET 60 22 1 24:=Ai (z:=.slice none 0 0) (by kernel_rfl) (by kernel_rfl) rfl
theorem ny:ET 28 64 4 80:=Ai (z:=.agg #[.int .i64 0,.slice none 0 0,.slice none 0 0,.slice none 0 0]) (by kernel_rfl) (by kernel_rfl) rfl
theorem jo:ET 62 95 5 48:=Ai (z:=.agg #[.int .i64 0,.int .i64 0,.int .i64 0,.bool false,.string ByteArray.empty]) (by kernel_rfl) (by kernel_rfl) rfl
theorem Oh:ET 65 62 1 24:=Ai (z:=.slice none 0 0) (by kernel_rfl) (by kernel_rfl) rfl
theorem pE:ET 29 65 1 24:=Ai (z:=.slice none 0 0) (by kernel_rfl) (by kernel_rfl) rfl
theorem iK{w:World}{ops:Array Oper}{rest:List Oper}{o:Oper}{a:Act}{Q:Exit->Act->World->Prop}{t e:TypeId}{size bytes:Nat}(hE:ET t e size bytes)(hgd:o.guard=none)(ds dx:Operand)(tx:TypeId)
  (ho:o.op=.call { callee:=.builtin .append,args:=#[ds,dx],argTypes:=#[t,tx] })
  {lo:Nat} {sa:Option Addr} {sc n:Nat} {xs:List Value} (hd:a.eval ds=.slice sa n sc) (hR:Row w lo size ⟨sa,sc⟩ n xs) {x:Value} {m:Nat} {news:List Value} (hx:a.eval dx=x) (hs:Src prog size tx x m news w)
  (hb:(n+m)*(bytes+1)<=1000000000) (hlo:lo<=w.heap.size)
  (h:∀a' c' w',Row w' lo size ⟨a',c'⟩ (n+m) (xs++news)->Fr (fun k=>Sl.blk ⟨sa,sc⟩=some k) w w'->((⟨a',c'⟩:Sl)=⟨sa,sc⟩\/(ak w w'/\Sl.blk ⟨a',c'⟩=some w.heap.size))->wpList prog ops Q rest (a.put o.dst (.slice a' (n+m) c')) w'):wpList prog ops Q (o::rest) a w:=by
 obtain⟨i,z,h1,h2,h3,h4,h5⟩:=hE.info;rw[Nat.mul_add]at hb;exact xZ w hgd ds dx t tx ho e i z size bytes hE.und h1 h2 h3 h4 h5 (s:=⟨sa,sc⟩) hd hR hx hs (by unfold maxLen;omega) (by omega) hlo (fun s' w'=>h s'.a s'.cap w')
theorem fU{w:World}{ops:Array Oper}{o:Oper}{a:Act}{K:Act->World->Prop}{Q:Exit->Act->World->Prop}{E:Prop}{t e:TypeId}{size bytes:Nat}(hE:ET t e size bytes)(hgd:o.guard=none)(ds dx:Operand)(tx:TypeId)
  (ho:o.op=.call { callee:=.builtin .append,args:=#[ds,dx],argTypes:=#[t,tx] })
  {lo:Nat} {sa:Option Addr} {sc n:Nat} {xs:List Value} (hd:a.eval ds=.slice sa n sc) (hR:Row w lo size ⟨sa,sc⟩ n xs) {x:Value} {m:Nat} {news:List Value} (hx:a.eval dx=x) (hs:Src prog size tx x m news w)
  (hb:(n+m)*(bytes+1)<=1000000000) (hlo:lo<=w.heap.size)
  (h:∀a' c' w',Row w' lo size ⟨a',c'⟩ (n+m) (xs++news)->Fr (fun k=>Sl.blk ⟨sa,sc⟩=some k) w w'->((⟨a',c'⟩:Sl)=⟨sa,sc⟩\/(ak w w'/\Sl.blk ⟨a',c'⟩=some w.heap.size))->K (a.put o.dst (.slice a' (n+m) c')) w') :
  if Region.wanted o (yielded ops a.tmps)=true then Oper.wp prog o a w K Q else E:=by
 obtain⟨i,z,h1,h2,h3,h4,h5⟩:=hE.info;rw[Nat.mul_add]at hb;exact zI hgd ds dx t tx ho e i z size bytes hE.und h1 h2 h3 h4 h5 (s:=⟨sa,sc⟩) hd hR hx hs (by unfold maxLen;omega) (by omega) hlo (fun s' w'=>h s'.a s'.cap w')
theorem AY{size:Nat}{t e:TypeId}{w:World}(hu:prog.underlying t=some (.slice e)){a:Option Addr}{n c:Nat}{news:List Value}(hl:news.length=n*size)(h1:∀u∈news,u.oneCell'=true)
  (hc:0 < n->∃b off,a=some ⟨b,off,none⟩/\∀j u,news[j]? = some u->w.cell? ⟨b,off+j,none⟩=some u):Src prog size t (.slice a n c) n news w:=by
 by_cases hn:n=0
 ·subst hn;have hnil:news=[]:=zQ6 (by simpa using hl);subst hnil
  cases a with
  | none=>exact Src.ofNil w hu c
  | some ad=>exact Src.ofSlice w hu _ _ _ [] (by simp) (fun j u hj=>by simp at hj) (fun _ h=>by cases h)
 ·obtain⟨b,off,rfl,hcell⟩:=hc (by omega);exact Src.ofSlice w hu _ _ _ news hl (fun j u hj=>by rw[Addr.add_lit];exact hcell j u hj) h1
theorem iy{size:Nat}{t e T:TypeId}{w:World}(hu:prog.underlying t=some (.slice e))(cs:List Value)(hl:cs.length=1*size)(h1:∀u∈cs,u.oneCell'=true)(cap:Nat):Src prog size t (.slice (some ⟨w.heap.size,0,none⟩) 1 cap) 1 cs (w.alloc (.cells cs.toArray T)):=by
 refine Src.ofSlice _ hu _ _ _ cs hl (fun j u hj=>?_) h1;rw[Addr.add_lit];unfold World.cell?;have hh:=World.alloc_heap_new w (.cells cs.toArray T);simp only[hh,Nat.zero_add];simpa using hj
theorem EM{size:Nat}{t e T:TypeId}{w:World}(hu:prog.underlying t=some (.slice e))(cs:List Value)(hl:cs.length=1*size)(h1:∀u∈cs,u.oneCell'=true)(cap:Nat):Src prog size t (.slice (some ⟨w.heap.size,0,none⟩) 1 cap) 1 cs (w.alloc (.cells cs.toArray T)).drew:=by
 refine Src.ofSlice _ hu _ _ _ cs hl (fun j u hj=>?_) h1;rw[Addr.add_lit];show(w.alloc (.cells cs.toArray T)).cell? _=_;unfold World.cell?;have hh:=World.alloc_heap_new w (.cells cs.toArray T);simp only[hh,Nat.zero_add];simpa using hj
theorem Row.empty(w:World)(lo sz:Nat)(T:TypeId):Row (w.alloc (.cells #[] T)) lo sz ⟨some ⟨w.heap.size,0,none⟩,0⟩ 0 [] :=
 ⟨by simp,Nat.le_refl _,Nat.zero_le _,fun _=>.inr ⟨_,_,rfl⟩,fun h=>absurd h (by simp)⟩
def bF(L:Lay)(d:Wd):Value:=.agg #[.slice (L (0,0,0)).a d.au.length (L (0,0,0)).cap,.slice (L (1,0,0)).a d.ah.length (L (1,0,0)).cap,.slice (L (2,0,0)).a d.aB.length (L (2,0,0)).cap]
structure kF (w:World) (p:Nat) (L:Lay) (d:Wd):Prop where
 lt:p < w.heap.size
 c0:w.cell? ⟨p,0,none⟩=some (.slice (L (0,0,0)).a d.au.length (L (0,0,0)).cap)
 c1:w.cell? ⟨p,1,none⟩=some (.slice (L (1,0,0)).a d.ah.length (L (1,0,0)).cap)
 c2:w.cell? ⟨p,2,none⟩=some (.slice (L (2,0,0)).a d.aB.length (L (2,0,0)).cap)
 z0:w.frozen? ⟨p,0,none⟩=false
 z1:w.frozen? ⟨p,1,none⟩=false
 z2:w.frozen? ⟨p,2,none⟩=false
theorem kF.kept{w w':World}{p:Nat}{L:Lay}{d:Wd}(h:kF w p L d)(hs:w.heap.size<=w'.heap.size)(hk:w'.heap[p]? = w.heap[p]?):kF w' p L d:=by
 have c:∀o,w'.cell? ⟨p,o,none⟩=w.cell? ⟨p,o,none⟩:=fun o=>World.cell?_of_block (a:=⟨p,o,none⟩) hk;have z:∀o,w'.frozen? ⟨p,o,none⟩=w.frozen? ⟨p,o,none⟩:=fun o=>World.frozen?_of_block (a:=⟨p,o,none⟩) hk;exact⟨zQ4 h.lt hs,(c 0).trans h.c0,(c 1).trans h.c1,(c 2).trans h.c2,(z 0).trans h.z0,(z 1).trans h.z1,(z 2).trans h.z2⟩
theorem kF.fr{B:Nat->Prop}{w w':World}{p:Nat}{L:Lay}{d:Wd}(h:kF w p L d)(k:Fr B w w')(hB:¬ B p):kF w' p L d:=h.kept k.size (k.block p h.lt hB)
theorem kF.ay{w w':World}{p:Nat}{L:Lay}{d:Wd}(h:kF w p L d)(k:ak w w'):kF w' p L d:=h.fr (k.fr fun _=>False) (fun x=>x)
theorem kF.like{w:World}{p:Nat}{L L':Lay}{d d':Wd}(h:kF w p L d)(e0:L' (0,0,0)=L (0,0,0))(e1:L' (1,0,0)=L (1,0,0))(e2:L' (2,0,0)=L (2,0,0))(g0:d'.au.length=d.au.length)(g1:d'.ah.length=d.ah.length)(g2:d'.aB.length=d.aB.length):kF w p L' d' :=
 ⟨h.lt,by rw[e0,g0];exact h.c0,by rw[e1,g1];exact h.c1,by rw[e2,g2];exact h.c2,h.z0,h.z1,h.z2⟩
theorem bG.start{lo:Nat}{w:World}{s:Sl}{gs:List Int}(hR:Row w lo 1 s gs.length (gs.map j6))(hm:gs.length<=1000):bG lo w ⟨gs,[],[]⟩ (fun ix=>if ix=(0,0,0) then s else ⟨none,0⟩):=by
 have only:∀ix,okI ⟨gs,[],[]⟩ ix->ix=(0,0,0)\/ix=(1,0,0)\/ix=(2,0,0):=by
  rintro⟨t,i,k⟩ hok
  match t,hok with
  | 0,hok=>obtain⟨rfl,rfl⟩:=hok;exact .inl rfl
  | 1,hok=>obtain⟨rfl,rfl⟩:=hok;exact .inr (.inl rfl)
  | 2,hok=>obtain⟨rfl,rfl⟩:=hok;exact .inr (.inr rfl)
  | 3,hok=>exact absurd hok.1 (by simp)
  | 4,hok=>exact absurd hok.1 (by simp)
  | 5,hok=>exact absurd hok.1 (by simp)
  | 6,hok=>exact absurd hok.1 (by simp)
  | 7,hok=>exact absurd hok.1 (by simp)
  | 8,hok=>exact absurd hok.1 (by simp)
  | t+9,hok=>exact hok.elim
 refine⟨fun ix hx=>?_,fun ix hx=>?_,fun i j b hi hj e1 e2=>?_⟩
 ·rcases only ix hx with rfl | rfl | rfl
  ·rw[if_pos rfl];exact hR
  ·rw[if_neg (by simp)];exact Row.nil w lo 4
  ·rw[if_neg (by simp)];exact Row.nil w lo 1
 ·rcases only ix hx with rfl | rfl | rfl
  ·exact hm
  ·exact Nat.zero_le _
  ·exact Nat.zero_le _
 ·rcases only i hi with rfl | rfl | rfl
  ·rcases only j hj with rfl | rfl | rfl
   ·rfl
   ·rw[if_neg (by simp)]at e2;cases e2
   ·rw[if_neg (by simp)]at e2;cases e2
  ·rw[if_neg (by simp)]at e1;cases e1
  ·rw[if_neg (by simp)]at e1;cases e1
theorem Oi(xs:List Int):∀u∈xs.map j6,u.oneCell'=true:=by
 intro u hu;obtain⟨x,_,rfl⟩:=List.mem_map.1 hu;rfl
theorem yc{w:World}{a:Option Addr}{n c:Nat}{xs:List Int}(h:Ints w a n xs):Src prog 1 22 (.slice a n c) n (xs.map j6) w:=by
 refine AY xJ.und (by simp[h.bq]) (Oi xs) (fun hp=>?_);obtain⟨b,off,e,_,hc⟩:=h.cells hp;refine⟨b,off,e,fun j u hj=>?_⟩;have hjl:j < xs.length:=by have:=(zQ2.1 hj).1;simpa using this
 rw[hc j (by rw[<-h.bq];exact hjl)];simp[hjl]at hj;rw[<-hj];simp[hjl,j6]
theorem jq{w:World}{a:Option Addr}{n c:Nat}{ms:List Mg}(h:gD w a n ms):Src prog 5 62 (.slice a n c) n (flat ms) w:=by
 refine AY jo.und (by rw[dA,h.bq]) (fun u hu=>dN u ms hu) (fun hp=>?_);obtain⟨b,off,e,_,hc⟩:=h.cells hp;exact⟨b,off,e,hc⟩
theorem yQ(z:Value)(n:Nat):(madeCells #[z] n).toList=List.replicate n z:=by
 unfold madeCells;apply List.ext_getElem?;intro i
 by_cases h:i < n <;> simp[h,Nat.mod_one]
structure dF (lo:Nat) (w:World) (p:Nat) (d:Wd) (L:Lay):Prop where
 own:bG lo w d L
 box:kF w p L d
 off:¬ gT d L p
theorem dF.ay{lo:Nat}{w w':World}{p:Nat}{d:Wd}{L:Lay}(h:dF lo w p d L)(k:ak w w'):dF lo w' p d L:=⟨h.own.ay k,h.box.ay k,h.off⟩
theorem kF.U6{w:World}{p:Nat}{L L':Lay}{d d':Wd}(h:kF w p L d)(e0:L' (0,0,0)=L (0,0,0))(e2:L' (2,0,0)=L (2,0,0))(g0:d'.au.length=d.au.length)(g2:d'.aB.length=d.aB.length) :
  kF (w.setCell ⟨p,1,none⟩ (.slice (L' (1,0,0)).a d'.ah.length (L' (1,0,0)).cap)) p L' d':=by
 refine⟨by simpa using h.lt, ?_,World.cell?_setCell_same' _ _ _ (by rw[h.c1];rfl), ?_,by rw[World.frozen?_setCell];exact h.z0,by rw[World.frozen?_setCell];exact h.z1,by rw[World.frozen?_setCell];exact h.z2⟩
 ·rw[World.cell?_setCell_other w _ _ _ (by simp),e0,g0];exact h.c0
 ·rw[World.cell?_setCell_other w _ _ _ (by simp),e2,g2];exact h.c2
theorem kF.U7{w:World}{p:Nat}{L L':Lay}{d d':Wd}(h:kF w p L d)(e0:L' (0,0,0)=L (0,0,0))(e1:L' (1,0,0)=L (1,0,0))(g0:d'.au.length=d.au.length)(g1:d'.ah.length=d.ah.length) :
  kF (w.setCell ⟨p,2,none⟩ (.slice (L' (2,0,0)).a d'.aB.length (L' (2,0,0)).cap)) p L' d':=by
 refine⟨by simpa using h.lt, ?_, ?_,World.cell?_setCell_same' _ _ _ (by rw[h.c2];rfl),by rw[World.frozen?_setCell];exact h.z0,by rw[World.frozen?_setCell];exact h.z1,by rw[World.frozen?_setCell];exact h.z2⟩
 ·rw[World.cell?_setCell_other w _ _ _ (by simp),e0,g0];exact h.c0
 ·rw[World.cell?_setCell_other w _ _ _ (by simp),e1,g1];exact h.c1
theorem bG.ko{lo:Nat}{w:World}{d:Wd}{L:Lay}(h:bG lo w d L){p:Addr}(hp:¬ gT d L p.block)(v:Value):bG lo (w.setCell p v) d L :=
 ⟨fun ix hi=>(h.row ix hi).kept (by simp) (fun b hb=>Below.heap_setCell w p v b (fun e=>hp (e ▸ ⟨ix,hi,hb⟩))),h.small,h.inj⟩
theorem dF.addNode{lo:Nat}{w wB w':World}{p:Nat}{d:Wd}{L:Lay}(h:dF lo w p d L)(hS:ak w wB){x:Nd}{ls:Sl}{rs:Nat->Sl}{hs ts:Sl}(hn:oo w.heap.size wB x ls rs hs ts)(hlo:lo<=w.heap.size)(hx:x9 x)(hN:d.ah.length+1<=1000){a':Option Addr}{c':Nat}
  (hR:Row w' lo 4 ⟨a',c'⟩ (d.ah.length+1) (dX d L (1,0,0)++[.int .i64 x.aK,ls.v x.last.length,hs.v x.held.length,ts.v x.aG.length]))
  (hF:Fr (fun k=>(L (1,0,0)).blk=some k) wB w') (hB:(⟨a',c'⟩:Sl)=L (1,0,0)\/(ak wB w'/\Sl.blk ⟨a',c'⟩=some wB.heap.size)) :
  dF lo (w'.setCell ⟨p,1,none⟩ (.slice a' (d.ah.length+1) c')) p { d with ah:=d.ah++[x] } (dL L d.ah.length ⟨a',c'⟩ ls rs hs ts):=by
 have hnB:∀b,KV x ls rs hs ts b->w.heap.size<=b/\b < wB.heap.size:=by
  intro b hb;rcases hb with hb | hb | hb
  ·exact hn.last.blk hb
  ·have:=hn.held.gW hb;exact⟨this.2.1,this.2.2.1⟩
  ·have:=hn.aG.gW hb;exact⟨this.2.1,this.2.2.1⟩
 have GR:∀b,(L (1,0,0)).blk=some b->b < w.heap.size:=fun b e=>(h.own.blk ⟨(1,0,0),⟨rfl,rfl⟩,e⟩).2
 have hs':∀b,Sl.blk ⟨a',c'⟩=some b->(L (1,0,0)).blk=some b\/b=wB.heap.size:=by
  intro b e;rcases hB with e2 | ⟨_,e2⟩
  ·rw[<-e2];exact .inl e
  ·rw[e2]at e;cases e;exact .inr rfl
 have hn':oo lo w' x ls rs hs ts:=by
  have h2:oo w.heap.size w' x ls rs hs ts:=hn.fr hF (fun b hb e=>by have:=hnB b hb;have:=GR b e;omega);exact⟨h2.last.mono hlo,h2.held.mono hlo,h2.aG.mono hlo,h2.d1,h2.d2⟩
 have hO:=(h.own.ay hS).addNode (x:=x) (s:=⟨a',c'⟩) hF.size hn' hx hN (fun b hb=>⟨fun hw=>by have:=hnB b hb;have:=(h.own.blk hw).2;omega,fun e=>by
   have:=hnB b hb;rcases hs' b e with e2 | e2
   ·have:=GR b e2;omega
   ·omega⟩) hR (fun b hb hne=>hF.block b (by have:=(h.own.blk hb).2;have:=hS.size;omega) hne) (fun b e=>by
   rcases hs' b e with e2 | e2
   ·exact .inl e2
   ·exact .inr (by omega))
 have hpB:p < wB.heap.size:=zQ4 h.box.lt hS.size
 have hoff:¬ gT { d with ah:=d.ah++[x] } (dL L d.ah.length ⟨a',c'⟩ ls rs hs ts) p:=by
  rintro⟨⟨t,i,k⟩,hok,e⟩;unfold dL at e;have old:(L (t,i,k)).blk=some p->okI d (t,i,k)->False:=fun e2 ho=>h.off ⟨_,ho,e2⟩;have hp:=h.box.lt;by_cases e1:(t,i,k)=((1,0,0):Ix)
  ·rw[if_pos e1]at e;rcases hs' p e with e2 | e2
   ·exact h.off ⟨(1,0,0),⟨rfl,rfl⟩,e2⟩
   ·omega
  ·rw[if_neg e1]at e;by_cases e2:i=d.ah.length
   ·rw[if_pos e2]at e;dsimp only at e;by_cases t3:t=3
    ·rw[if_pos t3]at e;have:=hnB p (.inl (.inl e));omega
    rw[if_neg t3]at e;by_cases t4:t=4
    ·rw[if_pos t4]at e;subst t4 e2;have hk:k < x.last.length:=by have:=hok.2;rw[zX,if_pos rfl]at this;exact this
     have:=hnB p (.inl (.inr ⟨k,hk,e⟩));omega
    rw[if_neg t4]at e;by_cases t5:t=5
    ·rw[if_pos t5]at e;have:=hnB p (.inr (.inl e));omega
    rw[if_neg t5]at e;by_cases t6:t=6
    ·rw[if_pos t6]at e;have:=hnB p (.inr (.inr e));omega
    rw[if_neg t6]at e;refine old e ?_
    match t,hok,t3,t4,t5,t6 with
    | 0,hok,_,_,_,_=>exact hok
    | 1,hok,_,_,_,_=>exact hok
    | 2,hok,_,_,_,_=>exact hok
    | 3,_,t3,_,_,_=>exact absurd rfl t3
    | 4,_,_,t4,_,_=>exact absurd rfl t4
    | 5,_,_,_,t5,_=>exact absurd rfl t5
    | 6,_,_,_,_,t6=>exact absurd rfl t6
    | 7,hok,_,_,_,_=>exact hok
    | 8,hok,_,_,_,_=>exact hok
    | t+9,hok,_,_,_,_=>exact hok.elim
   ·rw[if_neg e2]at e;refine old e ?_
    have hl:({ d with ah:=d.ah++[x] }:Wd).ah.length=d.ah.length+1:=by simp
    match t,hok with
    | 0,hok=>exact hok
    | 1,hok=>exact hok
    | 2,hok=>exact hok
    | 3,hok=>exact⟨by have:=hok.1;rw[hl]at this;omega,hok.2⟩
    | 4,hok=>exact⟨by have:=hok.1;rw[hl]at this;omega,by have:=hok.2;rw[zX,if_neg e2]at this;exact this⟩
    | 5,hok=>exact⟨by have:=hok.1;rw[hl]at this;omega,hok.2⟩
    | 6,hok=>exact⟨by have:=hok.1;rw[hl]at this;omega,hok.2⟩
    | 7,hok=>exact hok
    | 8,hok=>exact hok
    | t+9,hok=>exact hok.elim
 have Q8:kF w' p L d:=(h.box.ay hS).fr hF (fun e=>h.off ⟨(1,0,0),⟨rfl,rfl⟩,e⟩);have l1:dL L d.ah.length ⟨a',c'⟩ ls rs hs ts (1,0,0)=⟨a',c'⟩:=rfl
 have l0:dL L d.ah.length ⟨a',c'⟩ ls rs hs ts (0,0,0)=L (0,0,0):=by
  unfold dL;rw[if_neg (by simp)];split <;> rfl
 have l2:dL L d.ah.length ⟨a',c'⟩ ls rs hs ts (2,0,0)=L (2,0,0):=by
  unfold dL;rw[if_neg (by simp)];split <;> rfl
 have hb:=Q8.U6 (L':=dL L d.ah.length ⟨a',c'⟩ ls rs hs ts) (d':={ d with ah:=d.ah++[x] }) l0 l2 rfl rfl
 rw[l1]at hb;simp only[List.length_append,List.length_cons,List.length_nil,Nat.zero_add]at hb;exact⟨hO.ko hoff _,hb,hoff⟩
theorem dF.yR{lo:Nat}{w wB w':World}{p:Nat}{d:Wd}{L:Lay}(h:dF lo w p d L)(hS:ak w wB){x:List (List Mg)}{ls:Sl}{rs:Nat->Sl}(hn:eU 5 flat w.heap.size wB ls rs x)(hlo:lo<=w.heap.size)(hx:x.length<=1000/\∀(k:Nat) (r:List Mg),x[k]? = some r->r.length<=1000)(hN:d.aB.length+1<=1000){a':Option Addr}{c':Nat}
  (hR:Row w' lo 1 ⟨a',c'⟩ (d.aB.length+1) (dX d L (2,0,0)++[ls.v x.length]))
  (hF:Fr (fun k=>(L (2,0,0)).blk=some k) wB w') (hB:(⟨a',c'⟩:Sl)=L (2,0,0)\/(ak wB w'/\Sl.blk ⟨a',c'⟩=some wB.heap.size)) :
  dF lo (w'.setCell ⟨p,2,none⟩ (.slice a' (d.aB.length+1) c')) p { d with aB:=d.aB++[x] } (kg L d.aB.length ⟨a',c'⟩ ls rs):=by
 have GR:∀b,(L (2,0,0)).blk=some b->b < w.heap.size:=fun b e=>(h.own.blk ⟨(2,0,0),⟨rfl,rfl⟩,e⟩).2
 have hs':∀b,Sl.blk ⟨a',c'⟩=some b->(L (2,0,0)).blk=some b\/b=wB.heap.size:=by
  intro b e;rcases hB with e2 | ⟨_,e2⟩
  ·rw[<-e2];exact .inl e
  ·rw[e2]at e;cases e;exact .inr rfl
 have hn':eU 5 flat lo w' ls rs x:=(hn.fr hF (fun b hb e=>by have:=(hn.blk hb).1;have:=GR b e;omega)).mono hlo
 have hO:=(h.own.ay hS).yR (x:=x) (s:=⟨a',c'⟩) hF.size hn' hx hN (fun b hb=>⟨fun hw=>by have:=(hn.blk hb).1;have:=(h.own.blk hw).2;omega,fun e=>by
   have:=hn.blk hb;rcases hs' b e with e2 | e2
   ·have:=GR b e2;omega
   ·omega⟩) hR (fun b hb hne=>hF.block b (by have:=(h.own.blk hb).2;have:=hS.size;omega) hne) (fun b e=>by
   rcases hs' b e with e2 | e2
   ·exact .inl e2
   ·exact .inr (by omega))
 have hpB:p < wB.heap.size:=zQ4 h.box.lt hS.size
 have hoff:¬ gT { d with aB:=d.aB++[x] } (kg L d.aB.length ⟨a',c'⟩ ls rs) p:=by
  rintro⟨⟨t,i,k⟩,hok,e⟩;unfold kg at e;have old:(L (t,i,k)).blk=some p->okI d (t,i,k)->False:=fun e2 ho=>h.off ⟨_,ho,e2⟩;have hp:=h.box.lt;by_cases e1:(t,i,k)=((2,0,0):Ix)
  ·rw[if_pos e1]at e;rcases hs' p e with e2 | e2
   ·exact h.off ⟨(2,0,0),⟨rfl,rfl⟩,e2⟩
   ·omega
  ·rw[if_neg e1]at e;by_cases e2:i=d.aB.length
   ·rw[if_pos e2]at e;dsimp only at e;by_cases t7:t=7
    ·rw[if_pos t7]at e;have:=(hn.blk (.inl e)).1;omega
    rw[if_neg t7]at e;by_cases t8:t=8
    ·rw[if_pos t8]at e;subst t8 e2;have hk:k < x.length:=by have:=hok.2;rw[AX,if_pos rfl]at this;exact this
     have:=(hn.blk (.inr ⟨k,hk,e⟩)).1;omega
    rw[if_neg t8]at e;refine old e ?_
    match t,hok,t7,t8 with
    | 0,hok,_,_=>exact hok
    | 1,hok,_,_=>exact hok
    | 2,hok,_,_=>exact hok
    | 3,hok,_,_=>exact hok
    | 4,hok,_,_=>exact hok
    | 5,hok,_,_=>exact hok
    | 6,hok,_,_=>exact hok
    | 7,_,t7,_=>exact absurd rfl t7
    | 8,_,_,t8=>exact absurd rfl t8
    | t+9,hok,_,_=>exact hok.elim
   ·rw[if_neg e2]at e;refine old e ?_
    have hl:({ d with aB:=d.aB++[x] }:Wd).aB.length=d.aB.length+1:=by simp
    match t,hok with
    | 0,hok=>exact hok
    | 1,hok=>exact hok
    | 2,hok=>exact hok
    | 3,hok=>exact hok
    | 4,hok=>exact hok
    | 5,hok=>exact hok
    | 6,hok=>exact hok
    | 7,hok=>exact⟨by have:=hok.1;rw[hl]at this;omega,hok.2⟩
    | 8,hok=>exact⟨by have:=hok.1;rw[hl]at this;omega,by have:=hok.2;rw[AX,if_neg e2]at this;exact this⟩
    | t+9,hok=>exact hok.elim
 have Q8:kF w' p L d:=(h.box.ay hS).fr hF (fun e=>h.off ⟨(2,0,0),⟨rfl,rfl⟩,e⟩);have l2:kg L d.aB.length ⟨a',c'⟩ ls rs (2,0,0)=⟨a',c'⟩:=rfl
 have l0:kg L d.aB.length ⟨a',c'⟩ ls rs (0,0,0)=L (0,0,0):=by
  unfold kg;rw[if_neg (by simp)];split <;> rfl
 have l1:kg L d.aB.length ⟨a',c'⟩ ls rs (1,0,0)=L (1,0,0):=by
  unfold kg;rw[if_neg (by simp)];split <;> rfl
 have hb:=Q8.U7 (L':=kg L d.aB.length ⟨a',c'⟩ ls rs) (d':={ d with aB:=d.aB++[x] }) l0 l1 rfl rfl
 rw[l2]at hb;simp only[List.length_append,List.length_cons,List.length_nil,Nat.zero_add]at hb;exact⟨hO.ko hoff _,hb,hoff⟩
theorem eU.made{α:Type}{sz:Nat}{enc:List α->List Value}(henc:enc []=[])(lo:Nat)(w:World)(n:Nat)(T:TypeId)(hlo:lo<=w.heap.size)(hn:n<=maxLen) :
  eU sz enc lo (w.alloc (.cells (madeCells #[.slice none 0 0] n) T)) ⟨some ⟨w.heap.size,0,none⟩,n⟩ (fun _=>⟨none,0⟩) (List.replicate n ([]:List α)):=by
 have hr:=Row.new w lo 1 (madeCells #[.slice none 0 0] n) T n hlo (by rw[size_madeCells];omega) hn;rw[yQ]at hr;refine⟨?_,fun k xs hk=>?_,fun k b _ e=>(by cases e),fun j k b _ _ e=>(by cases e)⟩
 ·have e:((List.range (List.replicate n ([]:List α)).length).map fun k=>(Sl.v ⟨none,0⟩ ((List.replicate n ([]:List α))[k]?.getD []).length))=List.replicate n (.slice none 0 0):=by
   rw[List.length_replicate,List.eq_replicate_iff];refine⟨by simp,fun b hb=>?_⟩;obtain⟨k,hk,rfl⟩:=List.mem_map.1 hb;have hk':k < n:=by simpa using hk
   simp[Sl.v,hk']
  rw[e,List.length_replicate];exact hr
 ·have:=zQ2.1 hk;obtain⟨h1,h2⟩:=this;simp at h2;subst h2;rw[henc];exact Row.nil _ lo sz
def JG(d:Wd):Prop:=∀ix,okI d ix->qo d ix<=100
structure aU (w:World) (p:Nat):Prop where
 lt:p < w.heap.size
 c0:w.cell? ⟨p,0,none⟩=some (.slice none 0 0)
 c1:w.cell? ⟨p,1,none⟩=some (.slice none 0 0)
 c2:w.cell? ⟨p,2,none⟩=some (.slice none 0 0)
 z0:w.frozen? ⟨p,0,none⟩=false
 z1:w.frozen? ⟨p,1,none⟩=false
 z2:w.frozen? ⟨p,2,none⟩=false
theorem aU.ay{w w':World}{p:Nat}(h:aU w p)(k:ak w w'):aU w' p:=by
 have c:∀o,w'.cell? ⟨p,o,none⟩=w.cell? ⟨p,o,none⟩:=fun o=>k.av h.lt o;have z:∀o,w'.frozen? ⟨p,o,none⟩=w.frozen? ⟨p,o,none⟩:=fun o=>k.below.frozen (p:=⟨p,o,none⟩) h.lt;exact⟨zQ4 h.lt k.size,(c 0).trans h.c0,(c 1).trans h.c1,(c 2).trans h.c2,(z 0).trans h.z0,(z 1).trans h.z1,(z 2).trans h.z2⟩
theorem aU.new(w:World)(T:TypeId):aU (w.alloc (.cells #[.slice none 0 0,.slice none 0 0,.slice none 0 0] T)) w.heap.size:=by
 constructor <;> simp[go_sem]
structure aP (w:World) (p:Nat) (x:WV):Prop where
 lt:p < w.heap.size
 c0:w.cell? ⟨p,0,none⟩=some (.slice x.ga x.gl x.gc)
 c1:w.cell? ⟨p,1,none⟩=some (.slice x.na x.nl x.nc)
 c2:w.cell? ⟨p,2,none⟩=some (.slice x.wa x.wl x.wc)
theorem aP.ay{w w':World}{p:Nat}{x:WV}(h:aP w p x)(k:ak w w'):aP w' p x :=
 ⟨zQ4 h.lt k.size,(k.av h.lt _).trans h.c0,(k.av h.lt _).trans h.c1,(k.av h.lt _).trans h.c2⟩
theorem aP.new(w:World)(x:WV)(T:TypeId):aP (w.alloc (.cells #[.slice x.ga x.gl x.gc,.slice x.na x.nl x.nc,.slice x.wa x.wl x.wc] T)) w.heap.size x:=by
 constructor <;> simp[go_sem]
theorem bG.result{lo:Nat}{w0 w:World}{d:Wd}{L:Lay}(h:bG lo w d L){p:Nat}(hp:p < lo)(hp0:w0.heap.size<=p)(hS:ak w0 w)(h0:w0.heap.size<=lo) :
  bG w0.heap.size (((w.setCell ⟨p,0,none⟩ (.slice (L (0,0,0)).a d.au.length (L (0,0,0)).cap)).setCell ⟨p,1,none⟩ (.slice (L (1,0,0)).a d.ah.length (L (1,0,0)).cap)).setCell ⟨p,2,none⟩ (.slice (L (2,0,0)).a d.aB.length (L (2,0,0)).cap)) d L
  /\ ak w0 (((w.setCell ⟨p,0,none⟩ (.slice (L (0,0,0)).a d.au.length (L (0,0,0)).cap)).setCell ⟨p,1,none⟩ (.slice (L (1,0,0)).a d.ah.length (L (1,0,0)).cap)).setCell ⟨p,2,none⟩ (.slice (L (2,0,0)).a d.aB.length (L (2,0,0)).cap)):=by
 have hoff:¬ gT d L p:=fun hb=>by have:=(h.blk hb).1;omega
 refine⟨(((h.ko (p:=⟨p,0,none⟩) hoff _).ko (p:=⟨p,1,none⟩) hoff _).ko (p:=⟨p,2,none⟩) hoff _).mono h0, ?_⟩;have hF:Fr (fun i=>i=p) w w:=Fr.refl _ _;exact(((hF.setCell ⟨p,0,none⟩ _ (fun _=>rfl)).setCell ⟨p,1,none⟩ _ (fun _=>rfl)).setCell ⟨p,2,none⟩ _ (fun _=>rfl)).aI hS (fun i hi e=>by omega)
theorem oW{W:World}{base:Nat}{e:TypeId}{size:Nat}{v:Value}{n:Nat}{xs:List Value}(h:W.ownsRow base e size v n xs):∃a cap,v=.slice a n cap/\Row W base size ⟨a,cap⟩ n xs:=by
 rcases h.2 with ⟨rfl,h0⟩ | ⟨g,cap,cur,rfl,h1,h2,h3,h4,h5,h6⟩
 ·subst h0;have:xs=[]:=zQ6 (by simpa using h.1);subst this;exact⟨none,0,rfl,Row.nil W base size⟩
 ·refine⟨_,cap,rfl,h.1,h3,h4,fun _=>.inr ⟨_,_,rfl⟩,fun _=>⟨g,0,rfl,h1,(zQ3.1 h2).1,fun j hj=>?_,fun j u hu=>?_⟩⟩
  ·have hj':j < cur.size:=by rw[h5];exact hj
   simp[World.cell?,World.frozen?,h2,hj']
  ·have hjl:=(zQ2.1 hu).1;rw[h.1]at hjl
   have hcur:cur[j]? = some u:=by
    have e:(cur.toList.take (n*size))[j]? = xs[j]?:=by rw[h6]
    rw[List.getElem?_take,if_pos hjl,hu]at e;simpa using e
   simp[World.cell?,h2,hcur]
theorem AZ{w w':World}{a:Option Addr}{len cap:Nat}{m:Mg}{ms:List Mg}(h:EN w w' a len cap m ms)(hl:len=(gK m ms).length):Row w' w.heap.size 5 ⟨a,cap⟩ (gK m ms).length (flat (gK m ms)):=by
 obtain⟨a',c',e,hr⟩:=oW h.2;cases e;rw[<-hl];exact hr
structure jD (w w':World) (d:Wd) (L:Lay) (d':Wd) (L':Lay):Prop where
 fr:Fr (gT d L) w w'
 blk:∀b,gT d' L' b->gT d L b\/w.heap.size<=b
theorem jD.trans{a b c:World}{d e f:Wd}{L M N:Lay}(h:jD a b d L e M)(k:jD b c e M f N):jD a c d L f N :=
 ⟨h.fr.trans k.fr (fun _ _ x=>x) (fun i hi x=>(h.blk i x).elim id (fun g=>absurd hi (by omega))),fun b hb=>by
  rcases k.blk b hb with x | x
  ·exact h.blk b x
  ·exact .inr (zQ5 h.fr.size x)⟩
theorem nQ{w w2:World}{d d':Wd}{L:Lay}(hS:ak w w2)(hok:∀ix,okI d' ix↔okI d ix)(ic:Ix)(s:Sl)(hs:∀b,s.blk=some b->gT d L b\/w.heap.size<=b){b0 off:Nat}(v:Value)(hb0:gT d L b0):jD w (w2.setCell ⟨b0,off,none⟩ v) d L d' (L.upd ic s):=by
 refine⟨(hS.fr _).setCell _ _ (fun _=>hb0),fun b hb=>?_⟩;obtain⟨ix,hix,e⟩:=hb;by_cases h:ix=ic
 ·subst h;rw[Lay.upd_same]at e;exact hs b e
 ·rw[Lay.gG L s h]at e;exact .inl ⟨ix,(hok ix).1 hix,e⟩
theorem wh{w w2:World}{d d':Wd}{L:Lay}(hS:ak w w2)(hok:∀ix,okI d' ix↔okI d ix){b0 off:Nat}(v:Value)(hb0:gT d L b0):jD w (w2.setCell ⟨b0,off,none⟩ v) d L d' L :=
 ⟨(hS.fr _).setCell _ _ (fun _=>hb0),fun b ⟨ix,hix,e⟩=>.inl ⟨ix,(hok ix).1 hix,e⟩⟩
theorem dF.step{lo:Nat}{w w':World}{p:Nat}{d d':Wd}{L L':Lay}(h:dF lo w p d L)(hO:bG lo w' d' L')(st:jD w w' d L d' L')(e0:L' (0,0,0)=L (0,0,0))(e1:L' (1,0,0)=L (1,0,0))(e2:L' (2,0,0)=L (2,0,0))
  (g0:d'.au.length=d.au.length) (g1:d'.ah.length=d.ah.length) (g2:d'.aB.length=d.aB.length):dF lo w' p d' L' :=
 ⟨hO,(h.box.fr st.fr h.off).like e0 e1 e2 g0 g1 g2,fun hb=>(st.blk p hb).elim h.off (fun x=>absurd h.box.lt (by omega))⟩
theorem jD.beside{w w':World}{d d':Wd}{L L':Lay}(st:jD w w' d L d' L'){q:Nat}(hq:q < w.heap.size)(h:¬ gT d L q):w'.heap[q]? = w.heap[q]?/\¬ gT d' L' q :=
 ⟨st.fr.block q hq h,fun hb=>(st.blk q hb).elim h (fun x=>absurd hq (by omega))⟩
theorem zx{d:Wd}{f t:Nat}{r:List (List Mg)}(l:List Mg)(hr:d.aB[f]? = some r)(ix:Ix):okI (bK d f t l) ix↔okI d ix:=by
 have hwl:(bK d f t l).aB.length=d.aB.length:=by simp[bK]
 have hrl:∀i,(rowAt (bK d f t l) i).length=(rowAt d i).length:=by
  intro i;rw[EK l hr];split
  ·rename_i e;rw[e,dP hr,List.length_set]
  ·rfl
 obtain⟨u,i,j⟩:=ix
 match u with
 | 0=>exact Iff.rfl
 | 1=>exact Iff.rfl
 | 2=>exact Iff.rfl
 | 3=>exact Iff.rfl
 | 4=>exact Iff.rfl
 | 5=>exact Iff.rfl
 | 6=>exact Iff.rfl
 | 7=>show(i < _/\j=0)↔(i < _/\j=0);rw[hwl]
 | 8=>show(i < _/\j < _)↔(i < _/\j < _);rw[hwl,hrl]
 | u+9=>exact Iff.rfl
theorem bG.fresh{lo:Nat}{w:World}{d:Wd}{L:Lay}(h:bG lo w d L){s:Sl}(hs:∀b,s.blk=some b->w.heap.size<=b)(ic:Ix):∀c,s.blk=some c->¬ ∃ix,ix≠ic/\okI d ix/\(L ix).blk=some c:=by
 rintro c e ⟨ix,_,hok,e2⟩;have:=(h.blk ⟨ix,hok,e2⟩).2;have:=hs c e;omega
theorem Row.jf{w:World}{lo sz:Nat}{s:Sl}{n:Nat}{xs:List Value}(h:Row w lo sz s n xs):∀b,s.blk=some b->lo<=b:=fun _ e=>(h.gW e).2.1
theorem bG.EO{lo:Nat}{w:World}{d:Wd}{L:Lay}(h:bG lo w d L){i:Nat}{x:Nd}(hx:d.ah[i]? = some x):x.held.length<=1000/\x.aG.length<=1000:=by
 have h1:(bD d i).held.length<=1000:=h.small (5,i,0) ⟨bT hx,rfl⟩;have h2:(bD d i).aG.length<=1000:=h.small (6,i,0) ⟨bT hx,rfl⟩;rw[dh hx]at h1 h2;exact⟨h1,h2⟩
end Go.Proofs.YtediempflagfkaaGreatDoor
