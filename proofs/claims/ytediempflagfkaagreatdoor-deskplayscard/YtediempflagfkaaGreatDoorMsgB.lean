/- Lemmas. Lemmas. -/
import Derived.Test.YtediempflagfkaaGreatDoorGLaws
import Derived.Deep.RegionHeld3
set_option linter.unusedVariables false
set_option linter.unusedSimpArgs false
set_option linter.unnecessarySimpa false
namespace Go.Proofs.YtediempflagfkaaGreatDoor
open _root_.Go.Proofs.Tryz hiding checked
set_option maxRecDepth 8000
open Go.RowKit Go.Shelf
structure Mg where
 fr:Int
 gr:Int
 st:Int
 nul:Bool
 body:ByteArray
def Mg.cells(m:Mg):List Value:=[.int .i64 m.fr,.int .i64 m.gr,.int .i64 m.st,.bool m.nul,.string m.body]
def lessM(a b:Mg):Bool:=decide (a.st < b.st) || (decide (a.st=b.st) && decide (a.fr < b.fr))
theorem Oc(a b:Mg)(w:World) :
  Calls prog 159 #[.agg #[.int .i64 a.fr,.int .i64 a.gr,.int .i64 a.st,.bool a.nul,.string a.body],.agg #[.int .i64 b.fr,.int .i64 b.gr,.int .i64 b.st,.bool b.nul,.string b.body]] w fun e w' =>
   e=.returned (.bool (lessM a b))/\w'=(w.alloc (.cells #[.int .i64 a.fr,.int .i64 a.gr,.int .i64 a.st,.bool a.nul,.string a.body] 95)).alloc (.cells #[.int .i64 b.fr,.int .i64 b.gr,.int .i64 b.st,.bool b.nul,.string b.body] 95):=by
 obtain⟨af,ag,ast,an,ab⟩:=a;obtain⟨bf,bg,bst,bn,bb⟩:=b;dsimp only;by_cases h:ast=bst
 ·have hb:(ast != bst)=false:=by simp[h]
  have HF:Hid (lessM ⟨af,ag,ast,an,ab⟩ ⟨bf,bg,bst,bn,bb⟩=decide (af < bf)):=by simp[lessM,h,Hid]
  clear h
  go_enter func159,ntmps159
  go_wp2
  go_ret
  exact⟨by rw[HF.out];rfl,rfl⟩
 ·have hb:(ast != bst)=true:=by simp[h]
  have HF:Hid (lessM ⟨af,ag,ast,an,ab⟩ ⟨bf,bg,bst,bn,bb⟩=decide (ast < bst)):=by simp[lessM,h,Hid]
  clear h
  go_enter func159,ntmps159
  go_wp2
  go_ret
  exact⟨by rw[HF.out];rfl,rfl⟩
theorem JE(a b:Mg)(w:World) :
  Calls prog 147 #[.agg #[.int .i64 a.fr,.int .i64 a.gr,.int .i64 a.st,.bool a.nul,.string a.body],.agg #[.int .i64 b.fr,.int .i64 b.gr,.int .i64 b.st,.bool b.nul,.string b.body]] w fun e w' =>
   e=.returned (.bool (lessM a b))/\w'=(w.alloc (.cells #[.int .i64 a.fr,.int .i64 a.gr,.int .i64 a.st,.bool a.nul,.string a.body] 95)).alloc (.cells #[.int .i64 b.fr,.int .i64 b.gr,.int .i64 b.st,.bool b.nul,.string b.body] 95):=by
 obtain⟨af,ag,ast,an,ab⟩:=a;obtain⟨bf,bg,bst,bn,bb⟩:=b;dsimp only;by_cases h:ast < bst
 ·have HF:Hid (lessM ⟨af,ag,ast,an,ab⟩ ⟨bf,bg,bst,bn,bb⟩=true):=by simp[lessM,h,Hid]
  go_enter func147,ntmps147
  go_wp2
  go_ret
  exact⟨by rw[HF.out];rfl,rfl⟩
 ·have hd:decide (ast < bst)=false:=by simpa using h
  by_cases h2:ast=bst
  ·have hb:(ast == bst)=true:=by simp[h2]
   have HF:Hid (lessM ⟨af,ag,ast,an,ab⟩ ⟨bf,bg,bst,bn,bb⟩=decide (af < bf)):=by simp[lessM,h2,Hid]
   clear h2
   go_enter func147,ntmps147
   go_wp2
   go_ret
   exact⟨by rw[HF.out];rfl,rfl⟩
  ·have hb:(ast == bst)=false:=by simp[h2]
   have HF:Hid (lessM ⟨af,ag,ast,an,ab⟩ ⟨bf,bg,bst,bn,bb⟩=false):=by simp[lessM,h2,Hid,h]
   clear h2
   go_enter func147,ntmps147
   go_wp2
   go_ret
   exact⟨by rw[HF.out];rfl,rfl⟩
structure Later (w0:World) where
 w:World
 h:ak w0 w
theorem Later.cell{w0:World}(x:Later w0){b o:Nat}(h:b < w0.heap.size):x.w.cell? ⟨b,o,none⟩=w0.cell? ⟨b,o,none⟩:=x.h.below.cell (p:=⟨b,o,none⟩) h
theorem ak.drew{w0 w:World}(h:ak w0 w):ak w0 { w with drawn:=w.drawn+1 }:=h.step (Below.refl _ _).drew
theorem aY{w w1:World}(h:w.drew=w1):ak w w1:=by rw[<-h];exact ak.drew (ak.refl _)
theorem ak.trans{a b c:World}(h:ak a b)(k:ak b c):ak a c:=h.step k.below
theorem aH{P:Program}{id:Nat}{Q:Exit->Act->World->Prop}{a:Act}{w0 w:World}{l:List Oper}(hm:P.follows .mixedOrders=true)(hB:Region.lexB .any l.toArray=true)(hS:ak w0 w)
  (h:wpQuiet P l.toArray (fun w1=>∃x:Later w0,w1=x.w) (fun a'=>∀w',ak w0 w'->Q .normal a' w') l a):(Code.region id l.toArray true).wp P Q a w :=
 wp_region_quiet (C:=fun w1=>∃x:Later w0,w1=x.w) hm hB ⟨⟨_,hS.drew⟩,rfl⟩ (by
  have e:(fun a'=>∀w',(∃x:Later w0,w'=x.w)->Q .normal a' w')=fun a'=>∀w',ak w0 w'->Q .normal a' w':=by
   funext a'
   exact propext ⟨fun h w' hw=>h w' ⟨⟨w',hw⟩,rfl⟩,fun h w' ⟨x,hx⟩=>h w' (hx ▸ x.h)⟩
  rw[e];simpa using h)
theorem Later.call{P:Program}{f:FuncId}{args:Array Value}{w0:World}{x:Later w0}{v:Value}(h:∀w,ak w0 w->Calls P f args w fun e w'=>e=.returned v/\ak w0 w') :
  Calls P f args x.w fun e w''=>e=.returned v/\∃y:Later w0,w''=y.w :=
 (h x.w x.h).mono fun _ w' ⟨he,hw⟩=>⟨he,⟨w',hw⟩,rfl⟩
structure cO (w:World) (b o:Nat) (m:Mg):Prop where
 c0:w.cell? ⟨b,o,none⟩=some (.int .i64 m.fr)
 c1:w.cell? ⟨b,o+1,none⟩=some (.int .i64 m.gr)
 c2:w.cell? ⟨b,o+2,none⟩=some (.int .i64 m.st)
 c3:w.cell? ⟨b,o+3,none⟩=some (.bool m.nul)
 c4:w.cell? ⟨b,o+4,none⟩=some (.string m.body)
def flat(ms:List Mg):List Value:=ms.flatMap Mg.cells
theorem dA:∀ms:List Mg,(flat ms).length=ms.length*5
 | []=>rfl
 | m::ms=>by
  have:=dA ms;simp only[flat,List.flatMap_cons,List.length_append]at this ⊢;simp[Mg.cells,this];omega
theorem flat_get:∀(ms:List Mg) (i r:Nat) (m:Mg),ms[i]? = some m->r < 5->(flat ms)[i*5+r]? = m.cells[r]?
 | [],i,r,m,h,_=>by simp at h
 | x::ms,0,r,m,h,hr=>by
  simp at h;subst h;simp only[flat,List.flatMap_cons];rw[List.getElem?_append_left (by simp[Mg.cells];omega)];simp
 | x::ms,i+1,r,m,h,hr=>by
  have:=flat_get ms i r m (by simpa using h) hr;simp only[flat,List.flatMap_cons]at this ⊢;rw[List.getElem?_append_right (by simp[Mg.cells];omega)];rw[<-this]
  congr 1
  simp[Mg.cells];omega
theorem fM(xs ys:List Mg):flat (xs++ys)=flat xs++flat ys:=by simp[flat]
theorem dN(u:Value)(ms:List Mg)(h:u∈flat ms):u.oneCell'=true:=by
 simp only[flat,List.mem_flatMap]at h;obtain⟨m,_,hm⟩:=h;simp[Mg.cells]at hm
 rcases hm with rfl | rfl | rfl | rfl | rfl <;> rfl
structure gD (w:World) (a:Option Addr) (len:Nat) (ms:List Mg):Prop where
 bq:ms.length=len
 dY:len<=2932031007320
 cells:0 < len->∃b off,a=some ⟨b,off,none⟩/\b < w.heap.size/\∀j u,(flat ms)[j]? = some u->w.cell? ⟨b,off+j,none⟩=some u
theorem dM{w:World}{b off:Nat}{ms:List Mg}(h:∀j u,(flat ms)[j]? = some u->w.cell? ⟨b,off+j,none⟩=some u)(i:Nat)(m:Mg)(hm:ms[i]? = some m):cO w b (off+i*5) m:=by
 have g:=fun r hr=>flat_get ms i r m hm hr;refine⟨?_, ?_, ?_, ?_, ?_⟩
 ·exact h (i*5) _ (by rw[<-Nat.add_zero (i*5),g 0 (by omega)];rfl)
 all_goals rw[Nat.add_assoc]
 ·exact h _ _ (by rw[g 1 (by omega)];rfl)
 ·exact h _ _ (by rw[g 2 (by omega)];rfl)
 ·exact h _ _ (by rw[g 3 (by omega)];rfl)
 ·exact h _ _ (by rw[g 4 (by omega)];rfl)
theorem gD.ay{w W:World}{a:Option Addr}{len:Nat}{ms:List Mg}(h:gD w a len ms)(k:ak w W):gD W a len ms:=by
 refine⟨h.bq,h.dY,fun hp=>?_⟩;obtain⟨b,off,e,hb,hc⟩:=h.cells hp;exact⟨b,off,e,by have:=k.size;omega,fun j u hj=>(k.below.cell (p:=⟨b,off+j,none⟩) hb).trans (hc j u hj)⟩
theorem gJ{w:World}{a:Option Addr}:gD w a 0 []:=⟨rfl,by omega,fun h=>absurd h (by omega)⟩
theorem Gy{W:World}{base:Nat}{v:Value}{ms:List Mg}(h:W.ownsRow base 95 5 v ms.length (flat ms))(hl:ms.length<=2932031007320):∃a cap,v=.slice a ms.length cap/\gD W a ms.length ms:=by
 rcases h.2 with ⟨rfl,h0⟩ | ⟨g,cap,cur,rfl,h1,h2,h3,h4,h5,h6⟩
 ·have:ms=[]:=zQ6 h0;subst this;exact⟨none,0,rfl,gJ⟩
 ·refine⟨_,cap,rfl,rfl,hl,fun hp=>⟨g,0,rfl,(zQ3.1 h2).1,fun j u hj=>?_⟩⟩;have hjl:=(zQ2.1 hj).1;rw[dA]at hjl
  have hcur:cur[j]? = some u:=by
   have e:(cur.toList.take (ms.length*5))[j]? = (flat ms)[j]?:=by rw[h6]
   rw[List.getElem?_take,if_pos hjl,hj]at e;simpa using e
  simp[World.cell?,h2,hcur]
theorem rJ(w0:World)(a b:Mg)(v:Bool)(hv:lessM a b=v)(w:World)(h:ak w0 w) :
  Calls prog 159 #[.agg #[.int .i64 a.fr,.int .i64 a.gr,.int .i64 a.st,.bool a.nul,.string a.body],.agg #[.int .i64 b.fr,.int .i64 b.gr,.int .i64 b.st,.bool b.nul,.string b.body]] w fun e w' =>
   e=.returned (.bool v)/\ak w0 w' :=
 (Oc a b w).mono fun e w' ⟨he,hw⟩=>⟨by rw[<-hv];exact he,by rw[hw];exact(h.alloc _).alloc _⟩
theorem qQ(w0:World)(a b:Mg)(v:Bool)(hv:lessM a b=v)(w:World)(h:ak w0 w) :
  Calls prog 147 #[.agg #[.int .i64 a.fr,.int .i64 a.gr,.int .i64 a.st,.bool a.nul,.string a.body],.agg #[.int .i64 b.fr,.int .i64 b.gr,.int .i64 b.st,.bool b.nul,.string b.body]] w fun e w' =>
   e=.returned (.bool v)/\ak w0 w' :=
 (JE a b w).mono fun e w' ⟨he,hw⟩=>⟨by rw[<-hv];exact he,by rw[hw];exact(h.alloc _).alloc _⟩
def bC:List Mg->Bool
 | []=>true
 | [_]=>true
 | a::b::r=>lessM a b && bC (b::r)
theorem kR:∀(ms:List Mg),bC ms=true↔∀i a b,ms[i]? = some a->ms[i+1]? = some b->lessM a b=true
 | []=>by simp[bC]
 | [x]=>by
  refine⟨fun _ i a b _ h2=>?_,fun _=>rfl⟩;simp at h2
 | x::y::r=>by
  rw[bC,Bool.and_eq_true,kR (y::r)];constructor
  ·rintro⟨h1,h2⟩ i a b ha hb
   cases i with
   | zero=>simp at ha hb;subst ha hb;exact h1
   | succ i=>exact h2 i a b (by simpa using ha) (by simpa using hb)
  ·intro h;exact⟨h 0 x y rfl rfl,fun i a b ha hb=>h (i+1) a b (by simpa using ha) (by simpa using hb)⟩
theorem nO(a:Option Addr)(len cap:Nat)(ms:List Mg)(w:World)(hM:gD w a len ms) :
  Calls prog 168 #[.slice a len cap] w fun e w'=>e=.returned (.bool (bC ms))/\ak w w':=by
 obtain⟨rfl,dY,hc⟩:=hM
 go_enter func168,ntmps168
 go_wp2
 go_loopw [3] (fun i wr=>(∃k:Nat,1<=k/\i=.int .i64 k/\∀i a b,i+1 < k->ms[i]? = some a->ms[i+1]? = some b->lessM a b=true)/\ak w wr) (fun i _=>ms.length - (intOf i).toNat)
 case atStart=>exact⟨⟨1,by omega,rfl,fun i a b h=>by omega⟩,ak.refl _⟩
 case round =>
  obtain⟨⟨k,hk,rfl,hr⟩,hS⟩:=hrel;have HR:Hid (∀i a b,i+1 < k->ms[i]? = some a->ms[i+1]? = some b->lessM a b=true):=hr;clear hr;by_cases hlt:k < ms.length
  ·obtain⟨k',hk0,hk1,hlt'⟩:∃k':Nat,k=k'+1/\(k:Int) - 1=(k':Int)/\k' < ms.length:=⟨k - 1,by omega,by omega,by omega⟩;have HK:Hid (k=k'+1):=hk0;have hwk:IntKind.i64.wrap (k':Int)=(k':Int):=IntWalk.i64_in _ (by omega);obtain⟨b,off,rfl,hb,hcell⟩:=hc (by omega);obtain⟨m,hm⟩:∃m,ms[k]? = some m:=⟨_,zQ1 hlt⟩;obtain⟨m',hm'⟩:∃m',ms[k']? = some m':=⟨_,zQ1 hlt'⟩;obtain⟨d0,d1,d2,d3,d4⟩:=dM hcell k m hm;obtain⟨e0,e1,e2,e3,e4⟩:=dM hcell k' m' hm';have hne:Nonempty (Later w):=⟨⟨w,ak.refl w⟩⟩;have hg:∀(x:Later w) (o:Nat),x.w.cell? ⟨b,o,none⟩=w.cell? ⟨b,o,none⟩:=fun x o=>x.cell hb;have HM:Hid (ms[k]? = some m):=hm;have HM':Hid (ms[k']? = some m'):=hm';clear hm hm' hcell hc hk0;cases hl:lessM m' m
   ·have HF:Hid (bC ms=false):=by
     unfold Hid;rw[<-Bool.not_eq_true,kR];intro h;have:=h k' m' m HM'.out (by rw[<-HK.out];exact HM.out);rw[hl]at this;cases this
    go_wp2_with fail
    refine aH (by kernel_rfl) (by kernel_rfl) hS ?_
    repeat (go_big_quiet_step ((go_at_call 159;exact Later.call (rJ w m' m _ hl))))
    refine wpQuiet_nil ?_;intro w9 hS9
    go_wp2
    go_ret
    exact⟨by rw[HF.out];rfl,hS9⟩
   ·have HF:Hid (∀i a b,i+1 < k+1->ms[i]? = some a->ms[i+1]? = some b->lessM a b=true):=by
     intro i a b hi ha hb;by_cases h:i+1 < k
     ·exact HR.out i a b h ha hb
     ·have e:i=k':=by have:=HK.out;omega
      subst e;have h1:=HM'.out;have h2:=HM.out;rw[HK.out]at h2;rw[h1]at ha;rw[h2]at hb;cases ha;cases hb;exact hl
    go_wp2_with fail
    refine aH (by kernel_rfl) (by kernel_rfl) hS ?_
    repeat (go_big_quiet_step ((go_at_call 159;exact Later.call (rJ w m' m _ hl))))
    refine wpQuiet_nil ?_;intro w9 hS9
    go_wp2
    go_roundw
    case rel=>exact⟨⟨k+1,by omega,by go_num,HF.out⟩,hS9⟩
    case measure=>simp[intOf];omega
  ·have HF:Hid (bC ms=true):=by
    unfold Hid;rw[kR];intro i a b ha hb;refine HR.out i a b ?_ ha hb;have:=(zQ2.1 hb).1;omega
   clear hc
   go_wp2
   go_ret
   exact⟨by rw[HF.out];rfl,hS⟩
theorem iF(a:Option Addr)(len cap:Nat)(ms:List Mg)(w:World)(hM:gD w a len ms) :
  Calls prog 112 #[.slice a len cap] w fun e w'=>e=.returned (.bool (bC ms))/\ak w w':=by
 obtain⟨rfl,dY,hc⟩:=hM
 go_enter func112,ntmps112
 go_wp2
 go_loopw [3] (fun i wr=>(∃k:Nat,1<=k/\i=.int .i64 k/\∀i a b,i+1 < k->ms[i]? = some a->ms[i+1]? = some b->lessM a b=true)/\ak w wr) (fun i _=>ms.length - (intOf i).toNat)
 case atStart=>exact⟨⟨1,by omega,rfl,fun i a b h=>by omega⟩,ak.refl _⟩
 case round =>
  obtain⟨⟨k,hk,rfl,hr⟩,hS⟩:=hrel;have HR:Hid (∀i a b,i+1 < k->ms[i]? = some a->ms[i+1]? = some b->lessM a b=true):=hr;clear hr;by_cases hlt:k < ms.length
  ·obtain⟨k',hk0,hk1,hlt'⟩:∃k':Nat,k=k'+1/\(k:Int) - 1=(k':Int)/\k' < ms.length:=⟨k - 1,by omega,by omega,by omega⟩;have HK:Hid (k=k'+1):=hk0;have hwk:IntKind.i64.wrap (k':Int)=(k':Int):=IntWalk.i64_in _ (by omega);obtain⟨b,off,rfl,hb,hcell⟩:=hc (by omega);obtain⟨m,hm⟩:∃m,ms[k]? = some m:=⟨_,zQ1 hlt⟩;obtain⟨m',hm'⟩:∃m',ms[k']? = some m':=⟨_,zQ1 hlt'⟩;obtain⟨d0,d1,d2,d3,d4⟩:=dM hcell k m hm;obtain⟨e0,e1,e2,e3,e4⟩:=dM hcell k' m' hm';have hne:Nonempty (Later w):=⟨⟨w,ak.refl w⟩⟩;have hg:∀(x:Later w) (o:Nat),x.w.cell? ⟨b,o,none⟩=w.cell? ⟨b,o,none⟩:=fun x o=>x.cell hb;have HM:Hid (ms[k]? = some m):=hm;have HM':Hid (ms[k']? = some m'):=hm';clear hm hm' hcell hc hk0;cases hl:lessM m' m
   ·have HF:Hid (bC ms=false):=by
     unfold Hid;rw[<-Bool.not_eq_true,kR];intro h;have:=h k' m' m HM'.out (by rw[<-HK.out];exact HM.out);rw[hl]at this;cases this
    go_wp2_with fail
    refine aH (by kernel_rfl) (by kernel_rfl) hS ?_
    repeat (go_big_quiet_step ((go_at_call 147;exact Later.call (qQ w m' m _ hl))))
    refine wpQuiet_nil ?_;intro w9 hS9
    go_wp2
    go_ret
    exact⟨by rw[HF.out];rfl,hS9⟩
   ·have HF:Hid (∀i a b,i+1 < k+1->ms[i]? = some a->ms[i+1]? = some b->lessM a b=true):=by
     intro i a b hi ha hb;by_cases h:i+1 < k
     ·exact HR.out i a b h ha hb
     ·have e:i=k':=by have:=HK.out;omega
      subst e;have h1:=HM'.out;have h2:=HM.out;rw[HK.out]at h2;rw[h1]at ha;rw[h2]at hb;cases ha;cases hb;exact hl
    go_wp2_with fail
    refine aH (by kernel_rfl) (by kernel_rfl) hS ?_
    repeat (go_big_quiet_step ((go_at_call 147;exact Later.call (qQ w m' m _ hl))))
    refine wpQuiet_nil ?_;intro w9 hS9
    go_wp2
    go_roundw
    case rel=>exact⟨⟨k+1,by omega,by go_num,HF.out⟩,hS9⟩
    case measure=>simp[intOf];omega
  ·have HF:Hid (bC ms=true):=by
    unfold Hid;rw[kR];intro i a b ha hb;refine HR.out i a b ?_ ha hb;have:=(zQ2.1 hb).1;omega
   clear hc
   go_wp2
   go_ret
   exact⟨by rw[HF.out];rfl,hS⟩
def dK(m:Mg):List Mg->Nat
 | []=>0
 | x::r=>if lessM x m then dK m r+1 else 0
theorem mo(m:Mg):∀ms,dK m ms<=ms.length
 | []=>Nat.le_refl _
 | x::r=>by
  have:=mo m r;unfold dK
  split <;> simp <;> omega
theorem vX(m:Mg):∀(ms:List Mg) (k:Nat) (x:Mg),k<=dK m ms->ms[k]? = some x->lessM x m=true->k+1<=dK m ms
 | [],k,x,_,h,_=>by simp at h
 | y::r,0,x,_,h,hl=>by simp at h;subst h;simp[dK,hl]
 | y::r,k+1,x,hk,h,hl=>by
  unfold dK at hk ⊢;split at hk
  ·rename_i hy;rw[if_pos hy];have:=vX m r k x (by omega) (by simpa using h) hl;omega
  ·omega
theorem yS(m:Mg):∀(ms:List Mg) (k:Nat) (x:Mg),k<=dK m ms->ms[k]? = some x->lessM x m=false->dK m ms=k
 | [],k,x,_,h,_=>by simp at h
 | y::r,0,x,_,h,hl=>by simp at h;subst h;simp[dK,hl]
 | y::r,k+1,x,hk,h,hl=>by
  unfold dK at hk ⊢;split at hk
  ·rename_i hy;rw[if_pos hy];have:=yS m r k x (by omega) (by simpa using h) hl;omega
  ·omega
theorem vk(a:Option Addr)(len cap:Nat)(ms:List Mg)(m:Mg)(w:World)(hM:gD w a len ms) :
  Calls prog 169 #[.slice a len cap,.agg #[.int .i64 m.fr,.int .i64 m.gr,.int .i64 m.st,.bool m.nul,.string m.body]] w fun e w'=>e=.returned (.int .i64 (dK m ms))/\ak w w':=by
 obtain⟨rfl,dY,hc⟩:=hM;obtain⟨w1,hw1⟩:∃w1,w.alloc (.cells #[.int .i64 m.fr,.int .i64 m.gr,.int .i64 m.st,.bool m.nul,.string m.body] 95)=w1:=⟨_,rfl⟩;have hS1:=aF hw1;have hsz:w1.heap.size=w.heap.size+1:=by rw[<-hw1];simp
 have hB:cO w1 w.heap.size 0 m:=by rw[<-hw1];constructor <;> simp[go_sem]
 go_enter func169,ntmps169
 go_wp2
 clear hw1
 go_loopw [5] (fun i wr=>(∃k:Nat,k<=dK m ms/\i=.int .i64 k)/\ak w1 wr) (fun i _=>ms.length - (intOf i).toNat)
 case atStart=>exact⟨⟨0,by omega,rfl⟩,ak.refl _⟩
 case round =>
  obtain⟨⟨k,hk,rfl⟩,hS⟩:=hrel;have HK:Hid (k<=dK m ms):=hk;have hkl:k<=ms.length:=zQ5 hk (mo m ms);have hne:Nonempty (Later w1):=⟨⟨w1,ak.refl w1⟩⟩;clear hk;by_cases hlt:k < ms.length
  ·obtain⟨b,off,rfl,hb,hcell⟩:=hc (by omega);obtain⟨x,hx⟩:∃x,ms[k]? = some x:=⟨_,zQ1 hlt⟩;obtain⟨d0,d1,d2,d3,d4⟩:=dM hcell k x hx;obtain⟨e0,e1,e2,e3,e4⟩:=hB;have hg:∀(x:Later w1) (o:Nat),x.w.cell? ⟨b,o,none⟩=w.cell? ⟨b,o,none⟩:=fun x o=>(x.cell (by omega)).trans (hS1.below.cell (p:=⟨b,o,none⟩) hb);have hg2:∀(x:Later w1) (o:Nat),x.w.cell? ⟨w.heap.size,o,none⟩=w1.cell? ⟨w.heap.size,o,none⟩:=fun x o=>x.cell (by omega);have HX:Hid (ms[k]? = some x):=hx;clear hx hcell hc;cases hl:lessM x m
   ·have HF:Hid (dK m ms=k):=yS m ms k x HK.out HX.out hl
    go_wp2_with fail
    refine aH (by kernel_rfl) (by kernel_rfl) hS ?_
    repeat (go_big_quiet_step ((go_at_call 159;exact Later.call (rJ w1 x m _ hl))))
    refine wpQuiet_nil ?_;intro w9 hS9
    go_wp2
    go_ret
    exact⟨by rw[HF.out];rfl,hS1.trans hS9⟩
   ·have HF:Hid (k+1<=dK m ms):=vX m ms k x HK.out HX.out hl
    go_wp2_with fail
    refine aH (by kernel_rfl) (by kernel_rfl) hS ?_
    repeat (go_big_quiet_step ((go_at_call 159;exact Later.call (rJ w1 x m _ hl))))
    refine wpQuiet_nil ?_;intro w9 hS9
    go_wp2
    go_roundw
    case rel=>exact⟨⟨k+1,HF.out,by go_num⟩,hS9⟩
    case measure=>simp[intOf];omega
  ·have HF:Hid (dK m ms=k):=by have:=mo m ms;have:=HK.out;unfold Hid;omega
   have hd:decide ((k:Int) < (ms.length:Int))=false:=by simpa using hlt
   have hd':decide (k < ms.length)=false:=by simpa using hlt
   clear hc
   go_wp2_with fail
   refine aH (by kernel_rfl) (by kernel_rfl) hS ?_
   repeat (go_big_quiet_step (fail))
   refine wpQuiet_nil ?_;intro w9 hS9
   go_wp2
   go_ret
   exact⟨by rw[HF.out];rfl,hS1.trans hS9⟩
end Go.Proofs.YtediempflagfkaaGreatDoor
set_option maxHeartbeats 1000000
namespace Go.Proofs.YtediempflagfkaaGreatDoor
open _root_.Go.Proofs.Tryz hiding checked
set_option maxRecDepth 8000
open Go.RowKit Go.Shelf
theorem iV(x lo hi:Int)(w:World) :
  Calls prog 191 #[.int .i64 x,.int .i64 lo,.int .i64 hi] w fun e w'=>e=.returned (.bool (!inB x lo hi))/\w'=w:=by
 unfold inB;by_cases h1:x < lo
 ·go_enter func191,ntmps191
  go_wp2
  go_ret
  exact⟨by simp;omega,rfl⟩
 ·have hd:decide (x < lo)=false:=by simpa using h1
  by_cases h2:hi < x
  ·go_enter func191,ntmps191
   go_wp2
   go_ret
   exact⟨by simp;omega,rfl⟩
  ·have hd2:decide (hi < x)=false:=by simpa using h2
   go_enter func191,ntmps191
   go_wp2
   go_ret
   exact⟨by simp_all,rfl⟩
def vV(m:Mg):Bool:=decide (8 < m.body.size) || (m.nul && decide (m.body.size≠0))
def iN(ah:Int)(xs:List Int)(m:Mg):Int :=
 if dS ah xs≠0 then dS ah xs
 else if ¬ (inB m.fr 0 (ah - 1)=true/\inB m.gr 0 (xs.length - 1)=true/\inB m.st 1 1048576=true) then 3
 else if hasB xs m.gr m.fr=false then 5
 else if vV m then 1 else 0
theorem jQ{ah:Int}{xs:List Int}(h:dS ah xs=0):1<=ah/\ah<=4/\1<=xs.length/\xs.length<=3:=by
 unfold dS at h;split at h
 ·cases h
 ·split at h
  ·cases h
  ·omega
theorem KP{b:ByteArray}(h:b.toList.isEmpty=false):b.size≠0:=by
 intro h0;rw[ByteArray.toList_eq]at h;have:b.data.toList=[]:=zQ6 (by simpa using h0);rw[this]at h;cases h
theorem size_eq{b:ByteArray}(h:b.toList.isEmpty=true):b.size=0:=by
 rw[ByteArray.toList_eq,List.isEmpty_iff]at h;have:=congrArg List.length h;simpa using this
theorem xV(ah:Int)(a:Option Addr)(len cap:Nat)(xs:List Int)(m:Mg)(w:World)(hI:Ints w a len xs) :
  Calls prog 188 #[.int .i64 ah,.slice a len cap,.agg #[.int .i64 m.fr,.int .i64 m.gr,.int .i64 m.st,.bool m.nul,.string m.body]] w fun e w'=>e=.returned (.int .i64 (iN ah xs m))/\ak w w':=by
 obtain⟨w1,hw1⟩:∃w1,w.alloc (.cells #[.int .i64 m.fr,.int .i64 m.gr,.int .i64 m.st,.bool m.nul,.string m.body] 95)=w1:=⟨_,rfl⟩;have hS1:=aF hw1;have hsz:w1.heap.size=w.heap.size+1:=by rw[<-hw1];simp
 have hB:cO w1 w.heap.size 0 m:=by rw[<-hw1];constructor <;> simp[go_sem]
 have bq:=hI.bq;subst bq;obtain⟨c,hce⟩:∃c,dS ah xs=c:=⟨_,rfl⟩;have HC:Hid (dS ah xs=c):=hce;cases hc:(c != 0)
 ·have hc0:dS ah xs=0:=by rw[hce];simpa using hc
  obtain⟨n1,n2,l1,l2⟩:=jQ hc0
  have HF:Hid (iN ah xs m=if ¬ (inB m.fr 0 (ah - 1)=true/\inB m.gr 0 (xs.length - 1)=true/\inB m.st 1 1048576=true) then 3 else if hasB xs m.gr m.fr=false then 5 else if vV m then 1 else 0):=by
   unfold Hid iN;rw[if_neg (by simp[hc0])]
  clear hce hc0
  go_enter func188,ntmps188
  go_wp2_with fail
  refine(KM w1 _ _ _ _ _ _ (hI.ay hS1) (ak.refl w1)).mono ?_;rw[HC.out];rintro e w2 ⟨rfl,hS2⟩;have hI2:=hI.ay (hS1.trans hS2);have hR2:=hS1.trans hS2;have hg:∀o:Nat,w2.cell? ⟨w.heap.size,o,none⟩=w1.cell? ⟨w.heap.size,o,none⟩:=fun o=>hS2.below.cell (p:=⟨w.heap.size,o,none⟩) (by show w.heap.size < _;omega);obtain⟨f0,f1,f2,f3,f4⟩:=hB;simp only[Nat.zero_add]at f0 f1 f2 f3 f4;rw[<-hg]at f0 f1 f2 f3 f4;clear hg hw1;cases i1:inB m.fr 0 (ah - 1)
  ·have HV:Hid (iN ah xs m=3):=by unfold Hid;rw[HF.out,if_pos (by simp[i1])]
   clear HF
   go_wp2_with (first | (go_at_call 191;refine(iV _ _ _ _).mono ?_;rintro e w' ⟨rfl,hw⟩;obtain rfl:=hw.symm) | (go_at_call 151;refine(iA _ _ _ xs _ _ _ hI2).mono ?_;rintro e w' ⟨rfl,hw⟩;obtain rfl:=hw.symm))
   go_ret
   exact⟨by rw[HV.out];rfl,hR2⟩
  cases i2:inB m.gr 0 (xs.length - 1)
  ·have HV:Hid (iN ah xs m=3):=by unfold Hid;rw[HF.out,if_pos (by simp[i2])]
   clear HF
   go_wp2_with (first | (go_at_call 191;refine(iV _ _ _ _).mono ?_;rintro e w' ⟨rfl,hw⟩;obtain rfl:=hw.symm) | (go_at_call 151;refine(iA _ _ _ xs _ _ _ hI2).mono ?_;rintro e w' ⟨rfl,hw⟩;obtain rfl:=hw.symm))
   go_ret
   exact⟨by rw[HV.out];rfl,hR2⟩
  cases i3:inB m.st 1 1048576
  ·have HV:Hid (iN ah xs m=3):=by unfold Hid;rw[HF.out,if_pos (by simp[i3])]
   clear HF
   go_wp2_with (first | (go_at_call 191;refine(iV _ _ _ _).mono ?_;rintro e w' ⟨rfl,hw⟩;obtain rfl:=hw.symm) | (go_at_call 151;refine(iA _ _ _ xs _ _ _ hI2).mono ?_;rintro e w' ⟨rfl,hw⟩;obtain rfl:=hw.symm))
   go_ret
   exact⟨by rw[HV.out];rfl,hR2⟩
  cases i4:hasB xs m.gr m.fr
  ·have HV:Hid (iN ah xs m=5):=by unfold Hid;rw[HF.out,if_neg (by simp[i1,i2,i3]),if_pos i4]
   clear HF
   go_wp2_with (first | (go_at_call 191;refine(iV _ _ _ _).mono ?_;rintro e w' ⟨rfl,hw⟩;obtain rfl:=hw.symm) | (go_at_call 151;refine(iA _ _ _ xs _ _ _ hI2).mono ?_;rintro e w' ⟨rfl,hw⟩;obtain rfl:=hw.symm))
   go_ret
   exact⟨by rw[HV.out];rfl,hR2⟩
  have HG:Hid (iN ah xs m=if vV m then 1 else 0):=by unfold Hid;rw[HF.out,if_neg (by simp[i1,i2,i3]),if_neg (by simp[i4])]
  clear HF;by_cases i5:8 < (m.body.size:Int)
  ·have HV:Hid (iN ah xs m=1):=by unfold Hid;rw[HG.out,if_pos (by simp[vV];left;omega)]
   clear HG
   go_wp2_with (first | (go_at_call 191;refine(iV _ _ _ _).mono ?_;rintro e w' ⟨rfl,hw⟩;obtain rfl:=hw.symm) | (go_at_call 151;refine(iA _ _ _ xs _ _ _ hI2).mono ?_;rintro e w' ⟨rfl,hw⟩;obtain rfl:=hw.symm))
   go_ret
   exact⟨by rw[HV.out];rfl,hR2⟩
  have i5':decide (8 < (m.body.size:Int))=false:=by simpa using i5
  cases i6:m.nul
  ·have HV:Hid (iN ah xs m=0):=by unfold Hid;rw[HG.out,if_neg (by simp[vV,i6];omega)]
   clear HG;rw[i6]at f3
   go_wp2_with (first | (go_at_call 191;refine(iV _ _ _ _).mono ?_;rintro e w' ⟨rfl,hw⟩;obtain rfl:=hw.symm) | (go_at_call 151;refine(iA _ _ _ xs _ _ _ hI2).mono ?_;rintro e w' ⟨rfl,hw⟩;obtain rfl:=hw.symm))
   go_ret
   exact⟨by rw[HV.out];rfl,hR2⟩
  rw[i6]at f3;cases i7:(m.body.toList.isEmpty)
  ·have HV:Hid (iN ah xs m=1):=by unfold Hid;rw[HG.out,if_pos (by have:=KP i7;simp[vV,i6,this])]
   clear HG
   go_wp2_with (first | (go_at_call 191;refine(iV _ _ _ _).mono ?_;rintro e w' ⟨rfl,hw⟩;obtain rfl:=hw.symm) | (go_at_call 151;refine(iA _ _ _ xs _ _ _ hI2).mono ?_;rintro e w' ⟨rfl,hw⟩;obtain rfl:=hw.symm))
   go_ret
   exact⟨by rw[HV.out];rfl,hR2⟩
  ·have HV:Hid (iN ah xs m=0):=by unfold Hid;rw[HG.out,if_neg (by have:=size_eq i7;simp[vV,this])]
   clear HG
   go_wp2_with (first | (go_at_call 191;refine(iV _ _ _ _).mono ?_;rintro e w' ⟨rfl,hw⟩;obtain rfl:=hw.symm) | (go_at_call 151;refine(iA _ _ _ xs _ _ _ hI2).mono ?_;rintro e w' ⟨rfl,hw⟩;obtain rfl:=hw.symm))
   go_ret
   exact⟨by rw[HV.out];rfl,hR2⟩
 ·have HF:Hid (iN ah xs m=c):=by unfold Hid iN;rw[hce,if_pos (by simpa using hc)]
  clear hce
  go_enter func188,ntmps188
  go_wp2_with fail
  refine(KM w1 _ _ _ _ _ _ (hI.ay hS1) (ak.refl w1)).mono ?_;rw[HC.out];rintro e w2 ⟨rfl,hS2⟩
  go_wp2
  go_ret
  exact⟨by rw[HF.out];rfl,hS1.trans hS2⟩
theorem EH(ah:Int)(a:Option Addr)(len cap:Nat)(xs:List Int)(m:Mg)(w:World)(hI:Ints w a len xs) :
  Calls prog 148 #[.int .i64 ah,.slice a len cap,.agg #[.int .i64 m.fr,.int .i64 m.gr,.int .i64 m.st,.bool m.nul,.string m.body]] w fun e w'=>e=.returned (.int .i64 (iN ah xs m))/\ak w w':=by
 obtain⟨w1,hw1⟩:∃w1,w.alloc (.cells #[.int .i64 m.fr,.int .i64 m.gr,.int .i64 m.st,.bool m.nul,.string m.body] 95)=w1:=⟨_,rfl⟩;have hS1:=aF hw1;have hsz:w1.heap.size=w.heap.size+1:=by rw[<-hw1];simp
 have hB:cO w1 w.heap.size 0 m:=by rw[<-hw1];constructor <;> simp[go_sem]
 have bq:=hI.bq;subst bq;obtain⟨c,hce⟩:∃c,dS ah xs=c:=⟨_,rfl⟩;have HC:Hid (dS ah xs=c):=hce;cases hc:(c != 0)
 ·have hc0:dS ah xs=0:=by rw[hce];simpa using hc
  obtain⟨n1,n2,l1,l2⟩:=jQ hc0
  have HF:Hid (iN ah xs m=if ¬ (inB m.fr 0 (ah - 1)=true/\inB m.gr 0 (xs.length - 1)=true/\inB m.st 1 1048576=true) then 3 else if hasB xs m.gr m.fr=false then 5 else if vV m then 1 else 0):=by
   unfold Hid iN;rw[if_neg (by simp[hc0])]
  clear hce hc0
  go_enter func148,ntmps148
  go_wp2_with fail
  refine(xM w1 _ _ _ _ _ _ (hI.ay hS1) (ak.refl w1)).mono ?_;rw[HC.out];rintro e w2 ⟨rfl,hS2⟩;have hI2:=hI.ay (hS1.trans hS2);have hR2:=hS1.trans hS2;have hg:∀o:Nat,w2.cell? ⟨w.heap.size,o,none⟩=w1.cell? ⟨w.heap.size,o,none⟩:=fun o=>hS2.below.cell (p:=⟨w.heap.size,o,none⟩) (by show w.heap.size < _;omega);obtain⟨f0,f1,f2,f3,f4⟩:=hB;simp only[Nat.zero_add]at f0 f1 f2 f3 f4;rw[<-hg]at f0 f1 f2 f3 f4;clear hg hw1;cases i1:inB m.fr 0 (ah - 1)
  ·have HV:Hid (iN ah xs m=3):=by unfold Hid;rw[HF.out,if_pos (by simp[i1])]
   clear HF
   go_wp2_with (first | (go_at_call 35;refine(bJ _ _ _ _).mono ?_;rintro e w' ⟨rfl,hw⟩;obtain rfl:=hw.symm) | (go_at_call 68;refine(eu _ _ _ xs _ _ _ hI2).mono ?_;rintro e w' ⟨rfl,hw⟩;obtain rfl:=hw.symm))
   go_ret
   exact⟨by rw[HV.out];rfl,hR2⟩
  cases i2:inB m.gr 0 (xs.length - 1)
  ·have HV:Hid (iN ah xs m=3):=by unfold Hid;rw[HF.out,if_pos (by simp[i2])]
   clear HF
   go_wp2_with (first | (go_at_call 35;refine(bJ _ _ _ _).mono ?_;rintro e w' ⟨rfl,hw⟩;obtain rfl:=hw.symm) | (go_at_call 68;refine(eu _ _ _ xs _ _ _ hI2).mono ?_;rintro e w' ⟨rfl,hw⟩;obtain rfl:=hw.symm))
   go_ret
   exact⟨by rw[HV.out];rfl,hR2⟩
  cases i3:inB m.st 1 1048576
  ·have HV:Hid (iN ah xs m=3):=by unfold Hid;rw[HF.out,if_pos (by simp[i3])]
   clear HF
   go_wp2_with (first | (go_at_call 35;refine(bJ _ _ _ _).mono ?_;rintro e w' ⟨rfl,hw⟩;obtain rfl:=hw.symm) | (go_at_call 68;refine(eu _ _ _ xs _ _ _ hI2).mono ?_;rintro e w' ⟨rfl,hw⟩;obtain rfl:=hw.symm))
   go_ret
   exact⟨by rw[HV.out];rfl,hR2⟩
  cases i4:hasB xs m.gr m.fr
  ·have HV:Hid (iN ah xs m=5):=by unfold Hid;rw[HF.out,if_neg (by simp[i1,i2,i3]),if_pos i4]
   clear HF
   go_wp2_with (first | (go_at_call 35;refine(bJ _ _ _ _).mono ?_;rintro e w' ⟨rfl,hw⟩;obtain rfl:=hw.symm) | (go_at_call 68;refine(eu _ _ _ xs _ _ _ hI2).mono ?_;rintro e w' ⟨rfl,hw⟩;obtain rfl:=hw.symm))
   go_ret
   exact⟨by rw[HV.out];rfl,hR2⟩
  have HG:Hid (iN ah xs m=if vV m then 1 else 0):=by unfold Hid;rw[HF.out,if_neg (by simp[i1,i2,i3]),if_neg (by simp[i4])]
  clear HF;by_cases i5:8 < (m.body.size:Int)
  ·have HV:Hid (iN ah xs m=1):=by unfold Hid;rw[HG.out,if_pos (by simp[vV];left;omega)]
   clear HG
   go_wp2_with (first | (go_at_call 35;refine(bJ _ _ _ _).mono ?_;rintro e w' ⟨rfl,hw⟩;obtain rfl:=hw.symm) | (go_at_call 68;refine(eu _ _ _ xs _ _ _ hI2).mono ?_;rintro e w' ⟨rfl,hw⟩;obtain rfl:=hw.symm))
   go_ret
   exact⟨by rw[HV.out];rfl,hR2⟩
  have i5':decide (8 < (m.body.size:Int))=false:=by simpa using i5
  cases i6:m.nul
  ·have HV:Hid (iN ah xs m=0):=by unfold Hid;rw[HG.out,if_neg (by simp[vV,i6];omega)]
   clear HG;rw[i6]at f3
   go_wp2_with (first | (go_at_call 35;refine(bJ _ _ _ _).mono ?_;rintro e w' ⟨rfl,hw⟩;obtain rfl:=hw.symm) | (go_at_call 68;refine(eu _ _ _ xs _ _ _ hI2).mono ?_;rintro e w' ⟨rfl,hw⟩;obtain rfl:=hw.symm))
   go_ret
   exact⟨by rw[HV.out];rfl,hR2⟩
  rw[i6]at f3;cases i7:(m.body.toList.isEmpty)
  ·have HV:Hid (iN ah xs m=1):=by unfold Hid;rw[HG.out,if_pos (by have:=KP i7;simp[vV,i6,this])]
   clear HG
   go_wp2_with (first | (go_at_call 35;refine(bJ _ _ _ _).mono ?_;rintro e w' ⟨rfl,hw⟩;obtain rfl:=hw.symm) | (go_at_call 68;refine(eu _ _ _ xs _ _ _ hI2).mono ?_;rintro e w' ⟨rfl,hw⟩;obtain rfl:=hw.symm))
   go_ret
   exact⟨by rw[HV.out];rfl,hR2⟩
  ·have HV:Hid (iN ah xs m=0):=by unfold Hid;rw[HG.out,if_neg (by have:=size_eq i7;simp[vV,this])]
   clear HG
   go_wp2_with (first | (go_at_call 35;refine(bJ _ _ _ _).mono ?_;rintro e w' ⟨rfl,hw⟩;obtain rfl:=hw.symm) | (go_at_call 68;refine(eu _ _ _ xs _ _ _ hI2).mono ?_;rintro e w' ⟨rfl,hw⟩;obtain rfl:=hw.symm))
   go_ret
   exact⟨by rw[HV.out];rfl,hR2⟩
 ·have HF:Hid (iN ah xs m=c):=by unfold Hid iN;rw[hce,if_pos (by simpa using hc)]
  clear hce
  go_enter func148,ntmps148
  go_wp2_with fail
  refine(xM w1 _ _ _ _ _ _ (hI.ay hS1) (ak.refl w1)).mono ?_;rw[HC.out];rintro e w2 ⟨rfl,hS2⟩
  go_wp2
  go_ret
  exact⟨by rw[HF.out];rfl,hS1.trans hS2⟩
end Go.Proofs.YtediempflagfkaaGreatDoor
