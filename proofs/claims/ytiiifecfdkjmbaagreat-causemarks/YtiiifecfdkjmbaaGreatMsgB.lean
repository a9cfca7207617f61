/- Lemmas. Lemmas. Lemmas. -/
import Derived.Test.YtiiifecfdkjmbaaGreatIter
import Derived.Deep.RegionWith
import Derived.Deep.RegionHeld3
namespace Go.Proofs.YtiiifecfdkjmbaaGreat
open _root_.Go.Proofs.Tryz hiding checked
set_option maxRecDepth 8000
open Go.RowKit Go.Shelf
theorem Ints.below {w W:World} {a:Option Addr} {len:Nat} {xs:List Int} (h:Ints w a len xs) (hb:Below w.heap.size w W):Ints W a len xs:=by
 refine ⟨h.hlen,h.hmax,fun hp=>?_⟩;obtain ⟨b,off,e,hbl,hc⟩:=h.cells hp;exact ⟨b,off,e,by have:=hb.size;omega,fun i hi'=>(hb.cell (p:=⟨b,off+i,none⟩) hbl).trans (hc i hi')⟩
theorem yP {W:World} {base:Nat} {v:Value} {l:List Nat} (h:W.ownsRow base 3 1 v l.length (nums l)) (hl:l.length<=17592186043904):∃ a cap,v=.slice a l.length cap/\Ints W a l.length (l.map fun g:Nat=>(g:Int)):=by
 rcases h.2 with ⟨rfl,h0⟩ | ⟨g,cap,cur,rfl,h1,h2,h3,h4,h5,h6⟩
 ·have:l=[]:=zQ6 h0;subst this;exact ⟨none,0,rfl,rfl,by simp,fun hp=>absurd hp (by simp)⟩
 ·refine ⟨_,cap,rfl,by simp,hl,fun hp=>⟨g,0,rfl,(zQ3.1 h2).1,fun i hi=>?_⟩⟩
  have hcur:cur[i]? = some (.int .i64 (l[i]:Nat)):=by
   have:(cur.toList.take (l.length*1))[i]? = (nums l)[i]?:=by rw [h6]
   rw [List.getElem?_take,if_pos (by omega)] at this;simp [nums,hi] at this;simpa using this
  simp [World.cell?,h2,hcur,hi]
theorem E8 (xs:List Int) (n:Int) (k:Nat) (hk:k < xs.length):hasB xs k n=!([n].any (lq (xs[k]?.getD 0))):=by
 simp [hasB,lq,hk]
theorem below_drewN {B:Nat} {a w:World} (h:Below B a w) (k:Nat):Below B a (w.drewN k) :=
 ⟨h.os,h.tape,h.output,h.size,h.block⟩
structure Since (w0 w:World):Prop where
 below:Below w0.heap.size w0 w
theorem Since.refl (w:World):Since w w:=⟨Below.refl _ _⟩
theorem Since.size {w0 w:World} (h:Since w0 w):w0.heap.size<=w.heap.size:=h.below.size
theorem Since.step {w0 w w':World} (h:Since w0 w) (k:Below w.heap.size w w'):Since w0 w':=⟨h.below.trans (k.mono h.size)⟩
theorem Ints.since {w w':World} {a:Option Addr} {len:Nat} {xs:List Int} (h:Ints w a len xs) (k:Since w w'):Ints w' a len xs:=h.below k.below
theorem MJ (w0 w:World) (h:Since w0 w) :
  Calls prog 125 #[] w fun e w'=>∃ b cap,e=.returned (.slice (some ⟨b,0,none⟩) 2 cap)/\Ints w' (some ⟨b,0,none⟩) 2 [3,6]/\Since w0 w':=by
 go_enter func125,ntmps125
 go_wp2
 go_ret
 refine ⟨_,_,rfl,⟨rfl,by omega,fun _=>⟨_,_,rfl,by simp,fun i hi=>?_⟩⟩,h.step ((Below.refl _ _).alloc (Nat.le_refl _) _)⟩
 rcases (show i=0\/i=1 by omega) with rfl | rfl <;> simp [go_sem]
theorem JI (w0 w:World) (nodes:Int) (a:Option Addr) (len cap:Nat) (xs:List Int) (hI:Ints w a len xs) (h:Since w0 w) :
  Calls prog 158 #[.int .i64 nodes,.slice a len cap] w fun e w'=>e=.returned (.int .i64 (dF nodes xs))/\Since w0 w' :=
 (uj nodes a len cap xs w hI).mono fun e w' ⟨he,hw⟩=>⟨he,by rw [hw];exact h.step ((Below.refl _ _).alloc (Nat.le_refl _) _)⟩
theorem qL (w0 w:World) (nodes:Int) (a:Option Addr) (len cap:Nat) (xs:List Int) (hI:Ints w a len xs) (h:Since w0 w) :
  Calls prog 69 #[.int .i64 nodes,.slice a len cap] w fun e w'=>e=.returned (.int .i64 (dF nodes xs))/\Since w0 w' :=
 (KD nodes a len cap xs w hI).mono fun e w' ⟨he,k,hw⟩=>⟨he,by rw [hw];exact h.step (below_drewN (Below.refl _ _) k)⟩
def KE (xs ns:List Int):List Int:=(hits xs ns xs.length).map fun g:Nat=>(g:Int)
theorem MK {w:World} {a:Option Addr} {len:Nat} {xs:List Int} (hI:Ints w a len xs) (ns:List Int):(hits xs ns len).length<=17592186043904:=by
 have:=Dr xs ns len;have:=hI.hmax;omega
theorem E9 {w:World}:Ints w none 0 []:=⟨rfl,by omega,fun h=>absurd h (by omega)⟩
theorem Since.alloc {w0 w:World} (h:Since w0 w) (o:Obj):Since w0 (w.alloc o):=h.step ((Below.refl _ _).alloc (Nat.le_refl _) _)
theorem ay {w w1:World} {o:Obj} (h:w.alloc o=w1):Since w w1:=by rw [<-h];exact (Since.refl w).alloc _
structure Mg where
 fr:Int
 gr:Int
 st:Int
 nul:Bool
 body:ByteArray
def Mg.cells (m:Mg):List Value:=[.int .i64 m.fr,.int .i64 m.gr,.int .i64 m.st,.bool m.nul,.string m.body]
def lessM (a b:Mg):Bool:=decide (a.st < b.st) || (decide (a.st=b.st) && decide (a.fr < b.fr))
theorem M8 (a b:Mg) (w:World) :
  Calls prog 170 #[.agg #[.int .i64 a.fr,.int .i64 a.gr,.int .i64 a.st,.bool a.nul,.string a.body],.agg #[.int .i64 b.fr,.int .i64 b.gr,.int .i64 b.st,.bool b.nul,.string b.body]] w fun e w' =>
   e=.returned (.bool (lessM a b))/\w'=(w.alloc (.cells #[.int .i64 a.fr,.int .i64 a.gr,.int .i64 a.st,.bool a.nul,.string a.body] 42)).alloc (.cells #[.int .i64 b.fr,.int .i64 b.gr,.int .i64 b.st,.bool b.nul,.string b.body] 42):=by
 obtain ⟨af,ag,ast,an,ab⟩:=a;obtain ⟨bf,bg,bst,bn,bb⟩:=b;dsimp only;by_cases h:ast=bst
 ·have hb:(ast != bst)=false:=by simp [h]
  have HF:Hid (lessM ⟨af,ag,ast,an,ab⟩ ⟨bf,bg,bst,bn,bb⟩=decide (af < bf)):=by simp [lessM,h,Hid]
  clear h
  go_enter func170,ntmps170
  go_wp2
  go_ret
  exact ⟨by rw [HF.out];rfl,rfl⟩
 ·have hb:(ast != bst)=true:=by simp [h]
  have HF:Hid (lessM ⟨af,ag,ast,an,ab⟩ ⟨bf,bg,bst,bn,bb⟩=decide (ast < bst)):=by simp [lessM,h,Hid]
  clear h
  go_enter func170,ntmps170
  go_wp2
  go_ret
  exact ⟨by rw [HF.out];rfl,rfl⟩
theorem Iw (a b:Mg) (w:World) :
  Calls prog 124 #[.agg #[.int .i64 a.fr,.int .i64 a.gr,.int .i64 a.st,.bool a.nul,.string a.body],.agg #[.int .i64 b.fr,.int .i64 b.gr,.int .i64 b.st,.bool b.nul,.string b.body]] w fun e w' =>
   e=.returned (.bool (lessM a b))/\w'=(w.alloc (.cells #[.int .i64 a.fr,.int .i64 a.gr,.int .i64 a.st,.bool a.nul,.string a.body] 42)).alloc (.cells #[.int .i64 b.fr,.int .i64 b.gr,.int .i64 b.st,.bool b.nul,.string b.body] 42):=by
 obtain ⟨af,ag,ast,an,ab⟩:=a;obtain ⟨bf,bg,bst,bn,bb⟩:=b;dsimp only;by_cases h:ast < bst
 ·have HF:Hid (lessM ⟨af,ag,ast,an,ab⟩ ⟨bf,bg,bst,bn,bb⟩=true):=by simp [lessM,h,Hid]
  go_enter func124,ntmps124
  go_wp2
  go_ret
  exact ⟨by rw [HF.out];rfl,rfl⟩
 ·have hd:decide (ast < bst)=false:=by simpa using h
  by_cases h2:ast=bst
  ·have hb:(ast == bst)=true:=by simp [h2]
   have HF:Hid (lessM ⟨af,ag,ast,an,ab⟩ ⟨bf,bg,bst,bn,bb⟩=decide (af < bf)):=by simp [lessM,h2,Hid]
   clear h2
   go_enter func124,ntmps124
   go_wp2
   go_ret
   exact ⟨by rw [HF.out];rfl,rfl⟩
  ·have hb:(ast == bst)=false:=by simp [h2]
   have HF:Hid (lessM ⟨af,ag,ast,an,ab⟩ ⟨bf,bg,bst,bn,bb⟩=false):=by simp [lessM,h2,Hid,h]
   clear h2
   go_enter func124,ntmps124
   go_wp2
   go_ret
   exact ⟨by rw [HF.out];rfl,rfl⟩
structure Later (w0:World) where
 w:World
 h:Since w0 w
theorem Later.cell {w0:World} (x:Later w0) {b o:Nat} (h:b < w0.heap.size):x.w.cell? ⟨b,o,none⟩=w0.cell? ⟨b,o,none⟩:=x.h.below.cell (p:=⟨b,o,none⟩) h
theorem Since.drew {w0 w:World} (h:Since w0 w):Since w0 { w with drawn:=w.drawn+1 }:=h.step (Below.refl _ _).drew
theorem aQ {w w1:World} (h:w.drew=w1):Since w w1:=by rw [<-h];exact Since.drew (Since.refl _)
theorem Since.trans {a b c:World} (h:Since a b) (k:Since b c):Since a c:=h.step k.below
theorem av {P:Program} {id:Nat} {Q:Exit->Act->World->Prop} {a:Act} {w0 w:World} {l:List Oper} (hm:P.follows .mixedOrders=true) (hB:Region.lexB .any l.toArray=true) (hS:Since w0 w)
  (h:wpQuiet P l.toArray (fun w1=>∃ x:Later w0,w1=x.w) (fun a'=>∀ w',Since w0 w'->Q .normal a' w') l a):(Code.region id l.toArray true).wp P Q a w :=
 wp_region_quiet (C:=fun w1=>∃ x:Later w0,w1=x.w) hm hB ⟨⟨_,hS.drew⟩,rfl⟩ (by
  have e:(fun a'=>∀ w',(∃ x:Later w0,w'=x.w)->Q .normal a' w')=fun a'=>∀ w',Since w0 w'->Q .normal a' w':=by
   funext a'
   exact propext ⟨fun h w' hw=>h w' ⟨⟨w',hw⟩,rfl⟩,fun h w' ⟨x,hx⟩=>h w' (hx ▸ x.h)⟩
  rw [e];simpa using h)
theorem Later.call {P:Program} {f:FuncId} {args:Array Value} {w0:World} {x:Later w0} {v:Value} (h:∀ w,Since w0 w->Calls P f args w fun e w'=>e=.returned v/\Since w0 w') :
  Calls P f args x.w fun e w''=>e=.returned v/\∃ y:Later w0,w''=y.w :=
 (h x.w x.h).mono fun _ w' ⟨he,hw⟩=>⟨he,⟨w',hw⟩,rfl⟩
structure bF (w:World) (b o:Nat) (m:Mg):Prop where
 c0:w.cell? ⟨b,o,none⟩=some (.int .i64 m.fr)
 c1:w.cell? ⟨b,o+1,none⟩=some (.int .i64 m.gr)
 c2:w.cell? ⟨b,o+2,none⟩=some (.int .i64 m.st)
 c3:w.cell? ⟨b,o+3,none⟩=some (.bool m.nul)
 c4:w.cell? ⟨b,o+4,none⟩=some (.string m.body)
def flat (ms:List Mg):List Value:=ms.flatMap Mg.cells
theorem bU:∀ ms:List Mg,(flat ms).length=ms.length*5
 | []=>rfl
 | m::ms=>by
  have:=bU ms;simp only [flat,List.flatMap_cons,List.length_append] at this ⊢;simp [Mg.cells,this];omega
theorem flat_get:∀ (ms:List Mg) (i r:Nat) (m:Mg),ms[i]? = some m->r < 5->(flat ms)[i*5+r]? = m.cells[r]?
 | [],i,r,m,h,_=>by simp at h
 | x::ms,0,r,m,h,hr=>by
  simp at h;subst h;simp only [flat,List.flatMap_cons];rw [List.getElem?_append_left (by simp [Mg.cells];omega)];simp
 | x::ms,i+1,r,m,h,hr=>by
  have:=flat_get ms i r m (by simpa using h) hr;simp only [flat,List.flatMap_cons] at this ⊢;rw [List.getElem?_append_right (by simp [Mg.cells];omega)];rw [<-this]
  congr 1
  simp [Mg.cells];omega
theorem fG (xs ys:List Mg):flat (xs++ys)=flat xs++flat ys:=by simp [flat]
theorem dG (u:Value) (ms:List Mg) (h:u∈flat ms):u.oneCell'=true:=by
 simp only [flat,List.mem_flatMap] at h;obtain ⟨m,_,hm⟩:=h;simp [Mg.cells] at hm
 rcases hm with rfl | rfl | rfl | rfl | rfl <;> rfl
structure fA (w:World) (a:Option Addr) (len:Nat) (ms:List Mg):Prop where
 hlen:ms.length=len
 hmax:len<=2932031007320
 cells:0 < len->∃ b off,a=some ⟨b,off,none⟩/\b < w.heap.size/\∀ j u,(flat ms)[j]? = some u->w.cell? ⟨b,off+j,none⟩=some u
theorem bP {w:World} {b off:Nat} {ms:List Mg} (h:∀ j u,(flat ms)[j]? = some u->w.cell? ⟨b,off+j,none⟩=some u) (i:Nat) (m:Mg) (hm:ms[i]? = some m):bF w b (off+i*5) m:=by
 have g:=fun r hr=>flat_get ms i r m hm hr;refine ⟨?_, ?_, ?_, ?_, ?_⟩
 ·exact h (i*5) _ (by rw [<-Nat.add_zero (i*5),g 0 (by omega)];rfl)
 all_goals rw [Nat.add_assoc]
 ·exact h _ _ (by rw [g 1 (by omega)];rfl)
 ·exact h _ _ (by rw [g 2 (by omega)];rfl)
 ·exact h _ _ (by rw [g 3 (by omega)];rfl)
 ·exact h _ _ (by rw [g 4 (by omega)];rfl)
theorem fA.since {w W:World} {a:Option Addr} {len:Nat} {ms:List Mg} (h:fA w a len ms) (k:Since w W):fA W a len ms:=by
 refine ⟨h.hlen,h.hmax,fun hp=>?_⟩;obtain ⟨b,off,e,hb,hc⟩:=h.cells hp;exact ⟨b,off,e,by have:=k.size;omega,fun j u hj=>(k.below.cell (p:=⟨b,off+j,none⟩) hb).trans (hc j u hj)⟩
theorem eY {w:World} {a:Option Addr}:fA w a 0 []:=⟨rfl,by omega,fun h=>absurd h (by omega)⟩
theorem FE {W:World} {base:Nat} {v:Value} {ms:List Mg} (h:W.ownsRow base 42 5 v ms.length (flat ms)) (hl:ms.length<=2932031007320):∃ a cap,v=.slice a ms.length cap/\fA W a ms.length ms:=by
 rcases h.2 with ⟨rfl,h0⟩ | ⟨g,cap,cur,rfl,h1,h2,h3,h4,h5,h6⟩
 ·have:ms=[]:=zQ6 h0;subst this;exact ⟨none,0,rfl,eY⟩
 ·refine ⟨_,cap,rfl,rfl,hl,fun hp=>⟨g,0,rfl,(zQ3.1 h2).1,fun j u hj=>?_⟩⟩;have hjl:=(zQ2.1 hj).1;rw [bU] at hjl
  have hcur:cur[j]? = some u:=by
   have e:(cur.toList.take (ms.length*5))[j]? = (flat ms)[j]?:=by rw [h6]
   rw [List.getElem?_take,if_pos hjl,hj] at e;simpa using e
  simp [World.cell?,h2,hcur]
theorem qQ (w0:World) (a b:Mg) (v:Bool) (hv:lessM a b=v) (w:World) (h:Since w0 w) :
  Calls prog 170 #[.agg #[.int .i64 a.fr,.int .i64 a.gr,.int .i64 a.st,.bool a.nul,.string a.body],.agg #[.int .i64 b.fr,.int .i64 b.gr,.int .i64 b.st,.bool b.nul,.string b.body]] w fun e w' =>
   e=.returned (.bool v)/\Since w0 w' :=
 (M8 a b w).mono fun e w' ⟨he,hw⟩=>⟨by rw [<-hv];exact he,by rw [hw];exact (h.alloc _).alloc _⟩
theorem qx (w0:World) (a b:Mg) (v:Bool) (hv:lessM a b=v) (w:World) (h:Since w0 w) :
  Calls prog 124 #[.agg #[.int .i64 a.fr,.int .i64 a.gr,.int .i64 a.st,.bool a.nul,.string a.body],.agg #[.int .i64 b.fr,.int .i64 b.gr,.int .i64 b.st,.bool b.nul,.string b.body]] w fun e w' =>
   e=.returned (.bool v)/\Since w0 w' :=
 (Iw a b w).mono fun e w' ⟨he,hw⟩=>⟨by rw [<-hv];exact he,by rw [hw];exact (h.alloc _).alloc _⟩
def aP:List Mg->Bool
 | []=>true
 | [_]=>true
 | a::b::r=>lessM a b && aP (b::r)
theorem kM:∀ (ms:List Mg),aP ms=true↔∀ i a b,ms[i]? = some a->ms[i+1]? = some b->lessM a b=true
 | []=>by simp [aP]
 | [x]=>by
  refine ⟨fun _ i a b _ h2=>?_,fun _=>rfl⟩;simp at h2
 | x::y::r=>by
  rw [aP,Bool.and_eq_true,kM (y::r)];constructor
  ·rintro ⟨h1,h2⟩ i a b ha hb
   cases i with
   | zero=>simp at ha hb;subst ha hb;exact h1
   | succ i=>exact h2 i a b (by simpa using ha) (by simpa using hb)
  ·intro h;exact ⟨h 0 x y rfl rfl,fun i a b ha hb=>h (i+1) a b (by simpa using ha) (by simpa using hb)⟩
theorem nD (a:Option Addr) (len cap:Nat) (ms:List Mg) (w:World) (hM:fA w a len ms) :
  Calls prog 216 #[.slice a len cap] w fun e w'=>e=.returned (.bool (aP ms))/\Since w w':=by
 obtain ⟨rfl,hmax,hc⟩:=hM
 go_enter func216,ntmps216
 go_wp2
 go_loopw [3] (fun i wr=>(∃ k:Nat,1<=k/\i=.int .i64 k/\∀ i a b,i+1 < k->ms[i]? = some a->ms[i+1]? = some b->lessM a b=true)/\Since w wr) (fun i _=>ms.length - (intOf i).toNat)
 case atStart=>exact ⟨⟨1,by omega,rfl,fun i a b h=>by omega⟩,Since.refl _⟩
 case round =>
  obtain ⟨⟨k,hk,rfl,hr⟩,hS⟩:=hrel;have HR:Hid (∀ i a b,i+1 < k->ms[i]? = some a->ms[i+1]? = some b->lessM a b=true):=hr;clear hr;by_cases hlt:k < ms.length
  ·obtain ⟨k',hk0,hk1,hlt'⟩:∃ k':Nat,k=k'+1/\(k:Int) - 1=(k':Int)/\k' < ms.length:=⟨k - 1,by omega,by omega,by omega⟩;have HK:Hid (k=k'+1):=hk0;have hwk:IntKind.i64.wrap (k':Int)=(k':Int):=IntWalk.i64_in _ (by omega);obtain ⟨b,off,rfl,hb,hcell⟩:=hc (by omega);obtain ⟨m,hm⟩:∃ m,ms[k]? = some m:=⟨_,zQ1 hlt⟩;obtain ⟨m',hm'⟩:∃ m',ms[k']? = some m':=⟨_,zQ1 hlt'⟩;obtain ⟨d0,d1,d2,d3,d4⟩:=bP hcell k m hm;obtain ⟨e0,e1,e2,e3,e4⟩:=bP hcell k' m' hm';have hne:Nonempty (Later w):=⟨⟨w,Since.refl w⟩⟩;have hg:∀ (x:Later w) (o:Nat),x.w.cell? ⟨b,o,none⟩=w.cell? ⟨b,o,none⟩:=fun x o=>x.cell hb;have HM:Hid (ms[k]? = some m):=hm;have HM':Hid (ms[k']? = some m'):=hm';clear hm hm' hcell hc hk0;cases hl:lessM m' m
   ·have HF:Hid (aP ms=false):=by
     unfold Hid;rw [<-Bool.not_eq_true,kM];intro h;have:=h k' m' m HM'.out (by rw [<-HK.out];exact HM.out);rw [hl] at this;cases this
    go_wp2_with fail
    refine av (by kernel_rfl) (by kernel_rfl) hS ?_
    repeat (go_big_quiet_step ((go_at_call 170;exact Later.call (qQ w m' m _ hl))))
    refine wpQuiet_nil ?_;intro w9 hS9
    go_wp2
    go_ret
    exact ⟨by rw [HF.out];rfl,hS9⟩
   ·have HF:Hid (∀ i a b,i+1 < k+1->ms[i]? = some a->ms[i+1]? = some b->lessM a b=true):=by
     intro i a b hi ha hb;by_cases h:i+1 < k
     ·exact HR.out i a b h ha hb
     ·have e:i=k':=by have:=HK.out;omega
      subst e;have h1:=HM'.out;have h2:=HM.out;rw [HK.out] at h2;rw [h1] at ha;rw [h2] at hb;cases ha;cases hb;exact hl
    go_wp2_with fail
    refine av (by kernel_rfl) (by kernel_rfl) hS ?_
    repeat (go_big_quiet_step ((go_at_call 170;exact Later.call (qQ w m' m _ hl))))
    refine wpQuiet_nil ?_;intro w9 hS9
    go_wp2
    go_roundw
    case rel=>exact ⟨⟨k+1,by omega,by go_num,HF.out⟩,hS9⟩
    case measure=>simp [intOf];omega
  ·have HF:Hid (aP ms=true):=by
    unfold Hid;rw [kM];intro i a b ha hb;refine HR.out i a b ?_ ha hb;have:=(zQ2.1 hb).1;omega
   clear hc
   go_wp2
   go_ret
   exact ⟨by rw [HF.out];rfl,hS⟩
theorem iG (a:Option Addr) (len cap:Nat) (ms:List Mg) (w:World) (hM:fA w a len ms) :
  Calls prog 154 #[.slice a len cap] w fun e w'=>e=.returned (.bool (aP ms))/\Since w w':=by
 obtain ⟨rfl,hmax,hc⟩:=hM
 go_enter func154,ntmps154
 go_wp2
 go_loopw [3] (fun i wr=>(∃ k:Nat,1<=k/\i=.int .i64 k/\∀ i a b,i+1 < k->ms[i]? = some a->ms[i+1]? = some b->lessM a b=true)/\Since w wr) (fun i _=>ms.length - (intOf i).toNat)
 case atStart=>exact ⟨⟨1,by omega,rfl,fun i a b h=>by omega⟩,Since.refl _⟩
 case round =>
  obtain ⟨⟨k,hk,rfl,hr⟩,hS⟩:=hrel;have HR:Hid (∀ i a b,i+1 < k->ms[i]? = some a->ms[i+1]? = some b->lessM a b=true):=hr;clear hr;by_cases hlt:k < ms.length
  ·obtain ⟨k',hk0,hk1,hlt'⟩:∃ k':Nat,k=k'+1/\(k:Int) - 1=(k':Int)/\k' < ms.length:=⟨k - 1,by omega,by omega,by omega⟩;have HK:Hid (k=k'+1):=hk0;have hwk:IntKind.i64.wrap (k':Int)=(k':Int):=IntWalk.i64_in _ (by omega);obtain ⟨b,off,rfl,hb,hcell⟩:=hc (by omega);obtain ⟨m,hm⟩:∃ m,ms[k]? = some m:=⟨_,zQ1 hlt⟩;obtain ⟨m',hm'⟩:∃ m',ms[k']? = some m':=⟨_,zQ1 hlt'⟩;obtain ⟨d0,d1,d2,d3,d4⟩:=bP hcell k m hm;obtain ⟨e0,e1,e2,e3,e4⟩:=bP hcell k' m' hm';have hne:Nonempty (Later w):=⟨⟨w,Since.refl w⟩⟩;have hg:∀ (x:Later w) (o:Nat),x.w.cell? ⟨b,o,none⟩=w.cell? ⟨b,o,none⟩:=fun x o=>x.cell hb;have HM:Hid (ms[k]? = some m):=hm;have HM':Hid (ms[k']? = some m'):=hm';clear hm hm' hcell hc hk0;cases hl:lessM m' m
   ·have HF:Hid (aP ms=false):=by
     unfold Hid;rw [<-Bool.not_eq_true,kM];intro h;have:=h k' m' m HM'.out (by rw [<-HK.out];exact HM.out);rw [hl] at this;cases this
    go_wp2_with fail
    refine av (by kernel_rfl) (by kernel_rfl) hS ?_
    repeat (go_big_quiet_step ((go_at_call 124;exact Later.call (qx w m' m _ hl))))
    refine wpQuiet_nil ?_;intro w9 hS9
    go_wp2
    go_ret
    exact ⟨by rw [HF.out];rfl,hS9⟩
   ·have HF:Hid (∀ i a b,i+1 < k+1->ms[i]? = some a->ms[i+1]? = some b->lessM a b=true):=by
     intro i a b hi ha hb;by_cases h:i+1 < k
     ·exact HR.out i a b h ha hb
     ·have e:i=k':=by have:=HK.out;omega
      subst e;have h1:=HM'.out;have h2:=HM.out;rw [HK.out] at h2;rw [h1] at ha;rw [h2] at hb;cases ha;cases hb;exact hl
    go_wp2_with fail
    refine av (by kernel_rfl) (by kernel_rfl) hS ?_
    repeat (go_big_quiet_step ((go_at_call 124;exact Later.call (qx w m' m _ hl))))
    refine wpQuiet_nil ?_;intro w9 hS9
    go_wp2
    go_roundw
    case rel=>exact ⟨⟨k+1,by omega,by go_num,HF.out⟩,hS9⟩
    case measure=>simp [intOf];omega
  ·have HF:Hid (aP ms=true):=by
    unfold Hid;rw [kM];intro i a b ha hb;refine HR.out i a b ?_ ha hb;have:=(zQ2.1 hb).1;omega
   clear hc
   go_wp2
   go_ret
   exact ⟨by rw [HF.out];rfl,hS⟩
def dB (m:Mg):List Mg->Nat
 | []=>0
 | x::r=>if lessM x m then dB m r+1 else 0
theorem lW (m:Mg):∀ ms,dB m ms<=ms.length
 | []=>Nat.le_refl _
 | x::r=>by
  have:=lW m r;unfold dB
  split <;> simp <;> omega
theorem vC (m:Mg):∀ (ms:List Mg) (k:Nat) (x:Mg),k<=dB m ms->ms[k]? = some x->lessM x m=true->k+1<=dB m ms
 | [],k,x,_,h,_=>by simp at h
 | y::r,0,x,_,h,hl=>by simp at h;subst h;simp [dB,hl]
 | y::r,k+1,x,hk,h,hl=>by
  unfold dB at hk ⊢;split at hk
  ·rename_i hy;rw [if_pos hy];have:=vC m r k x (by omega) (by simpa using h) hl;omega
  ·omega
theorem yg (m:Mg):∀ (ms:List Mg) (k:Nat) (x:Mg),k<=dB m ms->ms[k]? = some x->lessM x m=false->dB m ms=k
 | [],k,x,_,h,_=>by simp at h
 | y::r,0,x,_,h,hl=>by simp at h;subst h;simp [dB,hl]
 | y::r,k+1,x,hk,h,hl=>by
  unfold dB at hk ⊢;split at hk
  ·rename_i hy;rw [if_pos hy];have:=yg m r k x (by omega) (by simpa using h) hl;omega
  ·omega
theorem uo (a:Option Addr) (len cap:Nat) (ms:List Mg) (m:Mg) (w:World) (hM:fA w a len ms) :
  Calls prog 217 #[.slice a len cap,.agg #[.int .i64 m.fr,.int .i64 m.gr,.int .i64 m.st,.bool m.nul,.string m.body]] w fun e w'=>e=.returned (.int .i64 (dB m ms))/\Since w w':=by
 obtain ⟨rfl,hmax,hc⟩:=hM;obtain ⟨w1,hw1⟩:∃ w1,w.alloc (.cells #[.int .i64 m.fr,.int .i64 m.gr,.int .i64 m.st,.bool m.nul,.string m.body] 42)=w1:=⟨_,rfl⟩;have hS1:=ay hw1;have hsz:w1.heap.size=w.heap.size+1:=by rw [<-hw1];simp
 have hB:bF w1 w.heap.size 0 m:=by rw [<-hw1];constructor <;> simp [go_sem]
 go_enter func217,ntmps217
 go_wp2
 clear hw1
 go_loopw [5] (fun i wr=>(∃ k:Nat,k<=dB m ms/\i=.int .i64 k)/\Since w1 wr) (fun i _=>ms.length - (intOf i).toNat)
 case atStart=>exact ⟨⟨0,by omega,rfl⟩,Since.refl _⟩
 case round =>
  obtain ⟨⟨k,hk,rfl⟩,hS⟩:=hrel;have HK:Hid (k<=dB m ms):=hk;have hkl:k<=ms.length:=zQ5 hk (lW m ms);have hne:Nonempty (Later w1):=⟨⟨w1,Since.refl w1⟩⟩;clear hk;by_cases hlt:k < ms.length
  ·obtain ⟨b,off,rfl,hb,hcell⟩:=hc (by omega);obtain ⟨x,hx⟩:∃ x,ms[k]? = some x:=⟨_,zQ1 hlt⟩;obtain ⟨d0,d1,d2,d3,d4⟩:=bP hcell k x hx;obtain ⟨e0,e1,e2,e3,e4⟩:=hB;have hg:∀ (x:Later w1) (o:Nat),x.w.cell? ⟨b,o,none⟩=w.cell? ⟨b,o,none⟩:=fun x o=>(x.cell (by omega)).trans (hS1.below.cell (p:=⟨b,o,none⟩) hb);have hg2:∀ (x:Later w1) (o:Nat),x.w.cell? ⟨w.heap.size,o,none⟩=w1.cell? ⟨w.heap.size,o,none⟩:=fun x o=>x.cell (by omega);have HX:Hid (ms[k]? = some x):=hx;clear hx hcell hc;cases hl:lessM x m
   ·have HF:Hid (dB m ms=k):=yg m ms k x HK.out HX.out hl
    go_wp2_with fail
    refine av (by kernel_rfl) (by kernel_rfl) hS ?_
    repeat (go_big_quiet_step ((go_at_call 170;exact Later.call (qQ w1 x m _ hl))))
    refine wpQuiet_nil ?_;intro w9 hS9
    go_wp2
    go_ret
    exact ⟨by rw [HF.out];rfl,hS1.trans hS9⟩
   ·have HF:Hid (k+1<=dB m ms):=vC m ms k x HK.out HX.out hl
    go_wp2_with fail
    refine av (by kernel_rfl) (by kernel_rfl) hS ?_
    repeat (go_big_quiet_step ((go_at_call 170;exact Later.call (qQ w1 x m _ hl))))
    refine wpQuiet_nil ?_;intro w9 hS9
    go_wp2
    go_roundw
    case rel=>exact ⟨⟨k+1,HF.out,by go_num⟩,hS9⟩
    case measure=>simp [intOf];omega
  ·have HF:Hid (dB m ms=k):=by have:=lW m ms;have:=HK.out;unfold Hid;omega
   have hd:decide ((k:Int) < (ms.length:Int))=false:=by simpa using hlt
   have hd':decide (k < ms.length)=false:=by simpa using hlt
   clear hc
   go_wp2_with fail
   refine av (by kernel_rfl) (by kernel_rfl) hS ?_
   repeat (go_big_quiet_step (fail))
   refine wpQuiet_nil ?_;intro w9 hS9
   go_wp2
   go_ret
   exact ⟨by rw [HF.out];rfl,hS1.trans hS9⟩
end Go.Proofs.YtiiifecfdkjmbaaGreat
set_option maxHeartbeats 1000000
namespace Go.Proofs.YtiiifecfdkjmbaaGreat
open _root_.Go.Proofs.Tryz hiding checked
set_option maxRecDepth 8000
open Go.RowKit Go.Shelf
def eU (a b:Mg):Bool:=a.fr == b.fr && (a.gr == b.gr && (a.st == b.st && (a.nul == b.nul && a.body == b.body)))
theorem dV (a b:Mg):eU a b=true↔a=b:=by
 obtain ⟨af,ag,at1,an,ab⟩:=a;obtain ⟨bf,bg,bt,bn,bb⟩:=b;simp only [eU,Bool.and_eq_true,beq_iff_eq,Mg.mk.injEq];refine and_congr Iff.rfl (and_congr Iff.rfl (and_congr Iff.rfl (and_congr Iff.rfl ?_)));rw [beq_toListBytes,beq_iff_eq,ByteArray.toList_eq,ByteArray.toList_eq];obtain ⟨⟨x⟩⟩:=ab;obtain ⟨⟨y⟩⟩:=bb;simp
theorem yQ (a b:Mg) (v:Bool) (h:eU a b=v) (w:World):(binOp .neq 42 (.agg #[.int .i64 a.fr,.int .i64 a.gr,.int .i64 a.st,.bool a.nul,.string a.body]) (.agg #[.int .i64 b.fr,.int .i64 b.gr,.int .i64 b.st,.bool b.nul,.string b.body])).run prog w=.ok (.bool (!v)) w:=by
 subst h;obtain ⟨af,ag,at1,an,ab⟩:=a;obtain ⟨bf,bg,bt,bn,bb⟩:=b;simp only [eU]
 by_cases h1:af=bf <;> by_cases h2:ag=bg <;> by_cases h3:at1=bt <;> by_cases h4:an=bn <;> by_cases h5:ab.toList=bb.toList <;>
  simp [go_sem,underlying42,h1,h2,h3,h4,h5,beq_toListBytes]
def lU:List Mg->List Mg->Bool
 | [],[]=>true
 | a::r,b::s=>eU a b && lU r s
 | _,_=>false
theorem lV:∀ (xs ys:List Mg),lU xs ys=true↔xs=ys
 | [],[]=>by simp [lU]
 | [],b::s=>by simp [lU]
 | a::r,[]=>by simp [lU]
 | a::r,b::s=>by simp [lU,dV,lV r s]
theorem FH (xs:List Mg):lU xs xs=true:=(lV xs xs).2 rfl
theorem Dy (a:Option Addr) (len cap:Nat) (xs:List Mg) (a':Option Addr) (len' cap':Nat) (ys:List Mg) (w:World) (hI:fA w a len xs) (hJ:fA w a' len' ys) :
  Calls prog 40 #[.slice a len cap,.slice a' len' cap'] w fun e w'=>e=.returned (.bool (lU xs ys))/\Since w w':=by
 obtain ⟨rfl,hm,hc⟩:=hI;obtain ⟨rfl,hm',hc'⟩:=hJ;by_cases hne:xs.length=ys.length
 ·have hb:((xs.length:Int) != (ys.length:Int))=false:=by simp [hne]
  have HE:Hid (xs.length=ys.length):=hne;clear hne
  go_enter func40,ntmps40
  go_wp2
  go_loopw [5] (fun i wr=>(∃ k:Nat,k<=xs.length/\i=.int .i64 k/\xs.take k=ys.take k)/\Since w wr) (fun i _=>xs.length - (intOf i).toNat)
  case atStart=>exact ⟨⟨0,Nat.zero_le _,rfl,rfl⟩,Since.refl _⟩
  case round =>
   obtain ⟨⟨k,hk,rfl,hn⟩,hS⟩:=hrel;have HN:Hid (xs.take k=ys.take k):=hn;clear hn;by_cases hlt:k < xs.length
   ·have hlt':k < ys.length:=by have:=HE.out;omega
    obtain ⟨b,off,rfl,hbb,hcell⟩:=hc (by omega);obtain ⟨b',off',rfl,Vh,hcell'⟩:=hc' (by omega);obtain ⟨m,hx⟩:∃ m,xs[k]? = some m:=⟨_,zQ1 hlt⟩;obtain ⟨m',hy⟩:∃ m',ys[k]? = some m':=⟨_,zQ1 hlt'⟩;obtain ⟨d0,d1,d2,d3,d4⟩:=bP hcell k m hx;obtain ⟨e0,e1,e2,e3,e4⟩:=bP hcell' k m' hy;have hnE:Nonempty (Later w):=⟨⟨w,Since.refl w⟩⟩;have hg:∀ (x:Later w) (o:Nat),x.w.cell? ⟨b,o,none⟩=w.cell? ⟨b,o,none⟩:=fun x o=>x.cell hbb;have hg':∀ (x:Later w) (o:Nat),x.w.cell? ⟨b',o,none⟩=w.cell? ⟨b',o,none⟩:=fun x o=>x.cell Vh;have HX:Hid (xs[k]? = some m):=hx;have HY:Hid (ys[k]? = some m'):=hy;clear hcell hcell' hc hc' hx hy;cases hd:eU m m'
    ·have HS:Hid (lU xs ys=false):=by
      unfold Hid;rw [<-Bool.not_eq_true,lV];intro h;subst h;have e:=HX.out.symm.trans HY.out;cases e;rw [(dV m m).2 rfl] at hd;cases hd
     have hnm:=yQ m m' false hd
     go_wp2_with fail
     refine av (by kernel_rfl) (by kernel_rfl) hS ?_
     repeat (go_big_quiet_step (fail))
     refine wpQuiet_nil ?_;intro w9 hS9
     go_wp2
     go_ret
     exact ⟨by rw [HS.out];rfl,hS9⟩
    ·have HS:Hid (xs.take (k+1)=ys.take (k+1)):=by
      have e:m=m':=(dV m m').1 hd;unfold Hid;rw [List.take_add_one,List.take_add_one,HN.out,HX.out,HY.out,e]
     have hnm:=yQ m m' true hd
     go_wp2_with fail
     refine av (by kernel_rfl) (by kernel_rfl) hS ?_
     repeat (go_big_quiet_step (fail))
     refine wpQuiet_nil ?_;intro w9 hS9
     go_wp2
     go_roundw
     case rel=>exact ⟨⟨k+1,by omega,by go_num,HS.out⟩,hS9⟩
     case measure=>simp [intOf];omega
   ·have HS:Hid (lU xs ys=true):=by
     have e:k=xs.length:=by omega
     have h:=HN.out;have h2:=HE.out;rw [e,List.take_length,h2,List.take_length] at h;unfold Hid;rw [h];exact FH ys
    clear hc hc'
    go_wp2
    go_ret
    exact ⟨by rw [HS.out];rfl,hS⟩
 ·have hb:((xs.length:Int) != (ys.length:Int))=true:=by simp;omega
  have HS:Hid (lU xs ys=false):=by unfold Hid;rw [<-Bool.not_eq_true,lV];intro h;subst h;exact hne rfl
  clear hne hc hc'
  go_enter func40,ntmps40
  go_wp2
  go_ret
  exact ⟨by rw [HS.out];rfl,Since.refl _⟩
theorem OV (n g st:Int) (body:ByteArray) (w:World) :
  Calls prog 106 #[.int .i64 n,.int .i64 g,.int .i64 st,.string body] w fun e w'=>e=.returned (.agg #[.int .i64 n,.int .i64 g,.int .i64 st,.bool false,.string body])/\Since w w':=by
 go_enter func106,ntmps106
 go_wp2
 refine bodyPost_ret (v:=.agg #[.int .i64 n,.int .i64 g,.int .i64 st,.bool false,.string body]) (by simp [results,results106,go_sem]) rfl ?_;exact ⟨rfl,(Since.refl _).alloc _⟩
theorem iQ (x lo hi:Int) (w:World) :
  Calls prog 242 #[.int .i64 x,.int .i64 lo,.int .i64 hi] w fun e w'=>e=.returned (.bool (!inB x lo hi))/\w'=w:=by
 unfold inB;by_cases h1:x < lo
 ·go_enter func242,ntmps242
  go_wp2
  go_ret
  exact ⟨by simp;omega,rfl⟩
 ·have hd:decide (x < lo)=false:=by simpa using h1
  by_cases h2:hi < x
  ·go_enter func242,ntmps242
   go_wp2
   go_ret
   exact ⟨by simp;omega,rfl⟩
  ·have hd2:decide (hi < x)=false:=by simpa using h2
   go_enter func242,ntmps242
   go_wp2
   go_ret
   exact ⟨by simp_all,rfl⟩
def wY (m:Mg):Bool:=decide (8 < m.body.size) || (m.nul && decide (m.body.size≠0))
def iP (nodes:Int) (xs:List Int) (m:Mg):Int :=
 if dF nodes xs≠0 then dF nodes xs
 else if ¬ (inB m.fr 0 (nodes - 1)=true/\inB m.gr 0 (xs.length - 1)=true/\inB m.st 1 1048576=true) then 3
 else if hasB xs m.gr m.fr=false then 5
 else if wY m then 1 else 0
theorem qj {nodes:Int} {xs:List Int} (h:dF nodes xs=0):1<=nodes/\nodes<=4/\1<=xs.length/\xs.length<=3:=by
 unfold dF at h;split at h
 ·cases h
 ·split at h
  ·cases h
  ·omega
theorem JO {b:ByteArray} (h:b.toList.isEmpty=false):b.size≠0:=by
 intro h0;rw [ByteArray.toList_eq] at h;have:b.data.toList=[]:=zQ6 (by simpa using h0);rw [this] at h;cases h
theorem size_eq {b:ByteArray} (h:b.toList.isEmpty=true):b.size=0:=by
 rw [ByteArray.toList_eq,List.isEmpty_iff] at h;have:=congrArg List.length h;simpa using this
theorem wU (nodes:Int) (a:Option Addr) (len cap:Nat) (xs:List Int) (m:Mg) (w:World) (hI:Ints w a len xs) :
  Calls prog 222 #[.int .i64 nodes,.slice a len cap,.agg #[.int .i64 m.fr,.int .i64 m.gr,.int .i64 m.st,.bool m.nul,.string m.body]] w fun e w'=>e=.returned (.int .i64 (iP nodes xs m))/\Since w w':=by
 obtain ⟨w1,hw1⟩:∃ w1,w.alloc (.cells #[.int .i64 m.fr,.int .i64 m.gr,.int .i64 m.st,.bool m.nul,.string m.body] 42)=w1:=⟨_,rfl⟩;have hS1:=ay hw1;have hsz:w1.heap.size=w.heap.size+1:=by rw [<-hw1];simp
 have hB:bF w1 w.heap.size 0 m:=by rw [<-hw1];constructor <;> simp [go_sem]
 have hlen:=hI.hlen;subst hlen;obtain ⟨c,hce⟩:∃ c,dF nodes xs=c:=⟨_,rfl⟩;have HC:Hid (dF nodes xs=c):=hce;cases hc:(c != 0)
 ·have hc0:dF nodes xs=0:=by rw [hce];simpa using hc
  obtain ⟨n1,n2,l1,l2⟩:=qj hc0
  have HF:Hid (iP nodes xs m=if ¬ (inB m.fr 0 (nodes - 1)=true/\inB m.gr 0 (xs.length - 1)=true/\inB m.st 1 1048576=true) then 3 else if hasB xs m.gr m.fr=false then 5 else if wY m then 1 else 0):=by
   unfold Hid iP;rw [if_neg (by simp [hc0])]
  clear hce hc0
  go_enter func222,ntmps222
  go_wp2_with fail
  refine (JI w1 _ _ _ _ _ _ (hI.since hS1) (Since.refl w1)).mono ?_;rw [HC.out];rintro e w2 ⟨rfl,hS2⟩;have hI2:=hI.since (hS1.trans hS2);have hR2:=hS1.trans hS2;have hg:∀ o:Nat,w2.cell? ⟨w.heap.size,o,none⟩=w1.cell? ⟨w.heap.size,o,none⟩:=fun o=>hS2.below.cell (p:=⟨w.heap.size,o,none⟩) (by show w.heap.size < _;omega);obtain ⟨f0,f1,f2,f3,f4⟩:=hB;simp only [Nat.zero_add] at f0 f1 f2 f3 f4;rw [<-hg] at f0 f1 f2 f3 f4;clear hg hw1;cases i1:inB m.fr 0 (nodes - 1)
  ·have HV:Hid (iP nodes xs m=3):=by unfold Hid;rw [HF.out,if_pos (by simp [i1])]
   clear HF
   go_wp2_with (first | (go_at_call 242;refine (iQ _ _ _ _).mono ?_;rintro e w' ⟨rfl,hw⟩;obtain rfl:=hw.symm) | (go_at_call 50;refine (iA _ _ _ xs _ _ _ hI2).mono ?_;rintro e w' ⟨rfl,hw⟩;obtain rfl:=hw.symm))
   go_ret
   exact ⟨by rw [HV.out];rfl,hR2⟩
  cases i2:inB m.gr 0 (xs.length - 1)
  ·have HV:Hid (iP nodes xs m=3):=by unfold Hid;rw [HF.out,if_pos (by simp [i2])]
   clear HF
   go_wp2_with (first | (go_at_call 242;refine (iQ _ _ _ _).mono ?_;rintro e w' ⟨rfl,hw⟩;obtain rfl:=hw.symm) | (go_at_call 50;refine (iA _ _ _ xs _ _ _ hI2).mono ?_;rintro e w' ⟨rfl,hw⟩;obtain rfl:=hw.symm))
   go_ret
   exact ⟨by rw [HV.out];rfl,hR2⟩
  cases i3:inB m.st 1 1048576
  ·have HV:Hid (iP nodes xs m=3):=by unfold Hid;rw [HF.out,if_pos (by simp [i3])]
   clear HF
   go_wp2_with (first | (go_at_call 242;refine (iQ _ _ _ _).mono ?_;rintro e w' ⟨rfl,hw⟩;obtain rfl:=hw.symm) | (go_at_call 50;refine (iA _ _ _ xs _ _ _ hI2).mono ?_;rintro e w' ⟨rfl,hw⟩;obtain rfl:=hw.symm))
   go_ret
   exact ⟨by rw [HV.out];rfl,hR2⟩
  cases i4:hasB xs m.gr m.fr
  ·have HV:Hid (iP nodes xs m=5):=by unfold Hid;rw [HF.out,if_neg (by simp [i1,i2,i3]),if_pos i4]
   clear HF
   go_wp2_with (first | (go_at_call 242;refine (iQ _ _ _ _).mono ?_;rintro e w' ⟨rfl,hw⟩;obtain rfl:=hw.symm) | (go_at_call 50;refine (iA _ _ _ xs _ _ _ hI2).mono ?_;rintro e w' ⟨rfl,hw⟩;obtain rfl:=hw.symm))
   go_ret
   exact ⟨by rw [HV.out];rfl,hR2⟩
  have HG:Hid (iP nodes xs m=if wY m then 1 else 0):=by unfold Hid;rw [HF.out,if_neg (by simp [i1,i2,i3]),if_neg (by simp [i4])]
  clear HF;by_cases i5:8 < (m.body.size:Int)
  ·have HV:Hid (iP nodes xs m=1):=by unfold Hid;rw [HG.out,if_pos (by simp [wY];left;omega)]
   clear HG
   go_wp2_with (first | (go_at_call 242;refine (iQ _ _ _ _).mono ?_;rintro e w' ⟨rfl,hw⟩;obtain rfl:=hw.symm) | (go_at_call 50;refine (iA _ _ _ xs _ _ _ hI2).mono ?_;rintro e w' ⟨rfl,hw⟩;obtain rfl:=hw.symm))
   go_ret
   exact ⟨by rw [HV.out];rfl,hR2⟩
  have i5':decide (8 < (m.body.size:Int))=false:=by simpa using i5
  cases i6:m.nul
  ·have HV:Hid (iP nodes xs m=0):=by unfold Hid;rw [HG.out,if_neg (by simp [wY,i6];omega)]
   clear HG;rw [i6] at f3
   go_wp2_with (first | (go_at_call 242;refine (iQ _ _ _ _).mono ?_;rintro e w' ⟨rfl,hw⟩;obtain rfl:=hw.symm) | (go_at_call 50;refine (iA _ _ _ xs _ _ _ hI2).mono ?_;rintro e w' ⟨rfl,hw⟩;obtain rfl:=hw.symm))
   go_ret
   exact ⟨by rw [HV.out];rfl,hR2⟩
  rw [i6] at f3;cases i7:(m.body.toList.isEmpty)
  ·have HV:Hid (iP nodes xs m=1):=by unfold Hid;rw [HG.out,if_pos (by have:=JO i7;simp [wY,i6,this])]
   clear HG
   go_wp2_with (first | (go_at_call 242;refine (iQ _ _ _ _).mono ?_;rintro e w' ⟨rfl,hw⟩;obtain rfl:=hw.symm) | (go_at_call 50;refine (iA _ _ _ xs _ _ _ hI2).mono ?_;rintro e w' ⟨rfl,hw⟩;obtain rfl:=hw.symm))
   go_ret
   exact ⟨by rw [HV.out];rfl,hR2⟩
  ·have HV:Hid (iP nodes xs m=0):=by unfold Hid;rw [HG.out,if_neg (by have:=size_eq i7;simp [wY,this])]
   clear HG
   go_wp2_with (first | (go_at_call 242;refine (iQ _ _ _ _).mono ?_;rintro e w' ⟨rfl,hw⟩;obtain rfl:=hw.symm) | (go_at_call 50;refine (iA _ _ _ xs _ _ _ hI2).mono ?_;rintro e w' ⟨rfl,hw⟩;obtain rfl:=hw.symm))
   go_ret
   exact ⟨by rw [HV.out];rfl,hR2⟩
 ·have HF:Hid (iP nodes xs m=c):=by unfold Hid iP;rw [hce,if_pos (by simpa using hc)]
  clear hce
  go_enter func222,ntmps222
  go_wp2_with fail
  refine (JI w1 _ _ _ _ _ _ (hI.since hS1) (Since.refl w1)).mono ?_;rw [HC.out];rintro e w2 ⟨rfl,hS2⟩
  go_wp2
  go_ret
  exact ⟨by rw [HF.out];rfl,hS1.trans hS2⟩
theorem DF (nodes:Int) (a:Option Addr) (len cap:Nat) (xs:List Int) (m:Mg) (w:World) (hI:Ints w a len xs) :
  Calls prog 192 #[.int .i64 nodes,.slice a len cap,.agg #[.int .i64 m.fr,.int .i64 m.gr,.int .i64 m.st,.bool m.nul,.string m.body]] w fun e w'=>e=.returned (.int .i64 (iP nodes xs m))/\Since w w':=by
 obtain ⟨w1,hw1⟩:∃ w1,w.alloc (.cells #[.int .i64 m.fr,.int .i64 m.gr,.int .i64 m.st,.bool m.nul,.string m.body] 42)=w1:=⟨_,rfl⟩;have hS1:=ay hw1;have hsz:w1.heap.size=w.heap.size+1:=by rw [<-hw1];simp
 have hB:bF w1 w.heap.size 0 m:=by rw [<-hw1];constructor <;> simp [go_sem]
 have hlen:=hI.hlen;subst hlen;obtain ⟨c,hce⟩:∃ c,dF nodes xs=c:=⟨_,rfl⟩;have HC:Hid (dF nodes xs=c):=hce;cases hc:(c != 0)
 ·have hc0:dF nodes xs=0:=by rw [hce];simpa using hc
  obtain ⟨n1,n2,l1,l2⟩:=qj hc0
  have HF:Hid (iP nodes xs m=if ¬ (inB m.fr 0 (nodes - 1)=true/\inB m.gr 0 (xs.length - 1)=true/\inB m.st 1 1048576=true) then 3 else if hasB xs m.gr m.fr=false then 5 else if wY m then 1 else 0):=by
   unfold Hid iP;rw [if_neg (by simp [hc0])]
  clear hce hc0
  go_enter func192,ntmps192
  go_wp2_with fail
  refine (qL w1 _ _ _ _ _ _ (hI.since hS1) (Since.refl w1)).mono ?_;rw [HC.out];rintro e w2 ⟨rfl,hS2⟩;have hI2:=hI.since (hS1.trans hS2);have hR2:=hS1.trans hS2;have hg:∀ o:Nat,w2.cell? ⟨w.heap.size,o,none⟩=w1.cell? ⟨w.heap.size,o,none⟩:=fun o=>hS2.below.cell (p:=⟨w.heap.size,o,none⟩) (by show w.heap.size < _;omega);obtain ⟨f0,f1,f2,f3,f4⟩:=hB;simp only [Nat.zero_add] at f0 f1 f2 f3 f4;rw [<-hg] at f0 f1 f2 f3 f4;clear hg hw1;cases i1:inB m.fr 0 (nodes - 1)
  ·have HV:Hid (iP nodes xs m=3):=by unfold Hid;rw [HF.out,if_pos (by simp [i1])]
   clear HF
   go_wp2_with (first | (go_at_call 126;refine (bD _ _ _ _).mono ?_;rintro e w' ⟨rfl,hw⟩;obtain rfl:=hw.symm) | (go_at_call 145;refine (dO _ _ _ xs _ _ _ hI2).mono ?_;rintro e w' ⟨rfl,hw⟩;obtain rfl:=hw.symm))
   go_ret
   exact ⟨by rw [HV.out];rfl,hR2⟩
  cases i2:inB m.gr 0 (xs.length - 1)
  ·have HV:Hid (iP nodes xs m=3):=by unfold Hid;rw [HF.out,if_pos (by simp [i2])]
   clear HF
   go_wp2_with (first | (go_at_call 126;refine (bD _ _ _ _).mono ?_;rintro e w' ⟨rfl,hw⟩;obtain rfl:=hw.symm) | (go_at_call 145;refine (dO _ _ _ xs _ _ _ hI2).mono ?_;rintro e w' ⟨rfl,hw⟩;obtain rfl:=hw.symm))
   go_ret
   exact ⟨by rw [HV.out];rfl,hR2⟩
  cases i3:inB m.st 1 1048576
  ·have HV:Hid (iP nodes xs m=3):=by unfold Hid;rw [HF.out,if_pos (by simp [i3])]
   clear HF
   go_wp2_with (first | (go_at_call 126;refine (bD _ _ _ _).mono ?_;rintro e w' ⟨rfl,hw⟩;obtain rfl:=hw.symm) | (go_at_call 145;refine (dO _ _ _ xs _ _ _ hI2).mono ?_;rintro e w' ⟨rfl,hw⟩;obtain rfl:=hw.symm))
   go_ret
   exact ⟨by rw [HV.out];rfl,hR2⟩
  cases i4:hasB xs m.gr m.fr
  ·have HV:Hid (iP nodes xs m=5):=by unfold Hid;rw [HF.out,if_neg (by simp [i1,i2,i3]),if_pos i4]
   clear HF
   go_wp2_with (first | (go_at_call 126;refine (bD _ _ _ _).mono ?_;rintro e w' ⟨rfl,hw⟩;obtain rfl:=hw.symm) | (go_at_call 145;refine (dO _ _ _ xs _ _ _ hI2).mono ?_;rintro e w' ⟨rfl,hw⟩;obtain rfl:=hw.symm))
   go_ret
   exact ⟨by rw [HV.out];rfl,hR2⟩
  have HG:Hid (iP nodes xs m=if wY m then 1 else 0):=by unfold Hid;rw [HF.out,if_neg (by simp [i1,i2,i3]),if_neg (by simp [i4])]
  clear HF;by_cases i5:8 < (m.body.size:Int)
  ·have HV:Hid (iP nodes xs m=1):=by unfold Hid;rw [HG.out,if_pos (by simp [wY];left;omega)]
   clear HG
   go_wp2_with (first | (go_at_call 126;refine (bD _ _ _ _).mono ?_;rintro e w' ⟨rfl,hw⟩;obtain rfl:=hw.symm) | (go_at_call 145;refine (dO _ _ _ xs _ _ _ hI2).mono ?_;rintro e w' ⟨rfl,hw⟩;obtain rfl:=hw.symm))
   go_ret
   exact ⟨by rw [HV.out];rfl,hR2⟩
  have i5':decide (8 < (m.body.size:Int))=false:=by simpa using i5
  cases i6:m.nul
  ·have HV:Hid (iP nodes xs m=0):=by unfold Hid;rw [HG.out,if_neg (by simp [wY,i6];omega)]
   clear HG;rw [i6] at f3
   go_wp2_with (first | (go_at_call 126;refine (bD _ _ _ _).mono ?_;rintro e w' ⟨rfl,hw⟩;obtain rfl:=hw.symm) | (go_at_call 145;refine (dO _ _ _ xs _ _ _ hI2).mono ?_;rintro e w' ⟨rfl,hw⟩;obtain rfl:=hw.symm))
   go_ret
   exact ⟨by rw [HV.out];rfl,hR2⟩
  rw [i6] at f3;cases i7:(m.body.toList.isEmpty)
  ·have HV:Hid (iP nodes xs m=1):=by unfold Hid;rw [HG.out,if_pos (by have:=JO i7;simp [wY,i6,this])]
   clear HG
   go_wp2_with (first | (go_at_call 126;refine (bD _ _ _ _).mono ?_;rintro e w' ⟨rfl,hw⟩;obtain rfl:=hw.symm) | (go_at_call 145;refine (dO _ _ _ xs _ _ _ hI2).mono ?_;rintro e w' ⟨rfl,hw⟩;obtain rfl:=hw.symm))
   go_ret
   exact ⟨by rw [HV.out];rfl,hR2⟩
  ·have HV:Hid (iP nodes xs m=0):=by unfold Hid;rw [HG.out,if_neg (by have:=size_eq i7;simp [wY,this])]
   clear HG
   go_wp2_with (first | (go_at_call 126;refine (bD _ _ _ _).mono ?_;rintro e w' ⟨rfl,hw⟩;obtain rfl:=hw.symm) | (go_at_call 145;refine (dO _ _ _ xs _ _ _ hI2).mono ?_;rintro e w' ⟨rfl,hw⟩;obtain rfl:=hw.symm))
   go_ret
   exact ⟨by rw [HV.out];rfl,hR2⟩
 ·have HF:Hid (iP nodes xs m=c):=by unfold Hid iP;rw [hce,if_pos (by simpa using hc)]
  clear hce
  go_enter func192,ntmps192
  go_wp2_with fail
  refine (qL w1 _ _ _ _ _ _ (hI.since hS1) (Since.refl w1)).mono ?_;rw [HC.out];rintro e w2 ⟨rfl,hS2⟩
  go_wp2
  go_ret
  exact ⟨by rw [HF.out];rfl,hS1.trans hS2⟩
end Go.Proofs.YtiiifecfdkjmbaaGreat
