/- Lemmas. Lemmas. Lemmas. -/
import Derived.Test.YtiiifecfdkjmbaaGreatTIter
import Derived.Deep.RegionWith
import Derived.Deep.RegionHeld3
namespace Go.Proofs.YtiiifecfdkjmbaaGreat
open _root_.Go.Proofs.Tryz hiding checked
set_option maxRecDepth 8000
open Go.RowKit Go.Shelf
theorem Ints.below {w W:World} {a:Option Addr} {len:Nat} {xs:List Int} (h:Ints w a len xs) (hb:Below w.heap.size w W):Ints W a len xs:=by
 refine ⟨h.hlen,h.hmax,fun hp=>?_⟩
 obtain ⟨b,off,e,hbl,hc⟩:=h.cells hp
 exact ⟨b,off,e,by have:=hb.size;omega,fun i hi'=>(hb.cell (p:=⟨b,off+i,none⟩) hbl).trans (hc i hi')⟩
theorem vo {W:World} {base:Nat} {v:Value} {l:List Nat} (h:W.ownsRow base 3 1 v l.length (nums l)) (hl:l.length<=17592186043904):∃ a cap,v=.slice a l.length cap/\Ints W a l.length (l.map fun g:Nat=>(g:Int)):=by
 rcases h.2 with ⟨rfl,h0⟩ | ⟨g,cap,cur,rfl,h1,h2,h3,h4,h5,h6⟩
 ·have:l=[]:=zQ6 h0
  subst this
  exact ⟨none,0,rfl,rfl,by simp,fun hp=>absurd hp (by simp)⟩
 ·refine ⟨_,cap,rfl,by simp,hl,fun hp=>⟨g,0,rfl,(zQ3.1 h2).1,fun i hi=>?_⟩⟩
  have hcur:cur[i]? = some (.int .i64 (l[i]:Nat)):=by
   have:(cur.toList.take (l.length*1))[i]? = (nums l)[i]?:=by rw [h6]
   rw [List.getElem?_take,if_pos (by omega)] at this
   simp [nums,hi] at this
   simpa using this
  simp [World.cell?,h2,hcur,hi]
theorem Cc (xs:List Int) (n:Int) (k:Nat) (hk:k < xs.length):hasB xs k n=!([n].any (jI (xs[k]?.getD 0))):=by
 simp [hasB,jI,hk]
theorem below_drewN {B:Nat} {a w:World} (h:Below B a w) (k:Nat):Below B a (w.drewN k) :=
 ⟨h.os,h.tape,h.output,h.size,h.block⟩
structure Since (w0 w:World):Prop where
 below:Below w0.heap.size w0 w
theorem Since.refl (w:World):Since w w:=⟨Below.refl _ _⟩
theorem Since.size {w0 w:World} (h:Since w0 w):w0.heap.size<=w.heap.size:=h.below.size
theorem Since.step {w0 w w':World} (h:Since w0 w) (k:Below w.heap.size w w'):Since w0 w':=⟨h.below.trans (k.mono h.size)⟩
theorem Ints.since {w w':World} {a:Option Addr} {len:Nat} {xs:List Int} (h:Ints w a len xs) (k:Since w w'):Ints w' a len xs:=h.below k.below
theorem I4 (w0 w:World) (h:Since w0 w) :
  Calls prog 125 #[] w fun e w'=>∃ b cap,e=.returned (.slice (some ⟨b,0,none⟩) 2 cap)/\Ints w' (some ⟨b,0,none⟩) 2 [3,6]/\Since w0 w':=by
 go_enter func125,ntmps125
 go_wp2
 go_ret
 refine ⟨_,_,rfl,⟨rfl,by omega,fun _=>⟨_,_,rfl,by simp,fun i hi=>?_⟩⟩,h.step ((Below.refl _ _).alloc (Nat.le_refl _) _)⟩
 rcases (show i=0\/i=1 by omega) with rfl | rfl <;> simp [go_sem]
theorem Fa (w0 w:World) (nodes:Int) (a:Option Addr) (len cap:Nat) (xs:List Int) (hI:Ints w a len xs) (h:Since w0 w) :
  Calls prog 158 #[.int .i64 nodes,.slice a len cap] w fun e w'=>e=.returned (.int .i64 (bF nodes xs))/\Since w0 w' :=
 (pW nodes a len cap xs w hI).mono fun e w' ⟨he,hw⟩=>⟨he,by rw [hw];exact h.step ((Below.refl _ _).alloc (Nat.le_refl _) _)⟩
theorem sQ (w0 w:World) (nodes:Int) (a:Option Addr) (len cap:Nat) (xs:List Int) (hI:Ints w a len xs) (h:Since w0 w) :
  Calls prog 69 #[.int .i64 nodes,.slice a len cap] w fun e w'=>e=.returned (.int .i64 (bF nodes xs))/\Since w0 w' :=
 (Gj nodes a len cap xs w hI).mono fun e w' ⟨he,k,hw⟩=>⟨he,by rw [hw];exact h.step (below_drewN (Below.refl _ _) k)⟩
def Gl (xs ns:List Int):List Int:=(hits xs ns xs.length).map fun g:Nat=>(g:Int)
theorem I5 {w:World} {a:Option Addr} {len:Nat} {xs:List Int} (hI:Ints w a len xs) (ns:List Int):(hits xs ns len).length<=17592186043904:=by
 have:=Aw xs ns len;have:=hI.hmax;omega
theorem Ir {w:World} {v:Int}:Ints (w.alloc (.cells #[.int .i64 v] 3)) (some ⟨w.heap.size,0,none⟩) 1 [v] :=
 ⟨rfl,by omega,fun _=>⟨_,_,rfl,by simp,fun i hi=>by
  obtain rfl:i=0:=by omega
  simp [go_sem]⟩⟩
theorem Ce {w:World}:Ints w none 0 []:=⟨rfl,by omega,fun h=>absurd h (by omega)⟩
theorem Since.alloc {w0 w:World} (h:Since w0 w) (o:Obj):Since w0 (w.alloc o):=h.step ((Below.refl _ _).alloc (Nat.le_refl _) _)
theorem ay {w w1:World} {o:Obj} (h:w.alloc o=w1):Since w w1:=by rw [<-h];exact (Since.refl w).alloc _
set_option linter.unusedVariables false
def I64 (c:Int):Prop:=-9223372036854775808<=c/\c<=9223372036854775807
theorem Mk {c:Int} (h:(Lit.int .i64 c).wf=true):I64 c:=by
 simp only [Lit.wf,Bool.and_eq_true,decide_eq_true_eq] at h
 exact h
def gY (c:Int) (n:Nat):Nat:=((if c < 0 then -(c+1) else c) % (n:Int)).toNat
theorem ru (c:Int) {n:Nat} (hn:0 < n):gY c n < n:=by
 unfold gY
 have h1:=Int.emod_nonneg (if c < 0 then -(c+1) else c) (show (n:Int)≠0 by omega)
 have h2:=Int.emod_lt_of_pos (if c < 0 then -(c+1) else c) (show (0:Int) < (n:Int) by omega)
 omega
theorem Jg (c:Int) (n:Nat) (hc:I64 c) (hn:0 < n) (hm:n<=1000000) (w:World) :
  Calls prog 52 #[.int .i64 c,.int .i64 n] w fun e w'=>e=.returned (.int .i64 (gY c n))/\w'=w:=by
 obtain ⟨h1,h2⟩:=hc
 have hz:((n:Int) == 0)=false:=by rw [beq_eq_false_iff_ne];omega
 have hz':¬ (n:Int)=0:=by omega
 by_cases hl:c < 0
 ·have l1:decide (c < 0)=true:=by simpa using hl
  have e1:IntKind.i64.wrap (c+1)=c+1:=IntWalk.i64_in _ (by omega)
  have e2:IntKind.i64.wrap (-(c+1))=-(c+1):=IntWalk.i64_in _ (by omega)
  have e3:(-(c+1)).tmod (n:Int)=(gY c n:Int):=by
   unfold gY;rw [if_pos hl,Int.tmod_eq_emod_of_nonneg (by omega),Int.toNat_of_nonneg (Int.emod_nonneg _ (by omega))]
  have hlt:=ru c hn
  have e4:IntKind.i64.wrap (gY c n:Int)=(gY c n:Int):=IntWalk.i64_in _ (by omega)
  clear hl
  go_enter func52,ntmps52
  go_wp2
  go_ret
  simp_all
 ·have l1:decide (c < 0)=false:=by simpa using hl
  have e3:c.tmod (n:Int)=(gY c n:Int):=by
   unfold gY;rw [if_neg hl,Int.tmod_eq_emod_of_nonneg (by omega),Int.toNat_of_nonneg (Int.emod_nonneg _ (by omega))]
  have hlt:=ru c hn
  have e4:IntKind.i64.wrap (gY c n:Int)=(gY c n:Int):=IntWalk.i64_in _ (by omega)
  clear hl
  go_enter func52,ntmps52
  go_wp2
  go_ret
  simp_all
theorem Ei (c:Int) (n:Nat) (hc:I64 c) (hn:0 < n) (hm:n<=4) (w:World) :
  Calls prog 52 #[.int .i64 c,.int .i64 n] w fun e w'=>e=.returned (.int .i64 (gY c n))/\w'=w :=
 Jg c n hc hn (by omega) w
structure Mg where
 fr:Int
 gr:Int
 st:Int
 nul:Bool
 body:ByteArray
def Mg.cells (m:Mg):List Value:=[.int .i64 m.fr,.int .i64 m.gr,.int .i64 m.st,.bool m.nul,.string m.body]
def lessM (a b:Mg):Bool:=decide (a.st < b.st) || (decide (a.st=b.st) && decide (a.fr < b.fr))
theorem Jm (a b:Mg) (w:World) :
  Calls prog 170 #[.agg #[.int .i64 a.fr,.int .i64 a.gr,.int .i64 a.st,.bool a.nul,.string a.body],.agg #[.int .i64 b.fr,.int .i64 b.gr,.int .i64 b.st,.bool b.nul,.string b.body]] w fun e w' =>
   e=.returned (.bool (lessM a b))/\w'=(w.alloc (.cells #[.int .i64 a.fr,.int .i64 a.gr,.int .i64 a.st,.bool a.nul,.string a.body] 42)).alloc (.cells #[.int .i64 b.fr,.int .i64 b.gr,.int .i64 b.st,.bool b.nul,.string b.body] 42):=by
 obtain ⟨af,ag,ast,an,ab⟩:=a
 obtain ⟨bf,bg,bst,bn,bb⟩:=b
 dsimp only
 by_cases h:ast=bst
 ·have hb:(ast != bst)=false:=by simp [h]
  have HF:Hid (lessM ⟨af,ag,ast,an,ab⟩ ⟨bf,bg,bst,bn,bb⟩=decide (af < bf)):=by simp [lessM,h,Hid]
  clear h
  go_enter func170,ntmps170
  go_wp2
  go_ret
  exact ⟨by rw [HF.out];rfl,rfl⟩
 ·have hb:(ast != bst)=true:=by simp [h]
  have HF:Hid (lessM ⟨af,ag,ast,an,ab⟩ ⟨bf,bg,bst,bn,bb⟩=decide (ast < bst)):=by simp [lessM,h,Hid]
  clear h
  go_enter func170,ntmps170
  go_wp2
  go_ret
  exact ⟨by rw [HF.out];rfl,rfl⟩
theorem En (a b:Mg) (w:World) :
  Calls prog 124 #[.agg #[.int .i64 a.fr,.int .i64 a.gr,.int .i64 a.st,.bool a.nul,.string a.body],.agg #[.int .i64 b.fr,.int .i64 b.gr,.int .i64 b.st,.bool b.nul,.string b.body]] w fun e w' =>
   e=.returned (.bool (lessM a b))/\w'=(w.alloc (.cells #[.int .i64 a.fr,.int .i64 a.gr,.int .i64 a.st,.bool a.nul,.string a.body] 42)).alloc (.cells #[.int .i64 b.fr,.int .i64 b.gr,.int .i64 b.st,.bool b.nul,.string b.body] 42):=by
 obtain ⟨af,ag,ast,an,ab⟩:=a
 obtain ⟨bf,bg,bst,bn,bb⟩:=b
 dsimp only
 by_cases h:ast < bst
 ·have HF:Hid (lessM ⟨af,ag,ast,an,ab⟩ ⟨bf,bg,bst,bn,bb⟩=true):=by simp [lessM,h,Hid]
  go_enter func124,ntmps124
  go_wp2
  go_ret
  exact ⟨by rw [HF.out];rfl,rfl⟩
 ·have hd:decide (ast < bst)=false:=by simpa using h
  by_cases h2:ast=bst
  ·have hb:(ast == bst)=true:=by simp [h2]
   have HF:Hid (lessM ⟨af,ag,ast,an,ab⟩ ⟨bf,bg,bst,bn,bb⟩=decide (af < bf)):=by simp [lessM,h2,Hid]
   clear h2
   go_enter func124,ntmps124
   go_wp2
   go_ret
   exact ⟨by rw [HF.out];rfl,rfl⟩
  ·have hb:(ast == bst)=false:=by simp [h2]
   have HF:Hid (lessM ⟨af,ag,ast,an,ab⟩ ⟨bf,bg,bst,bn,bb⟩=false):=by simp [lessM,h2,Hid,h]
   clear h2
   go_enter func124,ntmps124
   go_wp2
   go_ret
   exact ⟨by rw [HF.out];rfl,rfl⟩
structure Later (w0:World) where
 w:World
 h:Since w0 w
theorem Later.cell {w0:World} (x:Later w0) {b o:Nat} (h:b < w0.heap.size):x.w.cell? ⟨b,o,none⟩=w0.cell? ⟨b,o,none⟩:=x.h.below.cell (p:=⟨b,o,none⟩) h
theorem Since.drew {w0 w:World} (h:Since w0 w):Since w0 { w with drawn:=w.drawn+1 }:=h.step (Below.refl _ _).drew
theorem aO {w w1:World} (h:w.drew=w1):Since w w1:=by rw [<-h];exact Since.drew (Since.refl _)
theorem Since.trans {a b c:World} (h:Since a b) (k:Since b c):Since a c:=h.step k.below
theorem av {P:Program} {id:Nat} {Q:Exit->Act->World->Prop} {a:Act} {w0 w:World} {l:List Oper} (hm:P.follows .mixedOrders=true) (hB:Region.lexB .any l.toArray=true) (hS:Since w0 w)
  (h:wpQuiet P l.toArray (fun w1=>∃ x:Later w0,w1=x.w) (fun a'=>∀ w',Since w0 w'->Q .normal a' w') l a):(Code.region id l.toArray true).wp P Q a w :=
 wp_region_quiet (C:=fun w1=>∃ x:Later w0,w1=x.w) hm hB ⟨⟨_,hS.drew⟩,rfl⟩ (by
  have e:(fun a'=>∀ w',(∃ x:Later w0,w'=x.w)->Q .normal a' w')=fun a'=>∀ w',Since w0 w'->Q .normal a' w':=by
   funext a'
   exact propext ⟨fun h w' hw=>h w' ⟨⟨w',hw⟩,rfl⟩,fun h w' ⟨x,hx⟩=>h w' (hx ▸ x.h)⟩
  rw [e]
  simpa using h)
theorem Later.call {P:Program} {f:FuncId} {args:Array Value} {w0:World} {x:Later w0} {v:Value} (h:∀ w,Since w0 w->Calls P f args w fun e w'=>e=.returned v/\Since w0 w') :
  Calls P f args x.w fun e w''=>e=.returned v/\∃ y:Later w0,w''=y.w :=
 (h x.w x.h).mono fun _ w' ⟨he,hw⟩=>⟨he,⟨w',hw⟩,rfl⟩
structure aZ (w:World) (b o:Nat) (m:Mg):Prop where
 c0:w.cell? ⟨b,o,none⟩=some (.int .i64 m.fr)
 c1:w.cell? ⟨b,o+1,none⟩=some (.int .i64 m.gr)
 c2:w.cell? ⟨b,o+2,none⟩=some (.int .i64 m.st)
 c3:w.cell? ⟨b,o+3,none⟩=some (.bool m.nul)
 c4:w.cell? ⟨b,o+4,none⟩=some (.string m.body)
def flat (ms:List Mg):List Value:=ms.flatMap Mg.cells
theorem cB:∀ ms:List Mg,(flat ms).length=ms.length*5
 | []=>rfl
 | m::ms=>by
  have:=cB ms
  simp only [flat,List.flatMap_cons,List.length_append] at this ⊢
  simp [Mg.cells,this];omega
theorem flat_get:∀ (ms:List Mg) (i r:Nat) (m:Mg),ms[i]? = some m->r < 5->(flat ms)[i*5+r]? = m.cells[r]?
 | [],i,r,m,h,_=>by simp at h
 | x::ms,0,r,m,h,hr=>by
  simp at h;subst h
  simp only [flat,List.flatMap_cons]
  rw [List.getElem?_append_left (by simp [Mg.cells];omega)]
  simp
 | x::ms,i+1,r,m,h,hr=>by
  have:=flat_get ms i r m (by simpa using h) hr
  simp only [flat,List.flatMap_cons] at this ⊢
  rw [List.getElem?_append_right (by simp [Mg.cells];omega)]
  rw [<-this]
  congr 1
  simp [Mg.cells];omega
theorem gH (xs ys:List Mg):flat (xs++ys)=flat xs++flat ys:=by simp [flat]
theorem fC (u:Value) (ms:List Mg) (h:u∈flat ms):u.oneCell'=true:=by
 simp only [flat,List.mem_flatMap] at h
 obtain ⟨m,_,hm⟩:=h
 simp [Mg.cells] at hm
 rcases hm with rfl | rfl | rfl | rfl | rfl <;> rfl
structure eY (w:World) (a:Option Addr) (len:Nat) (ms:List Mg):Prop where
 hlen:ms.length=len
 hmax:len<=2932031007320
 cells:0 < len->∃ b off,a=some ⟨b,off,none⟩/\b < w.heap.size/\∀ j u,(flat ms)[j]? = some u->w.cell? ⟨b,off+j,none⟩=some u
theorem bJ {w:World} {b off:Nat} {ms:List Mg} (h:∀ j u,(flat ms)[j]? = some u->w.cell? ⟨b,off+j,none⟩=some u) (i:Nat) (m:Mg) (hm:ms[i]? = some m):aZ w b (off+i*5) m:=by
 have g:=fun r hr=>flat_get ms i r m hm hr
 refine ⟨?_, ?_, ?_, ?_, ?_⟩
 ·exact h (i*5) _ (by rw [<-Nat.add_zero (i*5),g 0 (by omega)];rfl)
 all_goals rw [Nat.add_assoc]
 ·exact h _ _ (by rw [g 1 (by omega)];rfl)
 ·exact h _ _ (by rw [g 2 (by omega)];rfl)
 ·exact h _ _ (by rw [g 3 (by omega)];rfl)
 ·exact h _ _ (by rw [g 4 (by omega)];rfl)
theorem eY.since {w W:World} {a:Option Addr} {len:Nat} {ms:List Mg} (h:eY w a len ms) (k:Since w W):eY W a len ms:=by
 refine ⟨h.hlen,h.hmax,fun hp=>?_⟩
 obtain ⟨b,off,e,hb,hc⟩:=h.cells hp
 exact ⟨b,off,e,by have:=k.size;omega,fun j u hj=>(k.below.cell (p:=⟨b,off+j,none⟩) hb).trans (hc j u hj)⟩
theorem gQ {w:World} {a:Option Addr}:eY w a 0 []:=⟨rfl,by omega,fun h=>absurd h (by omega)⟩
theorem CF {W:World} {base:Nat} {v:Value} {ms:List Mg} (h:W.ownsRow base 42 5 v ms.length (flat ms)) (hl:ms.length<=2932031007320):∃ a cap,v=.slice a ms.length cap/\eY W a ms.length ms:=by
 rcases h.2 with ⟨rfl,h0⟩ | ⟨g,cap,cur,rfl,h1,h2,h3,h4,h5,h6⟩
 ·have:ms=[]:=zQ6 h0
  subst this
  exact ⟨none,0,rfl,gQ⟩
 ·refine ⟨_,cap,rfl,rfl,hl,fun hp=>⟨g,0,rfl,(zQ3.1 h2).1,fun j u hj=>?_⟩⟩
  have hjl:=(zQ2.1 hj).1
  rw [cB] at hjl
  have hcur:cur[j]? = some u:=by
   have e:(cur.toList.take (ms.length*5))[j]? = (flat ms)[j]?:=by rw [h6]
   rw [List.getElem?_take,if_pos hjl,hj] at e
   simpa using e
  simp [World.cell?,h2,hcur]
theorem nP (w0:World) (a b:Mg) (v:Bool) (hv:lessM a b=v) (w:World) (h:Since w0 w) :
  Calls prog 170 #[.agg #[.int .i64 a.fr,.int .i64 a.gr,.int .i64 a.st,.bool a.nul,.string a.body],.agg #[.int .i64 b.fr,.int .i64 b.gr,.int .i64 b.st,.bool b.nul,.string b.body]] w fun e w' =>
   e=.returned (.bool v)/\Since w0 w' :=
 (Jm a b w).mono fun e w' ⟨he,hw⟩=>⟨by rw [<-hv];exact he,by rw [hw];exact (h.alloc _).alloc _⟩
theorem CG (w0:World) (a b:Mg) (v:Bool) (hv:lessM a b=v) (w:World) (h:Since w0 w) :
  Calls prog 124 #[.agg #[.int .i64 a.fr,.int .i64 a.gr,.int .i64 a.st,.bool a.nul,.string a.body],.agg #[.int .i64 b.fr,.int .i64 b.gr,.int .i64 b.st,.bool b.nul,.string b.body]] w fun e w' =>
   e=.returned (.bool v)/\Since w0 w' :=
 (En a b w).mono fun e w' ⟨he,hw⟩=>⟨by rw [<-hv];exact he,by rw [hw];exact (h.alloc _).alloc _⟩
def aN:List Mg->Bool
 | []=>true
 | [_]=>true
 | a::b::r=>lessM a b && aN (b::r)
theorem jl:∀ (ms:List Mg),aN ms=true↔∀ i a b,ms[i]? = some a->ms[i+1]? = some b->lessM a b=true
 | []=>by simp [aN]
 | [x]=>by
  refine ⟨fun _ i a b _ h2=>?_,fun _=>rfl⟩
  simp at h2
 | x::y::r=>by
  rw [aN,Bool.and_eq_true,jl (y::r)]
  constructor
  ·rintro ⟨h1,h2⟩ i a b ha hb
   cases i with
   | zero=>simp at ha hb;subst ha hb;exact h1
   | succ i=>exact h2 i a b (by simpa using ha) (by simpa using hb)
  ·intro h
   exact ⟨h 0 x y rfl rfl,fun i a b ha hb=>h (i+1) a b (by simpa using ha) (by simpa using hb)⟩
theorem kU (a:Option Addr) (len cap:Nat) (ms:List Mg) (w:World) (hM:eY w a len ms) :
  Calls prog 216 #[.slice a len cap] w fun e w'=>e=.returned (.bool (aN ms))/\Since w w':=by
 obtain ⟨rfl,hmax,hc⟩:=hM
 go_enter func216,ntmps216
 go_wp2
 go_loopw [3] (fun i wr=>(∃ k:Nat,1<=k/\i=.int .i64 k/\∀ i a b,i+1 < k->ms[i]? = some a->ms[i+1]? = some b->lessM a b=true)/\Since w wr) (fun i _=>ms.length - (intOf i).toNat)
 case atStart=>exact ⟨⟨1,by omega,rfl,fun i a b h=>by omega⟩,Since.refl _⟩
 case round =>
  obtain ⟨⟨k,hk,rfl,hr⟩,hS⟩:=hrel
  have HR:Hid (∀ i a b,i+1 < k->ms[i]? = some a->ms[i+1]? = some b->lessM a b=true):=hr
  clear hr
  by_cases hlt:k < ms.length
  ·obtain ⟨k',hk0,hk1,hlt'⟩:∃ k':Nat,k=k'+1/\(k:Int) - 1=(k':Int)/\k' < ms.length:=⟨k - 1,by omega,by omega,by omega⟩
   have HK:Hid (k=k'+1):=hk0
   have hwk:IntKind.i64.wrap (k':Int)=(k':Int):=IntWalk.i64_in _ (by omega)
   obtain ⟨b,off,rfl,hb,hcell⟩:=hc (by omega)
   obtain ⟨m,hm⟩:∃ m,ms[k]? = some m:=⟨_,zQ1 hlt⟩
   obtain ⟨m',hm'⟩:∃ m',ms[k']? = some m':=⟨_,zQ1 hlt'⟩
   obtain ⟨d0,d1,d2,d3,d4⟩:=bJ hcell k m hm
   obtain ⟨e0,e1,e2,e3,e4⟩:=bJ hcell k' m' hm'
   have hne:Nonempty (Later w):=⟨⟨w,Since.refl w⟩⟩
   have hg:∀ (x:Later w) (o:Nat),x.w.cell? ⟨b,o,none⟩=w.cell? ⟨b,o,none⟩:=fun x o=>x.cell hb
   have HM:Hid (ms[k]? = some m):=hm
   have HM':Hid (ms[k']? = some m'):=hm'
   clear hm hm' hcell hc hk0
   cases hl:lessM m' m
   ·have HF:Hid (aN ms=false):=by
     unfold Hid
     rw [<-Bool.not_eq_true,jl]
     intro h
     have:=h k' m' m HM'.out (by rw [<-HK.out];exact HM.out)
     rw [hl] at this
     cases this
    go_wp2_with fail
    refine av (by kernel_rfl) (by kernel_rfl) hS ?_
    repeat (go_big_quiet_step ((go_at_call 170;exact Later.call (nP w m' m _ hl))))
    refine wpQuiet_nil ?_
    intro w9 hS9
    go_wp2
    go_ret
    exact ⟨by rw [HF.out];rfl,hS9⟩
   ·have HF:Hid (∀ i a b,i+1 < k+1->ms[i]? = some a->ms[i+1]? = some b->lessM a b=true):=by
     intro i a b hi ha hb
     by_cases h:i+1 < k
     ·exact HR.out i a b h ha hb
     ·have e:i=k':=by have:=HK.out;omega
      subst e
      have h1:=HM'.out
      have h2:=HM.out
      rw [HK.out] at h2
      rw [h1] at ha
      rw [h2] at hb
      cases ha;cases hb
      exact hl
    go_wp2_with fail
    refine av (by kernel_rfl) (by kernel_rfl) hS ?_
    repeat (go_big_quiet_step ((go_at_call 170;exact Later.call (nP w m' m _ hl))))
    refine wpQuiet_nil ?_
    intro w9 hS9
    go_wp2
    go_roundw
    case rel=>exact ⟨⟨k+1,by omega,by go_num,HF.out⟩,hS9⟩
    case measure=>simp [intOf];omega
  ·have HF:Hid (aN ms=true):=by
    unfold Hid
    rw [jl]
    intro i a b ha hb
    refine HR.out i a b ?_ ha hb
    have:=(zQ2.1 hb).1
    omega
   clear hc
   go_wp2
   go_ret
   exact ⟨by rw [HF.out];rfl,hS⟩
theorem AP (a:Option Addr) (len cap:Nat) (ms:List Mg) (w:World) (hM:eY w a len ms) :
  Calls prog 154 #[.slice a len cap] w fun e w'=>e=.returned (.bool (aN ms))/\Since w w':=by
 obtain ⟨rfl,hmax,hc⟩:=hM
 go_enter func154,ntmps154
 go_wp2
 go_loopw [3] (fun i wr=>(∃ k:Nat,1<=k/\i=.int .i64 k/\∀ i a b,i+1 < k->ms[i]? = some a->ms[i+1]? = some b->lessM a b=true)/\Since w wr) (fun i _=>ms.length - (intOf i).toNat)
 case atStart=>exact ⟨⟨1,by omega,rfl,fun i a b h=>by omega⟩,Since.refl _⟩
 case round =>
  obtain ⟨⟨k,hk,rfl,hr⟩,hS⟩:=hrel
  have HR:Hid (∀ i a b,i+1 < k->ms[i]? = some a->ms[i+1]? = some b->lessM a b=true):=hr
  clear hr
  by_cases hlt:k < ms.length
  ·obtain ⟨k',hk0,hk1,hlt'⟩:∃ k':Nat,k=k'+1/\(k:Int) - 1=(k':Int)/\k' < ms.length:=⟨k - 1,by omega,by omega,by omega⟩
   have HK:Hid (k=k'+1):=hk0
   have hwk:IntKind.i64.wrap (k':Int)=(k':Int):=IntWalk.i64_in _ (by omega)
   obtain ⟨b,off,rfl,hb,hcell⟩:=hc (by omega)
   obtain ⟨m,hm⟩:∃ m,ms[k]? = some m:=⟨_,zQ1 hlt⟩
   obtain ⟨m',hm'⟩:∃ m',ms[k']? = some m':=⟨_,zQ1 hlt'⟩
   obtain ⟨d0,d1,d2,d3,d4⟩:=bJ hcell k m hm
   obtain ⟨e0,e1,e2,e3,e4⟩:=bJ hcell k' m' hm'
   have hne:Nonempty (Later w):=⟨⟨w,Since.refl w⟩⟩
   have hg:∀ (x:Later w) (o:Nat),x.w.cell? ⟨b,o,none⟩=w.cell? ⟨b,o,none⟩:=fun x o=>x.cell hb
   have HM:Hid (ms[k]? = some m):=hm
   have HM':Hid (ms[k']? = some m'):=hm'
   clear hm hm' hcell hc hk0
   cases hl:lessM m' m
   ·have HF:Hid (aN ms=false):=by
     unfold Hid
     rw [<-Bool.not_eq_true,jl]
     intro h
     have:=h k' m' m HM'.out (by rw [<-HK.out];exact HM.out)
     rw [hl] at this
     cases this
    go_wp2_with fail
    refine av (by kernel_rfl) (by kernel_rfl) hS ?_
    repeat (go_big_quiet_step ((go_at_call 124;exact Later.call (CG w m' m _ hl))))
    refine wpQuiet_nil ?_
    intro w9 hS9
    go_wp2
    go_ret
    exact ⟨by rw [HF.out];rfl,hS9⟩
   ·have HF:Hid (∀ i a b,i+1 < k+1->ms[i]? = some a->ms[i+1]? = some b->lessM a b=true):=by
     intro i a b hi ha hb
     by_cases h:i+1 < k
     ·exact HR.out i a b h ha hb
     ·have e:i=k':=by have:=HK.out;omega
      subst e
      have h1:=HM'.out
      have h2:=HM.out
      rw [HK.out] at h2
      rw [h1] at ha
      rw [h2] at hb
      cases ha;cases hb
      exact hl
    go_wp2_with fail
    refine av (by kernel_rfl) (by kernel_rfl) hS ?_
    repeat (go_big_quiet_step ((go_at_call 124;exact Later.call (CG w m' m _ hl))))
    refine wpQuiet_nil ?_
    intro w9 hS9
    go_wp2
    go_roundw
    case rel=>exact ⟨⟨k+1,by omega,by go_num,HF.out⟩,hS9⟩
    case measure=>simp [intOf];omega
  ·have HF:Hid (aN ms=true):=by
    unfold Hid
    rw [jl]
    intro i a b ha hb
    refine HR.out i a b ?_ ha hb
    have:=(zQ2.1 hb).1
    omega
   clear hc
   go_wp2
   go_ret
   exact ⟨by rw [HF.out];rfl,hS⟩
def bT (m:Mg):List Mg->Nat
 | []=>0
 | x::r=>if lessM x m then bT m r+1 else 0
theorem mV (m:Mg):∀ ms,bT m ms<=ms.length
 | []=>Nat.le_refl _
 | x::r=>by
  have:=mV m r
  unfold bT
  split <;> simp <;> omega
theorem xA (m:Mg):∀ (ms:List Mg) (k:Nat) (x:Mg),k<=bT m ms->ms[k]? = some x->lessM x m=true->k+1<=bT m ms
 | [],k,x,_,h,_=>by simp at h
 | y::r,0,x,_,h,hl=>by simp at h;subst h;simp [bT,hl]
 | y::r,k+1,x,hk,h,hl=>by
  unfold bT at hk ⊢
  split at hk
  ·rename_i hy
   rw [if_pos hy]
   have:=xA m r k x (by omega) (by simpa using h) hl
   omega
  ·omega
theorem zO (m:Mg):∀ (ms:List Mg) (k:Nat) (x:Mg),k<=bT m ms->ms[k]? = some x->lessM x m=false->bT m ms=k
 | [],k,x,_,h,_=>by simp at h
 | y::r,0,x,_,h,hl=>by simp at h;subst h;simp [bT,hl]
 | y::r,k+1,x,hk,h,hl=>by
  unfold bT at hk ⊢
  split at hk
  ·rename_i hy
   rw [if_pos hy]
   have:=zO m r k x (by omega) (by simpa using h) hl
   omega
  ·omega
theorem p8 (a:Option Addr) (len cap:Nat) (ms:List Mg) (m:Mg) (w:World) (hM:eY w a len ms) :
  Calls prog 217 #[.slice a len cap,.agg #[.int .i64 m.fr,.int .i64 m.gr,.int .i64 m.st,.bool m.nul,.string m.body]] w fun e w'=>e=.returned (.int .i64 (bT m ms))/\Since w w':=by
 obtain ⟨rfl,hmax,hc⟩:=hM
 obtain ⟨w1,hw1⟩:∃ w1,w.alloc (.cells #[.int .i64 m.fr,.int .i64 m.gr,.int .i64 m.st,.bool m.nul,.string m.body] 42)=w1:=⟨_,rfl⟩
 have hS1:=ay hw1
 have hsz:w1.heap.size=w.heap.size+1:=by rw [<-hw1];simp
 have hB:aZ w1 w.heap.size 0 m:=by rw [<-hw1];constructor <;> simp [go_sem]
 go_enter func217,ntmps217
 go_wp2
 clear hw1
 go_loopw [5] (fun i wr=>(∃ k:Nat,k<=bT m ms/\i=.int .i64 k)/\Since w1 wr) (fun i _=>ms.length - (intOf i).toNat)
 case atStart=>exact ⟨⟨0,by omega,rfl⟩,Since.refl _⟩
 case round =>
  obtain ⟨⟨k,hk,rfl⟩,hS⟩:=hrel
  have HK:Hid (k<=bT m ms):=hk
  have hkl:k<=ms.length:=zQ5 hk (mV m ms)
  have hne:Nonempty (Later w1):=⟨⟨w1,Since.refl w1⟩⟩
  clear hk
  by_cases hlt:k < ms.length
  ·obtain ⟨b,off,rfl,hb,hcell⟩:=hc (by omega)
   obtain ⟨x,hx⟩:∃ x,ms[k]? = some x:=⟨_,zQ1 hlt⟩
   obtain ⟨d0,d1,d2,d3,d4⟩:=bJ hcell k x hx
   obtain ⟨e0,e1,e2,e3,e4⟩:=hB
   have hg:∀ (x:Later w1) (o:Nat),x.w.cell? ⟨b,o,none⟩=w.cell? ⟨b,o,none⟩:=fun x o=>(x.cell (by omega)).trans (hS1.below.cell (p:=⟨b,o,none⟩) hb)
   have hg2:∀ (x:Later w1) (o:Nat),x.w.cell? ⟨w.heap.size,o,none⟩=w1.cell? ⟨w.heap.size,o,none⟩:=fun x o=>x.cell (by omega)
   have HX:Hid (ms[k]? = some x):=hx
   clear hx hcell hc
   cases hl:lessM x m
   ·have HF:Hid (bT m ms=k):=zO m ms k x HK.out HX.out hl
    go_wp2_with fail
    refine av (by kernel_rfl) (by kernel_rfl) hS ?_
    repeat (go_big_quiet_step ((go_at_call 170;exact Later.call (nP w1 x m _ hl))))
    refine wpQuiet_nil ?_
    intro w9 hS9
    go_wp2
    go_ret
    exact ⟨by rw [HF.out];rfl,hS1.trans hS9⟩
   ·have HF:Hid (k+1<=bT m ms):=xA m ms k x HK.out HX.out hl
    go_wp2_with fail
    refine av (by kernel_rfl) (by kernel_rfl) hS ?_
    repeat (go_big_quiet_step ((go_at_call 170;exact Later.call (nP w1 x m _ hl))))
    refine wpQuiet_nil ?_
    intro w9 hS9
    go_wp2
    go_roundw
    case rel=>exact ⟨⟨k+1,HF.out,by go_num⟩,hS9⟩
    case measure=>simp [intOf];omega
  ·have HF:Hid (bT m ms=k):=by have:=mV m ms;have:=HK.out;unfold Hid;omega
   have hd:decide ((k:Int) < (ms.length:Int))=false:=by simpa using hlt
   have hd':decide (k < ms.length)=false:=by simpa using hlt
   clear hc
   go_wp2_with fail
   refine av (by kernel_rfl) (by kernel_rfl) hS ?_
   repeat (go_big_quiet_step (fail))
   refine wpQuiet_nil ?_
   intro w9 hS9
   go_wp2
   go_ret
   exact ⟨by rw [HF.out];rfl,hS1.trans hS9⟩
end Go.Proofs.YtiiifecfdkjmbaaGreat
