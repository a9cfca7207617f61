/- Lemmas. -/
import Derived.Test.YtediempflagfkaaGreatDoorIter
import Derived.Deep.RegionWith
set_option linter.unusedVariables false
set_option linter.unusedSimpArgs false
set_option linter.unnecessarySimpa false
namespace Go.Proofs.YtediempflagfkaaGreatDoor
open _root_.Go.Proofs.Tryz hiding checked
set_option maxRecDepth 8000
open Go.RowKit Go.Shelf
theorem Ints.below{w W:World}{a:Option Addr}{len:Nat}{xs:List Int}(h:Ints w a len xs)(hb:Below w.heap.size w W):Ints W a len xs:=by
 refine⟨h.bq,h.dY,fun hp=>?_⟩;obtain⟨b,off,e,hbl,hc⟩:=h.cells hp;exact⟨b,off,e,by have:=hb.size;omega,fun i hi'=>(hb.cell (p:=⟨b,off+i,none⟩) hbl).trans (hc i hi')⟩
theorem zu{W:World}{base:Nat}{v:Value}{l:List Nat}(h:W.ownsRow base 3 1 v l.length (nums l))(hl:l.length<=17592186043904):∃a cap,v=.slice a l.length cap/\Ints W a l.length (l.map fun g:Nat=>(g:Int)):=by
 rcases h.2 with ⟨rfl,h0⟩ | ⟨g,cap,cur,rfl,h1,h2,h3,h4,h5,h6⟩
 ·have:l=[]:=zQ6 h0;subst this;exact⟨none,0,rfl,rfl,by simp,fun hp=>absurd hp (by simp)⟩
 ·refine⟨_,cap,rfl,by simp,hl,fun hp=>⟨g,0,rfl,(zQ3.1 h2).1,fun i hi=>?_⟩⟩
  have hcur:cur[i]? = some (.int .i64 (l[i]:Nat)):=by
   have:(cur.toList.take (l.length*1))[i]? = (nums l)[i]?:=by rw[h6]
   rw[List.getElem?_take,if_pos (by omega)]at this;simp[nums,hi]at this;simpa using this
  simp[World.cell?,h2,hcur,hi]
theorem Gh(xs:List Int)(n:Int)(k:Nat)(hk:k < xs.length):hasB xs k n=!([n].any (lG (xs[k]?.getD 0))):=by
 simp[hasB,lG,hk]
theorem below_drewN{B:Nat}{a w:World}(h:Below B a w)(k:Nat):Below B a (w.drewN k) :=
 ⟨h.os,h.tape,h.output,h.size,h.block⟩
structure ak (w0 w:World):Prop where
 below:Below w0.heap.size w0 w
theorem ak.refl(w:World):ak w w:=⟨Below.refl _ _⟩
theorem ak.size{w0 w:World}(h:ak w0 w):w0.heap.size<=w.heap.size:=h.below.size
theorem ak.step{w0 w w':World}(h:ak w0 w)(k:Below w.heap.size w w'):ak w0 w':=⟨h.below.trans (k.mono h.size)⟩
theorem Ints.ay{w w':World}{a:Option Addr}{len:Nat}{xs:List Int}(h:Ints w a len xs)(k:ak w w'):Ints w' a len xs:=h.below k.below
theorem SA(w0 w:World)(h:ak w0 w) :
  Calls prog 19 #[] w fun e w'=>∃b cap,e=.returned (.slice (some ⟨b,0,none⟩) 2 cap)/\Ints w' (some ⟨b,0,none⟩) 2 [3,6]/\ak w0 w':=by
 go_enter func19,ntmps19
 go_wp2
 go_ret
 refine⟨_,_,rfl,⟨rfl,by omega,fun _=>⟨_,_,rfl,by simp,fun i hi=>?_⟩⟩,h.step ((Below.refl _ _).alloc (Nat.le_refl _) _)⟩
 rcases(show i=0\/i=1 by omega) with rfl | rfl <;> simp[go_sem]
theorem KM(w0 w:World)(ah:Int)(a:Option Addr)(len cap:Nat)(xs:List Int)(hI:Ints w a len xs)(h:ak w0 w) :
  Calls prog 20 #[.int .i64 ah,.slice a len cap] w fun e w'=>e=.returned (.int .i64 (dS ah xs))/\ak w0 w' :=
 (u7 ah a len cap xs w hI).mono fun e w' ⟨he,hw⟩=>⟨he,by rw[hw];exact h.step ((Below.refl _ _).alloc (Nat.le_refl _) _)⟩
theorem xM(w0 w:World)(ah:Int)(a:Option Addr)(len cap:Nat)(xs:List Int)(hI:Ints w a len xs)(h:ak w0 w) :
  Calls prog 15 #[.int .i64 ah,.slice a len cap] w fun e w'=>e=.returned (.int .i64 (dS ah xs))/\ak w0 w' :=
 (LZ ah a len cap xs w hI).mono fun e w' ⟨he,k,hw⟩=>⟨he,by rw[hw];exact h.step (below_drewN (Below.refl _ _) k)⟩
def L8(xs ns:List Int):List Int:=(hits xs ns xs.length).map fun g:Nat=>(g:Int)
theorem NW{w:World}{a:Option Addr}{len:Nat}{xs:List Int}(hI:Ints w a len xs)(ns:List Int):(hits xs ns len).length<=17592186043904:=by
 have:=EA xs ns len;have:=hI.dY;omega
theorem NY{w:World}:Ints w none 0 []:=⟨rfl,by omega,fun h=>absurd h (by omega)⟩
theorem ak.alloc{w0 w:World}(h:ak w0 w)(o:Obj):ak w0 (w.alloc o):=h.step ((Below.refl _ _).alloc (Nat.le_refl _) _)
theorem aF{w w1:World}{o:Obj}(h:w.alloc o=w1):ak w w1:=by rw[<-h];exact(ak.refl w).alloc _
end Go.Proofs.YtediempflagfkaaGreatDoor
