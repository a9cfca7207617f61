/- Lemmas. Lemmas. -/
import Derived.RangeFuncNested
import Derived.RangeFuncBound
import Derived.RangeFuncCalls
import Derived.RangeFuncLeaves
import Derived.RangeFuncBox
import Derived.Shelf.Abstract
import Derived.Shelf.RegionOpen
import Derived.OwnWalkIn
import Derived.TacticsInMore
import Derived.LoopNIn
import Derived.LoopIn
import Derived.Maps.AppendAt
import Derived.Test.YtiiifecfdkjmbaaGroups
import Derived.Deep.RegionWith
namespace Go.Proofs.Ytiiifecfdkjmbaa
set_option maxRecDepth 8000
open Go.RowKit Go.Shelf
attribute [local go_sem] Oper.semAt_some
theorem aL {W:World} {hi:Nat} {e:TypeId} {size:Nat} {v:Value} {k:Nat} {xs:List Value} (hrow:W.ownsRow hi e size v k xs):∀ j,v.ownBlock=some j->hi<=j:=by
 intro j ej
 rcases hrow.2 with ⟨rfl,_⟩ | ⟨g,cap,cur,rfl,hb,_,_⟩
 ·simp [Value.ownBlock] at ej
 ·obtain rfl:g=j:=by simpa [Value.ownBlock] using ej
  exact hb
theorem nH {W:World} {lo hi:Nat} {e:TypeId} {size:Nat} {v:Value} {k:Nat} {xs:List Value} (h:lo<=hi) (hrow:W.ownsRow hi e size v k xs):W.ownsRow lo e size v k xs:=by
 refine ⟨hrow.1, ?_⟩
 rcases hrow.2 with h2 | ⟨g,cap,cur,e1,e2,e3⟩
 ·exact .inl h2
 ·exact .inr ⟨g,cap,cur,e1,zQ5 h e2,e3⟩
end Go.Proofs.Ytiiifecfdkjmbaa
namespace Go.Proofs.Ytiiifecfdkjmbaa
open _root_.Go.Proofs.Try hiding checked
set_option maxRecDepth 8000
open Go.RowKit Go.Shelf
theorem Ints.below {w W:World} {a:Option Addr} {len:Nat} {xs:List Int} (h:Ints w a len xs) (hb:Below w.heap.size w W):Ints W a len xs:=by
 refine ⟨h.hlen,h.hmax,fun hp=>?_⟩
 obtain ⟨b,off,e,hbl,hc⟩:=h.cells hp
 exact ⟨b,off,e,by have:=hb.size;omega,fun i hi'=>(hb.cell (p:=⟨b,off+i,none⟩) hbl).trans (hc i hi')⟩
theorem tH (a:Option Addr) (len cap:Nat) (xs:List Int) (a':Option Addr) (len' cap':Nat) (ys:List Int) (w:World) (hI:Ints w a len xs) (hJ:Ints w a' len' ys) :
  Calls prog 46 #[.slice a len cap,.slice a' len' cap'] w fun e w'=>e=.returned (.bool (decide (xs=ys)))/\∃ k,w'=w.drewN k:=by
 obtain ⟨rfl,hm,hc⟩:=hI
 obtain ⟨rfl,hm',hc'⟩:=hJ
 by_cases hne:xs.length=ys.length
 ·have hb:((xs.length:Int) != (ys.length:Int))=false:=by simp [hne]
  have HE:Hid (xs.length=ys.length):=hne
  clear hne
  go_enter func46,ntmps46
  go_wp2
  go_loopw [5] (fun i wr=>(∃ k:Nat,k<=xs.length/\i=.int .i64 k/\xs.take k=ys.take k)/\∃ q,wr=w.drewN q) (fun i _=>xs.length - (intOf i).toNat)
  case atStart=>exact ⟨⟨0,Nat.zero_le _,rfl,rfl⟩,0,rfl⟩
  case round =>
   obtain ⟨⟨k,hk,rfl,hn⟩,hq⟩:=hrel
   have HN:Hid (xs.take k=ys.take k):=hn
   have HQ:Hid (∃ q,wr=w.drewN q):=hq
   clear hn
   by_cases hlt:k < xs.length
   ·have hlt':k < ys.length:=by have:=HE.out;omega
    obtain ⟨b,off,rfl,hbb,hcell⟩:=hc (by omega)
    obtain ⟨b',off',rfl,Fz,hcell'⟩:=hc' (by omega)
    have hx:wr.cell? ⟨b,off+k,none⟩=some (.int .i64 (xs[k]?.getD 0)):=by obtain ⟨q,rfl⟩:=hq;simpa using hcell k hlt
    have hy:wr.cell? ⟨b',off'+k,none⟩=some (.int .i64 (ys[k]?.getD 0)):=by obtain ⟨q,rfl⟩:=hq;simpa using hcell' k hlt'
    clear hq hcell hcell' hc hc'
    cases hd:(xs[k] != ys[k])
    ·have HS:Hid (xs.take (k+1)=ys.take (k+1)):=by
      have e:xs[k]=ys[k]:=by simpa using hd
      unfold Hid;rw [List.take_succ_eq_append_getElem hlt,List.take_succ_eq_append_getElem hlt',HN.out,e]
     go_wp2_with fail
     go_quiet (fail)
     go_wp2
     go_roundw
     case rel=>exact ⟨⟨k+1,by omega,by go_num,HS.out⟩,by obtain ⟨q,e⟩:=HQ.out;exact ⟨q+nq,by rw [e,World.drewN_drewN]⟩⟩
     case measure=>simp [intOf];omega
    ·have HS:Hid (decide (xs=ys)=false):=by
      have e:xs[k]≠ys[k]:=by simpa using hd
      unfold Hid;rw [decide_eq_false_iff_not];intro h;subst h;exact e rfl
     go_wp2_with fail
     go_quiet (fail)
     go_wp2
     go_ret
     exact ⟨by rw [HS.out];rfl,by obtain ⟨q,e⟩:=HQ.out;exact ⟨q+nq,by rw [e,World.drewN_drewN]⟩⟩
   ·have HS:Hid (decide (xs=ys)=true):=by
     have e:k=xs.length:=by omega
     have h:=HN.out
     have h2:=HE.out
     rw [e,List.take_length,h2,List.take_length] at h
     unfold Hid;simp [h]
    clear hq hc hc'
    go_wp2
    go_ret
    exact ⟨by rw [HS.out];rfl,HQ.out⟩
 ·have hb:((xs.length:Int) != (ys.length:Int))=true:=by simp;omega
  have HS:Hid (decide (xs=ys)=false):=by unfold Hid;rw [decide_eq_false_iff_not];intro h;subst h;exact hne rfl
  clear hne hc hc'
  go_enter func46,ntmps46
  go_wp2
  go_ret
  exact ⟨by rw [HS.out];rfl,0,rfl⟩
theorem below_drewN {B:Nat} {a w:World} (h:Below B a w) (k:Nat):Below B a (w.drewN k) :=
 ⟨h.os,h.tape,h.output,h.size,h.block⟩
structure Since (w0 w:World):Prop where
 below:Below w0.heap.size w0 w
theorem Since.refl (w:World):Since w w:=⟨Below.refl _ _⟩
theorem Since.size {w0 w:World} (h:Since w0 w):w0.heap.size<=w.heap.size:=h.below.size
theorem Since.step {w0 w w':World} (h:Since w0 w) (k:Below w.heap.size w w'):Since w0 w':=⟨h.below.trans (k.mono h.size)⟩
theorem Ints.since {w w':World} {a:Option Addr} {len:Nat} {xs:List Int} (h:Ints w a len xs) (k:Since w w'):Ints w' a len xs:=h.below k.below
theorem FC (w0 w:World) (h:Since w0 w) :
  Calls prog 43 #[] w fun e w'=>∃ b cap,e=.returned (.slice (some ⟨b,0,none⟩) 2 cap)/\Ints w' (some ⟨b,0,none⟩) 2 [3,6]/\Since w0 w':=by
 go_enter func43,ntmps43
 go_wp2
 go_ret
 refine ⟨_,_,rfl,⟨rfl,by omega,fun _=>⟨_,_,rfl,by simp,fun i hi=>?_⟩⟩,h.step ((Below.refl _ _).alloc (Nat.le_refl _) _)⟩
 rcases (show i=0\/i=1 by omega) with rfl | rfl <;> simp [go_sem]
theorem yV (w0 w:World) (nodes:Int) (a:Option Addr) (len cap:Nat) (xs:List Int) (hI:Ints w a len xs) (h:Since w0 w) :
  Calls prog 38 #[.int .i64 nodes,.slice a len cap] w fun e w'=>e=.returned (.int .i64 (bP nodes xs))/\Since w0 w' :=
 (rU nodes a len cap xs w hI).mono fun e w' ⟨he,hw⟩=>⟨he,by rw [hw];exact h.step ((Below.refl _ _).alloc (Nat.le_refl _) _)⟩
theorem pQ (w0 w:World) (nodes:Int) (a:Option Addr) (len cap:Nat) (xs:List Int) (hI:Ints w a len xs) (h:Since w0 w) :
  Calls prog 13 #[.int .i64 nodes,.slice a len cap] w fun e w'=>e=.returned (.int .i64 (bP nodes xs))/\Since w0 w' :=
 (zI nodes a len cap xs w hI).mono fun e w' ⟨he,k,hw⟩=>⟨he,by rw [hw];exact h.step (below_drewN (Below.refl _ _) k)⟩
theorem xK (w0 w:World) (a:Option Addr) (len cap:Nat) (xs:List Int) (a':Option Addr) (len' cap':Nat) (ys:List Int) (hI:Ints w a len xs) (hJ:Ints w a' len' ys) (h:Since w0 w) :
  Calls prog 46 #[.slice a len cap,.slice a' len' cap'] w fun e w'=>e=.returned (.bool (decide (xs=ys)))/\Since w0 w' :=
 (tH a len cap xs a' len' cap' ys w hI hJ).mono fun e w' ⟨he,k,hw⟩=>⟨he,by rw [hw];exact h.step (below_drewN (Below.refl _ _) k)⟩
theorem j4 {w:World} {v:Int}:Ints (w.alloc (.cells #[.int .i64 v] 3)) (some ⟨w.heap.size,0,none⟩) 1 [v] :=
 ⟨rfl,by omega,fun _=>⟨_,_,rfl,by simp,fun i hi=>by
  obtain rfl:i=0:=by omega
  simp [go_sem]⟩⟩
theorem AJ {w:World}:Ints w none 0 []:=⟨rfl,by omega,fun h=>absurd h (by omega)⟩
theorem Since.alloc {w0 w:World} (h:Since w0 w) (o:Obj):Since w0 (w.alloc o):=h.step ((Below.refl _ _).alloc (Nat.le_refl _) _)
theorem au {w w1:World} {o:Obj} (h:w.alloc o=w1):Since w w1:=by rw [<-h];exact (Since.refl w).alloc _
end Go.Proofs.Ytiiifecfdkjmbaa
