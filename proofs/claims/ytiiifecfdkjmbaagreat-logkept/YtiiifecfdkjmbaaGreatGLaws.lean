/- Contracts of the document's answers on groups and of what must be in any case; then the walks of the laws GroupsTells and GroupsOf; no condition but that the slice reads as ints. -/
import Derived.Test.YtiiifecfdkjmbaaGreatIter
import Derived.Deep.RegionWith
namespace Go.Proofs.YtiiifecfdkjmbaaGreat
set_option maxRecDepth 8000
open Go.RowKit Go.Shelf
theorem Ints.below {w W:World} {a:Option Addr} {len:Nat} {xs:List Int} (h:Ints w a len xs) (hb:Below w.heap.size w W):Ints W a len xs:=by
 refine ⟨h.hlen,h.hmax,fun hp=>?_⟩
 obtain ⟨b,off,e,hbl,hc⟩:=h.cells hp
 exact ⟨b,off,e,by have:=hb.size;omega,fun i hi'=>(hb.cell (p:=⟨b,off+i,none⟩) hbl).trans (hc i hi')⟩
theorem Ints.drewN {w:World} {a:Option Addr} {len:Nat} {xs:List Int} (h:Ints w a len xs) (k:Nat):Ints (w.drewN k) a len xs:=by
 refine ⟨h.hlen,h.hmax,fun hp=>?_⟩
 obtain ⟨b,off,e,hbl,hc⟩:=h.cells hp
 exact ⟨b,off,e,by simpa using hbl,fun i hi'=>by simpa using hc i hi'⟩
theorem xW {W:World} {base:Nat} {v:Value} {l:List Nat} (h:W.ownsRow base 3 1 v l.length (nums l)) (hl:l.length≤17592186043904):∃ a cap,v=.slice a l.length cap∧Ints W a l.length (l.map fun g:Nat=>(g:Int)):=by
 rcases h.2 with ⟨rfl,h0⟩ | ⟨g,cap,cur,rfl,h1,h2,h3,h4,h5,h6⟩
 ·have:l=[]:=List.eq_nil_of_length_eq_zero h0
  subst this
  exact ⟨none,0,rfl,rfl,by simp,fun hp=>absurd hp (by simp)⟩
 ·refine ⟨_,cap,rfl,by simp,hl,fun hp=>⟨g,0,rfl,(Array.getElem?_eq_some_iff.1 h2).1,fun i hi=>?_⟩⟩
  have hcur:cur[i]? = some (.int .i64 (l[i]:Nat)):=by
   have:(cur.toList.take (l.length*1))[i]? = (nums l)[i]?:=by rw [h6]
   rw [List.getElem?_take,if_pos (by omega)] at this
   simp [nums,hi] at this
   simpa using this
  simp [World.cell?,h2,hcur,hi]
theorem Ec (xs:List Int) (n:Int) (k:Nat) (hk:k < xs.length):hasB xs k n=!([n].any (kR (xs[k]?.getD 0))):=by
 simp [hasB,kR,hk]
theorem CB (a:Option Addr) (len cap:Nat) (xs:List Int) (a':Option Addr) (len' cap':Nat) (ys:List Int) (w:World) (hI:Ints w a len xs) (hJ:Ints w a' len' ys) :
  Calls Tryz.prog 84 #[.slice a len cap,.slice a' len' cap'] w fun e w'=>e=.returned (.bool (decide (xs=ys)))∧∃ k,w'=w.drewN k:=by
 obtain ⟨rfl,hm,hc⟩:=hI
 obtain ⟨rfl,hm',hc'⟩:=hJ
 by_cases hne:xs.length=ys.length
 ·have hb:((xs.length:Int) != (ys.length:Int))=false:=by simp [hne]
  have HE:Hid (xs.length=ys.length):=hne
  clear hne
  go_enter Tryz.func84,Tryz.ntmps84
  go_wp2
  go_loopw [5] (fun i wr=>(∃ k:Nat,k≤xs.length∧i=.int .i64 k∧xs.take k=ys.take k)∧∃ q,wr=w.drewN q) (fun i _=>xs.length - (intOf i).toNat)
  case atStart=>exact ⟨⟨0,Nat.zero_le _,rfl,rfl⟩,0,rfl⟩
  case round =>
   obtain ⟨⟨k,hk,rfl,hn⟩,hq⟩:=hrel
   have HN:Hid (xs.take k=ys.take k):=hn
   have HQ:Hid (∃ q,wr=w.drewN q):=hq
   clear hn
   by_cases hlt:k < xs.length
   ·have hlt':k < ys.length:=by have:=HE.out;omega
    obtain ⟨b,off,rfl,hbb,hcell⟩:=hc (by omega)
    obtain ⟨b',off',rfl,MU,hcell'⟩:=hc' (by omega)
    have hx:wr.cell? ⟨b,off+k,none⟩=some (.int .i64 (xs[k]?.getD 0)):=by obtain ⟨q,rfl⟩:=hq;simpa using hcell k hlt
    have hy:wr.cell? ⟨b',off'+k,none⟩=some (.int .i64 (ys[k]?.getD 0)):=by obtain ⟨q,rfl⟩:=hq;simpa using hcell' k hlt'
    clear hq hcell hcell' hc hc'
    cases hd:(xs[k] != ys[k])
    ·have HS:Hid (xs.take (k+1)=ys.take (k+1)):=by
      have e:xs[k]=ys[k]:=by simpa using hd
      unfold Hid;rw [List.take_succ_eq_append_getElem hlt,List.take_succ_eq_append_getElem hlt',HN.out,e]
     go_wp2_with fail
     go_quiet (fail)
     go_wp2
     go_roundw
     case rel=>exact ⟨⟨k+1,by omega,by go_num,HS.out⟩,by obtain ⟨q,e⟩:=HQ.out;exact ⟨q+nq,by rw [e,World.drewN_drewN]⟩⟩
     case measure=>simp [intOf];omega
    ·have HS:Hid (decide (xs=ys)=false):=by
      have e:xs[k]≠ys[k]:=by simpa using hd
      unfold Hid;rw [decide_eq_false_iff_not];intro h;subst h;exact e rfl
     go_wp2_with fail
     go_quiet (fail)
     go_wp2
     go_ret
     exact ⟨by rw [HS.out];rfl,by obtain ⟨q,e⟩:=HQ.out;exact ⟨q+nq,by rw [e,World.drewN_drewN]⟩⟩
   ·have HS:Hid (decide (xs=ys)=true):=by
     have e:k=xs.length:=by omega
     have h:=HN.out
     have h2:=HE.out
     rw [e,List.take_length,h2,List.take_length] at h
     unfold Hid;simp [h]
    clear hq hc hc'
    go_wp2
    go_ret
    exact ⟨by rw [HS.out];rfl,HQ.out⟩
 ·have hb:((xs.length:Int) != (ys.length:Int))=true:=by simp;omega
  have HS:Hid (decide (xs=ys)=false):=by unfold Hid;rw [decide_eq_false_iff_not];intro h;subst h;exact hne rfl
  clear hne hc hc'
  go_enter Tryz.func84,Tryz.ntmps84
  go_wp2
  go_ret
  exact ⟨by rw [HS.out];rfl,0,rfl⟩
theorem below_drewN {B:Nat} {a w:World} (h:Below B a w) (k:Nat):Below B a (w.drewN k) :=
 ⟨h.os,h.tape,h.output,h.size,h.block⟩
structure Since (w0 w:World):Prop where
 below:Below w0.heap.size w0 w
theorem Since.refl (w:World):Since w w:=⟨Below.refl _ _⟩
theorem Since.size {w0 w:World} (h:Since w0 w):w0.heap.size≤w.heap.size:=h.below.size
theorem Since.step {w0 w w':World} (h:Since w0 w) (k:Below w.heap.size w w'):Since w0 w':=⟨h.below.trans (k.mono h.size)⟩
theorem Ints.since {w w':World} {a:Option Addr} {len:Nat} {xs:List Int} (h:Ints w a len xs) (k:Since w w'):Ints w' a len xs:=h.below k.below
theorem NG (w0 w:World) (h:Since w0 w) :
  Calls Tryz.prog 125 #[] w fun e w'=>∃ b cap,e=.returned (.slice (some ⟨b,0,none⟩) 2 cap)∧Ints w' (some ⟨b,0,none⟩) 2 [3,6]∧Since w0 w':=by
 go_enter Tryz.func125,Tryz.ntmps125
 go_wp2
 go_ret
 refine ⟨_,_,rfl,⟨rfl,by omega,fun _=>⟨_,_,rfl,by simp,fun i hi=>?_⟩⟩,h.step ((Below.refl _ _).alloc (Nat.le_refl _) _)⟩
 rcases (show i=0∨i=1 by omega) with rfl | rfl <;> simp [go_sem]
theorem IU (w0 w:World) (nodes:Int) (a:Option Addr) (len cap:Nat) (xs:List Int) (hI:Ints w a len xs) (h:Since w0 w) :
  Calls Tryz.prog 158 #[.int .i64 nodes,.slice a len cap] w fun e w'=>e=.returned (.int .i64 (dB nodes xs))∧Since w0 w' :=
 (sP nodes a len cap xs w hI).mono fun e w' ⟨he,hw⟩=>⟨he,by rw [hw];exact h.step ((Below.refl _ _).alloc (Nat.le_refl _) _)⟩
theorem vK (w0 w:World) (nodes:Int) (a:Option Addr) (len cap:Nat) (xs:List Int) (hI:Ints w a len xs) (h:Since w0 w) :
  Calls Tryz.prog 69 #[.int .i64 nodes,.slice a len cap] w fun e w'=>e=.returned (.int .i64 (dB nodes xs))∧Since w0 w' :=
 (Jy nodes a len cap xs w hI).mono fun e w' ⟨he,k,hw⟩=>⟨he,by rw [hw];exact h.step (below_drewN (Below.refl _ _) k)⟩
def Jz (xs ns:List Int):List Int:=(hits xs ns xs.length).map fun g:Nat=>(g:Int)
theorem KV {w:World} {a:Option Addr} {len:Nat} {xs:List Int} (hI:Ints w a len xs) (ns:List Int):(hits xs ns len).length≤17592186043904:=by
 have:=CF xs ns len;have:=hI.hmax;omega
theorem Gq (w0 w:World) (a:Option Addr) (len cap:Nat) (xs:List Int) (a':Option Addr) (len' cap':Nat) (ys:List Int) (hI:Ints w a len xs) (hJ:Ints w a' len' ys) (h:Since w0 w) :
  Calls Tryz.prog 84 #[.slice a len cap,.slice a' len' cap'] w fun e w'=>e=.returned (.bool (decide (xs=ys)))∧Since w0 w' :=
 (CB a len cap xs a' len' cap' ys w hI hJ).mono fun e w' ⟨he,k,hw⟩=>⟨he,by rw [hw];exact h.step (below_drewN (Below.refl _ _) k)⟩
theorem yY {w:World}:Ints w none 0 []:=⟨rfl,by omega,fun h=>absurd h (by omega)⟩
theorem Since.alloc {w0 w:World} (h:Since w0 w) (o:Obj):Since w0 (w.alloc o):=h.step ((Below.refl _ _).alloc (Nat.le_refl _) _)
theorem ak {w w1:World} {o:Obj} (h:w.alloc o=w1):Since w w1:=by rw [←h];exact (Since.refl w).alloc _
end Go.Proofs.YtiiifecfdkjmbaaGreat
