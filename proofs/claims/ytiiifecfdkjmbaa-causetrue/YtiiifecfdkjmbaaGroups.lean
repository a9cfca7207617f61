/- Lemmas. Lemmas. Lemmas. -/
import Derived.RowKit
import Derived.Test.YtiiifecfdkjmbaaRows
import Derived.KernelRfl
import Derived.JoinedOf
import Derived.WalkKit
import Derived.WalkSpells
import Derived.Deep.QuietTactic
import Derived.BigQuiet
namespace Go.Proofs.Ytiiifecfdkjmbaa
theorem zQ1 {α : Type} {l : List α} {i : Nat} (h : i < l.length) : l[i]? = some l[i] := List.getElem?_eq_getElem h
theorem zQ2 {α : Type} {l : List α} {i : Nat} {a : α} : l[i]? = some a ↔ ∃ h : i < l.length, l[i] = a := List.getElem?_eq_some_iff
theorem zQ3 {α : Type} {l : Array α} {i : Nat} {a : α} : l[i]? = some a ↔ ∃ h : i < l.size, l[i] = a := Array.getElem?_eq_some_iff
theorem zQ4 {a b c : Nat} (h : a < b) (k : b ≤ c) : a < c := Nat.lt_of_lt_of_le h k
theorem zQ5 {a b c : Nat} (h : a ≤ b) (k : b ≤ c) : a ≤ c := Nat.le_trans h k
theorem zQ6 {α : Type} {l : List α} (h : l.length = 0) : l = [] := List.eq_nil_of_length_eq_zero h
theorem zQ7 {α : Type} (l : List α) (i : Nat) (a : α) : l.toArray.setIfInBounds i a = (l.set i a).toArray := by simp
theorem zQ8 {α : Type} (x : α) (l : List α) (a : α) : (x :: l).set 0 a = a :: l := rfl
theorem zQ9 {α : Type} (x : α) (l : List α) (n : Nat) (a : α) : (x :: l).set (n + 1) a = x :: l.set n a := rfl
open _root_.Go.Proofs.Try
open Go.ChangeShapes Go.WideShapes
set_option maxRecDepth 8000
set_option linter.unusedVariables false
theorem xw:∀ l:List Char,wordsSigns l≠[]
 | []=>by simp [wordsSigns]
 | c::r=>by
  by_cases h:c=Char.ofNat 32
  ·subst h;simp [wordsSigns]
  ·unfold wordsSigns
   split
   ·simp
   ·simp
   ·split <;> simp
theorem nC (b:List Char):∀ a:List Char,wordsSigns (a++Char.ofNat 32::b)=wordsSigns a++wordsSigns b
 | []=>by simp [wordsSigns]
 | c::r=>by
  have ih:=nC b r
  by_cases h:c=Char.ofNat 32
  ·subst h
   show wordsSigns (Char.ofNat 32::(r++Char.ofNat 32::b))=wordsSigns (Char.ofNat 32::r)++wordsSigns b
   simp only [wordsSigns,ih,List.cons_append]
  ·show wordsSigns (c::(r++Char.ofNat 32::b))=wordsSigns (c::r)++wordsSigns b
   rw [wordsSigns.eq_3 c (r++Char.ofNat 32::b) h,wordsSigns.eq_3 c r h,ih]
   cases hr:wordsSigns r with
   | nil=>exact absurd hr (xw r)
   | cons w ws=>rfl
theorem Gi (L : List Char) (h1 : L.take 77 = L.take 76 ++ [Char.ofNat 32]) (h2 : ∀ R, behindMainWord (wordsSigns (L.take 76) ++ R) = "cut".toList :: R) : ∃ R, behindMainWord (wordsSigns L) = "cut".toList :: R := by
 have h:L=L.take 76++Char.ofNat 32::L.drop 77:=by
  have h3:=List.take_append_drop 77 L
  rw [h1,List.append_assoc] at h3
  exact h3.symm
 have h4:=nC (L.drop 77) (L.take 76)
 rw [<-h] at h4
 exact ⟨wordsSigns (L.drop 77),by rw [h4];exact h2 _⟩
def Cw:List Char:=([104,97,114,110,101,115,115,32,49,99,99,48,99,48,55,57,97,102,97,55,101,50,53,52,52,50,50,48,51,52,102,100,53,98,53,101,50,53,56,48,51,48,49,48,102,99,98,99,51,102,48,102,50,50,53,101,100,56,49,48,54,101,48,97,55,102,53,55,100,102,56,100,32,99,117,116,32,97,116,32,102,117,114,108,111,110,103,47,102,117,114,108,111,110,103,108,97,119,46,87,111,114,108,100,84,101,108,108,115,32,102,117,114,108,111,110,103,47,102,117,114,108,111,110,103,108,97,119,46,66,111,117,110,100,79,102,32,102,117,114,108,111,110,103,47,102,117,114,108,111,110,103,108,97,119,46,66,111,117,110,100,82,101,97,100,121,32,102,117,114,108,111,110,103,47,102,117,114,108,111,110,103,108,97,119,46,66,111,117,110,100,84,114,117,101,32,102,117,114,108,111,110,103,47,102,117,114,108,111,110,103,108,97,119,46,84,101,108,108,84,101,108,108,115,32,102,117,114,108,111,110,103,47,102,117,114,108,111,110,103,108,97,119,46,84,101,108,108,84,114,117,101,32,102,117,114,108,111,110,103,47,102,117,114,108,111,110,103,108,97,119,46,67,97,115,116,84,114,117,101,32,102,117,114,108,111,110,103,47,102,117,114,108,111,110,103,108,97,119,46,67,97,117,115,101,84,114,117,101,32,102,117,114,108,111,110,103,47,102,117,114,108,111,110,103,108,97,119,46,87,105,114,101,66,97,99,107]:List Nat).map Char.ofNat
theorem Iz:prog.initOrder=String.ofList Cw:=by kernel_rfl
theorem Es:prog.initOrder.toList=Cw:=(congrArg String.toList Iz).trans String.toList_ofList
theorem IC : ∃ R, behindMainWord (wordsSigns Cw) = "cut".toList :: R := Gi _ (by kernel_rfl) (fun R => by kernel_rfl)
theorem yV : ∃ R, behindMainWord (wordsSigns prog.initOrder.toList) = "cut".toList :: R := by rw [Es]; exact IC
-- (stated of any program: 'unfold' at the program itself parts the whole row)
theorem xZ (R : List (List Char)) : stripLifts liftWords ("cut".toList :: R) = ([], "cut".toList :: R) := by kernel_rfl
theorem IE (P : Program) (R : List (List Char)) (h : behindMainWord (wordsSigns P.initOrder.toList) = "cut".toList :: R) (h1 : P.laysLater = false) (h2 : P.bearsReflect = false) (h3 : P.doorFits [] = true) : P.mayEnter = true := by
 unfold Program.mayEnter
 rw [h]
 simp only [xZ,h1,h2,h3]
 kernel_rfl
theorem Et (P : Program) (R : List (List Char)) (h : behindMainWord (wordsSigns P.initOrder.toList) = "cut".toList :: R) : P.liftsFinal = false := by
 unfold Program.liftsFinal Program.headLifts
 simp only [h,xZ]
 kernel_rfl
theorem Gj (P : Program) (R : List (List Char)) (h : behindMainWord (wordsSigns P.initOrder.toList) = "cut".toList :: R) : P.make = some .cut := by
 unfold Program.make
 simp only [h]
 kernel_rfl
theorem LB:prog.mayEnter=true:=by
 obtain ⟨R,h⟩:=yV
 exact IE _ R h (by kernel_rfl) (by kernel_rfl) (by kernel_rfl)
theorem Ih:prog.liftsFinal=false:=by
 obtain ⟨R,h⟩:=yV
 exact Et _ R h
theorem J2:prog.make=some .cut:=by
 obtain ⟨R,h⟩:=yV
 exact Gj _ R h
end Go.Proofs.Ytiiifecfdkjmbaa
namespace Go.Proofs.Ytiiifecfdkjmbaa
open _root_.Go.Proofs.Try
set_option maxRecDepth 8000
open Go.RowKit
def inB (n lo hi:Int):Bool:=decide (lo<=n/\n<=hi)
theorem Kj (n lo hi:Int) (w:World) :
  Calls prog 41 #[.int .i64 n,.int .i64 lo,.int .i64 hi] w fun e w'=>e=.returned (.bool (inB n lo hi))/\w'=w:=by
 unfold inB
 by_cases h1:lo<=n
 ·by_cases h2:n<=hi
  ·go_enter func41,ntmps41
   go_wp2
   go_ret
   exact ⟨by simp [*],rfl⟩
  ·go_enter func41,ntmps41
   go_wp2
   go_ret
   exact ⟨by simp [*],rfl⟩
 ·go_enter func41,ntmps41
  go_wp2
  go_ret
  exact ⟨by simp;omega,rfl⟩
def Iy (x n:Int):Bool:=decide (0<=n) && (decide (n < 4) && (bits BinOp.and IntKind.i64 (x / 2 ^ n.toNat) 1 == 1))
theorem uV (x n:Int) (w:World) :
  Calls prog 56 #[.int .i64 x,.int .i64 n] w fun e w'=>e=.returned (.bool (Iy x n))/\w'=w:=by
 unfold Iy
 by_cases h1:0<=n
 ·by_cases h2:n < 4
  ·go_enter func56,ntmps56
   go_wp2
   go_ret
   exact ⟨by simp [*],rfl⟩
  ·have h3:decide (n < 4)=false:=by simpa using h2
   go_enter func56,ntmps56
   go_wp2
   go_ret
   exact ⟨by simp [*],rfl⟩
 ·have h3:decide (0<=n)=false:=by simpa using h1
  go_enter func56,ntmps56
  go_wp2
  go_ret
  exact ⟨by simp,rfl⟩
structure Ints (w:World) (a:Option Addr) (len:Nat) (xs:List Int):Prop where
 hlen:xs.length=len
 hmax:len<=17592186043904
 cells:0 < len->∃ b off,a=some ⟨b,off,none⟩/\b < w.heap.size/\∀ i,i < len->w.cell? ⟨b,off+i,none⟩=some (.int .i64 (xs[i]?.getD 0))
def hasB (xs:List Int) (g n:Int):Bool:=decide (0<=g) && (decide (g < xs.length) && Iy (xs[g.toNat]?.getD 0) n)
theorem eX (a:Option Addr) (len cap:Nat) (xs:List Int) (g n:Int) (w:World) (hI:Ints w a len xs) :
  Calls prog 25 #[.slice a len cap,.int .i64 g,.int .i64 n] w fun e w'=>e=.returned (.bool (hasB xs g n))/\w'=w:=by
 obtain ⟨rfl,hmax,hc⟩:=hI
 unfold hasB
 by_cases h1:0<=g
 ·by_cases h2:g < xs.length
  ·obtain ⟨b,off,rfl,hb,hcell⟩:=hc (by omega)
   have hx:=hcell g.toNat (by omega)
   have h3:g.toNat < xs.length:=by omega
   clear hcell hc
   go_enter func25,ntmps25
   go_wp2_with (go_at_call 56;refine (uV _ _ _).mono ?_;rintro e w' ⟨rfl,rfl⟩)
   go_ret
   exact ⟨by simp [*],rfl⟩
  ·have h3:decide (g < xs.length)=false:=by simpa using h2
   clear hc
   go_enter func25,ntmps25
   go_wp2
   go_ret
   exact ⟨by simp [*],rfl⟩
 ·have h3:decide (0<=g)=false:=by simpa using h1
  clear hc
  go_enter func25,ntmps25
  go_wp2
  go_ret
  exact ⟨by simp,rfl⟩
def ny (nodes x:Int):Bool:=decide (x<=0) || (x / 2 ^ nodes.toNat != 0)
theorem Gg (x n:Int) (w:World) (b:Nat) (h0:0<=n) (h4:n<=4) (hc:w.cell? ⟨b,0,none⟩=some (.int .i64 n)) :
  Calls prog 73 #[.int .i64 x,.pointer (some ⟨b,0,none⟩)] w fun e w'=>e=.returned (.bool (ny n x))/\w'=w:=by
 unfold ny
 by_cases h1:x<=0
 ·go_enter func73,ntmps73
  go_wp2
  go_ret
  exact ⟨by simp [*],rfl⟩
 ·have h2:decide (x<=0)=false:=by simpa using h1
  go_enter func73,ntmps73
  go_wp2
  go_ret
  exact ⟨by simp,rfl⟩
theorem Gh {p:Int->Bool} {xs:List Int} {k:Nat} (h:k < xs.length) (hp:p xs[k]=true):xs.any p=true :=
 List.any_eq_true.2 ⟨xs[k],List.getElem_mem h,hp⟩
theorem Ah {p:Int->Bool} {xs:List Int} {k:Nat} (h:k < xs.length) (h0:(xs.take k).any p=false) (hp:p xs[k]=false):(xs.take (k+1)).any p=false:=by
 rw [List.take_succ_eq_append_getElem h,List.any_append,h0];simp [hp]
theorem Ai (a:Option Addr) (len cap:Nat) (xs:List Int) (n:Int) (b:Nat) (w:World) (hI:Ints w a len xs) (h0:0<=n) (h4:n<=4) (hb:w.cell? ⟨b,0,none⟩=some (.int .i64 n)) :
  Calls prog 104 #[.slice a len cap,.func (.func 73) #[] #[.pointer (some ⟨b,0,none⟩)]] w fun e w'=>∃ r:Int,e=.returned (.int .i64 r)/\decide (0<=r)=xs.any (ny n)/\w'=w:=by
 obtain ⟨rfl,hmax,hc⟩:=hI
 go_enter func104,ntmps104
 go_wp2_with fail
 go_loop [5,8] (fun _ i=>∃ k:Nat,k<=xs.length/\i=.int .i64 k/\(xs.take k).any (ny n)=false) (fun _ i=>xs.length - (intOf i).toNat)
 case atStart=>exact ⟨0,Nat.zero_le _,rfl,rfl⟩
 case round =>
  obtain ⟨k,hk,rfl,hn⟩:=hrel
  by_cases hlt:k < xs.length
  ·obtain ⟨bb,off,rfl,hbb,hcell⟩:=hc (by omega)
   have hx:=hcell k hlt
   clear hcell hc
   have HN:Hid _:=hn
   clear hn
   go_wp2_with (go_at_call 73;refine (Gg _ n _ b h0 h4 hb).mono ?_;rintro e w' ⟨rfl,rfl⟩)
   ·go_ret
    exact ⟨_,rfl,by simp only [Int.natCast_nonneg,decide_true];exact (Gh hlt ‹_›).symm,rfl⟩
   ·go_round
    case rel=>exact ⟨k+1,by omega,by go_num,Ah hlt HN.out ‹_›⟩
    case measure=>simp [intOf];omega
  ·have hk':k=xs.length:=by omega
   have HN:Hid (xs.any (ny n)=false):=by rw [hk',List.take_length] at hn;exact hn
   clear hn
   go_wp2
   go_ret
   exact ⟨_,rfl,by rw [HN.out];rfl,rfl⟩
theorem nA (a:Option Addr) (len cap:Nat) (xs:List Int) (n:Int) (b:Nat) (w:World) (hI:Ints w a len xs) (h0:0<=n) (h4:n<=4) (hb:w.cell? ⟨b,0,none⟩=some (.int .i64 n)) :
  Calls prog 74 #[.slice a len cap,.func (.func 73) #[] #[.pointer (some ⟨b,0,none⟩)]] w fun e w'=>e=.returned (.bool (xs.any (ny n)))/\w'=w:=by
 go_enter func74,ntmps74
 go_wp2_with (go_at_call 104;refine (Ai _ _ _ xs n b _ hI h0 h4 hb).mono ?_;rintro e w' ⟨r,rfl,hr,rfl⟩)
 go_ret
 exact ⟨by simp,rfl⟩
def dJ (nodes:Int) (xs:List Int):Int :=
 if nodes < 1\/4 < nodes then 3 else if xs.length < 1\/3 < xs.length then 2 else if xs.any (ny nodes) then 1 else 0
theorem uW (w:World) (v:Value) (t:Nat):(w.alloc (.cells #[v] t)).cell? ⟨w.heap.size,0,none⟩=some v:=by simp [go_sem]
theorem Ints.alloc {w:World} {a:Option Addr} {len:Nat} {xs:List Int} (h:Ints w a len xs) (o:Obj):Ints (w.alloc o) a len xs:=by
 refine ⟨h.hlen,h.hmax,fun hp=>?_⟩
 obtain ⟨b,off,e,hb,hc⟩:=h.cells hp
 exact ⟨b,off,e,by simp;omega,fun i hi=>(World.cell?_of_block (w:=w) (Below.heap_alloc w o b hb)).trans (hc i hi)⟩
theorem nY (nodes:Int) (a:Option Addr) (len cap:Nat) (xs:List Int) (w:World) (hI:Ints w a len xs) :
  Calls prog 38 #[.int .i64 nodes,.slice a len cap] w fun e w'=>e=.returned (.int .i64 (dJ nodes xs))/\w'=w.alloc (.cells #[.int .i64 nodes] 3):=by
 have hmf:∀ (fn:Fn) (first cap:Array Value) (w:World),(Instr.makeFunc fn first cap).run prog w=.ok (.func fn first cap) w:=fun _ _ _ _=>rfl
 have hl:=hI.hlen
 have hm:=hI.hmax
 subst hl
 by_cases h1:nodes < 1
 ·have HF:Hid (dJ nodes xs=3):=by simp [dJ,h1,Hid]
  go_enter func38,ntmps38
  go_wp2
  go_ret
  exact ⟨by rw [HF.out];rfl,rfl⟩
 by_cases h2:4 < nodes
 ·have HF:Hid (dJ nodes xs=3):=by simp [dJ,h2,Hid]
  go_enter func38,ntmps38
  go_wp2
  go_ret
  exact ⟨by rw [HF.out];rfl,rfl⟩
 have h12:¬ (nodes < 1\/4 < nodes):=by omega
 by_cases h3:(xs.length:Int) < 1
 ·have HF:Hid (dJ nodes xs=2):=by have:xs.length < 1:=by omega
                                  simp only [dJ,Hid];rw [if_neg h12,if_pos (.inl this)]
  clear h12
  go_enter func38,ntmps38
  go_wp2
  go_ret
  exact ⟨by rw [HF.out];rfl,rfl⟩
 by_cases h4:3 < (xs.length:Int)
 ·have HF:Hid (dJ nodes xs=2):=by have:3 < xs.length:=by omega
                                  simp only [dJ,Hid];rw [if_neg h12,if_pos (.inr this)]
  clear h12
  go_enter func38,ntmps38
  go_wp2
  go_ret
  exact ⟨by rw [HF.out];rfl,rfl⟩
 have h34:¬ (xs.length < 1\/3 < xs.length):=by omega
 have HI:=hI.alloc (.cells #[.int .i64 nodes] 3)
 cases h5:xs.any (ny nodes)
 ·have HF:Hid (dJ nodes xs=0):=by simp only [dJ,Hid];rw [if_neg h12,if_neg h34,h5];rfl
  have H5:Hid _:=h5
  clear h12 h34 h5
  go_enter func38,ntmps38
  go_wp2_with (go_at_call 74;refine (nA _ _ _ xs nodes w.heap.size _ HI (by omega) (by omega) (uW _ _ _)).mono ?_;rw [H5.out];rintro e w' ⟨rfl,rfl⟩)
  go_ret
  exact ⟨by rw [HF.out];rfl,rfl⟩
 ·have HF:Hid (dJ nodes xs=1):=by simp only [dJ,Hid];rw [if_neg h12,if_neg h34,h5];rfl
  have H5:Hid _:=h5
  clear h12 h34 h5
  go_enter func38,ntmps38
  go_wp2_with (go_at_call 74;refine (nA _ _ _ xs nodes w.heap.size _ HI (by omega) (by omega) (uW _ _ _)).mono ?_;rw [H5.out];rintro e w' ⟨rfl,rfl⟩)
  go_ret
  exact ⟨by rw [HF.out];rfl,rfl⟩
end Go.Proofs.Ytiiifecfdkjmbaa
