/- Lemmas. Lemmas. Lemmas. -/
import Derived.RowKit
import Derived.Test.YtiiifecfdkjmbaaRows
import Derived.KernelRfl
import Derived.JoinedOf
import Derived.WalkKit
import Derived.WalkSpells
import Derived.Deep.QuietTactic
import Derived.BigQuiet
namespace Go.Proofs.Ytiiifecfdkjmbaa
theorem zQ1 {α : Type} {l : List α} {i : Nat} (h : i < l.length) : l[i]? = some l[i] := List.getElem?_eq_getElem h
theorem zQ2 {α : Type} {l : List α} {i : Nat} {a : α} : l[i]? = some a ↔ ∃ h : i < l.length, l[i] = a := List.getElem?_eq_some_iff
theorem zQ3 {α : Type} {l : Array α} {i : Nat} {a : α} : l[i]? = some a ↔ ∃ h : i < l.size, l[i] = a := Array.getElem?_eq_some_iff
theorem zQ4 {a b c : Nat} (h : a < b) (k : b ≤ c) : a < c := Nat.lt_of_lt_of_le h k
theorem zQ5 {a b c : Nat} (h : a ≤ b) (k : b ≤ c) : a ≤ c := Nat.le_trans h k
theorem zQ6 {α : Type} {l : List α} (h : l.length = 0) : l = [] := List.eq_nil_of_length_eq_zero h
theorem zQ7 {α : Type} (l : List α) (i : Nat) (a : α) : l.toArray.setIfInBounds i a = (l.set i a).toArray := by simp
theorem zQ8 {α : Type} (x : α) (l : List α) (a : α) : (x :: l).set 0 a = a :: l := rfl
theorem zQ9 {α : Type} (x : α) (l : List α) (n : Nat) (a : α) : (x :: l).set (n + 1) a = x :: l.set n a := rfl
open _root_.Go.Proofs.Try hiding checked
open Go.ChangeShapes Go.WideShapes
set_option maxRecDepth 8000
set_option linter.unusedVariables false
theorem rz:∀ l:List Char,wordsSigns l≠[]
 | []=>by simp [wordsSigns]
 | c::r=>by
  by_cases h:c=Char.ofNat 32
  ·subst h;simp [wordsSigns]
  ·unfold wordsSigns
   split
   ·simp
   ·simp
   ·split <;> simp
theorem lg (b:List Char):∀ a:List Char,wordsSigns (a++Char.ofNat 32::b)=wordsSigns a++wordsSigns b
 | []=>by simp [wordsSigns]
 | c::r=>by
  have ih:=lg b r
  by_cases h:c=Char.ofNat 32
  ·subst h
   show wordsSigns (Char.ofNat 32::(r++Char.ofNat 32::b))=wordsSigns (Char.ofNat 32::r)++wordsSigns b
   simp only [wordsSigns,ih,List.cons_append]
  ·show wordsSigns (c::(r++Char.ofNat 32::b))=wordsSigns (c::r)++wordsSigns b
   rw [wordsSigns.eq_3 c (r++Char.ofNat 32::b) h,wordsSigns.eq_3 c r h,ih]
   cases hr:wordsSigns r with
   | nil=>exact absurd hr (rz r)
   | cons w ws=>rfl
theorem AQ (L : List Char) (h1 : L.take 77 = L.take 76 ++ [Char.ofNat 32]) (h2 : ∀ R, behindMainWord (wordsSigns (L.take 76) ++ R) = "cut".toList :: R) : ∃ R, behindMainWord (wordsSigns L) = "cut".toList :: R := by
 have h:L=L.take 76++Char.ofNat 32::L.drop 77:=by
  have h3:=List.take_append_drop 77 L
  rw [h1,List.append_assoc] at h3
  exact h3.symm
 have h4:=lg (L.drop 77) (L.take 76)
 rw [<-h] at h4
 exact ⟨wordsSigns (L.drop 77),by rw [h4];exact h2 _⟩
def xM:List Char:=([104,97,114,110,101,115,115,32,49,99,99,48,99,48,55,57,97,102,97,55,101,50,53,52,52,50,50,48,51,52,102,100,53,98,53,101,50,53,56,48,51,48,49,48,102,99,98,99,51,102,48,102,50,50,53,101,100,56,49,48,54,101,48,97,55,102,53,55,100,102,56,100,32,99,117,116,32,97,116,32,102,117,114,108,111,110,103,47,102,117,114,108,111,110,103,108,97,119,46,87,111,114,108,100,84,101,108,108,115,32,102,117,114,108,111,110,103,47,102,117,114,108,111,110,103,108,97,119,46,66,111,117,110,100,79,102,32,102,117,114,108,111,110,103,47,102,117,114,108,111,110,103,108,97,119,46,66,111,117,110,100,82,101,97,100,121,32,102,117,114,108,111,110,103,47,102,117,114,108,111,110,103,108,97,119,46,66,111,117,110,100,84,114,117,101,32,102,117,114,108,111,110,103,47,102,117,114,108,111,110,103,108,97,119,46,84,101,108,108,84,101,108,108,115,32,102,117,114,108,111,110,103,47,102,117,114,108,111,110,103,108,97,119,46,84,101,108,108,84,114,117,101,32,102,117,114,108,111,110,103,47,102,117,114,108,111,110,103,108,97,119,46,67,97,115,116,84,114,117,101,32,102,117,114,108,111,110,103,47,102,117,114,108,111,110,103,108,97,119,46,67,97,117,115,101,84,114,117,101,32,102,117,114,108,111,110,103,47,102,117,114,108,111,110,103,108,97,119,46,87,105,114,101,66,97,99,107]:List Nat).map Char.ofNat
theorem CG:prog.initOrder=String.ofList xM:=by kernel_rfl
theorem zJ:prog.initOrder.toList=xM:=(congrArg String.toList CG).trans String.toList_ofList
theorem CJ : ∃ R, behindMainWord (wordsSigns xM) = "cut".toList :: R := AQ _ (by kernel_rfl) (fun R => by kernel_rfl)
theorem tJ : ∃ R, behindMainWord (wordsSigns prog.initOrder.toList) = "cut".toList :: R := by rw [zJ]; exact CJ
-- (stated of any program: 'unfold' at the program itself parts the whole row)
theorem rX (R : List (List Char)) : stripLifts liftWords ("cut".toList :: R) = ([], "cut".toList :: R) := by kernel_rfl
theorem CK (P : Program) (R : List (List Char)) (h : behindMainWord (wordsSigns P.initOrder.toList) = "cut".toList :: R) (h1 : P.laysLater = false) (h2 : P.bearsReflect = false) (h3 : P.doorFits [] = true) : P.mayEnter = true := by
 unfold Program.mayEnter
 rw [h]
 simp only [rX,h1,h2,h3]
 kernel_rfl
theorem zK (P : Program) (R : List (List Char)) (h : behindMainWord (wordsSigns P.initOrder.toList) = "cut".toList :: R) : P.liftsFinal = false := by
 unfold Program.liftsFinal Program.headLifts
 simp only [h,rX]
 kernel_rfl
theorem AU (P : Program) (R : List (List Char)) (h : behindMainWord (wordsSigns P.initOrder.toList) = "cut".toList :: R) : P.make = some .cut := by
 unfold Program.make
 simp only [h]
 kernel_rfl
theorem Fx:prog.mayEnter=true:=by
 obtain ⟨R,h⟩:=tJ
 exact CK _ R h (by kernel_rfl) (by kernel_rfl) (by kernel_rfl)
theorem CF:prog.liftsFinal=false:=by
 obtain ⟨R,h⟩:=tJ
 exact zK _ R h
theorem DX:prog.make=some .cut:=by
 obtain ⟨R,h⟩:=tJ
 exact AU _ R h
end Go.Proofs.Ytiiifecfdkjmbaa
namespace Go.Proofs.Ytiiifecfdkjmbaa
open _root_.Go.Proofs.Try hiding checked
set_option maxRecDepth 8000
open Go.RowKit
def inB (n lo hi:Int):Bool:=decide (lo<=n/\n<=hi)
theorem aI (n lo hi:Int) (w:World) :
  Calls prog 41 #[.int .i64 n,.int .i64 lo,.int .i64 hi] w fun e w'=>e=.returned (.bool (inB n lo hi))/\w'=w:=by
 unfold inB
 by_cases h1:lo<=n
 ·by_cases h2:n<=hi
  ·go_enter func41,ntmps41
   go_wp2
   go_ret
   exact ⟨by simp [*],rfl⟩
  ·go_enter func41,ntmps41
   go_wp2
   go_ret
   exact ⟨by simp [*],rfl⟩
 ·go_enter func41,ntmps41
  go_wp2
  go_ret
  exact ⟨by simp;omega,rfl⟩
def AL (x n:Int):Bool:=decide (0<=n) && (decide (n < 4) && (bits BinOp.and IntKind.i64 (x / 2 ^ n.toNat) 1 == 1))
theorem xL (x n:Int) (w:World) :
  Calls prog 56 #[.int .i64 x,.int .i64 n] w fun e w'=>e=.returned (.bool (AL x n))/\w'=w:=by
 unfold AL
 by_cases h1:0<=n
 ·by_cases h2:n < 4
  ·go_enter func56,ntmps56
   go_wp2
   go_ret
   exact ⟨by simp [*],rfl⟩
  ·have h3:decide (n < 4)=false:=by simpa using h2
   go_enter func56,ntmps56
   go_wp2
   go_ret
   exact ⟨by simp [*],rfl⟩
 ·have h3:decide (0<=n)=false:=by simpa using h1
  go_enter func56,ntmps56
  go_wp2
  go_ret
  exact ⟨by simp,rfl⟩
structure Ints (w:World) (a:Option Addr) (len:Nat) (xs:List Int):Prop where
 hlen:xs.length=len
 hmax:len<=17592186043904
 cells:0 < len->∃ b off,a=some ⟨b,off,none⟩/\b < w.heap.size/\∀ i,i < len->w.cell? ⟨b,off+i,none⟩=some (.int .i64 (xs[i]?.getD 0))
def hasB (xs:List Int) (g n:Int):Bool:=decide (0<=g) && (decide (g < xs.length) && AL (xs[g.toNat]?.getD 0) n)
theorem gX (a:Option Addr) (len cap:Nat) (xs:List Int) (g n:Int) (w:World) (hI:Ints w a len xs) :
  Calls prog 25 #[.slice a len cap,.int .i64 g,.int .i64 n] w fun e w'=>e=.returned (.bool (hasB xs g n))/\w'=w:=by
 obtain ⟨rfl,hmax,hc⟩:=hI
 unfold hasB
 by_cases h1:0<=g
 ·by_cases h2:g < xs.length
  ·obtain ⟨b,off,rfl,hb,hcell⟩:=hc (by omega)
   have hx:=hcell g.toNat (by omega)
   have h3:g.toNat < xs.length:=by omega
   clear hcell hc
   go_enter func25,ntmps25
   go_wp2_with (go_at_call 56;refine (xL _ _ _).mono ?_;rintro e w' ⟨rfl,rfl⟩)
   go_ret
   exact ⟨by simp [*],rfl⟩
  ·have h3:decide (g < xs.length)=false:=by simpa using h2
   clear hc
   go_enter func25,ntmps25
   go_wp2
   go_ret
   exact ⟨by simp [*],rfl⟩
 ·have h3:decide (0<=g)=false:=by simpa using h1
  clear hc
  go_enter func25,ntmps25
  go_wp2
  go_ret
  exact ⟨by simp,rfl⟩
theorem bC (a:Option Addr) (len cap:Nat) (xs:List Int) (g n:Int) (w:World) (hI:Ints w a len xs) :
  Calls prog 81 #[.slice a len cap,.int .i64 g,.int .i64 n] w fun e w'=>e=.returned (.bool (hasB xs g n))/\w'=w:=by
 obtain ⟨rfl,hmax,hc⟩:=hI
 unfold hasB
 by_cases h1:0<=g/\g < xs.length
 ·obtain ⟨h1,h2⟩:=h1
  obtain ⟨b,off,rfl,hb,hcell⟩:=hc (by omega)
  have hx:=hcell g.toNat (by omega)
  have h3:g.toNat < xs.length:=by omega
  have hi:inB g 0 (xs.length - 1)=true:=by simp [inB];omega
  clear hcell hc
  by_cases h4:0<=n/\n < 4
  ·obtain ⟨h4,h5⟩:=h4
   have hn:inB n 0 3=true:=by simp [inB];omega
   go_enter func81,ntmps81
   go_wp2_with (go_at_call 41;refine (aI _ _ _ _).mono ?_;rintro e w' ⟨rfl,rfl⟩)
   go_ret
   exact ⟨by simp [AL, *],rfl⟩
  ·have hn:inB n 0 3=false:=by simp [inB];omega
   go_enter func81,ntmps81
   go_wp2_with (go_at_call 41;refine (aI _ _ _ _).mono ?_;rintro e w' ⟨rfl,rfl⟩)
   go_ret
   refine ⟨?_,rfl⟩
   simp [AL, *]
   omega
 ·have hi:inB g 0 (xs.length - 1)=false:=by simp [inB];omega
  clear hc
  go_enter func81,ntmps81
  go_wp2_with (go_at_call 41;refine (aI _ _ _ _).mono ?_;rintro e w' ⟨rfl,rfl⟩)
  go_ret
  refine ⟨?_,rfl⟩
  simp
  omega
def pw:Nat->Int
 | 0=>1
 | k+1=>2*pw k
theorem Dx (k:Nat) (h:k<=4):1<=pw k/\pw k<=16:=by
 have:k=0\/k=1\/k=2\/k=3\/k=4:=by omega
 rcases this with rfl | rfl | rfl | rfl | rfl <;> decide
theorem rV (k:Nat) (hk:k<=4) (w:World) :
  Calls prog 42 #[.int .i64 k] w fun e w'=>e=.returned (.int .i64 (pw k))/\w'=w:=by
 induction k with
 | zero =>
  go_enter func42,ntmps42
  go_wp2_with fail
  go_ret
  exact ⟨rfl,rfl⟩
 | succ k ih =>
  have H:Hid (Calls prog 42 #[.int .i64 k] w fun e w'=>e=.returned (.int .i64 (pw k))/\w'=w):=ih (by omega)
  clear ih
  have hb:=Dx k (by omega)
  go_enter func42,ntmps42
  go_wp2_with (go_at_call 42;refine (H.out).mono ?_;rintro e w' ⟨rfl,rfl⟩)
  go_ret
  exact ⟨rfl,rfl⟩
def gH (nodes x:Int):Bool:=decide (x<=0) || (x / 2 ^ nodes.toNat != 0)
theorem rW (k:Nat) (hk:k<=4) (x:Int):gH k x=!inB x 1 (pw k - 1):=by
 have:k=0\/k=1\/k=2\/k=3\/k=4:=by omega
 rcases this with rfl | rfl | rfl | rfl | rfl <;> simp [gH,inB,pw] <;> rw [Bool.eq_iff_iff] <;> simp <;> omega
theorem AO (x n:Int) (w:World) (b:Nat) (h0:0<=n) (h4:n<=4) (hc:w.cell? ⟨b,0,none⟩=some (.int .i64 n)) :
  Calls prog 73 #[.int .i64 x,.pointer (some ⟨b,0,none⟩)] w fun e w'=>e=.returned (.bool (gH n x))/\w'=w:=by
 unfold gH
 by_cases h1:x<=0
 ·go_enter func73,ntmps73
  go_wp2
  go_ret
  exact ⟨by simp [*],rfl⟩
 ·have h2:decide (x<=0)=false:=by simpa using h1
  go_enter func73,ntmps73
  go_wp2
  go_ret
  exact ⟨by simp,rfl⟩
theorem AP {p:Int->Bool} {xs:List Int} {k:Nat} (h:k < xs.length) (hp:p xs[k]=true):xs.any p=true :=
 List.any_eq_true.2 ⟨xs[k],List.getElem_mem h,hp⟩
theorem vg {p:Int->Bool} {xs:List Int} {k:Nat} (h:k < xs.length) (h0:(xs.take k).any p=false) (hp:p xs[k]=false):(xs.take (k+1)).any p=false:=by
 rw [List.take_succ_eq_append_getElem h,List.any_append,h0];simp [hp]
theorem vk (a:Option Addr) (len cap:Nat) (xs:List Int) (n:Int) (b:Nat) (w:World) (hI:Ints w a len xs) (h0:0<=n) (h4:n<=4) (hb:w.cell? ⟨b,0,none⟩=some (.int .i64 n)) :
  Calls prog 104 #[.slice a len cap,.func (.func 73) #[] #[.pointer (some ⟨b,0,none⟩)]] w fun e w'=>∃ r:Int,e=.returned (.int .i64 r)/\decide (0<=r)=xs.any (gH n)/\w'=w:=by
 obtain ⟨rfl,hmax,hc⟩:=hI
 go_enter func104,ntmps104
 go_wp2_with fail
 go_loop [5,8] (fun _ i=>∃ k:Nat,k<=xs.length/\i=.int .i64 k/\(xs.take k).any (gH n)=false) (fun _ i=>xs.length - (intOf i).toNat)
 case atStart=>exact ⟨0,Nat.zero_le _,rfl,rfl⟩
 case round =>
  obtain ⟨k,hk,rfl,hn⟩:=hrel
  by_cases hlt:k < xs.length
  ·obtain ⟨bb,off,rfl,hbb,hcell⟩:=hc (by omega)
   have hx:=hcell k hlt
   clear hcell hc
   have HN:Hid _:=hn
   clear hn
   go_wp2_with (go_at_call 73;refine (AO _ n _ b h0 h4 hb).mono ?_;rintro e w' ⟨rfl,rfl⟩)
   ·go_ret
    exact ⟨_,rfl,by simp only [Int.natCast_nonneg,decide_true];exact (AP hlt ‹_›).symm,rfl⟩
   ·go_round
    case rel=>exact ⟨k+1,by omega,by go_num,vg hlt HN.out ‹_›⟩
    case measure=>simp [intOf];omega
  ·have hk':k=xs.length:=by omega
   have HN:Hid (xs.any (gH n)=false):=by rw [hk',List.take_length] at hn;exact hn
   clear hn
   go_wp2
   go_ret
   exact ⟨_,rfl,by rw [HN.out];rfl,rfl⟩
theorem kZ (a:Option Addr) (len cap:Nat) (xs:List Int) (n:Int) (b:Nat) (w:World) (hI:Ints w a len xs) (h0:0<=n) (h4:n<=4) (hb:w.cell? ⟨b,0,none⟩=some (.int .i64 n)) :
  Calls prog 74 #[.slice a len cap,.func (.func 73) #[] #[.pointer (some ⟨b,0,none⟩)]] w fun e w'=>e=.returned (.bool (xs.any (gH n)))/\w'=w:=by
 go_enter func74,ntmps74
 go_wp2_with (go_at_call 104;refine (vk _ _ _ xs n b _ hI h0 h4 hb).mono ?_;rintro e w' ⟨r,rfl,hr,rfl⟩)
 go_ret
 exact ⟨by simp,rfl⟩
def bP (nodes:Int) (xs:List Int):Int :=
 if nodes < 1\/4 < nodes then 3 else if xs.length < 1\/3 < xs.length then 2 else if xs.any (gH nodes) then 1 else 0
theorem vo (w:World) (v:Value) (t:Nat):(w.alloc (.cells #[v] t)).cell? ⟨w.heap.size,0,none⟩=some v:=by simp [go_sem]
theorem Ints.alloc {w:World} {a:Option Addr} {len:Nat} {xs:List Int} (h:Ints w a len xs) (o:Obj):Ints (w.alloc o) a len xs:=by
 refine ⟨h.hlen,h.hmax,fun hp=>?_⟩
 obtain ⟨b,off,e,hb,hc⟩:=h.cells hp
 exact ⟨b,off,e,by simp;omega,fun i hi=>(World.cell?_of_block (w:=w) (Below.heap_alloc w o b hb)).trans (hc i hi)⟩
theorem rU (nodes:Int) (a:Option Addr) (len cap:Nat) (xs:List Int) (w:World) (hI:Ints w a len xs) :
  Calls prog 38 #[.int .i64 nodes,.slice a len cap] w fun e w'=>e=.returned (.int .i64 (bP nodes xs))/\w'=w.alloc (.cells #[.int .i64 nodes] 3):=by
 have hmf:∀ (fn:Fn) (first cap:Array Value) (w:World),(Instr.makeFunc fn first cap).run prog w=.ok (.func fn first cap) w:=fun _ _ _ _=>rfl
 have hl:=hI.hlen
 have hm:=hI.hmax
 subst hl
 by_cases h1:nodes < 1
 ·have HF:Hid (bP nodes xs=3):=by simp [bP,h1,Hid]
  go_enter func38,ntmps38
  go_wp2
  go_ret
  exact ⟨by rw [HF.out];rfl,rfl⟩
 by_cases h2:4 < nodes
 ·have HF:Hid (bP nodes xs=3):=by simp [bP,h2,Hid]
  go_enter func38,ntmps38
  go_wp2
  go_ret
  exact ⟨by rw [HF.out];rfl,rfl⟩
 have h12:¬ (nodes < 1\/4 < nodes):=by omega
 by_cases h3:(xs.length:Int) < 1
 ·have HF:Hid (bP nodes xs=2):=by have:xs.length < 1:=by omega
                                  simp only [bP,Hid];rw [if_neg h12,if_pos (.inl this)]
  clear h12
  go_enter func38,ntmps38
  go_wp2
  go_ret
  exact ⟨by rw [HF.out];rfl,rfl⟩
 by_cases h4:3 < (xs.length:Int)
 ·have HF:Hid (bP nodes xs=2):=by have:3 < xs.length:=by omega
                                  simp only [bP,Hid];rw [if_neg h12,if_pos (.inr this)]
  clear h12
  go_enter func38,ntmps38
  go_wp2
  go_ret
  exact ⟨by rw [HF.out];rfl,rfl⟩
 have h34:¬ (xs.length < 1\/3 < xs.length):=by omega
 have HI:=hI.alloc (.cells #[.int .i64 nodes] 3)
 cases h5:xs.any (gH nodes)
 ·have HF:Hid (bP nodes xs=0):=by simp only [bP,Hid];rw [if_neg h12,if_neg h34,h5];rfl
  have H5:Hid _:=h5
  clear h12 h34 h5
  go_enter func38,ntmps38
  go_wp2_with (go_at_call 74;refine (kZ _ _ _ xs nodes w.heap.size _ HI (by omega) (by omega) (vo _ _ _)).mono ?_;rw [H5.out];rintro e w' ⟨rfl,rfl⟩)
  go_ret
  exact ⟨by rw [HF.out];rfl,rfl⟩
 ·have HF:Hid (bP nodes xs=1):=by simp only [bP,Hid];rw [if_neg h12,if_neg h34,h5];rfl
  have H5:Hid _:=h5
  clear h12 h34 h5
  go_enter func38,ntmps38
  go_wp2_with (go_at_call 74;refine (kZ _ _ _ xs nodes w.heap.size _ HI (by omega) (by omega) (vo _ _ _)).mono ?_;rw [H5.out];rintro e w' ⟨rfl,rfl⟩)
  go_ret
  exact ⟨by rw [HF.out];rfl,rfl⟩
theorem zI (nodes:Int) (a:Option Addr) (len cap:Nat) (xs:List Int) (w:World) (hI:Ints w a len xs) :
  Calls prog 13 #[.int .i64 nodes,.slice a len cap] w fun e w'=>e=.returned (.int .i64 (bP nodes xs))/\∃ k,w'=w.drewN k:=by
 obtain ⟨rfl,hm,hc⟩:=hI
 by_cases h1:nodes < 1\/4 < nodes
 ·have HF:Hid (bP nodes xs=3):=by simp [bP,h1,Hid]
  have hi:inB nodes 1 4=false:=by simp [inB];omega
  clear hc h1
  go_enter func13,ntmps13
  go_wp2_with (go_at_call 41;refine (aI _ _ _ _).mono ?_;rintro e w' ⟨rfl,rfl⟩)
  go_ret
  exact ⟨by rw [HF.out];rfl,0,rfl⟩
 have hi:inB nodes 1 4=true:=by simp [inB];omega
 by_cases h2:xs.length < 1\/3 < xs.length
 ·have HF:Hid (bP nodes xs=2):=by simp only [bP,Hid];rw [if_neg h1,if_pos h2]
  have hi2:inB xs.length 1 3=false:=by simp [inB];omega
  clear hc h1 h2
  go_enter func13,ntmps13
  go_wp2_with (go_at_call 41;refine (aI _ _ _ _).mono ?_;rintro e w' ⟨rfl,rfl⟩)
  go_ret
  exact ⟨by rw [HF.out];rfl,0,rfl⟩
 have hi2:inB xs.length 1 3=true:=by simp [inB];omega
 have HF:Hid (bP nodes xs=if xs.any (gH nodes) then 1 else 0):=by simp only [bP,Hid];rw [if_neg h1,if_neg h2]
 obtain ⟨nk,rfl⟩:=Int.eq_ofNat_of_zero_le (show 0<=nodes by omega)
 obtain ⟨b,off,rfl,hb,hcell⟩:=hc (by omega)
 have hp:=Dx nk (by omega)
 have hnk:nk<=4:=by omega
 clear hc h1 h2
 go_enter func13,ntmps13
 go_wp2_with (go_at_call 41;refine (aI _ _ _ _).mono ?_;rintro e w' ⟨rfl,hw⟩;obtain rfl:=hw.symm)
 go_loopw [5] (fun i wr=>(∃ k:Nat,k<=xs.length/\i=.int .i64 k/\(xs.take k).any (gH nk)=false)/\∃ q,wr=w.drewN q) (fun i _=>xs.length - (intOf i).toNat)
 case atStart=>exact ⟨⟨0,Nat.zero_le _,rfl,rfl⟩,0,rfl⟩
 case round =>
  obtain ⟨⟨k,hk,rfl,hn⟩,hq⟩:=hrel
  have HN:Hid _:=hn
  have HQ:Hid (∃ q,wr=w.drewN q):=hq
  clear hn
  by_cases hlt:k < xs.length
  ·have hx:wr.cell? ⟨b,off+k,none⟩=some (.int .i64 (xs[k]?.getD 0)):=by obtain ⟨q,rfl⟩:=hq;simpa using hcell k hlt
   clear hq hcell
   cases hw:gH nk xs[k]
   ·have hi3:inB xs[k] 1 (pw nk - 1)=true:=by have:=rW nk hnk xs[k];rw [hw] at this;simpa using this.symm
    have HW:Hid _:=hw
    clear hw
    go_wp2_with fail
    go_quiet ((first | (go_at_call 41;exact Calls.quiet_of_same (aI _ _ _ _)) | (go_at_call 42;exact Calls.quiet_of_same (rV _ hnk _))))
    go_wp2
    go_roundw
    case rel=>exact ⟨⟨k+1,by omega,by go_num,vg hlt HN.out HW.out⟩,by obtain ⟨q,e⟩:=HQ.out;exact ⟨q+nq,by rw [e,World.drewN_drewN]⟩⟩
    case measure=>simp [intOf];omega
   ·have hi3:inB xs[k] 1 (pw nk - 1)=false:=by have:=rW nk hnk xs[k];rw [hw] at this;simpa using this.symm
    have HF':Hid (bP nk xs=1):=by have:=HF.out;rw [AP hlt hw] at this;simpa [Hid] using this
    clear hw
    go_wp2_with fail
    go_quiet ((first | (go_at_call 41;exact Calls.quiet_of_same (aI _ _ _ _)) | (go_at_call 42;exact Calls.quiet_of_same (rV _ hnk _))))
    go_wp2
    go_ret
    exact ⟨by rw [HF'.out];rfl,by obtain ⟨q,e⟩:=HQ.out;exact ⟨q+nq,by rw [e,World.drewN_drewN]⟩⟩
  ·have hk':k=xs.length:=by omega
   have HF':Hid (bP nk xs=0):=by have:=HF.out;have h:=HN.out;rw [hk',List.take_length] at h;rw [h] at this;simpa [Hid] using this
   clear hq hcell
   go_wp2
   go_ret
   exact ⟨by rw [HF'.out];rfl,HQ.out⟩
end Go.Proofs.Ytiiifecfdkjmbaa
