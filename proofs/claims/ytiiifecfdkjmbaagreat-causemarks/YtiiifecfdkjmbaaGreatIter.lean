/- Lemmas. Lemmas. Lemmas. Lemmas. -/
import Derived.RowKit
import Derived.Test.YtiiifecfdkjmbaaGreatRows
import Derived.KernelRfl
import Derived.JoinedOf
import Derived.WalkKit
import Derived.WalkSpells
import Derived.Deep.QuietTactic
import Derived.BigQuiet
import Derived.RangeFuncNested
import Derived.RangeFuncBound
import Derived.RangeFuncCalls
import Derived.RangeFuncLeaves
import Derived.RangeFuncBox
import Derived.Shelf.Abstract
import Derived.Shelf.RegionOpen
import Derived.OwnWalkIn
import Derived.TacticsInMore
import Derived.LoopNIn
import Derived.LoopIn
import Derived.Maps.AppendAt
namespace Go.Proofs.YtiiifecfdkjmbaaGreat
theorem zQ1 {α : Type} {l : List α} {i : Nat} (h : i < l.length) : l[i]? = some l[i] := List.getElem?_eq_getElem h
theorem zQ2 {α : Type} {l : List α} {i : Nat} {a : α} : l[i]? = some a ↔ ∃ h : i < l.length, l[i] = a := List.getElem?_eq_some_iff
theorem zQ3 {α : Type} {l : Array α} {i : Nat} {a : α} : l[i]? = some a ↔ ∃ h : i < l.size, l[i] = a := Array.getElem?_eq_some_iff
theorem zQ4 {a b c : Nat} (h : a < b) (k : b ≤ c) : a < c := Nat.lt_of_lt_of_le h k
theorem zQ5 {a b c : Nat} (h : a ≤ b) (k : b ≤ c) : a ≤ c := Nat.le_trans h k
theorem zQ6 {α : Type} {l : List α} (h : l.length = 0) : l = [] := List.eq_nil_of_length_eq_zero h
theorem zQ7 {α : Type} (l : List α) (i : Nat) (a : α) : l.toArray.setIfInBounds i a = (l.set i a).toArray := by simp
theorem zQ8 {α : Type} (x : α) (l : List α) (a : α) : (x :: l).set 0 a = a :: l := rfl
theorem zQ9 {α : Type} (x : α) (l : List α) (n : Nat) (a : α) : (x :: l).set (n + 1) a = x :: l.set n a := rfl
open _root_.Go.Proofs.Tryz hiding checked
open Go.ChangeShapes Go.WideShapes
set_option maxRecDepth 8000
set_option linter.unusedVariables false
theorem BL:∀ l:List Char,wordsSigns l≠[]
 | []=>by simp [wordsSigns]
 | c::r=>by
  by_cases h:c=Char.ofNat 32
  ·subst h;simp [wordsSigns]
  ·unfold wordsSigns;split
   ·simp
   ·simp
   ·split <;> simp
theorem rU (b:List Char):∀ a:List Char,wordsSigns (a++Char.ofNat 32::b)=wordsSigns a++wordsSigns b
 | []=>by simp [wordsSigns]
 | c::r=>by
  have ih:=rU b r;by_cases h:c=Char.ofNat 32
  ·subst h;show wordsSigns (Char.ofNat 32::(r++Char.ofNat 32::b))=wordsSigns (Char.ofNat 32::r)++wordsSigns b;simp only [wordsSigns,ih,List.cons_append]
  ·show wordsSigns (c::(r++Char.ofNat 32::b))=wordsSigns (c::r)++wordsSigns b;rw [wordsSigns.eq_3 c (r++Char.ofNat 32::b) h,wordsSigns.eq_3 c r h,ih]
   cases hr:wordsSigns r with
   | nil=>exact absurd hr (BL r)
   | cons w ws=>rfl
theorem MN (L : List Char) (h1 : L.take 77 = L.take 76 ++ [Char.ofNat 32]) (h2 : ∀ R, behindMainWord (wordsSigns (L.take 76) ++ R) = "cut".toList :: R) : ∃ R, behindMainWord (wordsSigns L) = "cut".toList :: R := by
 have h:L=L.take 76++Char.ofNat 32::L.drop 77:=by
  have h3:=List.take_append_drop 77 L;rw [h1,List.append_assoc] at h3;exact h3.symm
 have h4:=rU (L.drop 77) (L.take 76);rw [<-h] at h4;exact ⟨wordsSigns (L.drop 77),by rw [h4];exact h2 _⟩
def Ie:List Char:=([104,97,114,110,101,115,115,32,56,53,50,52,100,48,55,51,53,49,48,56,54,49,55,49,98,52,57,102,53,102,98,102,101,50,98,50,57,54,48,57,101,98,54,98,100,101,55,100,53,100,100,102,97,52,98,57,57,57,50,53,49,101,49,98,57,99,57,53,99,54,56,54,32,99,117,116,32,97,116,32,102,117,114,108,111,110,103,47,102,117,114,108,111,110,103,108,97,119,46,67,97,115,116,83,101,110,100,115,32,102,117,114,108,111,110,103,47,102,117,114,108,111,110,103,108,97,119,46,67,97,115,116,78,117,108,108,115,32,102,117,114,108,111,110,103,47,102,117,114,108,111,110,103,108,97,119,46,77,111,118,101,79,110,101,115,32,102,117,114,108,111,110,103,47,102,117,114,108,111,110,103,108,97,119,46,77,111,118,101,87,105,114,101,115,32,102,117,114,108,111,110,103,47,102,117,114,108,111,110,103,108,97,119,46,77,111,118,101,84,114,117,101,32,102,117,114,108,111,110,103,47,102,117,114,108,111,110,103,108,97,119,46,67,97,108,109,84,101,108,108,115,32,102,117,114,108,111,110,103,47,102,117,114,108,111,110,103,108,97,119,46,67,97,108,109,67,97,108,109,115,32,102,117,114,108,111,110,103,47,102,117,114,108,111,110,103,108,97,119,46,67,97,108,109,84,114,117,101,32,102,117,114,108,111,110,103,47,102,117,114,108,111,110,103,108,97,119,46,67,97,108,109,65,108,108,32,102,117,114,108,111,110,103,47,102,117,114,108,111,110,103,108,97,119,46,66,111,117,110,100,71,114,111,119,115,32,102,117,114,108,111,110,103,47,102,117,114,108,111,110,103,108,97,119,46,65,103,114,101,101,84,101,108,108,115,32,102,117,114,108,111,110,103,47,102,117,114,108,111,110,103,108,97,119,46,65,103,114,101,101,65,108,108,32,102,117,114,108,111,110,103,47,102,117,114,108,111,110,103,108,97,119,46,65,103,114,101,101,79,114,100,101,114,32,102,117,114,108,111,110,103,47,102,117,114,108,111,110,103,108,97,119,46,65,103,114,101,101,71,114,111,119,115,32,102,117,114,108,111,110,103,47,102,117,114,108,111,110,103,108,97,119,46,65,103,114,101,101,83,97,102,101,32,102,117,114,108,111,110,103,47,102,117,114,108,111,110,103,108,97,119,46,76,111,103,68,111,101,115,32,102,117,114,108,111,110,103,47,102,117,114,108,111,110,103,108,97,119,46,76,111,103,82,101,112,108,97,121,115,32,102,117,114,108,111,110,103,47,102,117,114,108,111,110,103,108,97,119,46,76,111,103,82,101,99,111,118,101,114,115,32,102,117,114,108,111,110,103,47,102,117,114,108,111,110,103,108,97,119,46,76,111,103,75,101,112,116,32,102,117,114,108,111,110,103,47,102,117,114,108,111,110,103,108,97,119,46,76,111,103,77,111,114,101,32,102,117,114,108,111,110,103,47,102,117,114,108,111,110,103,108,97,119,46,76,111,103,82,105,103,104,116,32,102,117,114,108,111,110,103,47,102,117,114,108,111,110,103,108,97,119,46,67,97,117,115,101,77,97,114,107,115,32,102,117,114,108,111,110,103,47,102,117,114,108,111,110,103,108,97,119,46,67,97,117,115,101,84,111,108,100,32,102,117,114,108,111,110,103,47,102,117,114,108,111,110,103,108,97,119,46,87,105,114,101,87,114,105,116,101,115,32,102,117,114,108,111,110,103,47,102,117,114,108,111,110,103,108,97,119,46,82,101,115,116,87,111,114,108,100,115]:List Nat).map Char.ofNat
theorem OO:prog.initOrder=String.ofList Ie:=by kernel_rfl
theorem KI:prog.initOrder.toList=Ie:=(congrArg String.toList OO).trans String.toList_ofList
theorem OP : ∃ R, behindMainWord (wordsSigns Ie) = "cut".toList :: R := MN _ (by kernel_rfl) (fun R => by kernel_rfl)
theorem Dt : ∃ R, behindMainWord (wordsSigns prog.initOrder.toList) = "cut".toList :: R := by rw [KI]; exact OP
-- (stated of any program: 'unfold' at the program itself parts the whole row)
theorem CB (R : List (List Char)) : stripLifts liftWords ("cut".toList :: R) = ([], "cut".toList :: R) := by kernel_rfl
theorem OQ (P : Program) (R : List (List Char)) (h : behindMainWord (wordsSigns P.initOrder.toList) = "cut".toList :: R) (h1 : P.laysLater = false) (h2 : P.bearsReflect = false) (h3 : P.doorFits [] = true) : P.mayEnter = true := by
 unfold Program.mayEnter;rw [h];simp only [CB,h1,h2,h3]
 kernel_rfl
theorem KJ (P : Program) (R : List (List Char)) (h : behindMainWord (wordsSigns P.initOrder.toList) = "cut".toList :: R) : P.liftsFinal = false := by
 unfold Program.liftsFinal Program.headLifts;simp only [h,CB]
 kernel_rfl
theorem MP (P : Program) (R : List (List Char)) (h : behindMainWord (wordsSigns P.initOrder.toList) = "cut".toList :: R) : P.make = some .cut := by
 unfold Program.make;simp only [h]
 kernel_rfl
theorem Sr:prog.mayEnter=true:=by
 obtain ⟨R,h⟩:=Dt;exact OQ _ R h (by kernel_rfl) (by kernel_rfl) (by kernel_rfl)
theorem OB:prog.liftsFinal=false:=by
 obtain ⟨R,h⟩:=Dt;exact KJ _ R h
theorem QC:prog.make=some .cut:=by
 obtain ⟨R,h⟩:=Dt;exact MP _ R h
end Go.Proofs.YtiiifecfdkjmbaaGreat
namespace Go.Proofs.YtiiifecfdkjmbaaGreat
open _root_.Go.Proofs.Tryz hiding checked
set_option maxRecDepth 8000
open Go.RowKit
def inB (n lo hi:Int):Bool:=decide (lo<=n/\n<=hi)
theorem bD (n lo hi:Int) (w:World) :
  Calls prog 126 #[.int .i64 n,.int .i64 lo,.int .i64 hi] w fun e w'=>e=.returned (.bool (inB n lo hi))/\w'=w:=by
 unfold inB;by_cases h1:lo<=n
 ·by_cases h2:n<=hi
  ·go_enter func126,ntmps126
   go_wp2
   go_ret
   exact ⟨by simp [*],rfl⟩
  ·go_enter func126,ntmps126
   go_wp2
   go_ret
   exact ⟨by simp [*],rfl⟩
 ·go_enter func126,ntmps126
  go_wp2
  go_ret
  exact ⟨by simp;omega,rfl⟩
def KG (x n:Int):Bool:=decide (0<=n) && (decide (n < 4) && (bits BinOp.and IntKind.i64 (x / 2 ^ n.toNat) 1 == 1))
theorem zL (x n:Int) (w:World) :
  Calls prog 115 #[.int .i64 x,.int .i64 n] w fun e w'=>e=.returned (.bool (KG x n))/\w'=w:=by
 unfold KG;by_cases h1:0<=n
 ·by_cases h2:n < 4
  ·go_enter func115,ntmps115
   go_wp2
   go_ret
   exact ⟨by simp [*],rfl⟩
  ·have h3:decide (n < 4)=false:=by simpa using h2
   go_enter func115,ntmps115
   go_wp2
   go_ret
   exact ⟨by simp [*],rfl⟩
 ·have h3:decide (0<=n)=false:=by simpa using h1
  go_enter func115,ntmps115
  go_wp2
  go_ret
  exact ⟨by simp,rfl⟩
structure Ints (w:World) (a:Option Addr) (len:Nat) (xs:List Int):Prop where
 hlen:xs.length=len
 hmax:len<=17592186043904
 cells:0 < len->∃ b off,a=some ⟨b,off,none⟩/\b < w.heap.size/\∀ i,i < len->w.cell? ⟨b,off+i,none⟩=some (.int .i64 (xs[i]?.getD 0))
def hasB (xs:List Int) (g n:Int):Bool:=decide (0<=g) && (decide (g < xs.length) && KG (xs[g.toNat]?.getD 0) n)
theorem iA (a:Option Addr) (len cap:Nat) (xs:List Int) (g n:Int) (w:World) (hI:Ints w a len xs) :
  Calls prog 50 #[.slice a len cap,.int .i64 g,.int .i64 n] w fun e w'=>e=.returned (.bool (hasB xs g n))/\w'=w:=by
 obtain ⟨rfl,hmax,hc⟩:=hI;unfold hasB;by_cases h1:0<=g
 ·by_cases h2:g < xs.length
  ·obtain ⟨b,off,rfl,hb,hcell⟩:=hc (by omega);have hx:=hcell g.toNat (by omega);have h3:g.toNat < xs.length:=by omega
   clear hcell hc
   go_enter func50,ntmps50
   go_wp2_with (go_at_call 115;refine (zL _ _ _).mono ?_;rintro e w' ⟨rfl,rfl⟩)
   go_ret
   exact ⟨by simp [*],rfl⟩
  ·have h3:decide (g < xs.length)=false:=by simpa using h2
   clear hc
   go_enter func50,ntmps50
   go_wp2
   go_ret
   exact ⟨by simp [*],rfl⟩
 ·have h3:decide (0<=g)=false:=by simpa using h1
  clear hc
  go_enter func50,ntmps50
  go_wp2
  go_ret
  exact ⟨by simp,rfl⟩
theorem dO (a:Option Addr) (len cap:Nat) (xs:List Int) (g n:Int) (w:World) (hI:Ints w a len xs) :
  Calls prog 145 #[.slice a len cap,.int .i64 g,.int .i64 n] w fun e w'=>e=.returned (.bool (hasB xs g n))/\w'=w:=by
 obtain ⟨rfl,hmax,hc⟩:=hI;unfold hasB;by_cases h1:0<=g/\g < xs.length
 ·obtain ⟨h1,h2⟩:=h1;obtain ⟨b,off,rfl,hb,hcell⟩:=hc (by omega);have hx:=hcell g.toNat (by omega);have h3:g.toNat < xs.length:=by omega
  have hi:inB g 0 (xs.length - 1)=true:=by simp [inB];omega
  clear hcell hc;by_cases h4:0<=n/\n < 4
  ·obtain ⟨h4,h5⟩:=h4;have hn:inB n 0 3=true:=by simp [inB];omega
   go_enter func145,ntmps145
   go_wp2_with (go_at_call 126;refine (bD _ _ _ _).mono ?_;rintro e w' ⟨rfl,rfl⟩)
   go_ret
   exact ⟨by simp [KG, *],rfl⟩
  ·have hn:inB n 0 3=false:=by simp [inB];omega
   go_enter func145,ntmps145
   go_wp2_with (go_at_call 126;refine (bD _ _ _ _).mono ?_;rintro e w' ⟨rfl,rfl⟩)
   go_ret
   refine ⟨?_,rfl⟩;simp [KG, *];omega
 ·have hi:inB g 0 (xs.length - 1)=false:=by simp [inB];omega
  clear hc
  go_enter func145,ntmps145
  go_wp2_with (go_at_call 126;refine (bD _ _ _ _).mono ?_;rintro e w' ⟨rfl,rfl⟩)
  go_ret
  refine ⟨?_,rfl⟩;simp;omega
def pw:Nat->Int
 | 0=>1
 | k+1=>2*pw k
theorem PY (k:Nat) (h:k<=4):1<=pw k/\pw k<=16:=by
 have:k=0\/k=1\/k=2\/k=3\/k=4:=by omega
 rcases this with rfl | rfl | rfl | rfl | rfl <;> decide
theorem Cy (k:Nat) (hk:k<=4) (w:World) :
  Calls prog 128 #[.int .i64 k] w fun e w'=>e=.returned (.int .i64 (pw k))/\w'=w:=by
 induction k with
 | zero =>
  go_enter func128,ntmps128
  go_wp2_with fail
  go_ret
  exact ⟨rfl,rfl⟩
 | succ k ih =>
  have H:Hid (Calls prog 128 #[.int .i64 k] w fun e w'=>e=.returned (.int .i64 (pw k))/\w'=w):=ih (by omega);clear ih;have hb:=PY k (by omega)
  go_enter func128,ntmps128
  go_wp2_with (go_at_call 128;refine (H.out).mono ?_;rintro e w' ⟨rfl,rfl⟩)
  go_ret
  exact ⟨rfl,rfl⟩
def lT (nodes x:Int):Bool:=decide (x<=0) || (x / 2 ^ nodes.toNat != 0)
theorem Cz (k:Nat) (hk:k<=4) (x:Int):lT k x=!inB x 1 (pw k - 1):=by
 have:k=0\/k=1\/k=2\/k=3\/k=4:=by omega
 rcases this with rfl | rfl | rfl | rfl | rfl <;> simp [lT,inB,pw] <;> rw [Bool.eq_iff_iff] <;> simp <;> omega
theorem ML (x n:Int) (w:World) (b:Nat) (h0:0<=n) (h4:n<=4) (hc:w.cell? ⟨b,0,none⟩=some (.int .i64 n)) :
  Calls prog 193 #[.int .i64 x,.pointer (some ⟨b,0,none⟩)] w fun e w'=>e=.returned (.bool (lT n x))/\w'=w:=by
 unfold lT;by_cases h1:x<=0
 ·go_enter func193,ntmps193
  go_wp2
  go_ret
  exact ⟨by simp [*],rfl⟩
 ·have h2:decide (x<=0)=false:=by simpa using h1
  go_enter func193,ntmps193
  go_wp2
  go_ret
  exact ⟨by simp,rfl⟩
theorem Ic {p:Int->Bool} {xs:List Int} {k:Nat} (h:k < xs.length) (hp:p xs[k]=true):xs.any p=true :=
 List.any_eq_true.2 ⟨xs[k],List.getElem_mem h,hp⟩
theorem zM {p:Int->Bool} {xs:List Int} {k:Nat} (h:k < xs.length) (h0:(xs.take k).any p=false) (hp:p xs[k]=false):(xs.take (k+1)).any p=false:=by
 rw [List.take_succ_eq_append_getElem h,List.any_append,h0];simp [hp]
theorem Fa (a:Option Addr) (len cap:Nat) (xs:List Int) (n:Int) (b:Nat) (w:World) (hI:Ints w a len xs) (h0:0<=n) (h4:n<=4) (hb:w.cell? ⟨b,0,none⟩=some (.int .i64 n)) :
  Calls prog 219 #[.slice a len cap,.func (.func 193) #[] #[.pointer (some ⟨b,0,none⟩)]] w fun e w'=>∃ r:Int,e=.returned (.int .i64 r)/\decide (0<=r)=xs.any (lT n)/\w'=w:=by
 obtain ⟨rfl,hmax,hc⟩:=hI
 go_enter func219,ntmps219
 go_wp2_with fail
 go_loop [5,8] (fun _ i=>∃ k:Nat,k<=xs.length/\i=.int .i64 k/\(xs.take k).any (lT n)=false) (fun _ i=>xs.length - (intOf i).toNat)
 case atStart=>exact ⟨0,Nat.zero_le _,rfl,rfl⟩
 case round =>
  obtain ⟨k,hk,rfl,hn⟩:=hrel;by_cases hlt:k < xs.length
  ·obtain ⟨bb,off,rfl,hbb,hcell⟩:=hc (by omega);have hx:=hcell k hlt;clear hcell hc;have HN:Hid _:=hn;clear hn
   go_wp2_with (go_at_call 193;refine (ML _ n _ b h0 h4 hb).mono ?_;rintro e w' ⟨rfl,rfl⟩)
   ·go_ret
    exact ⟨_,rfl,by simp only [Int.natCast_nonneg,decide_true];exact (Ic hlt ‹_›).symm,rfl⟩
   ·go_round
    case rel=>exact ⟨k+1,by omega,by go_num,zM hlt HN.out ‹_›⟩
    case measure=>simp [intOf];omega
  ·have hk':k=xs.length:=by omega
   have HN:Hid (xs.any (lT n)=false):=by rw [hk',List.take_length] at hn;exact hn
   clear hn
   go_wp2
   go_ret
   exact ⟨_,rfl,by rw [HN.out];rfl,rfl⟩
theorem rT (a:Option Addr) (len cap:Nat) (xs:List Int) (n:Int) (b:Nat) (w:World) (hI:Ints w a len xs) (h0:0<=n) (h4:n<=4) (hb:w.cell? ⟨b,0,none⟩=some (.int .i64 n)) :
  Calls prog 194 #[.slice a len cap,.func (.func 193) #[] #[.pointer (some ⟨b,0,none⟩)]] w fun e w'=>e=.returned (.bool (xs.any (lT n)))/\w'=w:=by
 go_enter func194,ntmps194
 go_wp2_with (go_at_call 219;refine (Fa _ _ _ xs n b _ hI h0 h4 hb).mono ?_;rintro e w' ⟨r,rfl,hr,rfl⟩)
 go_ret
 exact ⟨by simp,rfl⟩
def dF (nodes:Int) (xs:List Int):Int :=
 if nodes < 1\/4 < nodes then 3 else if xs.length < 1\/3 < xs.length then 2 else if xs.any (lT nodes) then 1 else 0
theorem zN (w:World) (v:Value) (t:Nat):(w.alloc (.cells #[v] t)).cell? ⟨w.heap.size,0,none⟩=some v:=by simp [go_sem]
theorem Ints.alloc {w:World} {a:Option Addr} {len:Nat} {xs:List Int} (h:Ints w a len xs) (o:Obj):Ints (w.alloc o) a len xs:=by
 refine ⟨h.hlen,h.hmax,fun hp=>?_⟩;obtain ⟨b,off,e,hb,hc⟩:=h.cells hp;exact ⟨b,off,e,by simp;omega,fun i hi=>(World.cell?_of_block (w:=w) (Below.heap_alloc w o b hb)).trans (hc i hi)⟩
theorem uj (nodes:Int) (a:Option Addr) (len cap:Nat) (xs:List Int) (w:World) (hI:Ints w a len xs) :
  Calls prog 158 #[.int .i64 nodes,.slice a len cap] w fun e w'=>e=.returned (.int .i64 (dF nodes xs))/\w'=w.alloc (.cells #[.int .i64 nodes] 3):=by
 have hmf:∀ (fn:Fn) (first cap:Array Value) (w:World),(Instr.makeFunc fn first cap).run prog w=.ok (.func fn first cap) w:=fun _ _ _ _=>rfl
 have hl:=hI.hlen;have hm:=hI.hmax;subst hl;by_cases h1:nodes < 1
 ·have HF:Hid (dF nodes xs=3):=by simp [dF,h1,Hid]
  go_enter func158,ntmps158
  go_wp2
  go_ret
  exact ⟨by rw [HF.out];rfl,rfl⟩
 by_cases h2:4 < nodes
 ·have HF:Hid (dF nodes xs=3):=by simp [dF,h2,Hid]
  go_enter func158,ntmps158
  go_wp2
  go_ret
  exact ⟨by rw [HF.out];rfl,rfl⟩
 have h12:¬ (nodes < 1\/4 < nodes):=by omega
 by_cases h3:(xs.length:Int) < 1
 ·have HF:Hid (dF nodes xs=2):=by have:xs.length < 1:=by omega
                                  simp only [dF,Hid];rw [if_neg h12,if_pos (.inl this)]
  clear h12
  go_enter func158,ntmps158
  go_wp2
  go_ret
  exact ⟨by rw [HF.out];rfl,rfl⟩
 by_cases h4:3 < (xs.length:Int)
 ·have HF:Hid (dF nodes xs=2):=by have:3 < xs.length:=by omega
                                  simp only [dF,Hid];rw [if_neg h12,if_pos (.inr this)]
  clear h12
  go_enter func158,ntmps158
  go_wp2
  go_ret
  exact ⟨by rw [HF.out];rfl,rfl⟩
 have h34:¬ (xs.length < 1\/3 < xs.length):=by omega
 have HI:=hI.alloc (.cells #[.int .i64 nodes] 3);cases h5:xs.any (lT nodes)
 ·have HF:Hid (dF nodes xs=0):=by simp only [dF,Hid];rw [if_neg h12,if_neg h34,h5];rfl
  have H5:Hid _:=h5;clear h12 h34 h5
  go_enter func158,ntmps158
  go_wp2_with (go_at_call 194;refine (rT _ _ _ xs nodes w.heap.size _ HI (by omega) (by omega) (zN _ _ _)).mono ?_;rw [H5.out];rintro e w' ⟨rfl,rfl⟩)
  go_ret
  exact ⟨by rw [HF.out];rfl,rfl⟩
 ·have HF:Hid (dF nodes xs=1):=by simp only [dF,Hid];rw [if_neg h12,if_neg h34,h5];rfl
  have H5:Hid _:=h5;clear h12 h34 h5
  go_enter func158,ntmps158
  go_wp2_with (go_at_call 194;refine (rT _ _ _ xs nodes w.heap.size _ HI (by omega) (by omega) (zN _ _ _)).mono ?_;rw [H5.out];rintro e w' ⟨rfl,rfl⟩)
  go_ret
  exact ⟨by rw [HF.out];rfl,rfl⟩
theorem KD (nodes:Int) (a:Option Addr) (len cap:Nat) (xs:List Int) (w:World) (hI:Ints w a len xs) :
  Calls prog 69 #[.int .i64 nodes,.slice a len cap] w fun e w'=>e=.returned (.int .i64 (dF nodes xs))/\∃ k,w'=w.drewN k:=by
 obtain ⟨rfl,hm,hc⟩:=hI;by_cases h1:nodes < 1\/4 < nodes
 ·have HF:Hid (dF nodes xs=3):=by simp [dF,h1,Hid]
  have hi:inB nodes 1 4=false:=by simp [inB];omega
  clear hc h1
  go_enter func69,ntmps69
  go_wp2_with (go_at_call 126;refine (bD _ _ _ _).mono ?_;rintro e w' ⟨rfl,rfl⟩)
  go_ret
  exact ⟨by rw [HF.out];rfl,0,rfl⟩
 have hi:inB nodes 1 4=true:=by simp [inB];omega
 by_cases h2:xs.length < 1\/3 < xs.length
 ·have HF:Hid (dF nodes xs=2):=by simp only [dF,Hid];rw [if_neg h1,if_pos h2]
  have hi2:inB xs.length 1 3=false:=by simp [inB];omega
  clear hc h1 h2
  go_enter func69,ntmps69
  go_wp2_with (go_at_call 126;refine (bD _ _ _ _).mono ?_;rintro e w' ⟨rfl,rfl⟩)
  go_ret
  exact ⟨by rw [HF.out];rfl,0,rfl⟩
 have hi2:inB xs.length 1 3=true:=by simp [inB];omega
 have HF:Hid (dF nodes xs=if xs.any (lT nodes) then 1 else 0):=by simp only [dF,Hid];rw [if_neg h1,if_neg h2]
 obtain ⟨nk,rfl⟩:=Int.eq_ofNat_of_zero_le (show 0<=nodes by omega);obtain ⟨b,off,rfl,hb,hcell⟩:=hc (by omega);have hp:=PY nk (by omega);have hnk:nk<=4:=by omega
 clear hc h1 h2
 go_enter func69,ntmps69
 go_wp2_with (go_at_call 126;refine (bD _ _ _ _).mono ?_;rintro e w' ⟨rfl,hw⟩;obtain rfl:=hw.symm)
 go_loopw [5] (fun i wr=>(∃ k:Nat,k<=xs.length/\i=.int .i64 k/\(xs.take k).any (lT nk)=false)/\∃ q,wr=w.drewN q) (fun i _=>xs.length - (intOf i).toNat)
 case atStart=>exact ⟨⟨0,Nat.zero_le _,rfl,rfl⟩,0,rfl⟩
 case round =>
  obtain ⟨⟨k,hk,rfl,hn⟩,hq⟩:=hrel;have HN:Hid _:=hn;have HQ:Hid (∃ q,wr=w.drewN q):=hq;clear hn;by_cases hlt:k < xs.length
  ·have hx:wr.cell? ⟨b,off+k,none⟩=some (.int .i64 (xs[k]?.getD 0)):=by obtain ⟨q,rfl⟩:=hq;simpa using hcell k hlt
   clear hq hcell;cases hw:lT nk xs[k]
   ·have hi3:inB xs[k] 1 (pw nk - 1)=true:=by have:=Cz nk hnk xs[k];rw [hw] at this;simpa using this.symm
    have HW:Hid _:=hw;clear hw
    go_wp2_with fail
    go_quiet ((first | (go_at_call 126;exact Calls.quiet_of_same (bD _ _ _ _)) | (go_at_call 128;exact Calls.quiet_of_same (Cy _ hnk _))))
    go_wp2
    go_roundw
    case rel=>exact ⟨⟨k+1,by omega,by go_num,zM hlt HN.out HW.out⟩,by obtain ⟨q,e⟩:=HQ.out;exact ⟨q+nq,by rw [e,World.drewN_drewN]⟩⟩
    case measure=>simp [intOf];omega
   ·have hi3:inB xs[k] 1 (pw nk - 1)=false:=by have:=Cz nk hnk xs[k];rw [hw] at this;simpa using this.symm
    have HF':Hid (dF nk xs=1):=by have:=HF.out;rw [Ic hlt hw] at this;simpa [Hid] using this
    clear hw
    go_wp2_with fail
    go_quiet ((first | (go_at_call 126;exact Calls.quiet_of_same (bD _ _ _ _)) | (go_at_call 128;exact Calls.quiet_of_same (Cy _ hnk _))))
    go_wp2
    go_ret
    exact ⟨by rw [HF'.out];rfl,by obtain ⟨q,e⟩:=HQ.out;exact ⟨q+nq,by rw [e,World.drewN_drewN]⟩⟩
  ·have hk':k=xs.length:=by omega
   have HF':Hid (dF nk xs=0):=by have:=HF.out;have h:=HN.out;rw [hk',List.take_length] at h;rw [h] at this;simpa [Hid] using this
   clear hq hcell
   go_wp2
   go_ret
   exact ⟨by rw [HF'.out];rfl,HQ.out⟩
end Go.Proofs.YtiiifecfdkjmbaaGreat
set_option maxHeartbeats 2000000
namespace Go.Proofs.YtiiifecfdkjmbaaGreat
open _root_.Go.Proofs.Tryz hiding checked
set_option maxRecDepth 8000
open Go.RowKit Go.Shelf
attribute [local go_sem] Oper.semAt_some
def lq (x n:Int):Bool:=!KG x n
theorem MQ (n x:Int) (w:World) (b:Nat) (hc:w.cell? ⟨b,0,none⟩=some (.int .i64 x)) :
  Calls prog 203 #[.int .i64 n,.pointer (some ⟨b,0,none⟩)] w fun e w'=>e=.returned (.bool (lq x n))/\w'=w:=by
 unfold lq
 go_enter func203,ntmps203
 go_wp2_with (go_at_call 115;refine (zL _ _ _).mono ?_;rintro e w' ⟨rfl,rfl⟩)
 go_ret
 exact ⟨by simp,rfl⟩
theorem Ig (a:Option Addr) (len cap:Nat) (xs:List Int) (n:Int) (b:Nat) (w:World) (hI:Ints w a len xs) (hb:w.cell? ⟨b,0,none⟩=some (.int .i64 n)) :
  Calls prog 219 #[.slice a len cap,.func (.func 203) #[] #[.pointer (some ⟨b,0,none⟩)]] w fun e w'=>∃ r:Int,e=.returned (.int .i64 r)/\decide (0<=r)=xs.any (lq n)/\w'=w:=by
 obtain ⟨rfl,hmax,hc⟩:=hI
 go_enter func219,ntmps219
 go_wp2_with fail
 go_loop [5,8] (fun _ i=>∃ k:Nat,k<=xs.length/\i=.int .i64 k/\(xs.take k).any (lq n)=false) (fun _ i=>xs.length - (intOf i).toNat)
 case atStart=>exact ⟨0,Nat.zero_le _,rfl,rfl⟩
 case round =>
  obtain ⟨k,hk,rfl,hn⟩:=hrel;by_cases hlt:k < xs.length
  ·obtain ⟨bb,off,rfl,hbb,hcell⟩:=hc (by omega);have hx:=hcell k hlt;clear hcell hc;have HN:Hid _:=hn;clear hn
   go_wp2_with (go_at_call 203;refine (MQ _ n _ b hb).mono ?_;rintro e w' ⟨rfl,rfl⟩)
   ·go_ret
    exact ⟨_,rfl,by simp only [Int.natCast_nonneg,decide_true];exact (Ic hlt ‹_›).symm,rfl⟩
   ·go_round
    case rel=>exact ⟨k+1,by omega,by go_num,zM hlt HN.out ‹_›⟩
    case measure=>simp [intOf];omega
  ·have hk':k=xs.length:=by omega
   have HN:Hid (xs.any (lq n)=false):=by rw [hk',List.take_length] at hn;exact hn
   clear hn
   go_wp2
   go_ret
   exact ⟨_,rfl,by rw [HN.out];rfl,rfl⟩
theorem uN (a:Option Addr) (len cap:Nat) (xs:List Int) (n:Int) (b:Nat) (w:World) (hI:Ints w a len xs) (hb:w.cell? ⟨b,0,none⟩=some (.int .i64 n)) :
  Calls prog 194 #[.slice a len cap,.func (.func 203) #[] #[.pointer (some ⟨b,0,none⟩)]] w fun e w'=>e=.returned (.bool (xs.any (lq n)))/\w'=w:=by
 go_enter func194,ntmps194
 go_wp2_with (go_at_call 219;refine (Ig _ _ _ xs n b _ hI hb).mono ?_;rintro e w' ⟨r,rfl,hr,rfl⟩)
 go_ret
 exact ⟨by simp,rfl⟩
def nM (hi X:Nat) (A B:World):Prop:=A.heap.size<=B.heap.size/\∀ k,k < hi->k≠X->B.heap[k]? = A.heap[k]?
theorem nM.refl (hi X:Nat) (A:World):nM hi X A A:=⟨Nat.le_refl _,fun _ _ _=>rfl⟩
theorem nM.trans {hi X:Nat} {A B C:World} (h:nM hi X A B) (k:nM hi X B C):nM hi X A C :=
 ⟨zQ5 h.1 k.1,fun i h1 h2=>(k.2 i h1 h2).trans (h.2 i h1 h2)⟩
theorem nM.cell {hi X:Nat} {A B:World} (h:nM hi X A B) {p:Addr} (h1:p.block < hi) (h2:p.block≠X):B.cell? p=A.cell? p :=
 World.cell?_of_block (w:=A) (h.2 p.block h1 h2)
theorem nM.alloc {hi X:Nat} {A:World} (h:hi<=A.heap.size) (o:Obj):nM hi X A (A.alloc o) :=
 ⟨by simp,fun k h1 _=>Below.heap_alloc A o k (by omega)⟩
theorem nM.b {hi X:Nat} {w:World} (hn:hi<=w.heap.size) (W:World) (l:Nat) (o o':Obj) (hl:w.heap.size<=l) (h:W.heap[l]? = some o) (h1:o.isCells=false) (h2:o.isWalk=false):nM hi X W (W.putObj l o') :=
 have hb:=belowK_b hn W l o o' hl h h1 h2
 ⟨hb.size,fun k hk _=>hb.block k hk⟩
structure rV (hi X:Nat) (w:World) (a:Option Addr) (len:Nat) (xs:List Int):Prop where
 hlen:xs.length=len
 hmax:len<=17592186043904
 cells:0 < len->∃ b off,a=some ⟨b,off,none⟩/\b < hi/\b≠X/\∀ i,i < len->w.cell? ⟨b,off+i,none⟩=some (.int .i64 (xs[i]?.getD 0))
theorem rV.kept {hi X:Nat} {A B:World} {a:Option Addr} {len:Nat} {xs:List Int} (h:nM hi X A B) (k:rV hi X A a len xs):rV hi X B a len xs:=by
 refine ⟨k.hlen,k.hmax,fun hp=>?_⟩;obtain ⟨b,off,e,h1,h2,hc⟩:=k.cells hp;exact ⟨b,off,e,h1,h2,fun i hi'=>(h.cell (p:=⟨b,off+i,none⟩) h1 h2).trans (hc i hi')⟩
theorem rV.ints {hi X:Nat} {w:World} {a:Option Addr} {len:Nat} {xs:List Int} (k:rV hi X w a len xs) (hhi:hi<=w.heap.size):Ints w a len xs:=by
 refine ⟨k.hlen,k.hmax,fun hp=>?_⟩;obtain ⟨b,off,e,h1,h2,hc⟩:=k.cells hp;exact ⟨b,off,e,by omega,hc⟩
def hits (xs ns:List Int) (k:Nat):List Nat:=(List.range k).filter fun g=>!ns.any (lq (xs[g]?.getD 0))
theorem zO {xs ns:List Int} {k:Nat} (h:ns.any (lq (xs[k]?.getD 0))=false):hits xs ns (k+1)=hits xs ns k++[k]:=by
 simp only [hits,List.range_succ,List.filter_append];rw [show List.filter (fun g=>!ns.any (lq (xs[g]?.getD 0))) [k]=[k] from by simp [List.filter,h]]
theorem Du {xs ns:List Int} {k:Nat} (h:ns.any (lq (xs[k]?.getD 0))=true):hits xs ns (k+1)=hits xs ns k:=by
 simp only [hits,List.range_succ,List.filter_append];rw [show List.filter (fun g=>!ns.any (lq (xs[g]?.getD 0))) [k]=[] from by simp [List.filter,h]];simp
theorem Dr (xs ns:List Int) (k:Nat):(hits xs ns k).length<=k:=by
 have:=List.length_filter_le (fun g=>!ns.any (lq (xs[g]?.getD 0))) (List.range k);simpa [hits] using this
theorem oD (xs ns:List Int) (k m:Nat) (h:k<=m):hits xs ns k <+: hits xs ns m:=by
 obtain ⟨d,rfl⟩:=Nat.exists_eq_add_of_le h
 induction d with
 | zero=>exact List.prefix_refl _
 | succ d ih =>
  refine (ih (by omega)).trans ?_;rw [show k+(d+1)=(k+d)+1 from by omega];cases hb:ns.any (lq (xs[k+d]?.getD 0))
  ·rw [zO hb];exact List.prefix_append _ _
  ·rw [Du hb];exact List.prefix_refl _
set_option maxRecDepth 100000 in
theorem Ih (n:Nat) (hn:1<=n) (l Bl Bn hi X:Nat) (a:Option Addr) (len cap:Nat) (xs:List Int) (an:Option Addr) (za Dv:Nat) (ns:List Int) (J Jx:List Nat->World->Prop)
  (hBn:Bn < hi) (QU:Bn≠X)
  (hY:∀ pre x W,J pre W->pre.length < len->YieldAt Fence.wide (n - 1) prog l #[.int .i64 (x:Nat)] W fun e W' =>
   (e=.returned (.bool true)/\J (pre++[x]) W'/\nM hi X W W')\/(e=.returned (.bool false)/\Jx (pre++[x]) W'))
  (W:World) (hhi:hi<=W.heap.size) (hJ:∀ pre W1,J pre W1->∀ o,J pre (W1.alloc o))
  (hl:W.cell? ⟨Bl,0,none⟩=some (.slice a len cap)) (hcn:W.cell? ⟨Bn,0,none⟩=some (.slice an za Dv)) (hx:rV hi X W a len xs) (hns:rV hi X W an za ns) (h0:J [] W) :
  CallsIn Fence.wide n prog 202 #[.func (.yield l) #[] #[],.pointer (some ⟨Bl,0,none⟩),.pointer (some ⟨Bn,0,none⟩)] W fun e W'=>(∃ v,e=.returned v) /\
   ((∃ ys,ys=hits xs ns len/\J ys W')\/(∃ pre,pre <+: hits xs ns len/\Jx pre W')):=by
 have hmax:=hx.hmax;refine callsIn_of_wp func202 rfl trivial ?_ rfl;simp only [ntmps202,List.size_toArray,List.length_cons,List.length_nil,Nat.reduceAdd,Nat.reduceSub,Array.replicate_succ,Array.replicate_zero,List.push_toArray,List.append_toArray,List.nil_append,List.cons_append]
 gi_wp2
 gi_loopw [4,5,6,9] (fun _ _ _ i wr=>∃ k:Nat,k<=len/\i=.int .i64 k/\J (hits xs ns k) wr/\nM hi X W wr)
  (fun _ _ _ i _=>len - (intOf i).toNat)
 case atStart=>exact ⟨0,Nat.zero_le _,rfl,h0,nM.refl _ _ _⟩
 case round =>
  obtain ⟨k,hk,rfl,hJs,hnx⟩:=hrel;by_cases hlt:k < len
  ·have hxr:=hx.kept hnx;have hnr:=hns.kept hnx;obtain ⟨b,off,ha,hb1,hb2,hcs⟩:=hxr.cells (by omega);have hck:=hcs k hlt;have hsz:hi<=wr.heap.size:=zQ5 hhi hnx.1;have hcn':wr.cell? ⟨Bn,0,none⟩=some (.slice an za Dv):=(hnx.cell (p:=⟨Bn,0,none⟩) hBn QU).trans hcn;obtain ⟨x,hxe⟩:∃ x,xs[k]?.getD 0=x:=⟨_,rfl⟩;rw [hxe] at hck;have HX:Hid (xs[k]?.getD 0=x):=hxe;have HI:Ints (wr.alloc (.cells #[.int .i64 x] 3)) an za ns:=(hnr.ints hsz).alloc _;have HB:=zN wr (.int .i64 x) 3;have hBlt:Bn < wr.heap.size:=by omega
   have Xa:(wr.alloc (.cells #[.int .i64 x] 3)).cell? ⟨Bn,0,none⟩=some (.slice an za Dv):=(World.cell?_of_block (w:=wr) (Below.heap_alloc wr _ Bn hBlt)).trans hcn';have hBX:nM hi X W (wr.alloc (.cells #[.int .i64 x] 3)):=hnx.trans (nM.alloc hsz _);subst ha;clear hcs hxr hnr hxe;cases hlk:ns.any (lq x)
   ·obtain ⟨fn,tmps,assign,body,hy,hR⟩:=hY _ k (wr.alloc (.cells #[.int .i64 x] 3)) (hJ _ _ hJs _) (by have:=Dr xs ns k;omega);have HL:Hid (ns.any (lq x)=false):=hlk;have HH:Hid (hits xs ns (k+1)=hits xs ns k++[k]):=zO (by rw [HX.out];exact hlk);clear hlk hY
    gi_wp2_with (refine ⟨trivial, ?_⟩;gi_at_call 194;refine (callsIn_wide.2 (uN _ _ _ ns _ _ _ HI HB)).mono ?_;rw [HL.out];rintro e w' ⟨rfl,hw⟩;obtain rfl:=hw.symm)
    refine hR.mono ?_;rintro e W3 (⟨rfl,hJ3,hk3⟩ | ⟨rfl,hJx3⟩)
    ·gi_wp2
     go_roundw
     case rel=>exact ⟨k+1,by omega,by simp,by rw [HH.out];exact hJ3,hBX.trans hk3⟩
     case measure=>simp [intOf];omega
    ·gi_wp2
     refine bodyPost_ret (results_none rfl _ _ _) rfl ?_;exact ⟨⟨_,rfl⟩,.inr ⟨_,by rw [<-HH.out];exact oD _ _ _ _ (by omega),hJx3⟩⟩
   ·have HL:Hid (ns.any (lq x)=true):=hlk;have HH:Hid (hits xs ns (k+1)=hits xs ns k):=Du (by rw [HX.out];exact hlk);clear hlk hY
    gi_wp2_with (refine ⟨trivial, ?_⟩;gi_at_call 194;refine (callsIn_wide.2 (uN _ _ _ ns _ _ _ HI HB)).mono ?_;rw [HL.out];rintro e w' ⟨rfl,hw⟩;obtain rfl:=hw.symm)
    refine ⟨fun _ h=>(by cases h), ?_⟩
    gi_wp2
    go_roundw
    case rel=>exact ⟨k+1,by omega,by simp,by rw [HH.out];exact hJ _ _ hJs _,hBX⟩
    case measure=>simp [intOf];omega
  ·obtain rfl:k=len:=by omega
   gi_wp2
   go_end0
   exact ⟨⟨_,rfl⟩,.inl ⟨_,rfl,hJs⟩⟩
theorem KL (n:Nat) (a:Option Addr) (len cap:Nat) (an:Option Addr) (za Dv:Nat) (w:World) :
  CallsIn Fence.wide n prog 163 #[.slice a len cap,.slice an za Dv] w fun e w'=>e=.returned (.func (.func 202) #[] #[.pointer (some ⟨w.heap.size,0,none⟩),.pointer (some ⟨w.heap.size+1,0,none⟩)])/\w'=(w.alloc (.cells #[.slice a len cap] 22)).alloc (.cells #[.slice an za Dv] 22):=by
 refine callsIn_of_wp func163 rfl trivial ?_ rfl;simp only [ntmps163,List.size_toArray,List.length_cons,List.length_nil,Nat.reduceAdd,Nat.reduceSub,Array.replicate_succ,Array.replicate_zero,List.push_toArray,List.append_toArray,List.nil_append,List.cons_append]
 gi_wp2
 go_ret
 exact ⟨rfl,rfl⟩
theorem Dw (n:Nat) (hn:1<=n) (Bl Bn hi X:Nat) (a:Option Addr) (len cap:Nat) (xs:List Int) (an:Option Addr) (za Dv:Nat) (ns:List Int) (w:World) (hBl:Bl < w.heap.size)
  (hBn:Bn < hi) (QU:Bn≠X) (hhi:hi<=w.heap.size)
  (hl:w.cell? ⟨Bl,0,none⟩=some (.slice a len cap)) (hcn:w.cell? ⟨Bn,0,none⟩=some (.slice an za Dv)) (hx:rV hi X w a len xs) (hns:rV hi X w an za ns) :
  SeqStopsK Fence.wide n prog 202 #[.pointer (some ⟨Bl,0,none⟩),.pointer (some ⟨Bn,0,none⟩)] (fun x:Nat=>#[Value.int .i64 (x:Int)]) (nM hi X) (fun ys=>ys=hits xs ns len) (fun pre=>pre <+: hits xs ns len) len w:=fun l J Jx W hW hJ _ hY h0 =>
 have hX:nM hi X w W:=⟨hW.size,fun k h1 _=>hW.block k (by omega)⟩
 Ih n hn l Bl Bn hi X a len cap xs an za Dv ns J Jx hBn QU hY W (zQ5 hhi hW.size) (fun pre W1 h o=>hJ pre W1 (W1.alloc o) none h (World.grownBy_alloc W1 o none) (fun r e=>by cases e))
  ((hW.cell (p:=⟨Bl,0,none⟩) hBl).trans hl) ((hW.cell (p:=⟨Bn,0,none⟩) (by show Bn < _;omega)).trans hcn) (hx.kept hX) (hns.kept hX) h0
theorem aY {W:World} {hi:Nat} {e:TypeId} {size:Nat} {v:Value} {k:Nat} {xs:List Value} (hrow:W.ownsRow hi e size v k xs):∀ j,v.ownBlock=some j->hi<=j:=by
 intro j ej;rcases hrow.2 with ⟨rfl,_⟩ | ⟨g,cap,cur,rfl,hb,_,_⟩
 ·simp [Value.ownBlock] at ej
 ·obtain rfl:g=j:=by simpa [Value.ownBlock] using ej
  exact hb
theorem KN {W w1:World} {hi X:Nat} {t e:TypeId} {size:Nat} {v v':Value} {k m:Nat} {xs ys:List Value} {tmp:Obj}
  (hv:Boxed W X t v) (hX:X < hi) (hrow:W.ownsRow hi e size v k xs) (hhi:hi<=W.heap.size)
  (hown':w1.ownsRow hi e size v' m ys) (hgrow:(W.alloc tmp).grownBy w1 v.ownBlock) :
  Boxed w1 X t v/\Boxed (w1.setCell ⟨X,0,none⟩ v') X t v'/\(w1.setCell ⟨X,0,none⟩ v').ownsRow hi e size v' m ys/\KeepsOthers W (w1.setCell ⟨X,0,none⟩ v')/\nM hi X W (w1.setCell ⟨X,0,none⟩ v')/\Below X W (w1.setCell ⟨X,0,none⟩ v'):=by
 have hge:=aY hrow;have hne:some X≠v.ownBlock:=fun e'=>by have:=hge X e'.symm;omega
 have hv1:Boxed w1 X t v:=(hv.alloc tmp).kept hgrow hne;have hb:Below hi W w1:=((Below.refl hi W).alloc hhi tmp).grown hgrow (by simp;omega) hge;refine ⟨hv1,hv1.set v',ownsRow_setCell_below hown' hX v', ?_, ?_, ?_⟩
 ·refine ((KeepsOthers.alloc W tmp).trans (KeepsOthers.of_grownBy hgrow fun j o ej hj=>?_)).trans (KeepsOthers.setCell _ _ _);rcases (hrow.alloc tmp).2 with ⟨rfl,_⟩ | ⟨g,cap,cur,rfl,_,hgb,_⟩
  ·simp [Value.ownBlock] at ej
  ·obtain rfl:g=j:=by simpa [Value.ownBlock] using ej
   rw [hgb] at hj;cases hj;rfl
 ·refine ⟨zQ5 hb.size (by simp [World.setCell]),fun k h1 h2=>?_⟩;rw [Below.heap_setCell _ _ _ _ h2];exact hb.block k h1
 ·exact (hb.mono (Nat.le_of_lt hX)).setCell (p:=⟨X,0,none⟩) (Nat.le_refl _) v'
theorem kZ {W:World} {lo hi:Nat} {e:TypeId} {size:Nat} {v:Value} {k:Nat} {xs:List Value} (h:lo<=hi) (hrow:W.ownsRow hi e size v k xs):W.ownsRow lo e size v k xs:=by
 refine ⟨hrow.1, ?_⟩;rcases hrow.2 with h2 | ⟨g,cap,cur,e1,e2,e3⟩
 ·exact .inl h2
 ·exact .inr ⟨g,cap,cur,e1,zQ5 h e2,e3⟩
theorem Tryz.info3:(prog.info? 3).map (fun i=>(i.zero,i.size,i.bytes))=some (some (.int .i64 0),1,8):=by kernel_rfl
def nums (l:List Nat):List Value:=l.map fun g:Nat=>Value.int .i64 (g:Int)
theorem BM {w:World} {a:Option Addr} {len:Nat} {xs:List Int} (h:Ints w a len xs) {W:World} {hi X:Nat} (hb:Below w.heap.size w W) (h1:w.heap.size<=hi) (h2:w.heap.size<=X):rV hi X W a len xs:=by
 refine ⟨h.hlen,h.hmax,fun hp=>?_⟩;obtain ⟨b,off,e,hbl,hc⟩:=h.cells hp;exact ⟨b,off,e,by omega,by omega,fun i hi'=>(hb.cell (p:=⟨b,off+i,none⟩) hbl).trans (hc i hi')⟩
set_option maxRecDepth 100000 in
theorem MR (a:Option Addr) (len cap:Nat) (xs:List Int) (n:Int) (w:World) (hI:Ints w a len xs) :
  Calls prog 103 #[.slice a len cap,.int .i64 n] w fun e W'=>∃ v,e=.returned v/\W'.ownsRow w.heap.size 3 1 v (hits xs [n] len).length (nums (hits xs [n] len))/\Below w.heap.size w W':=by
 obtain ⟨i0,hi,hz0,hz1,hz2⟩:=info_parts Tryz.info3;have hmax:=hI.hmax;refine (callsIn_wide (n:=3)).1 ?_;refine callsIn_of_wp_marks func103 rfl trivial ?_ rfl;simp only [ntmps103,List.size_toArray,List.length_cons,List.length_nil,Nat.reduceAdd,Nat.reduceSub,Array.replicate_succ,Array.replicate_zero,List.push_toArray,List.append_toArray,List.nil_append,List.cons_append]
 gi_wp2_with (refine ⟨trivial, ?_⟩;gi_at_call 163;refine (KL _ _ _ _ _ _ _ _).mono ?_;rintro e w' ⟨rfl,rfl⟩)
 have bO:=(((Boxed.new w 22 (.slice none 0 0)).alloc (.cells #[.int .i64 n] 3)).alloc (.cells #[.slice a len cap] 22)).alloc (.cells #[.slice (some ⟨w.heap.size+1,0,none⟩) 1 1] 22);have bV:=((Boxed.new (w.alloc (.cells #[.slice none 0 0] 22)) 3 (.int .i64 n)).alloc (.cells #[.slice a len cap] 22)).alloc (.cells #[.slice (some ⟨w.heap.size+1,0,none⟩) 1 1] 22);have bL:=(Boxed.new ((w.alloc (.cells #[.slice none 0 0] 22)).alloc (.cells #[.int .i64 n] 3)) 22 (.slice a len cap)).alloc (.cells #[.slice (some ⟨w.heap.size+1,0,none⟩) 1 1] 22);have bN:=Boxed.new (((w.alloc (.cells #[.slice none 0 0] 22)).alloc (.cells #[.int .i64 n] 3)).alloc (.cells #[.slice a len cap] 22)) 22 (.slice (some ⟨w.heap.size+1,0,none⟩) 1 1);simp only [World.size_alloc] at bV bL bN
 have hB0:Below w.heap.size w ((((w.alloc (.cells #[.slice none 0 0] 22)).alloc (.cells #[.int .i64 n] 3)).alloc (.cells #[.slice a len cap] 22)).alloc (.cells #[.slice (some ⟨w.heap.size+1,0,none⟩) 1 1] 22)) :=
  ((((Below.refl _ w).alloc (Nat.le_refl _) _).alloc (by simp) _).alloc (by simp;omega) _).alloc (by simp;omega) _
 have hns:rV (w.heap.size+4) w.heap.size ((((w.alloc (.cells #[.slice none 0 0] 22)).alloc (.cells #[.int .i64 n] 3)).alloc (.cells #[.slice a len cap] 22)).alloc (.cells #[.slice (some ⟨w.heap.size+1,0,none⟩) 1 1] 22)) (some ⟨w.heap.size+1,0,none⟩) 1 [n] :=
  ⟨rfl,by omega,fun _=>⟨_,_,rfl,by omega,by omega,fun i hi'=>by obtain rfl:i=0:=by omega
                                                                simpa using bV.cell⟩⟩
 have hx0:=BM hI hB0 (hi:=w.heap.size+4) (X:=w.heap.size) (by omega) (Nat.le_refl _)
 refine wpIn_rangeFunc_ownG rfl (by omega) (gf:=202) (lb:=#[.pointer (some ⟨w.heap.size+1+1,0,none⟩),.pointer (some ⟨w.heap.size+1+1+1,0,none⟩)]) rfl trivial (enters_of func202 (by kernel_rfl) rfl)
  (Dw 2 (by omega) (w.heap.size+1+1) (w.heap.size+1+1+1) (w.heap.size+4) w.heap.size a len cap xs (some ⟨w.heap.size+1,0,none⟩) 1 1 [n] _ (by simp) (by omega) (by omega) (by simp) bL.cell bN.cell hx0 hns)
  nM.trans (nM.b (by simp)) (Below.refl _ _) (fun _=>rfl)
  (fun pre W=>(∃ v,Boxed W w.heap.size 22 v/\W.ownsRow (w.heap.size+4) 3 1 v pre.length (nums pre)/\True)/\Below w.heap.size w W/\w.heap.size+4<=W.heap.size)
  (fun _ _ _=>False)
  (OwnFrom.and (Own.from (holdsRow_own (w.heap.size+4) w.heap.size 22 3 1 (fun pre:List Nat=>pre.length) (fun pre=>nums pre) (fun _ _=>True)) _) (OwnFrom.and (ownFrom_below (Nat.le_refl _) (by simp;omega)) (fun s A B row hs hg _=>zQ5 hs hg.size)))
  (fun _ _ _ _ _ hs _ _=>hs)
  ⟨⟨_,bO,World.ownsRow_nil _ _ _ _,trivial⟩,hB0,by simp⟩
  (fun x=>{ tmps:=#[.slice a len cap,.int .i64 n,undef,undef,.slice none 0 0,.pointer (some ⟨w.heap.size,0,none⟩),.int .i64 (x:Int),.slice a len cap,.int .i64 n,.slice (some ⟨w.heap.size+1,0,none⟩) 1 1,
   .func (.func 202) #[] #[.pointer (some ⟨w.heap.size+1+1,0,none⟩),.pointer (some ⟨w.heap.size+1+1+1,0,none⟩)],.int .i64 (x:Int),undef,undef,undef,undef,undef],defers:=[] }) ?assign ?body ?done ?stop
 case assign =>
  intro l x W K hK
  gi_wp2
  exact hK
 case body =>
  rintro l pre x W ⟨⟨v,hv,hrow,_⟩,hB,hsz⟩ hlt;have hc:=hv.cell
  gi_wp2_with (gi_at_builtin;refine wpListIn_append_own _ rfl _ _ 22 rfl (w.heap.size+4) 3 i0 (.int .i64 0) 1 8 underlying22 hi hz0 hz1 hz2 rfl (by decide) _ _ _ rfl (hrow.alloc _) ⟨W.heap.size,0,none⟩ 1 1 [.int .i64 (x:Int)] rfl rfl (cell_one_new _ _ _) (by simp [Value.oneCell']) (by unfold maxLen;omega) (by omega) (by simp;omega) ?_;intro v' w1 hown' hgrow _;obtain ⟨g',cap',rfl⟩:=ownsRow_succ hown';obtain ⟨hv1,hv2,hr2,hk2,hx2,hb2⟩:=KN hv (by omega) hrow hsz hown' hgrow;have hc1:=hv1.cell;have hf1:=hv1.frozen)
  exact ⟨hk2.from _,hx2,⟨_,hv2,by simpa [nums] using hr2,trivial⟩,hB.trans hb2,zQ5 hsz hx2.1⟩
 case done =>
  rintro D ys W hD rfl ⟨⟨v,hv,hrow,_⟩,hB,hsz⟩ hK;have hc:=hv.cell
  gi_wp2
  refine ⟨by simp,.inl ⟨_,_,rfl,run_takeDeferred hK, ?_⟩⟩;exact ⟨_,results_tmp rfl _ _ _,v,rfl,kZ (by omega) (ownsRow_putObj hrow _ hK rfl),hB.trans (belowK_b (w:=w) (Nat.le_refl _) W D _ _ (by simp at hD;omega) hK rfl rfl)⟩
 case stop =>
  rintro D c pre W _ _ h _;exact h.elim
end Go.Proofs.YtiiifecfdkjmbaaGreat
