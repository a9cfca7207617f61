/- Lemmas. Lemmas. Lemmas. Lemmas. -/
import Derived.Test.YtiiifecfdkjmbaaGreatTMsg
import Derived.Deep.AppendSrc
set_option maxHeartbeats 1000000
namespace Go.Proofs.YtiiifecfdkjmbaaGreat
open _root_.Go.Proofs.Tryz hiding checked
set_option maxRecDepth 8000
open Go.RowKit Go.Shelf
def dX (a b:Mg):Bool:=a.fr == b.fr && (a.gr == b.gr && (a.st == b.st && (a.nul == b.nul && a.body == b.body)))
theorem dY (a b:Mg):dX a b=true↔a=b:=by
 obtain ⟨af,ag,at1,an,ab⟩:=a
 obtain ⟨bf,bg,bt,bn,bb⟩:=b
 simp only [dX,Bool.and_eq_true,beq_iff_eq,Mg.mk.injEq]
 refine and_congr Iff.rfl (and_congr Iff.rfl (and_congr Iff.rfl (and_congr Iff.rfl ?_)))
 rw [beq_toListBytes,beq_iff_eq,ByteArray.toList_eq,ByteArray.toList_eq]
 obtain ⟨⟨x⟩⟩:=ab
 obtain ⟨⟨y⟩⟩:=bb
 simp
def q9:List Mg->List Mg->Bool
 | [],[]=>true
 | a::r,b::s=>dX a b && q9 r s
 | _,_=>false
theorem wX:∀ (xs ys:List Mg),q9 xs ys=true↔xs=ys
 | [],[]=>by simp [q9]
 | [],b::s=>by simp [q9]
 | a::r,[]=>by simp [q9]
 | a::r,b::s=>by simp [q9,dY,wX r s]
theorem KC (n g st:Int) (body:ByteArray) (w:World) :
  Calls prog 106 #[.int .i64 n,.int .i64 g,.int .i64 st,.string body] w fun e w'=>e=.returned (.agg #[.int .i64 n,.int .i64 g,.int .i64 st,.bool false,.string body])/\Since w w':=by
 go_enter func106,ntmps106
 go_wp2
 refine bodyPost_ret (v:=.agg #[.int .i64 n,.int .i64 g,.int .i64 st,.bool false,.string body]) (by simp [results,results106,go_sem]) rfl ?_
 exact ⟨rfl,(Since.refl _).alloc _⟩
theorem gI (x lo hi:Int) (w:World) :
  Calls prog 242 #[.int .i64 x,.int .i64 lo,.int .i64 hi] w fun e w'=>e=.returned (.bool (!inB x lo hi))/\w'=w:=by
 unfold inB
 by_cases h1:x < lo
 ·go_enter func242,ntmps242
  go_wp2
  go_ret
  exact ⟨by simp;omega,rfl⟩
 ·have hd:decide (x < lo)=false:=by simpa using h1
  by_cases h2:hi < x
  ·go_enter func242,ntmps242
   go_wp2
   go_ret
   exact ⟨by simp;omega,rfl⟩
  ·have hd2:decide (hi < x)=false:=by simpa using h2
   go_enter func242,ntmps242
   go_wp2
   go_ret
   exact ⟨by simp_all,rfl⟩
def tF (m:Mg):Bool:=decide (8 < m.body.size) || (m.nul && decide (m.body.size≠0))
def gG (nodes:Int) (xs:List Int) (m:Mg):Int :=
 if bF nodes xs≠0 then bF nodes xs
 else if ¬ (inB m.fr 0 (nodes - 1)=true/\inB m.gr 0 (xs.length - 1)=true/\inB m.st 1 1048576=true) then 3
 else if hasB xs m.gr m.fr=false then 5
 else if tF m then 1 else 0
theorem jv {nodes:Int} {xs:List Int} (h:bF nodes xs=0):1<=nodes/\nodes<=4/\1<=xs.length/\xs.length<=3:=by
 unfold bF at h
 split at h
 ·cases h
 ·split at h
  ·cases h
  ·omega
theorem Fp {b:ByteArray} (h:b.toList.isEmpty=false):b.size≠0:=by
 intro h0
 rw [ByteArray.toList_eq] at h
 have:b.data.toList=[]:=zQ6 (by simpa using h0)
 rw [this] at h
 cases h
theorem size_eq {b:ByteArray} (h:b.toList.isEmpty=true):b.size=0:=by
 rw [ByteArray.toList_eq,List.isEmpty_iff] at h
 have:=congrArg List.length h
 simpa using this
theorem sU (nodes:Int) (a:Option Addr) (len cap:Nat) (xs:List Int) (m:Mg) (w:World) (hI:Ints w a len xs) :
  Calls prog 222 #[.int .i64 nodes,.slice a len cap,.agg #[.int .i64 m.fr,.int .i64 m.gr,.int .i64 m.st,.bool m.nul,.string m.body]] w fun e w'=>e=.returned (.int .i64 (gG nodes xs m))/\Since w w':=by
 obtain ⟨w1,hw1⟩:∃ w1,w.alloc (.cells #[.int .i64 m.fr,.int .i64 m.gr,.int .i64 m.st,.bool m.nul,.string m.body] 42)=w1:=⟨_,rfl⟩
 have hS1:=ay hw1
 have hsz:w1.heap.size=w.heap.size+1:=by rw [<-hw1];simp
 have hB:aZ w1 w.heap.size 0 m:=by rw [<-hw1];constructor <;> simp [go_sem]
 have hlen:=hI.hlen
 subst hlen
 obtain ⟨c,hce⟩:∃ c,bF nodes xs=c:=⟨_,rfl⟩
 have HC:Hid (bF nodes xs=c):=hce
 cases hc:(c != 0)
 ·have hc0:bF nodes xs=0:=by rw [hce];simpa using hc
  obtain ⟨n1,n2,l1,l2⟩:=jv hc0
  have HF:Hid (gG nodes xs m=if ¬ (inB m.fr 0 (nodes - 1)=true/\inB m.gr 0 (xs.length - 1)=true/\inB m.st 1 1048576=true) then 3 else if hasB xs m.gr m.fr=false then 5 else if tF m then 1 else 0):=by
   unfold Hid gG;rw [if_neg (by simp [hc0])]
  clear hce hc0
  go_enter func222,ntmps222
  go_wp2_with fail
  refine (Fa w1 _ _ _ _ _ _ (hI.since hS1) (Since.refl w1)).mono ?_
  rw [HC.out]
  rintro e w2 ⟨rfl,hS2⟩
  have hI2:=hI.since (hS1.trans hS2)
  have hR2:=hS1.trans hS2
  have hg:∀ o:Nat,w2.cell? ⟨w.heap.size,o,none⟩=w1.cell? ⟨w.heap.size,o,none⟩:=fun o=>hS2.below.cell (p:=⟨w.heap.size,o,none⟩) (by show w.heap.size < _;omega)
  obtain ⟨f0,f1,f2,f3,f4⟩:=hB
  simp only [Nat.zero_add] at f0 f1 f2 f3 f4
  rw [<-hg] at f0 f1 f2 f3 f4
  clear hg hw1
  cases i1:inB m.fr 0 (nodes - 1)
  ·have HV:Hid (gG nodes xs m=3):=by unfold Hid;rw [HF.out,if_pos (by simp [i1])]
   clear HF
   go_wp2_with (first | (go_at_call 242;refine (gI _ _ _ _).mono ?_;rintro e w' ⟨rfl,hw⟩;obtain rfl:=hw.symm) | (go_at_call 50;refine (fJ _ _ _ xs _ _ _ hI2).mono ?_;rintro e w' ⟨rfl,hw⟩;obtain rfl:=hw.symm))
   go_ret
   exact ⟨by rw [HV.out];rfl,hR2⟩
  cases i2:inB m.gr 0 (xs.length - 1)
  ·have HV:Hid (gG nodes xs m=3):=by unfold Hid;rw [HF.out,if_pos (by simp [i2])]
   clear HF
   go_wp2_with (first | (go_at_call 242;refine (gI _ _ _ _).mono ?_;rintro e w' ⟨rfl,hw⟩;obtain rfl:=hw.symm) | (go_at_call 50;refine (fJ _ _ _ xs _ _ _ hI2).mono ?_;rintro e w' ⟨rfl,hw⟩;obtain rfl:=hw.symm))
   go_ret
   exact ⟨by rw [HV.out];rfl,hR2⟩
  cases i3:inB m.st 1 1048576
  ·have HV:Hid (gG nodes xs m=3):=by unfold Hid;rw [HF.out,if_pos (by simp [i3])]
   clear HF
   go_wp2_with (first | (go_at_call 242;refine (gI _ _ _ _).mono ?_;rintro e w' ⟨rfl,hw⟩;obtain rfl:=hw.symm) | (go_at_call 50;refine (fJ _ _ _ xs _ _ _ hI2).mono ?_;rintro e w' ⟨rfl,hw⟩;obtain rfl:=hw.symm))
   go_ret
   exact ⟨by rw [HV.out];rfl,hR2⟩
  cases i4:hasB xs m.gr m.fr
  ·have HV:Hid (gG nodes xs m=5):=by unfold Hid;rw [HF.out,if_neg (by simp [i1,i2,i3]),if_pos i4]
   clear HF
   go_wp2_with (first | (go_at_call 242;refine (gI _ _ _ _).mono ?_;rintro e w' ⟨rfl,hw⟩;obtain rfl:=hw.symm) | (go_at_call 50;refine (fJ _ _ _ xs _ _ _ hI2).mono ?_;rintro e w' ⟨rfl,hw⟩;obtain rfl:=hw.symm))
   go_ret
   exact ⟨by rw [HV.out];rfl,hR2⟩
  have HG:Hid (gG nodes xs m=if tF m then 1 else 0):=by unfold Hid;rw [HF.out,if_neg (by simp [i1,i2,i3]),if_neg (by simp [i4])]
  clear HF
  by_cases i5:8 < (m.body.size:Int)
  ·have HV:Hid (gG nodes xs m=1):=by unfold Hid;rw [HG.out,if_pos (by simp [tF];left;omega)]
   clear HG
   go_wp2_with (first | (go_at_call 242;refine (gI _ _ _ _).mono ?_;rintro e w' ⟨rfl,hw⟩;obtain rfl:=hw.symm) | (go_at_call 50;refine (fJ _ _ _ xs _ _ _ hI2).mono ?_;rintro e w' ⟨rfl,hw⟩;obtain rfl:=hw.symm))
   go_ret
   exact ⟨by rw [HV.out];rfl,hR2⟩
  have i5':decide (8 < (m.body.size:Int))=false:=by simpa using i5
  cases i6:m.nul
  ·have HV:Hid (gG nodes xs m=0):=by unfold Hid;rw [HG.out,if_neg (by simp [tF,i6];omega)]
   clear HG
   rw [i6] at f3
   go_wp2_with (first | (go_at_call 242;refine (gI _ _ _ _).mono ?_;rintro e w' ⟨rfl,hw⟩;obtain rfl:=hw.symm) | (go_at_call 50;refine (fJ _ _ _ xs _ _ _ hI2).mono ?_;rintro e w' ⟨rfl,hw⟩;obtain rfl:=hw.symm))
   go_ret
   exact ⟨by rw [HV.out];rfl,hR2⟩
  rw [i6] at f3
  cases i7:(m.body.toList.isEmpty)
  ·have HV:Hid (gG nodes xs m=1):=by unfold Hid;rw [HG.out,if_pos (by have:=Fp i7;simp [tF,i6,this])]
   clear HG
   go_wp2_with (first | (go_at_call 242;refine (gI _ _ _ _).mono ?_;rintro e w' ⟨rfl,hw⟩;obtain rfl:=hw.symm) | (go_at_call 50;refine (fJ _ _ _ xs _ _ _ hI2).mono ?_;rintro e w' ⟨rfl,hw⟩;obtain rfl:=hw.symm))
   go_ret
   exact ⟨by rw [HV.out];rfl,hR2⟩
  ·have HV:Hid (gG nodes xs m=0):=by unfold Hid;rw [HG.out,if_neg (by have:=size_eq i7;simp [tF,this])]
   clear HG
   go_wp2_with (first | (go_at_call 242;refine (gI _ _ _ _).mono ?_;rintro e w' ⟨rfl,hw⟩;obtain rfl:=hw.symm) | (go_at_call 50;refine (fJ _ _ _ xs _ _ _ hI2).mono ?_;rintro e w' ⟨rfl,hw⟩;obtain rfl:=hw.symm))
   go_ret
   exact ⟨by rw [HV.out];rfl,hR2⟩
 ·have HF:Hid (gG nodes xs m=c):=by unfold Hid gG;rw [hce,if_pos (by simpa using hc)]
  clear hce
  go_enter func222,ntmps222
  go_wp2_with fail
  refine (Fa w1 _ _ _ _ _ _ (hI.since hS1) (Since.refl w1)).mono ?_
  rw [HC.out]
  rintro e w2 ⟨rfl,hS2⟩
  go_wp2
  go_ret
  exact ⟨by rw [HF.out];rfl,hS1.trans hS2⟩
theorem AQ (nodes:Int) (a:Option Addr) (len cap:Nat) (xs:List Int) (m:Mg) (w:World) (hI:Ints w a len xs) :
  Calls prog 192 #[.int .i64 nodes,.slice a len cap,.agg #[.int .i64 m.fr,.int .i64 m.gr,.int .i64 m.st,.bool m.nul,.string m.body]] w fun e w'=>e=.returned (.int .i64 (gG nodes xs m))/\Since w w':=by
 obtain ⟨w1,hw1⟩:∃ w1,w.alloc (.cells #[.int .i64 m.fr,.int .i64 m.gr,.int .i64 m.st,.bool m.nul,.string m.body] 42)=w1:=⟨_,rfl⟩
 have hS1:=ay hw1
 have hsz:w1.heap.size=w.heap.size+1:=by rw [<-hw1];simp
 have hB:aZ w1 w.heap.size 0 m:=by rw [<-hw1];constructor <;> simp [go_sem]
 have hlen:=hI.hlen
 subst hlen
 obtain ⟨c,hce⟩:∃ c,bF nodes xs=c:=⟨_,rfl⟩
 have HC:Hid (bF nodes xs=c):=hce
 cases hc:(c != 0)
 ·have hc0:bF nodes xs=0:=by rw [hce];simpa using hc
  obtain ⟨n1,n2,l1,l2⟩:=jv hc0
  have HF:Hid (gG nodes xs m=if ¬ (inB m.fr 0 (nodes - 1)=true/\inB m.gr 0 (xs.length - 1)=true/\inB m.st 1 1048576=true) then 3 else if hasB xs m.gr m.fr=false then 5 else if tF m then 1 else 0):=by
   unfold Hid gG;rw [if_neg (by simp [hc0])]
  clear hce hc0
  go_enter func192,ntmps192
  go_wp2_with fail
  refine (sQ w1 _ _ _ _ _ _ (hI.since hS1) (Since.refl w1)).mono ?_
  rw [HC.out]
  rintro e w2 ⟨rfl,hS2⟩
  have hI2:=hI.since (hS1.trans hS2)
  have hR2:=hS1.trans hS2
  have hg:∀ o:Nat,w2.cell? ⟨w.heap.size,o,none⟩=w1.cell? ⟨w.heap.size,o,none⟩:=fun o=>hS2.below.cell (p:=⟨w.heap.size,o,none⟩) (by show w.heap.size < _;omega)
  obtain ⟨f0,f1,f2,f3,f4⟩:=hB
  simp only [Nat.zero_add] at f0 f1 f2 f3 f4
  rw [<-hg] at f0 f1 f2 f3 f4
  clear hg hw1
  cases i1:inB m.fr 0 (nodes - 1)
  ·have HV:Hid (gG nodes xs m=3):=by unfold Hid;rw [HF.out,if_pos (by simp [i1])]
   clear HF
   go_wp2_with (first | (go_at_call 126;refine (bP _ _ _ _).mono ?_;rintro e w' ⟨rfl,hw⟩;obtain rfl:=hw.symm) | (go_at_call 145;refine (gV _ _ _ xs _ _ _ hI2).mono ?_;rintro e w' ⟨rfl,hw⟩;obtain rfl:=hw.symm))
   go_ret
   exact ⟨by rw [HV.out];rfl,hR2⟩
  cases i2:inB m.gr 0 (xs.length - 1)
  ·have HV:Hid (gG nodes xs m=3):=by unfold Hid;rw [HF.out,if_pos (by simp [i2])]
   clear HF
   go_wp2_with (first | (go_at_call 126;refine (bP _ _ _ _).mono ?_;rintro e w' ⟨rfl,hw⟩;obtain rfl:=hw.symm) | (go_at_call 145;refine (gV _ _ _ xs _ _ _ hI2).mono ?_;rintro e w' ⟨rfl,hw⟩;obtain rfl:=hw.symm))
   go_ret
   exact ⟨by rw [HV.out];rfl,hR2⟩
  cases i3:inB m.st 1 1048576
  ·have HV:Hid (gG nodes xs m=3):=by unfold Hid;rw [HF.out,if_pos (by simp [i3])]
   clear HF
   go_wp2_with (first | (go_at_call 126;refine (bP _ _ _ _).mono ?_;rintro e w' ⟨rfl,hw⟩;obtain rfl:=hw.symm) | (go_at_call 145;refine (gV _ _ _ xs _ _ _ hI2).mono ?_;rintro e w' ⟨rfl,hw⟩;obtain rfl:=hw.symm))
   go_ret
   exact ⟨by rw [HV.out];rfl,hR2⟩
  cases i4:hasB xs m.gr m.fr
  ·have HV:Hid (gG nodes xs m=5):=by unfold Hid;rw [HF.out,if_neg (by simp [i1,i2,i3]),if_pos i4]
   clear HF
   go_wp2_with (first | (go_at_call 126;refine (bP _ _ _ _).mono ?_;rintro e w' ⟨rfl,hw⟩;obtain rfl:=hw.symm) | (go_at_call 145;refine (gV _ _ _ xs _ _ _ hI2).mono ?_;rintro e w' ⟨rfl,hw⟩;obtain rfl:=hw.symm))
   go_ret
   exact ⟨by rw [HV.out];rfl,hR2⟩
  have HG:Hid (gG nodes xs m=if tF m then 1 else 0):=by unfold Hid;rw [HF.out,if_neg (by simp [i1,i2,i3]),if_neg (by simp [i4])]
  clear HF
  by_cases i5:8 < (m.body.size:Int)
  ·have HV:Hid (gG nodes xs m=1):=by unfold Hid;rw [HG.out,if_pos (by simp [tF];left;omega)]
   clear HG
   go_wp2_with (first | (go_at_call 126;refine (bP _ _ _ _).mono ?_;rintro e w' ⟨rfl,hw⟩;obtain rfl:=hw.symm) | (go_at_call 145;refine (gV _ _ _ xs _ _ _ hI2).mono ?_;rintro e w' ⟨rfl,hw⟩;obtain rfl:=hw.symm))
   go_ret
   exact ⟨by rw [HV.out];rfl,hR2⟩
  have i5':decide (8 < (m.body.size:Int))=false:=by simpa using i5
  cases i6:m.nul
  ·have HV:Hid (gG nodes xs m=0):=by unfold Hid;rw [HG.out,if_neg (by simp [tF,i6];omega)]
   clear HG
   rw [i6] at f3
   go_wp2_with (first | (go_at_call 126;refine (bP _ _ _ _).mono ?_;rintro e w' ⟨rfl,hw⟩;obtain rfl:=hw.symm) | (go_at_call 145;refine (gV _ _ _ xs _ _ _ hI2).mono ?_;rintro e w' ⟨rfl,hw⟩;obtain rfl:=hw.symm))
   go_ret
   exact ⟨by rw [HV.out];rfl,hR2⟩
  rw [i6] at f3
  cases i7:(m.body.toList.isEmpty)
  ·have HV:Hid (gG nodes xs m=1):=by unfold Hid;rw [HG.out,if_pos (by have:=Fp i7;simp [tF,i6,this])]
   clear HG
   go_wp2_with (first | (go_at_call 126;refine (bP _ _ _ _).mono ?_;rintro e w' ⟨rfl,hw⟩;obtain rfl:=hw.symm) | (go_at_call 145;refine (gV _ _ _ xs _ _ _ hI2).mono ?_;rintro e w' ⟨rfl,hw⟩;obtain rfl:=hw.symm))
   go_ret
   exact ⟨by rw [HV.out];rfl,hR2⟩
  ·have HV:Hid (gG nodes xs m=0):=by unfold Hid;rw [HG.out,if_neg (by have:=size_eq i7;simp [tF,this])]
   clear HG
   go_wp2_with (first | (go_at_call 126;refine (bP _ _ _ _).mono ?_;rintro e w' ⟨rfl,hw⟩;obtain rfl:=hw.symm) | (go_at_call 145;refine (gV _ _ _ xs _ _ _ hI2).mono ?_;rintro e w' ⟨rfl,hw⟩;obtain rfl:=hw.symm))
   go_ret
   exact ⟨by rw [HV.out];rfl,hR2⟩
 ·have HF:Hid (gG nodes xs m=c):=by unfold Hid gG;rw [hce,if_pos (by simpa using hc)]
  clear hce
  go_enter func192,ntmps192
  go_wp2_with fail
  refine (sQ w1 _ _ _ _ _ _ (hI.since hS1) (Since.refl w1)).mono ?_
  rw [HC.out]
  rintro e w2 ⟨rfl,hS2⟩
  go_wp2
  go_ret
  exact ⟨by rw [HF.out];rfl,hS1.trans hS2⟩
theorem Tryz.Ak:(prog.info? 42).map (fun i=>(i.zero,i.size,i.bytes))=some (some (.agg #[.int .i64 0,.int .i64 0,.int .i64 0,.bool false,.string ByteArray.empty]),5,48):=by kernel_rfl
theorem Since.grown {w1 w w':World} {row:Option Nat} (h:Since w1 w) (hg:w.grownBy w' row) (hr:∀ k,row=some k->w1.heap.size<=k):Since w1 w':=⟨h.below.grown hg h.size hr⟩
theorem Since.cellAt {w1 w:World} (h:Since w1 w) {b:Nat} (hb:b < w1.heap.size) (o:Nat):w.cell? ⟨b,o,none⟩=w1.cell? ⟨b,o,none⟩:=h.below.cell (p:=⟨b,o,none⟩) hb
theorem ou (b off j:Nat):(⟨b,off,none⟩:Addr).add j=⟨b,off+j,none⟩:=by
 by_cases h:j=0
 ·subst h;simp [Addr.add]
 ·simp [Addr.add,h]
theorem mG {ms:List Mg} {p j:Nat} {u:Value} (h:(flat (ms.take p))[j]? = some u):(flat ms)[j]? = some u:=by
 have e:flat ms=flat (ms.take p)++flat (ms.drop p):=by rw [<-gH,List.take_append_drop]
 rw [e,List.getElem?_append_left (zQ2.1 h).1];exact h
theorem qG {ms:List Mg} {p j:Nat} {u:Value} (hp:p<=ms.length) (h:(flat (ms.drop p))[j]? = some u):(flat ms)[p*5+j]? = some u:=by
 have e:flat ms=flat (ms.take p)++flat (ms.drop p):=by rw [<-gH,List.take_append_drop]
 have hl:(flat (ms.take p)).length=p*5:=by rw [cB];simp;omega
 rw [e,List.getElem?_append_right (by omega),hl]
 rw [show p*5+j - p*5=j from by omega];exact h
theorem nG (w:World) (m:Mg) (t:Nat):∀ j u,m.cells[j]? = some u->(w.alloc (.cells #[.int .i64 m.fr,.int .i64 m.gr,.int .i64 m.st,.bool m.nul,.string m.body] t)).cell? ((⟨w.heap.size,0,none⟩:Addr).add j)=some u:=by
 intro j u hj
 rw [ou]
 have hl:=(zQ2.1 hj).1
 simp [Mg.cells] at hl
 rcases (show j=0\/j=1\/j=2\/j=3\/j=4 by omega) with rfl | rfl | rfl | rfl | rfl <;> simp [Mg.cells] at hj <;> subst hj <;> simp [go_sem]
def fA (m:Mg) (ms:List Mg):Int :=
 if aN ms=false then 1 else if 40<=ms.length then 2 else
  match ms[bT m ms]? with
  | some x=>if lessM m x then 0 else 1
  | none=>0
def iJ (m:Mg) (ms:List Mg):List Mg:=if fA m ms=0 then ms.take (bT m ms)++[m]++ms.drop (bT m ms) else []
theorem mW (m:Mg) (ms:List Mg) (h:fA m ms=0):(iJ m ms).length=ms.length+1:=by
 have:=mV m ms
 unfold iJ;rw [if_pos h];simp;omega
theorem uN (m:Mg) (ms:List Mg) (h:fA m ms≠0):iJ m ms=[]:=by unfold iJ;rw [if_neg h]
theorem oV {W:World} {base:Nat} {e:TypeId} {size:Nat} {x:Addr} {n k cap:Nat} {xs:List Value} (h:W.ownsRow base e size (.slice (some x) k cap) n xs):n<=cap:=by
 rcases h.2 with ⟨h1,_⟩ | ⟨g,cap',cur,h1,_,_,h4,_⟩
 ·cases h1
 ·simp only [Value.slice.injEq] at h1;rw [h1.2.2];exact h4
end Go.Proofs.YtiiifecfdkjmbaaGreat
namespace Go.Proofs.YtiiifecfdkjmbaaGreat
set_option maxRecDepth 8000
open Go.RowKit Go.Shelf
theorem ownsRow_form {W:World} {base:Nat} {e:TypeId} {size:Nat} {v:Value} {n:Nat} {xs:List Value} (h:W.ownsRow base e size v n xs):∃ a cap,v=.slice a n cap/\n<=cap:=by
 rcases h.2 with ⟨rfl,rfl⟩ | ⟨g,cap,cur,rfl,_,_,h4,_⟩
 ·exact ⟨none,0,rfl,Nat.le_refl _⟩
 ·exact ⟨_,cap,rfl,h4⟩
theorem Later.old {w0 wr:World} (h:Since w0 wr) (x:Later wr) {b:Nat} (o:Nat) (hb:b < w0.heap.size):x.w.cell? ⟨b,o,none⟩=w0.cell? ⟨b,o,none⟩:=(h.trans x.h).cellAt hb o
theorem yU {w w':World} {base:Nat} {e:TypeId} {size:Nat} {v:Value} {n:Nat} {xs:List Value} (k:Since w w') (h:w.ownsRow base e size v n xs):w'.ownsRow base e size v n xs:=by
 refine ⟨h.1, ?_⟩
 rcases h.2 with h2 | ⟨g,cap,cur,e1,e2,e3,e4⟩
 ·exact .inl h2
 ·exact .inr ⟨g,cap,cur,e1,e2,(k.below.block g (zQ3.1 e3).1).trans e3,e4⟩
end Go.Proofs.YtiiifecfdkjmbaaGreat
set_option maxHeartbeats 1000000
namespace Go.Proofs.YtiiifecfdkjmbaaGreat
open _root_.Go.Proofs.Tryz hiding checked
set_option maxRecDepth 8000
open Go.RowKit Go.Shelf
structure Nd where
 clock:Int
 last:List (List Int)
 held:List Mg
 told:List Mg
structure Wd where
 groups:List Int
 nodes:List Nd
 wires:List (List (List Mg))
structure WV where
 ga:Option Addr
 gl:Nat
 gc:Nat
 na:Option Addr
 nl:Nat
 nc:Nat
 wa:Option Addr
 wl:Nat
 wc:Nat
def vv (w:World) (v:Value) (xs:List Int):Prop:=∃ a cap,v=.slice a xs.length cap/\xs.length<=cap/\Ints w a xs.length xs
def kZ (w:World) (v:Value) (xs:List Mg):Prop:=∃ a cap,v=.slice a xs.length cap/\xs.length<=cap/\eY w a xs.length xs
structure Slices {α:Type} (P:World->Value->α->Prop) (w:World) (a:Option Addr) (len:Nat) (xs:List α):Prop where
 hlen:xs.length=len
 hmax:len<=5864062014634
 cells:0 < len->∃ b off,a=some ⟨b,off,none⟩/\b < w.heap.size/\∀ i x,xs[i]? = some x->∃ v,w.cell? ⟨b,off+i,none⟩=some v/\P w v x
def lW {α:Type} (P:World->Value->α->Prop) (w:World) (v:Value) (xs:List α):Prop:=∃ a cap,v=.slice a xs.length cap/\xs.length<=cap/\Slices P w a xs.length xs
structure BD (w:World) (b o:Nat) (x:Nd):Prop where
 clk:w.cell? ⟨b,o,none⟩=some (.int .i64 x.clock)
 last:∃ v,w.cell? ⟨b,o+1,none⟩=some v/\lW vv w v x.last
 held:∃ v,w.cell? ⟨b,o+2,none⟩=some v/\kZ w v x.held
 told:∃ v,w.cell? ⟨b,o+3,none⟩=some v/\kZ w v x.told
structure Nodes (w:World) (a:Option Addr) (len:Nat) (xs:List Nd):Prop where
 hlen:xs.length=len
 hmax:len<=1759218604390
 cells:0 < len->∃ b off,a=some ⟨b,off,none⟩/\b < w.heap.size/\∀ i x,xs[i]? = some x->BD w b (off+i*4) x
structure WAt (w:World) (x:WV) (d:Wd):Prop where
 g:Ints w x.ga x.gl d.groups
 Rm:x.gl<=x.gc
 n:Nodes w x.na x.nl d.nodes
 Rn:x.nl<=x.nc
 r:Slices (lW kZ) w x.wa x.wl d.wires
 OJ:x.wl<=x.wc
def Stable {α:Type} (P:World->Value->α->Prop):Prop:=∀ w W v x,Since w W->P w v x->P W v x
theorem kR:Stable vv:=fun _ _ _ _ k ⟨a,cap,e,hc,h⟩=>⟨a,cap,e,hc,h.since k⟩
theorem iT:Stable kZ:=fun _ _ _ _ k ⟨a,cap,e,hc,h⟩=>⟨a,cap,e,hc,h.since k⟩
theorem Slices.since {α:Type} {P:World->Value->α->Prop} (hP:Stable P) {w W:World} {a:Option Addr} {len:Nat} {xs:List α} (h:Slices P w a len xs) (k:Since w W):Slices P W a len xs:=by
 refine ⟨h.hlen,h.hmax,fun hp=>?_⟩
 obtain ⟨b,off,e,hb,hc⟩:=h.cells hp
 refine ⟨b,off,e,by have:=k.size;omega,fun i x hx=>?_⟩
 obtain ⟨v,hv,hp⟩:=hc i x hx
 exact ⟨v,(k.cellAt hb _).trans hv,hP _ _ _ _ k hp⟩
theorem lN {α:Type} {P:World->Value->α->Prop} (hP:Stable P):Stable (lW P):=fun _ _ _ _ k ⟨a,cap,e,hc,h⟩=>⟨a,cap,e,hc,h.since hP k⟩
theorem BD.since {w W:World} {b o:Nat} {x:Nd} (h:BD w b o x) (hb:b < w.heap.size) (k:Since w W):BD W b o x:=by
 refine ⟨(k.cellAt hb _).trans h.clk, ?_, ?_, ?_⟩
 ·obtain ⟨v,h1,h2⟩:=h.last;exact ⟨v,(k.cellAt hb _).trans h1,lN kR _ _ _ _ k h2⟩
 ·obtain ⟨v,h1,h2⟩:=h.held;exact ⟨v,(k.cellAt hb _).trans h1,iT _ _ _ _ k h2⟩
 ·obtain ⟨v,h1,h2⟩:=h.told;exact ⟨v,(k.cellAt hb _).trans h1,iT _ _ _ _ k h2⟩
theorem Nodes.since {w W:World} {a:Option Addr} {len:Nat} {xs:List Nd} (h:Nodes w a len xs) (k:Since w W):Nodes W a len xs:=by
 refine ⟨h.hlen,h.hmax,fun hp=>?_⟩
 obtain ⟨b,off,e,hb,hc⟩:=h.cells hp
 exact ⟨b,off,e,by have:=k.size;omega,fun i x hx=>(hc i x hx).since hb k⟩
theorem WAt.since {w W:World} {x:WV} {d:Wd} (h:WAt w x d) (k:Since w W):WAt W x d :=
 ⟨h.g.since k,h.Rm,h.n.since k,h.Rn,h.r.since (lN iT) k,h.OJ⟩
def fu (ms:List Mg):Bool:=ms.all fun m=>!m.nul
def iq (d:Wd) (n:Int) (m:Mg):Bool:=decide (gG d.nodes.length d.groups m=0) && hasB d.groups m.gr n
def aP (d:Wd) (ms:List Mg) (n:Int):Bool:=ms.all (iq d n)
theorem kI {α:Type} {p:α->Bool} {xs:List α} {k:Nat} {x:α} (h:xs[k]? = some x) (hp:p x=false):xs.all p=false:=by
 rw [List.all_eq_false]
 exact ⟨x,List.mem_of_getElem? h,by simp [hp]⟩
theorem iw {α:Type} {p:α->Bool} {xs:List α} {k:Nat} {x:α} (h:xs[k]? = some x) (h0:(xs.take k).all p=true) (hp:p x=true):(xs.take (k+1)).all p=true:=by
 rw [List.take_add_one,List.all_append,h0,h];simp [hp]
theorem EP (a:Option Addr) (len cap:Nat) (ms:List Mg) (w:World) (hM:eY w a len ms) :
  Calls prog 155 #[.slice a len cap] w fun e w'=>e=.returned (.bool (fu ms))/\w'=w:=by
 obtain ⟨rfl,hmax,hc⟩:=hM
 go_enter func155,ntmps155
 go_wp2
 go_loop [3] (fun i=>∃ k:Nat,k<=ms.length/\i=.int .i64 k/\(ms.take k).all (fun m=>!m.nul)=true) (fun i=>ms.length - (intOf i).toNat)
 case atStart=>exact ⟨0,Nat.zero_le _,rfl,rfl⟩
 case round =>
  obtain ⟨k,hk,rfl,hn⟩:=hrel
  have HN:Hid ((ms.take k).all (fun m=>!m.nul)=true):=hn
  clear hn
  by_cases hlt:k < ms.length
  ·obtain ⟨b,off,rfl,hb,hcell⟩:=hc (by omega)
   obtain ⟨m,hm⟩:∃ m,ms[k]? = some m:=⟨_,zQ1 hlt⟩
   obtain ⟨d0,d1,d2,d3,d4⟩:=bJ hcell k m hm
   have HM:Hid (ms[k]? = some m):=hm
   clear hm hcell hc
   cases hl:m.nul
   ·rw [hl] at d3
    go_wp2
    go_round
    case rel=>exact ⟨k+1,by omega,by go_num,iw HM.out HN.out (by simp [hl])⟩
    case measure=>simp [intOf];omega
   ·have HF:Hid (fu ms=false):=kI HM.out (by simp [hl])
    rw [hl] at d3
    go_wp2
    go_ret
    exact ⟨by rw [HF.out];rfl,rfl⟩
  ·have HF:Hid (fu ms=true):=by have:=HN.out;rw [List.take_of_length_le (by omega)] at this;exact this
   clear hc
   go_wp2
   go_ret
   exact ⟨by rw [HF.out];rfl,rfl⟩
theorem sj (w0:World) (nodes:Int) (a:Option Addr) (len cap:Nat) (xs:List Int) (m:Mg) (c:Int) (hc:gG nodes xs m=c) (hI:Ints w0 a len xs) (w:World) (h:Since w0 w) :
  Calls prog 192 #[.int .i64 nodes,.slice a len cap,.agg #[.int .i64 m.fr,.int .i64 m.gr,.int .i64 m.st,.bool m.nul,.string m.body]] w fun e w'=>e=.returned (.int .i64 c)/\Since w0 w' :=
 (AQ nodes a len cap xs m w (hI.since h)).mono fun _ _ ⟨he,hw⟩=>⟨by rw [<-hc];exact he,h.trans hw⟩
theorem FI (w0:World) (a:Option Addr) (len cap:Nat) (xs:List Int) (g n:Int) (v:Bool) (hv:hasB xs g n=v) (hI:Ints w0 a len xs) (w:World) (h:Since w0 w) :
  Calls prog 145 #[.slice a len cap,.int .i64 g,.int .i64 n] w fun e w'=>e=.returned (.bool v)/\Since w0 w' :=
 (gV a len cap xs g n w (hI.since h)).mono fun _ _ ⟨he,hw⟩=>⟨by rw [<-hv];exact he,by rw [hw];exact h⟩
theorem BF (x:WV) (d:Wd) (a:Option Addr) (len cap:Nat) (ms:List Mg) (n:Int) (w:World) (hW:WAt w x d) (hM:eY w a len ms) :
  Calls prog 156 #[.agg #[.slice x.ga x.gl x.gc,.slice x.na x.nl x.nc,.slice x.wa x.wl x.wc],.slice a len cap,.int .i64 n] w fun e w'=>e=.returned (.bool (aP d ms n))/\Since w w':=by
 obtain ⟨rfl,hmax,hc⟩:=hM
 obtain ⟨w1,hw1⟩:∃ w1,w.alloc (.cells #[.slice x.ga x.gl x.gc,.slice x.na x.nl x.nc,.slice x.wa x.wl x.wc] 26)=w1:=⟨_,rfl⟩
 have hS1:=ay hw1
 have hsz:w1.heap.size=w.heap.size+1:=by rw [<-hw1];simp
 have b0:w1.cell? ⟨w.heap.size,0,none⟩=some (.slice x.ga x.gl x.gc):=by rw [<-hw1];simp [go_sem]
 have b1:w1.cell? ⟨w.heap.size,1,none⟩=some (.slice x.na x.nl x.nc):=by rw [<-hw1];simp [go_sem]
 have hI1:=hW.g.since hS1
 have hnl:=hW.n.hlen
 have hnm:=hW.n.hmax
 have HNL:Hid (d.nodes.length=x.nl):=hnl
 have hne:Nonempty (Later w1):=⟨⟨w1,Since.refl w1⟩⟩
 have hg2:∀ (y:Later w1) (o:Nat),y.w.cell? ⟨w.heap.size,o,none⟩=w1.cell? ⟨w.heap.size,o,none⟩:=fun y o=>y.cell (by omega)
 clear hnl
 go_enter func156,ntmps156
 go_wp2
 clear hw1
 go_loopw [7] (fun i wr=>(∃ k:Nat,k<=ms.length/\i=.int .i64 k/\(ms.take k).all (iq d n)=true)/\Since w1 wr) (fun i _=>ms.length - (intOf i).toNat)
 case atStart=>exact ⟨⟨0,Nat.zero_le _,rfl,rfl⟩,Since.refl _⟩
 case round =>
  obtain ⟨⟨k,hk,rfl,hn⟩,hS⟩:=hrel
  have HN:Hid ((ms.take k).all (iq d n)=true):=hn
  clear hn
  by_cases hlt:k < ms.length
  ·obtain ⟨b,off,rfl,hb,hcell⟩:=hc (by omega)
   obtain ⟨m,hm⟩:∃ m,ms[k]? = some m:=⟨_,zQ1 hlt⟩
   obtain ⟨d0,d1,d2,d3,d4⟩:=bJ hcell k m hm
   have hg:∀ (y:Later w1) (o:Nat),y.w.cell? ⟨b,o,none⟩=w.cell? ⟨b,o,none⟩:=fun y o=>Later.old hS1 y o hb
   have HM:Hid (ms[k]? = some m):=hm
   clear hm hcell hc
   obtain ⟨c,hce⟩:∃ c,gG x.nl d.groups m=c:=⟨_,rfl⟩
   have HC:Hid (gG x.nl d.groups m=c):=hce
   clear hce
   cases h1:(c != 0)
   ·have hc0:Hid (gG d.nodes.length d.groups m=0):=by unfold Hid;rw [HNL.out,HC.out];simpa using h1
    cases h2:hasB d.groups m.gr n
    ·have HF:Hid (aP d ms n=false):=kI HM.out (by simp [iq,h2])
     have H2:Hid (hasB d.groups m.gr n=false):=h2
     clear h2
     go_wp2_with fail
     refine av (by kernel_rfl) (by kernel_rfl) hS ?_
     repeat (go_big_quiet_step ((first | (go_at_call 192;exact Later.call (sj w1 _ _ _ _ d.groups m _ HC.out hI1)) | (go_at_call 145;exact Later.call (FI w1 _ _ _ d.groups _ _ _ H2.out hI1)))))
     refine wpQuiet_nil ?_
     intro w9 hS9
     go_wp2
     go_ret
     exact ⟨by rw [HF.out];rfl,hS1.trans hS9⟩
    ·have HF:Hid ((ms.take (k+1)).all (iq d n)=true):=iw HM.out HN.out (by simp [iq,h2,hc0.out])
     have H2:Hid (hasB d.groups m.gr n=true):=h2
     clear h2
     go_wp2_with fail
     refine av (by kernel_rfl) (by kernel_rfl) hS ?_
     repeat (go_big_quiet_step ((first | (go_at_call 192;exact Later.call (sj w1 _ _ _ _ d.groups m _ HC.out hI1)) | (go_at_call 145;exact Later.call (FI w1 _ _ _ d.groups _ _ _ H2.out hI1)))))
     refine wpQuiet_nil ?_
     intro w9 hS9
     go_wp2
     go_roundw
     case rel=>exact ⟨⟨k+1,by omega,by go_num,HF.out⟩,hS9⟩
     case measure=>simp [intOf];omega
   ·have HF:Hid (aP d ms n=false):=kI HM.out (by
     have:¬ gG d.nodes.length d.groups m=0:=by rw [HNL.out,HC.out];simpa using h1
     simp [iq,this])
    go_wp2_with fail
    refine av (by kernel_rfl) (by kernel_rfl) hS ?_
    repeat (go_big_quiet_step ((first | (go_at_call 192;exact Later.call (sj w1 _ _ _ _ d.groups m _ HC.out hI1)))))
    refine wpQuiet_nil ?_
    intro w9 hS9
    go_wp2
    go_ret
    exact ⟨by rw [HF.out];rfl,hS1.trans hS9⟩
  ·have HF:Hid (aP d ms n=true):=by have:=HN.out;rw [List.take_of_length_le (by omega)] at this;exact this
   clear hc
   go_wp2
   go_ret
   exact ⟨by rw [HF.out];rfl,hS1.trans hS⟩
end Go.Proofs.YtiiifecfdkjmbaaGreat
