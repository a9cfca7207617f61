/- Lemmas. Lemmas. Lemmas. Lemmas. Lemmas. Lemmas. -/
import Derived.Test.YtiiifecfdkjmbaaMsg
import Derived.Deep.AppendSrc
set_option maxHeartbeats 1000000
namespace Go.Proofs.Ytiiifecfdkjmbaa
open _root_.Go.Proofs.Try
set_option maxRecDepth 8000
open Go.RowKit Go.Shelf
def gD (a b:Mg):Bool:=a.fr == b.fr && (a.gr == b.gr && (a.st == b.st && (a.nul == b.nul && a.body == b.body)))
theorem eZ (a b:Mg):gD a b=true↔a=b:=by
 obtain ⟨af,ag,at1,an,ab⟩:=a
 obtain ⟨bf,bg,bt,bn,bb⟩:=b
 simp only [gD,Bool.and_eq_true,beq_iff_eq,Mg.mk.injEq]
 refine and_congr Iff.rfl (and_congr Iff.rfl (and_congr Iff.rfl (and_congr Iff.rfl ?_)))
 rw [beq_toListBytes,beq_iff_eq,ByteArray.toList_eq,ByteArray.toList_eq]
 obtain ⟨⟨x⟩⟩:=ab
 obtain ⟨⟨y⟩⟩:=bb
 simp
def qg:List Mg->List Mg->Bool
 | [],[]=>true
 | a::r,b::s=>gD a b && qg r s
 | _,_=>false
theorem vg:∀ (xs ys:List Mg),qg xs ys=true↔xs=ys
 | [],[]=>by simp [qg]
 | [],b::s=>by simp [qg]
 | a::r,[]=>by simp [qg]
 | a::r,b::s=>by simp [qg,eZ,vg r s]
theorem IJ (n g st:Int) (body:ByteArray) (w:World) :
  Calls prog 31 #[.int .i64 n,.int .i64 g,.int .i64 st,.string body] w fun e w'=>e=.returned (.agg #[.int .i64 n,.int .i64 g,.int .i64 st,.bool false,.string body])/\Since w w':=by
 go_enter func31,ntmps31
 go_wp2
 refine bodyPost_ret (v:=.agg #[.int .i64 n,.int .i64 g,.int .i64 st,.bool false,.string body]) (by simp [results,results31,go_sem]) rfl ?_
 exact ⟨rfl,(Since.refl _).alloc _⟩
theorem fT (x lo hi:Int) (w:World) :
  Calls prog 163 #[.int .i64 x,.int .i64 lo,.int .i64 hi] w fun e w'=>e=.returned (.bool (!inB x lo hi))/\w'=w:=by
 unfold inB
 by_cases h1:x < lo
 ·go_enter func163,ntmps163
  go_wp2
  go_ret
  exact ⟨by simp;omega,rfl⟩
 ·have hd:decide (x < lo)=false:=by simpa using h1
  by_cases h2:hi < x
  ·go_enter func163,ntmps163
   go_wp2
   go_ret
   exact ⟨by simp;omega,rfl⟩
  ·have hd2:decide (hi < x)=false:=by simpa using h2
   go_enter func163,ntmps163
   go_wp2
   go_ret
   exact ⟨by simp_all,rfl⟩
def AA (m:Mg):Bool:=decide (8 < m.body.size) || (m.nul && decide (m.body.size≠0))
def kU (nodes:Int) (xs:List Int) (m:Mg):Int :=
 if dJ nodes xs≠0 then dJ nodes xs
 else if ¬ (inB m.fr 0 (nodes - 1)=true/\inB m.gr 0 (xs.length - 1)=true/\inB m.st 1 1048576=true) then 3
 else if hasB xs m.gr m.fr=false then 5
 else if AA m then 1 else 0
theorem nX {nodes:Int} {xs:List Int} (h:dJ nodes xs=0):1<=nodes/\nodes<=4/\1<=xs.length/\xs.length<=3:=by
 unfold dJ at h
 split at h
 ·cases h
 ·split at h
  ·cases h
  ·omega
theorem IL {b:ByteArray} (h:b.toList.isEmpty=false):b.size≠0:=by
 intro h0
 rw [ByteArray.toList_eq] at h
 have:b.data.toList=[]:=zQ6 (by simpa using h0)
 rw [this] at h
 cases h
theorem size_eq {b:ByteArray} (h:b.toList.isEmpty=true):b.size=0:=by
 rw [ByteArray.toList_eq,List.isEmpty_iff] at h
 have:=congrArg List.length h
 simpa using this
theorem qY (nodes:Int) (a:Option Addr) (len cap:Nat) (xs:List Int) (m:Mg) (w:World) (hI:Ints w a len xs) :
  Calls prog 139 #[.int .i64 nodes,.slice a len cap,.agg #[.int .i64 m.fr,.int .i64 m.gr,.int .i64 m.st,.bool m.nul,.string m.body]] w fun e w'=>e=.returned (.int .i64 (kU nodes xs m))/\Since w w':=by
 obtain ⟨w1,hw1⟩:∃ w1,w.alloc (.cells #[.int .i64 m.fr,.int .i64 m.gr,.int .i64 m.st,.bool m.nul,.string m.body] 48)=w1:=⟨_,rfl⟩
 have hS1:=av hw1
 have hsz:w1.heap.size=w.heap.size+1:=by rw [<-hw1];simp
 have hB:aZ w1 w.heap.size 0 m:=by rw [<-hw1];constructor <;> simp [go_sem]
 have hlen:=hI.hlen
 subst hlen
 obtain ⟨c,hce⟩:∃ c,dJ nodes xs=c:=⟨_,rfl⟩
 have HC:Hid (dJ nodes xs=c):=hce
 cases hc:(c != 0)
 ·have hc0:dJ nodes xs=0:=by rw [hce];simpa using hc
  obtain ⟨n1,n2,l1,l2⟩:=nX hc0
  have HF:Hid (kU nodes xs m=if ¬ (inB m.fr 0 (nodes - 1)=true/\inB m.gr 0 (xs.length - 1)=true/\inB m.st 1 1048576=true) then 3 else if hasB xs m.gr m.fr=false then 5 else if AA m then 1 else 0):=by
   unfold Hid kU;rw [if_neg (by simp [hc0])]
  clear hce hc0
  go_enter func139,ntmps139
  go_wp2_with fail
  refine (Dv w1 _ _ _ _ _ _ (hI.since hS1) (Since.refl w1)).mono ?_
  rw [HC.out]
  rintro e w2 ⟨rfl,hS2⟩
  have hI2:=hI.since (hS1.trans hS2)
  have hR2:=hS1.trans hS2
  have hg:∀ o:Nat,w2.cell? ⟨w.heap.size,o,none⟩=w1.cell? ⟨w.heap.size,o,none⟩:=fun o=>hS2.below.cell (p:=⟨w.heap.size,o,none⟩) (by show w.heap.size < _;omega)
  obtain ⟨f0,f1,f2,f3,f4⟩:=hB
  simp only [Nat.zero_add] at f0 f1 f2 f3 f4
  rw [<-hg] at f0 f1 f2 f3 f4
  clear hg hw1
  cases i1:inB m.fr 0 (nodes - 1)
  ·have HV:Hid (kU nodes xs m=3):=by unfold Hid;rw [HF.out,if_pos (by simp [i1])]
   clear HF
   go_wp2_with (first | (go_at_call 163;refine (fT _ _ _ _).mono ?_;rintro e w' ⟨rfl,hw⟩;obtain rfl:=hw.symm) | (go_at_call 25;refine (eX _ _ _ xs _ _ _ hI2).mono ?_;rintro e w' ⟨rfl,hw⟩;obtain rfl:=hw.symm))
   go_ret
   exact ⟨by rw [HV.out];rfl,hR2⟩
  cases i2:inB m.gr 0 (xs.length - 1)
  ·have HV:Hid (kU nodes xs m=3):=by unfold Hid;rw [HF.out,if_pos (by simp [i2])]
   clear HF
   go_wp2_with (first | (go_at_call 163;refine (fT _ _ _ _).mono ?_;rintro e w' ⟨rfl,hw⟩;obtain rfl:=hw.symm) | (go_at_call 25;refine (eX _ _ _ xs _ _ _ hI2).mono ?_;rintro e w' ⟨rfl,hw⟩;obtain rfl:=hw.symm))
   go_ret
   exact ⟨by rw [HV.out];rfl,hR2⟩
  cases i3:inB m.st 1 1048576
  ·have HV:Hid (kU nodes xs m=3):=by unfold Hid;rw [HF.out,if_pos (by simp [i3])]
   clear HF
   go_wp2_with (first | (go_at_call 163;refine (fT _ _ _ _).mono ?_;rintro e w' ⟨rfl,hw⟩;obtain rfl:=hw.symm) | (go_at_call 25;refine (eX _ _ _ xs _ _ _ hI2).mono ?_;rintro e w' ⟨rfl,hw⟩;obtain rfl:=hw.symm))
   go_ret
   exact ⟨by rw [HV.out];rfl,hR2⟩
  cases i4:hasB xs m.gr m.fr
  ·have HV:Hid (kU nodes xs m=5):=by unfold Hid;rw [HF.out,if_neg (by simp [i1,i2,i3]),if_pos i4]
   clear HF
   go_wp2_with (first | (go_at_call 163;refine (fT _ _ _ _).mono ?_;rintro e w' ⟨rfl,hw⟩;obtain rfl:=hw.symm) | (go_at_call 25;refine (eX _ _ _ xs _ _ _ hI2).mono ?_;rintro e w' ⟨rfl,hw⟩;obtain rfl:=hw.symm))
   go_ret
   exact ⟨by rw [HV.out];rfl,hR2⟩
  have HG:Hid (kU nodes xs m=if AA m then 1 else 0):=by unfold Hid;rw [HF.out,if_neg (by simp [i1,i2,i3]),if_neg (by simp [i4])]
  clear HF
  by_cases i5:8 < (m.body.size:Int)
  ·have HV:Hid (kU nodes xs m=1):=by unfold Hid;rw [HG.out,if_pos (by simp [AA];left;omega)]
   clear HG
   go_wp2_with (first | (go_at_call 163;refine (fT _ _ _ _).mono ?_;rintro e w' ⟨rfl,hw⟩;obtain rfl:=hw.symm) | (go_at_call 25;refine (eX _ _ _ xs _ _ _ hI2).mono ?_;rintro e w' ⟨rfl,hw⟩;obtain rfl:=hw.symm))
   go_ret
   exact ⟨by rw [HV.out];rfl,hR2⟩
  have i5':decide (8 < (m.body.size:Int))=false:=by simpa using i5
  cases i6:m.nul
  ·have HV:Hid (kU nodes xs m=0):=by unfold Hid;rw [HG.out,if_neg (by simp [AA,i6];omega)]
   clear HG
   rw [i6] at f3
   go_wp2_with (first | (go_at_call 163;refine (fT _ _ _ _).mono ?_;rintro e w' ⟨rfl,hw⟩;obtain rfl:=hw.symm) | (go_at_call 25;refine (eX _ _ _ xs _ _ _ hI2).mono ?_;rintro e w' ⟨rfl,hw⟩;obtain rfl:=hw.symm))
   go_ret
   exact ⟨by rw [HV.out];rfl,hR2⟩
  rw [i6] at f3
  cases i7:(m.body.toList.isEmpty)
  ·have HV:Hid (kU nodes xs m=1):=by unfold Hid;rw [HG.out,if_pos (by have:=IL i7;simp [AA,i6,this])]
   clear HG
   go_wp2_with (first | (go_at_call 163;refine (fT _ _ _ _).mono ?_;rintro e w' ⟨rfl,hw⟩;obtain rfl:=hw.symm) | (go_at_call 25;refine (eX _ _ _ xs _ _ _ hI2).mono ?_;rintro e w' ⟨rfl,hw⟩;obtain rfl:=hw.symm))
   go_ret
   exact ⟨by rw [HV.out];rfl,hR2⟩
  ·have HV:Hid (kU nodes xs m=0):=by unfold Hid;rw [HG.out,if_neg (by have:=size_eq i7;simp [AA,this])]
   clear HG
   go_wp2_with (first | (go_at_call 163;refine (fT _ _ _ _).mono ?_;rintro e w' ⟨rfl,hw⟩;obtain rfl:=hw.symm) | (go_at_call 25;refine (eX _ _ _ xs _ _ _ hI2).mono ?_;rintro e w' ⟨rfl,hw⟩;obtain rfl:=hw.symm))
   go_ret
   exact ⟨by rw [HV.out];rfl,hR2⟩
 ·have HF:Hid (kU nodes xs m=c):=by unfold Hid kU;rw [hce,if_pos (by simpa using hc)]
  clear hce
  go_enter func139,ntmps139
  go_wp2_with fail
  refine (Dv w1 _ _ _ _ _ _ (hI.since hS1) (Since.refl w1)).mono ?_
  rw [HC.out]
  rintro e w2 ⟨rfl,hS2⟩
  go_wp2
  go_ret
  exact ⟨by rw [HF.out];rfl,hS1.trans hS2⟩
theorem Try.yL:(prog.info? 48).map (fun i=>(i.zero,i.size,i.bytes))=some (some (.agg #[.int .i64 0,.int .i64 0,.int .i64 0,.bool false,.string ByteArray.empty]),5,48):=by kernel_rfl
theorem Since.grown {w1 w w':World} {row:Option Nat} (h:Since w1 w) (hg:w.grownBy w' row) (hr:∀ k,row=some k->w1.heap.size<=k):Since w1 w':=⟨h.below.grown hg h.size hr⟩
theorem Since.cellAt {w1 w:World} (h:Since w1 w) {b:Nat} (hb:b < w1.heap.size) (o:Nat):w.cell? ⟨b,o,none⟩=w1.cell? ⟨b,o,none⟩:=h.below.cell (p:=⟨b,o,none⟩) hb
theorem mV (b off j:Nat):(⟨b,off,none⟩:Addr).add j=⟨b,off+j,none⟩:=by
 by_cases h:j=0
 ·subst h;simp [Addr.add]
 ·simp [Addr.add,h]
theorem kW {ms:List Mg} {p j:Nat} {u:Value} (h:(flat (ms.take p))[j]? = some u):(flat ms)[j]? = some u:=by
 have e:flat ms=flat (ms.take p)++flat (ms.drop p):=by rw [<-fQ,List.take_append_drop]
 rw [e,List.getElem?_append_left (zQ2.1 h).1];exact h
theorem pE {ms:List Mg} {p j:Nat} {u:Value} (hp:p<=ms.length) (h:(flat (ms.drop p))[j]? = some u):(flat ms)[p*5+j]? = some u:=by
 have e:flat ms=flat (ms.take p)++flat (ms.drop p):=by rw [<-fQ,List.take_append_drop]
 have hl:(flat (ms.take p)).length=p*5:=by rw [bK];simp;omega
 rw [e,List.getElem?_append_right (by omega),hl]
 rw [show p*5+j - p*5=j from by omega];exact h
theorem lY (w:World) (m:Mg) (t:Nat):∀ j u,m.cells[j]? = some u->(w.alloc (.cells #[.int .i64 m.fr,.int .i64 m.gr,.int .i64 m.st,.bool m.nul,.string m.body] t)).cell? ((⟨w.heap.size,0,none⟩:Addr).add j)=some u:=by
 intro j u hj
 rw [mV]
 have hl:=(zQ2.1 hj).1
 simp [Mg.cells] at hl
 rcases (show j=0\/j=1\/j=2\/j=3\/j=4 by omega) with rfl | rfl | rfl | rfl | rfl <;> simp [Mg.cells] at hj <;> subst hj <;> simp [go_sem]
def fK (m:Mg) (ms:List Mg):Int :=
 if aP ms=false then 1 else if 40<=ms.length then 2 else
  match ms[bS m ms]? with
  | some x=>if lessM m x then 0 else 1
  | none=>0
def gQ (m:Mg) (ms:List Mg):List Mg:=if fK m ms=0 then ms.take (bS m ms)++[m]++ms.drop (bS m ms) else []
theorem lK (m:Mg) (ms:List Mg) (h:fK m ms=0):(gQ m ms).length=ms.length+1:=by
 have:=lJ m ms
 unfold gQ;rw [if_pos h];simp;omega
theorem sI (m:Mg) (ms:List Mg) (h:fK m ms≠0):gQ m ms=[]:=by unfold gQ;rw [if_neg h]
theorem nJ {W:World} {base:Nat} {e:TypeId} {size:Nat} {x:Addr} {n k cap:Nat} {xs:List Value} (h:W.ownsRow base e size (.slice (some x) k cap) n xs):n<=cap:=by
 rcases h.2 with ⟨h1,_⟩ | ⟨g,cap',cur,h1,_,_,h4,_⟩
 ·cases h1
 ·simp only [Value.slice.injEq] at h1;rw [h1.2.2];exact h4
end Go.Proofs.Ytiiifecfdkjmbaa
namespace Go.Proofs.Ytiiifecfdkjmbaa
set_option maxRecDepth 8000
open Go.RowKit Go.Shelf
theorem ownsRow_form {W:World} {base:Nat} {e:TypeId} {size:Nat} {v:Value} {n:Nat} {xs:List Value} (h:W.ownsRow base e size v n xs):∃ a cap,v=.slice a n cap/\n<=cap:=by
 rcases h.2 with ⟨rfl,rfl⟩ | ⟨g,cap,cur,rfl,_,_,h4,_⟩
 ·exact ⟨none,0,rfl,Nat.le_refl _⟩
 ·exact ⟨_,cap,rfl,h4⟩
theorem wZ {w w':World} {base:Nat} {e:TypeId} {size:Nat} {v:Value} {n:Nat} {xs:List Value} (k:Since w w') (h:w.ownsRow base e size v n xs):w'.ownsRow base e size v n xs:=by
 refine ⟨h.1, ?_⟩
 rcases h.2 with h2 | ⟨g,cap,cur,e1,e2,e3,e4⟩
 ·exact .inl h2
 ·exact .inr ⟨g,cap,cur,e1,e2,(k.below.block g (zQ3.1 e3).1).trans e3,e4⟩
structure Nd where
 clock:Int
 last:List (List Int)
 held:List Mg
 told:List Mg
structure Wd where
 groups:List Int
 nodes:List Nd
 wires:List (List (List Mg))
structure WV where
 ga:Option Addr
 gl:Nat
 gc:Nat
 na:Option Addr
 nl:Nat
 nc:Nat
 wa:Option Addr
 wl:Nat
 wc:Nat
def tN (w:World) (v:Value) (xs:List Int):Prop:=∃ a cap,v=.slice a xs.length cap/\xs.length<=cap/\Ints w a xs.length xs
def jX (w:World) (v:Value) (xs:List Mg):Prop:=∃ a cap,v=.slice a xs.length cap/\xs.length<=cap/\fO w a xs.length xs
structure Slices {α:Type} (P:World->Value->α->Prop) (w:World) (a:Option Addr) (len:Nat) (xs:List α):Prop where
 hlen:xs.length=len
 hmax:len<=5864062014634
 cells:0 < len->∃ b off,a=some ⟨b,off,none⟩/\b < w.heap.size/\∀ i x,xs[i]? = some x->∃ v,w.cell? ⟨b,off+i,none⟩=some v/\P w v x
def kI {α:Type} (P:World->Value->α->Prop) (w:World) (v:Value) (xs:List α):Prop:=∃ a cap,v=.slice a xs.length cap/\xs.length<=cap/\Slices P w a xs.length xs
structure zL (w:World) (b o:Nat) (x:Nd):Prop where
 clk:w.cell? ⟨b,o,none⟩=some (.int .i64 x.clock)
 last:∃ v,w.cell? ⟨b,o+1,none⟩=some v/\kI tN w v x.last
 held:∃ v,w.cell? ⟨b,o+2,none⟩=some v/\jX w v x.held
 told:∃ v,w.cell? ⟨b,o+3,none⟩=some v/\jX w v x.told
structure Nodes (w:World) (a:Option Addr) (len:Nat) (xs:List Nd):Prop where
 hlen:xs.length=len
 hmax:len<=1759218604390
 cells:0 < len->∃ b off,a=some ⟨b,off,none⟩/\b < w.heap.size/\∀ i x,xs[i]? = some x->zL w b (off+i*4) x
structure WAt (w:World) (x:WV) (d:Wd):Prop where
 g:Ints w x.ga x.gl d.groups
 OY:x.gl<=x.gc
 n:Nodes w x.na x.nl d.nodes
 OZ:x.nl<=x.nc
 r:Slices (kI jX) w x.wa x.wl d.wires
 Mr:x.wl<=x.wc
def Stable {α:Type} (P:World->Value->α->Prop):Prop:=∀ w W v x,Since w W->P w v x->P W v x
theorem jM:Stable tN:=fun _ _ _ _ k ⟨a,cap,e,hc,h⟩=>⟨a,cap,e,hc,h.since k⟩
theorem ig:Stable jX:=fun _ _ _ _ k ⟨a,cap,e,hc,h⟩=>⟨a,cap,e,hc,h.since k⟩
theorem Slices.since {α:Type} {P:World->Value->α->Prop} (hP:Stable P) {w W:World} {a:Option Addr} {len:Nat} {xs:List α} (h:Slices P w a len xs) (k:Since w W):Slices P W a len xs:=by
 refine ⟨h.hlen,h.hmax,fun hp=>?_⟩
 obtain ⟨b,off,e,hb,hc⟩:=h.cells hp
 refine ⟨b,off,e,by have:=k.size;omega,fun i x hx=>?_⟩
 obtain ⟨v,hv,hp⟩:=hc i x hx
 exact ⟨v,(k.cellAt hb _).trans hv,hP _ _ _ _ k hp⟩
theorem kC {α:Type} {P:World->Value->α->Prop} (hP:Stable P):Stable (kI P):=fun _ _ _ _ k ⟨a,cap,e,hc,h⟩=>⟨a,cap,e,hc,h.since hP k⟩
theorem zL.since {w W:World} {b o:Nat} {x:Nd} (h:zL w b o x) (hb:b < w.heap.size) (k:Since w W):zL W b o x:=by
 refine ⟨(k.cellAt hb _).trans h.clk, ?_, ?_, ?_⟩
 ·obtain ⟨v,h1,h2⟩:=h.last;exact ⟨v,(k.cellAt hb _).trans h1,kC jM _ _ _ _ k h2⟩
 ·obtain ⟨v,h1,h2⟩:=h.held;exact ⟨v,(k.cellAt hb _).trans h1,ig _ _ _ _ k h2⟩
 ·obtain ⟨v,h1,h2⟩:=h.told;exact ⟨v,(k.cellAt hb _).trans h1,ig _ _ _ _ k h2⟩
theorem Nodes.since {w W:World} {a:Option Addr} {len:Nat} {xs:List Nd} (h:Nodes w a len xs) (k:Since w W):Nodes W a len xs:=by
 refine ⟨h.hlen,h.hmax,fun hp=>?_⟩
 obtain ⟨b,off,e,hb,hc⟩:=h.cells hp
 exact ⟨b,off,e,by have:=k.size;omega,fun i x hx=>(hc i x hx).since hb k⟩
theorem WAt.since {w W:World} {x:WV} {d:Wd} (h:WAt w x d) (k:Since w W):WAt W x d :=
 ⟨h.g.since k,h.OY,h.n.since k,h.OZ,h.r.since (kC ig) k,h.Mr⟩
def gT (ms:List Mg):Bool:=ms.all fun m=>!m.nul
def jB (d:Wd) (n:Int) (m:Mg):Bool:=decide (kU d.nodes.length d.groups m=0) && hasB d.groups m.gr n
def bE (d:Wd) (ms:List Mg) (n:Int):Bool:=ms.all (jB d n)
theorem sG {α:Type} {p:α->Bool} {xs:List α} {k:Nat} {x:α} (h:xs[k]? = some x) (hp:p x=false):xs.all p=false:=by
 rw [List.all_eq_false]
 exact ⟨x,List.mem_of_getElem? h,by simp [hp]⟩
theorem lH {α:Type} {p:α->Bool} {xs:List α} {k:Nat} {x:α} (h:xs[k]? = some x) (h0:(xs.take k).all p=true) (hp:p x=true):(xs.take (k+1)).all p=true:=by
 rw [List.take_add_one,List.all_append,h0,h];simp [hp]
def eB:List Mg->Bool
 | []=>true
 | [_]=>true
 | a::b::r=>decide (a.st < b.st) && eB (b::r)
theorem uf:∀ (ms:List Mg),eB ms=true↔∀ i a b,ms[i]? = some a->ms[i+1]? = some b->a.st < b.st
 | []=>by simp [eB]
 | [x]=>by
  refine ⟨fun _ i a b _ h2=>?_,fun _=>rfl⟩
  simp at h2
 | x::y::r=>by
  rw [eB,Bool.and_eq_true,uf (y::r),decide_eq_true_eq]
  constructor
  ·rintro ⟨h1,h2⟩ i a b ha hb
   cases i with
   | zero=>simp at ha hb;subst ha hb;exact h1
   | succ i=>exact h2 i a b (by simpa using ha) (by simpa using hb)
  ·intro h
   exact ⟨h 0 x y rfl rfl,fun i a b ha hb=>h (i+1) a b (by simpa using ha) (by simpa using hb)⟩
def mq (f:Int) (l:List Mg):Bool:=(l.all fun m=>decide (m.fr=f)) && eB l
def aX (d:Wd) (f t:Nat) (l:List Mg):Bool:=mq f l && (bE d l t && (decide (f≠t) || decide (l.length=0)))
theorem Gn {α:Type} (l:List α):((l.length:Int) == 0)=decide (l.length=0):=by rw [Bool.eq_iff_iff];simp
theorem og {p:Nat->Bool} {k:Nat} (h0:(List.range k).all p=true) (hp:p k=true):(List.range (k+1)).all p=true:=by
 rw [List.range_succ,List.all_append,h0];simp [hp]
theorem uD {p:Nat->Bool} {k n:Nat} (hk:k < n) (hp:p k=false):(List.range n).all p=false:=by
 rw [List.all_eq_false];exact ⟨k,by simpa using hk,by simp [hp]⟩
def tK (d:Wd) (n g k:Nat):Bool:=hasB d.groups g n && hasB d.groups g k
def fD (d:Wd) (n g k:Nat) (v:Int):Bool:=inB v 0 1048576 && (tK d n g k || decide (v=0))
def rX (d:Wd) (n g:Nat) (row:List Int):Bool:=decide (row.length=d.nodes.length) && (List.range row.length).all fun k=>fD d n g k (row[k]?.getD 0)
def dK (d:Wd) (n:Nat) (last:List (List Int)):Bool:=(List.range last.length).all fun g=>rX d n g (last[g]?.getD [])
def qO (d:Wd) (nd:Nd):Bool:=inB nd.clock 0 1048576 && decide (nd.last.length=d.groups.length)
def rz (d:Wd) (n:Nat) (nd:Nd):Bool:=aP nd.held && (aP nd.told && (gT nd.held && (gT nd.told && (bE d nd.held n && bE d nd.told n))))
def bD (d:Wd) (n:Nat) (nd:Nd):Bool:=qO d nd && (dK d n nd.last && rz d n nd)
end Go.Proofs.Ytiiifecfdkjmbaa
