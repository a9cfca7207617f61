/- Lemmas. Lemmas. Lemmas. Lemmas. Lemmas. -/
import Derived.Test.YtiiifecfdkjmbaaMsg
import Derived.Deep.AppendSrc
import Derived.Test.YtiiifecfdkjmbaaGLaws
import Derived.ProofKit
import Derived.OpenShut
import Derived.ShutString
import Derived.ChangeOld
import Derived.SizedLaws
import Derived.Deep.Slices
import Derived.Test.YtiiifecfdkjmbaaMsgB
namespace Go.Proofs.Ytiiifecfdkjmbaa
open _root_.Go.Proofs.Try hiding checked
set_option maxRecDepth 8000
open Go.RowKit Go.Shelf
theorem Try.nG:(prog.info? 48).map (fun i=>(i.zero,i.size,i.bytes))=some (some (.agg #[.int .i64 0,.int .i64 0,.int .i64 0,.bool false,.string ByteArray.empty]),5,48):=by kernel_rfl
theorem Since.grown {w1 w w':World} {row:Option Nat} (h:Since w1 w) (hg:w.grownBy w' row) (hr:∀ k,row=some k->w1.heap.size<=k):Since w1 w':=⟨h.below.grown hg h.size hr⟩
theorem Since.cellAt {w1 w:World} (h:Since w1 w) {b:Nat} (hb:b < w1.heap.size) (o:Nat):w.cell? ⟨b,o,none⟩=w1.cell? ⟨b,o,none⟩:=h.below.cell (p:=⟨b,o,none⟩) hb
theorem gZ (b off j:Nat):(⟨b,off,none⟩:Addr).add j=⟨b,off+j,none⟩:=by
 by_cases h:j=0
 ·subst h;simp [Addr.add]
 ·simp [Addr.add,h]
theorem jV {ms:List Mg} {p j:Nat} {u:Value} (h:(flat (ms.take p))[j]? = some u):(flat ms)[j]? = some u:=by
 have e:flat ms=flat (ms.take p)++flat (ms.drop p):=by rw [<-dD,List.take_append_drop]
 rw [e,List.getElem?_append_left (zQ2.1 h).1];exact h
theorem fZ {ms:List Mg} {p j:Nat} {u:Value} (hp:p<=ms.length) (h:(flat (ms.drop p))[j]? = some u):(flat ms)[p*5+j]? = some u:=by
 have e:flat ms=flat (ms.take p)++flat (ms.drop p):=by rw [<-dD,List.take_append_drop]
 have hl:(flat (ms.take p)).length=p*5:=by rw [aU];simp;omega
 rw [e,List.getElem?_append_right (by omega),hl]
 rw [show p*5+j - p*5=j from by omega];exact h
theorem eT (w:World) (m:Mg) (t:Nat):∀ j u,m.cells[j]? = some u->(w.alloc (.cells #[.int .i64 m.fr,.int .i64 m.gr,.int .i64 m.st,.bool m.nul,.string m.body] t)).cell? ((⟨w.heap.size,0,none⟩:Addr).add j)=some u:=by
 intro j u hj
 rw [gZ]
 have hl:=(zQ2.1 hj).1
 simp [Mg.cells] at hl
 rcases (show j=0\/j=1\/j=2\/j=3\/j=4 by omega) with rfl | rfl | rfl | rfl | rfl <;> simp [Mg.cells] at hj <;> subst hj <;> simp [go_sem]
def bV (m:Mg) (ms:List Mg):Int :=
 if aM ms=false then 1 else if 40<=ms.length then 2 else
  match ms[bF m ms]? with
  | some x=>if lessM m x then 0 else 1
  | none=>0
def eU (m:Mg) (ms:List Mg):List Mg:=if bV m ms=0 then ms.take (bF m ms)++[m]++ms.drop (bF m ms) else []
theorem kg (m:Mg) (ms:List Mg) (h:bV m ms=0):(eU m ms).length=ms.length+1:=by
 have:=iH m ms
 unfold eU;rw [if_pos h];simp;omega
theorem jw (m:Mg) (ms:List Mg) (h:bV m ms≠0):eU m ms=[]:=by unfold eU;rw [if_neg h]
theorem gT {W:World} {base:Nat} {e:TypeId} {size:Nat} {x:Addr} {n k cap:Nat} {xs:List Value} (h:W.ownsRow base e size (.slice (some x) k cap) n xs):n<=cap:=by
 rcases h.2 with ⟨h1,_⟩ | ⟨g,cap',cur,h1,_,_,h4,_⟩
 ·cases h1
 ·simp only [Value.slice.injEq] at h1;rw [h1.2.2];exact h4
end Go.Proofs.Ytiiifecfdkjmbaa
namespace Go.Proofs.Ytiiifecfdkjmbaa
set_option maxRecDepth 8000
open Go.RowKit Go.Shelf
theorem ownsRow_form {W:World} {base:Nat} {e:TypeId} {size:Nat} {v:Value} {n:Nat} {xs:List Value} (h:W.ownsRow base e size v n xs):∃ a cap,v=.slice a n cap/\n<=cap:=by
 rcases h.2 with ⟨rfl,rfl⟩ | ⟨g,cap,cur,rfl,_,_,h4,_⟩
 ·exact ⟨none,0,rfl,Nat.le_refl _⟩
 ·exact ⟨_,cap,rfl,h4⟩
theorem Later.old {w0 wr:World} (h:Since w0 wr) (x:Later wr) {b:Nat} (o:Nat) (hb:b < w0.heap.size):x.w.cell? ⟨b,o,none⟩=w0.cell? ⟨b,o,none⟩:=(h.trans x.h).cellAt hb o
theorem dN {w w':World} {base:Nat} {e:TypeId} {size:Nat} {v:Value} {n:Nat} {xs:List Value} (k:Since w w') (h:w.ownsRow base e size v n xs):w'.ownsRow base e size v n xs:=by
 refine ⟨h.1, ?_⟩
 rcases h.2 with h2 | ⟨g,cap,cur,e1,e2,e3,e4⟩
 ·exact .inl h2
 ·exact .inr ⟨g,cap,cur,e1,e2,(k.below.block g (zQ3.1 e3).1).trans e3,e4⟩
theorem CP {m x:Mg} {ms:List Mg} (h1:¬ aM ms=false) (h2:¬ 40<=ms.length) (h3:ms[bF m ms]? = some x):bV m ms=if lessM m x then 0 else 1:=by
 unfold bV;rw [if_neg h1,if_neg h2,h3]
theorem Bb {m:Mg} {ms:List Mg} (h1:¬ aM ms=false) (h2:¬ 40<=ms.length) (h3:bF m ms=ms.length):bV m ms=0:=by
 unfold bV;rw [if_neg h1,if_neg h2,h3,List.getElem?_eq_none (Nat.le_refl _)]
theorem zS {ms:List Mg} {k:Nat} {x:Mg} (h:ms[k]? = some x):flat (ms.take (k+1))=flat (ms.take k)++x.cells:=by
 rw [List.take_add_one,dD,h];simp [flat]
end Go.Proofs.Ytiiifecfdkjmbaa
namespace Go.Proofs.Ytiiifecfdkjmbaa
open _root_.Go.Proofs.Try hiding checked
set_option maxRecDepth 8000
open Go.ChangeShapes Go.WideShapes Go.ChangeAt Go.RowKit
set_option linter.unusedVariables false
theorem own:ownKnob prog.godebug=none:=by kernel_rfl
theorem laidOut:laidOutB prog=true:=by kernel_rfl
theorem Bc:prog.bytesOf 3=8:=by kernel_rfl
theorem block_lt {w:World} {b o:Nat} {v:Value} (h:w.cell? ⟨b,o,none⟩=some v):b < w.heap.size:=by
 rcases Nat.lt_or_ge b w.heap.size with h1 | h1
 ·exact h1
 ·simp [World.cell?,Array.getElem?_eq_none h1] at h
end Go.Proofs.Ytiiifecfdkjmbaa
namespace Go.Proofs.Ytiiifecfdkjmbaa
open _root_.Go.Proofs.Try hiding checked
set_option maxRecDepth 8000
open Go.ChangeShapes Go.WideShapes Go.ChangeAt Go.RowKit Go.Deep
set_option linter.unusedVariables false
theorem A8:prog.bytesOf 48=48:=by kernel_rfl
theorem vI:prog.cellsOf 48=5:=by kernel_rfl
theorem qd:prog.cellsOf 3=1:=by kernel_rfl
theorem zR:prog.cellsOf 4=1:=by kernel_rfl
theorem A9:prog.cellsOf 9=1:=by kernel_rfl
theorem vJ {H:Type} {enc:TypeId × Value->H} {W:World} {base fuel:Nat} {spare:Nat->Bool} {held:Bool} {cs:List Value} {x:DataW H × List MemPlace}
  (h:DataW.trod enc prog W base spare held fuel 48 cs=some x):∃ m:Mg,cs=m.cells:=by
 obtain ⟨xs,n,_,_,hl,hlen,hf⟩:=DataW.trod_struct underlying48 h
 rw [vI] at hl
 match cs,hl with
 | [c0,c1,c2,c3,c4],_ =>
  have g0:=hf 0 _ rfl
  have g1:=hf 1 _ rfl
  have g2:=hf 2 _ rfl
  have g3:=hf 3 _ rfl
  have g4:=hf 4 _ rfl
  simp [qd] at g0 g1 g2
  simp [zR] at g3
  simp [A9] at g4
  simp at hlen
  rw [zQ1 (by rw [hlen];omega)] at g0 g1 g2 g3 g4
  obtain ⟨a0,e0,_⟩:=DataW.trod_int underlying3 g0
  obtain ⟨a1,e1,_⟩:=DataW.trod_int underlying3 g1
  obtain ⟨a2,e2,_⟩:=DataW.trod_int underlying3 g2
  obtain ⟨a3,e3,_⟩:=DataW.trod_bool underlying4 g3
  obtain ⟨a4,e4,_⟩:=DataW.trod_string underlying9 g4
  simp at e0 e1 e2 e3 e4
  exact ⟨⟨a0,a1,a2,a3,a4⟩,by rw [e0,e1,e2,e3,e4];rfl⟩
theorem gY {α:Type} {P:Nat->α->Prop}:∀ (n:Nat),(∀ i,i < n->∃ m,P i m)->∃ ms:List α,ms.length=n/\∀ i m,ms[i]? = some m->P i m
 | 0,_=>⟨[],rfl,fun i m h=>by simp at h⟩
 | n+1,h=>by
  obtain ⟨ms,hl,hp⟩:=gY n (fun i hi=>h i (by omega))
  obtain ⟨m,hm⟩:=h n (by omega)
  refine ⟨ms++[m],by simp [hl],fun i x hx=>?_⟩
  by_cases hi:i < ms.length
  ·exact hp i x (by rw [List.getElem?_append_left hi] at hx;exact hx)
  ·rw [List.getElem?_append_right (by omega)] at hx
   have hi2:i - ms.length=0:=by
    have:=(zQ2.1 hx).1
    simp at this;omega
   rw [hi2] at hx
   simp at hx
   obtain rfl:i=n:=by omega
   rw [<-hx];exact hm
end Go.Proofs.Ytiiifecfdkjmbaa
set_option maxHeartbeats 1000000
namespace Go.Proofs.Ytiiifecfdkjmbaa
open _root_.Go.Proofs.Try hiding checked
set_option maxRecDepth 8000
open Go.RowKit Go.Shelf
structure Nd where
 clock:Int
 last:List (List Int)
 held:List Mg
 told:List Mg
structure Wd where
 groups:List Int
 nodes:List Nd
 wires:List (List (List Mg))
structure WV where
 ga:Option Addr
 gl:Nat
 gc:Nat
 na:Option Addr
 nl:Nat
 nc:Nat
 wa:Option Addr
 wl:Nat
 wc:Nat
def iq (w:World) (v:Value) (xs:List Int):Prop:=∃ a cap,v=.slice a xs.length cap/\xs.length<=cap/\Ints w a xs.length xs
def dI (w:World) (v:Value) (xs:List Mg):Prop:=∃ a cap,v=.slice a xs.length cap/\xs.length<=cap/\dn w a xs.length xs
structure Slices {α:Type} (P:World->Value->α->Prop) (w:World) (a:Option Addr) (len:Nat) (xs:List α):Prop where
 hlen:xs.length=len
 hmax:len<=5864062014634
 cells:0 < len->∃ b off,a=some ⟨b,off,none⟩/\b < w.heap.size/\∀ i x,xs[i]? = some x->∃ v,w.cell? ⟨b,off+i,none⟩=some v/\P w v x
def bW {α:Type} (P:World->Value->α->Prop) (w:World) (v:Value) (xs:List α):Prop:=∃ a cap,v=.slice a xs.length cap/\xs.length<=cap/\Slices P w a xs.length xs
structure uM (w:World) (b o:Nat) (x:Nd):Prop where
 clk:w.cell? ⟨b,o,none⟩=some (.int .i64 x.clock)
 last:∃ v,w.cell? ⟨b,o+1,none⟩=some v/\bW iq w v x.last
 held:∃ v,w.cell? ⟨b,o+2,none⟩=some v/\dI w v x.held
 told:∃ v,w.cell? ⟨b,o+3,none⟩=some v/\dI w v x.told
structure Nodes (w:World) (a:Option Addr) (len:Nat) (xs:List Nd):Prop where
 hlen:xs.length=len
 hmax:len<=1759218604390
 cells:0 < len->∃ b off,a=some ⟨b,off,none⟩/\b < w.heap.size/\∀ i x,xs[i]? = some x->uM w b (off+i*4) x
structure WAt (w:World) (x:WV) (d:Wd):Prop where
 g:Ints w x.ga x.gl d.groups
 Jc:x.gl<=x.gc
 n:Nodes w x.na x.nl d.nodes
 Jd:x.nl<=x.nc
 r:Slices (bW dI) w x.wa x.wl d.wires
 Je:x.wl<=x.wc
def Stable {α:Type} (P:World->Value->α->Prop):Prop:=∀ w W v x,Since w W->P w v x->P W v x
theorem kD:Stable iq:=fun _ _ _ _ k ⟨a,cap,e,hc,h⟩=>⟨a,cap,e,hc,h.since k⟩
theorem kT:Stable dI:=fun _ _ _ _ k ⟨a,cap,e,hc,h⟩=>⟨a,cap,e,hc,h.since k⟩
theorem Slices.since {α:Type} {P:World->Value->α->Prop} (hP:Stable P) {w W:World} {a:Option Addr} {len:Nat} {xs:List α} (h:Slices P w a len xs) (k:Since w W):Slices P W a len xs:=by
 refine ⟨h.hlen,h.hmax,fun hp=>?_⟩
 obtain ⟨b,off,e,hb,hc⟩:=h.cells hp
 refine ⟨b,off,e,by have:=k.size;omega,fun i x hx=>?_⟩
 obtain ⟨v,hv,hp⟩:=hc i x hx
 exact ⟨v,(k.cellAt hb _).trans hv,hP _ _ _ _ k hp⟩
theorem lV {α:Type} {P:World->Value->α->Prop} (hP:Stable P):Stable (bW P):=fun _ _ _ _ k ⟨a,cap,e,hc,h⟩=>⟨a,cap,e,hc,h.since hP k⟩
theorem uM.since {w W:World} {b o:Nat} {x:Nd} (h:uM w b o x) (hb:b < w.heap.size) (k:Since w W):uM W b o x:=by
 refine ⟨(k.cellAt hb _).trans h.clk, ?_, ?_, ?_⟩
 ·obtain ⟨v,h1,h2⟩:=h.last;exact ⟨v,(k.cellAt hb _).trans h1,lV kD _ _ _ _ k h2⟩
 ·obtain ⟨v,h1,h2⟩:=h.held;exact ⟨v,(k.cellAt hb _).trans h1,kT _ _ _ _ k h2⟩
 ·obtain ⟨v,h1,h2⟩:=h.told;exact ⟨v,(k.cellAt hb _).trans h1,kT _ _ _ _ k h2⟩
theorem Nodes.since {w W:World} {a:Option Addr} {len:Nat} {xs:List Nd} (h:Nodes w a len xs) (k:Since w W):Nodes W a len xs:=by
 refine ⟨h.hlen,h.hmax,fun hp=>?_⟩
 obtain ⟨b,off,e,hb,hc⟩:=h.cells hp
 exact ⟨b,off,e,by have:=k.size;omega,fun i x hx=>(hc i x hx).since hb k⟩
theorem WAt.since {w W:World} {x:WV} {d:Wd} (h:WAt w x d) (k:Since w W):WAt W x d :=
 ⟨h.g.since k,h.Jc,h.n.since k,h.Jd,h.r.since (lV kT) k,h.Je⟩
def cO (ms:List Mg):Bool:=ms.all fun m=>!m.nul
def gQ (d:Wd) (n:Int) (m:Mg):Bool:=decide (eB d.nodes.length d.groups m=0) && hasB d.groups m.gr n
def aH (d:Wd) (ms:List Mg) (n:Int):Bool:=ms.all (gQ d n)
theorem iV {α:Type} {p:α->Bool} {xs:List α} {k:Nat} {x:α} (h:xs[k]? = some x) (hp:p x=false):xs.all p=false:=by
 rw [List.all_eq_false]
 exact ⟨x,List.mem_of_getElem? h,by simp [hp]⟩
theorem eX {α:Type} {p:α->Bool} {xs:List α} {k:Nat} {x:α} (h:xs[k]? = some x) (h0:(xs.take k).all p=true) (hp:p x=true):(xs.take (k+1)).all p=true:=by
 rw [List.take_add_one,List.all_append,h0,h];simp [hp]
theorem yG (a:Option Addr) (len cap:Nat) (ms:List Mg) (w:World) (hM:dn w a len ms) :
  Calls prog 83 #[.slice a len cap] w fun e w'=>e=.returned (.bool (cO ms))/\w'=w:=by
 obtain ⟨rfl,hmax,hc⟩:=hM
 go_enter func83,ntmps83
 go_wp2
 go_loop [3] (fun i=>∃ k:Nat,k<=ms.length/\i=.int .i64 k/\(ms.take k).all (fun m=>!m.nul)=true) (fun i=>ms.length - (intOf i).toNat)
 case atStart=>exact ⟨0,Nat.zero_le _,rfl,rfl⟩
 case round =>
  obtain ⟨k,hk,rfl,hn⟩:=hrel
  have HN:Hid ((ms.take k).all (fun m=>!m.nul)=true):=hn
  clear hn
  by_cases hlt:k < ms.length
  ·obtain ⟨b,off,rfl,hb,hcell⟩:=hc (by omega)
   obtain ⟨m,hm⟩:∃ m,ms[k]? = some m:=⟨_,zQ1 hlt⟩
   obtain ⟨d0,d1,d2,d3,d4⟩:=aX hcell k m hm
   have HM:Hid (ms[k]? = some m):=hm
   clear hm hcell hc
   cases hl:m.nul
   ·rw [hl] at d3
    go_wp2
    go_round
    case rel=>exact ⟨k+1,by omega,by go_num,eX HM.out HN.out (by simp [hl])⟩
    case measure=>simp [intOf];omega
   ·have HF:Hid (cO ms=false):=iV HM.out (by simp [hl])
    rw [hl] at d3
    go_wp2
    go_ret
    exact ⟨by rw [HF.out];rfl,rfl⟩
  ·have HF:Hid (cO ms=true):=by have:=HN.out;rw [List.take_of_length_le (by omega)] at this;exact this
   clear hc
   go_wp2
   go_ret
   exact ⟨by rw [HF.out];rfl,rfl⟩
theorem nC (w0:World) (nodes:Int) (a:Option Addr) (len cap:Nat) (xs:List Int) (m:Mg) (c:Int) (hc:eB nodes xs m=c) (hI:Ints w0 a len xs) (w:World) (h:Since w0 w) :
  Calls prog 114 #[.int .i64 nodes,.slice a len cap,.agg #[.int .i64 m.fr,.int .i64 m.gr,.int .i64 m.st,.bool m.nul,.string m.body]] w fun e w'=>e=.returned (.int .i64 c)/\Since w0 w' :=
 (tQ nodes a len cap xs m w (hI.since h)).mono fun _ _ ⟨he,hw⟩=>⟨by rw [<-hc];exact he,h.trans hw⟩
theorem zx (w0:World) (a:Option Addr) (len cap:Nat) (xs:List Int) (g n:Int) (v:Bool) (hv:hasB xs g n=v) (hI:Ints w0 a len xs) (w:World) (h:Since w0 w) :
  Calls prog 81 #[.slice a len cap,.int .i64 g,.int .i64 n] w fun e w'=>e=.returned (.bool v)/\Since w0 w' :=
 (bC a len cap xs g n w (hI.since h)).mono fun _ _ ⟨he,hw⟩=>⟨by rw [<-hv];exact he,by rw [hw];exact h⟩
theorem uN (x:WV) (d:Wd) (a:Option Addr) (len cap:Nat) (ms:List Mg) (n:Int) (w:World) (hW:WAt w x d) (hM:dn w a len ms) :
  Calls prog 84 #[.agg #[.slice x.ga x.gl x.gc,.slice x.na x.nl x.nc,.slice x.wa x.wl x.wc],.slice a len cap,.int .i64 n] w fun e w'=>e=.returned (.bool (aH d ms n))/\Since w w':=by
 obtain ⟨rfl,hmax,hc⟩:=hM
 obtain ⟨w1,hw1⟩:∃ w1,w.alloc (.cells #[.slice x.ga x.gl x.gc,.slice x.na x.nl x.nc,.slice x.wa x.wl x.wc] 26)=w1:=⟨_,rfl⟩
 have hS1:=au hw1
 have hsz:w1.heap.size=w.heap.size+1:=by rw [<-hw1];simp
 have b0:w1.cell? ⟨w.heap.size,0,none⟩=some (.slice x.ga x.gl x.gc):=by rw [<-hw1];simp [go_sem]
 have b1:w1.cell? ⟨w.heap.size,1,none⟩=some (.slice x.na x.nl x.nc):=by rw [<-hw1];simp [go_sem]
 have hI1:=hW.g.since hS1
 have hnl:=hW.n.hlen
 have hnm:=hW.n.hmax
 have HNL:Hid (d.nodes.length=x.nl):=hnl
 have hne:Nonempty (Later w1):=⟨⟨w1,Since.refl w1⟩⟩
 have hg2:∀ (y:Later w1) (o:Nat),y.w.cell? ⟨w.heap.size,o,none⟩=w1.cell? ⟨w.heap.size,o,none⟩:=fun y o=>y.cell (by omega)
 clear hnl
 go_enter func84,ntmps84
 go_wp2
 clear hw1
 go_loopw [7] (fun i wr=>(∃ k:Nat,k<=ms.length/\i=.int .i64 k/\(ms.take k).all (gQ d n)=true)/\Since w1 wr) (fun i _=>ms.length - (intOf i).toNat)
 case atStart=>exact ⟨⟨0,Nat.zero_le _,rfl,rfl⟩,Since.refl _⟩
 case round =>
  obtain ⟨⟨k,hk,rfl,hn⟩,hS⟩:=hrel
  have HN:Hid ((ms.take k).all (gQ d n)=true):=hn
  clear hn
  by_cases hlt:k < ms.length
  ·obtain ⟨b,off,rfl,hb,hcell⟩:=hc (by omega)
   obtain ⟨m,hm⟩:∃ m,ms[k]? = some m:=⟨_,zQ1 hlt⟩
   obtain ⟨d0,d1,d2,d3,d4⟩:=aX hcell k m hm
   have hg:∀ (y:Later w1) (o:Nat),y.w.cell? ⟨b,o,none⟩=w.cell? ⟨b,o,none⟩:=fun y o=>Later.old hS1 y o hb
   have HM:Hid (ms[k]? = some m):=hm
   clear hm hcell hc
   obtain ⟨c,hce⟩:∃ c,eB x.nl d.groups m=c:=⟨_,rfl⟩
   have HC:Hid (eB x.nl d.groups m=c):=hce
   clear hce
   cases h1:(c != 0)
   ·have hc0:Hid (eB d.nodes.length d.groups m=0):=by unfold Hid;rw [HNL.out,HC.out];simpa using h1
    cases h2:hasB d.groups m.gr n
    ·have HF:Hid (aH d ms n=false):=iV HM.out (by simp [gQ,h2])
     have H2:Hid (hasB d.groups m.gr n=false):=h2
     clear h2
     go_wp2_with fail
     refine aj (by kernel_rfl) (by kernel_rfl) hS ?_
     repeat (go_big_quiet_step ((first | (go_at_call 114;exact Later.call (nC w1 _ _ _ _ d.groups m _ HC.out hI1)) | (go_at_call 81;exact Later.call (zx w1 _ _ _ d.groups _ _ _ H2.out hI1)))))
     refine wpQuiet_nil ?_
     intro w9 hS9
     go_wp2
     go_ret
     exact ⟨by rw [HF.out];rfl,hS1.trans hS9⟩
    ·have HF:Hid ((ms.take (k+1)).all (gQ d n)=true):=eX HM.out HN.out (by simp [gQ,h2,hc0.out])
     have H2:Hid (hasB d.groups m.gr n=true):=h2
     clear h2
     go_wp2_with fail
     refine aj (by kernel_rfl) (by kernel_rfl) hS ?_
     repeat (go_big_quiet_step ((first | (go_at_call 114;exact Later.call (nC w1 _ _ _ _ d.groups m _ HC.out hI1)) | (go_at_call 81;exact Later.call (zx w1 _ _ _ d.groups _ _ _ H2.out hI1)))))
     refine wpQuiet_nil ?_
     intro w9 hS9
     go_wp2
     go_roundw
     case rel=>exact ⟨⟨k+1,by omega,by go_num,HF.out⟩,hS9⟩
     case measure=>simp [intOf];omega
   ·have HF:Hid (aH d ms n=false):=iV HM.out (by
     have:¬ eB d.nodes.length d.groups m=0:=by rw [HNL.out,HC.out];simpa using h1
     simp [gQ,this])
    go_wp2_with fail
    refine aj (by kernel_rfl) (by kernel_rfl) hS ?_
    repeat (go_big_quiet_step ((first | (go_at_call 114;exact Later.call (nC w1 _ _ _ _ d.groups m _ HC.out hI1)))))
    refine wpQuiet_nil ?_
    intro w9 hS9
    go_wp2
    go_ret
    exact ⟨by rw [HF.out];rfl,hS1.trans hS9⟩
  ·have HF:Hid (aH d ms n=true):=by have:=HN.out;rw [List.take_of_length_le (by omega)] at this;exact this
   clear hc
   go_wp2
   go_ret
   exact ⟨by rw [HF.out];rfl,hS1.trans hS⟩
end Go.Proofs.Ytiiifecfdkjmbaa
