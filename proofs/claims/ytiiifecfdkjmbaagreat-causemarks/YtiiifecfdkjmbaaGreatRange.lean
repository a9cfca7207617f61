/- Lemmas. Lemmas. Lemmas. Lemmas. -/
import Derived.Test.YtiiifecfdkjmbaaGreatMsgB
import Derived.Deep.AppendSrc
namespace Go.Proofs.YtiiifecfdkjmbaaGreat
open _root_.Go.Proofs.Tryz hiding checked
set_option maxRecDepth 8000
open Go.RowKit Go.Shelf
theorem Tryz.uf:(prog.info? 42).map (fun i=>(i.zero,i.size,i.bytes))=some (some (.agg #[.int .i64 0,.int .i64 0,.int .i64 0,.bool false,.string ByteArray.empty]),5,48):=by kernel_rfl
theorem Since.grown {w1 w w':World} {row:Option Nat} (h:Since w1 w) (hg:w.grownBy w' row) (hr:∀ k,row=some k->w1.heap.size<=k):Since w1 w':=⟨h.below.grown hg h.size hr⟩
theorem Since.cellAt {w1 w:World} (h:Since w1 w) {b:Nat} (hb:b < w1.heap.size) (o:Nat):w.cell? ⟨b,o,none⟩=w1.cell? ⟨b,o,none⟩:=h.below.cell (p:=⟨b,o,none⟩) hb
theorem o9 (b off j:Nat):(⟨b,off,none⟩:Addr).add j=⟨b,off+j,none⟩:=by
 by_cases h:j=0
 ·subst h;simp [Addr.add]
 ·simp [Addr.add,h]
theorem pQ {ms:List Mg} {p j:Nat} {u:Value} (h:(flat (ms.take p))[j]? = some u):(flat ms)[j]? = some u:=by
 have e:flat ms=flat (ms.take p)++flat (ms.drop p):=by rw [<-fG,List.take_append_drop]
 rw [e,List.getElem?_append_left (zQ2.1 h).1];exact h
theorem ku {ms:List Mg} {p j:Nat} {u:Value} (hp:p<=ms.length) (h:(flat (ms.drop p))[j]? = some u):(flat ms)[p*5+j]? = some u:=by
 have e:flat ms=flat (ms.take p)++flat (ms.drop p):=by rw [<-fG,List.take_append_drop]
 have hl:(flat (ms.take p)).length=p*5:=by rw [bU];simp;omega
 rw [e,List.getElem?_append_right (by omega),hl];rw [show p*5+j - p*5=j from by omega];exact h
theorem iT (w:World) (m:Mg) (t:Nat):∀ j u,m.cells[j]? = some u->(w.alloc (.cells #[.int .i64 m.fr,.int .i64 m.gr,.int .i64 m.st,.bool m.nul,.string m.body] t)).cell? ((⟨w.heap.size,0,none⟩:Addr).add j)=some u:=by
 intro j u hj;rw [o9];have hl:=(zQ2.1 hj).1;simp [Mg.cells] at hl
 rcases (show j=0\/j=1\/j=2\/j=3\/j=4 by omega) with rfl | rfl | rfl | rfl | rfl <;> simp [Mg.cells] at hj <;> subst hj <;> simp [go_sem]
def dP (m:Mg) (ms:List Mg):Int :=
 if aP ms=false then 1 else if 40<=ms.length then 2 else
  match ms[dB m ms]? with
  | some x=>if lessM m x then 0 else 1
  | none=>0
def gM (m:Mg) (ms:List Mg):List Mg:=if dP m ms=0 then ms.take (dB m ms)++[m]++ms.drop (dB m ms) else []
theorem lu (m:Mg) (ms:List Mg) (h:dP m ms=0):(gM m ms).length=ms.length+1:=by
 have:=lW m ms;unfold gM;rw [if_pos h];simp;omega
theorem nE (m:Mg) (ms:List Mg) (h:dP m ms≠0):gM m ms=[]:=by unfold gM;rw [if_neg h]
theorem kP {W:World} {base:Nat} {e:TypeId} {size:Nat} {x:Addr} {n k cap:Nat} {xs:List Value} (h:W.ownsRow base e size (.slice (some x) k cap) n xs):n<=cap:=by
 rcases h.2 with ⟨h1,_⟩ | ⟨g,cap',cur,h1,_,_,h4,_⟩
 ·cases h1
 ·simp only [Value.slice.injEq] at h1;rw [h1.2.2];exact h4
end Go.Proofs.YtiiifecfdkjmbaaGreat
namespace Go.Proofs.YtiiifecfdkjmbaaGreat
set_option maxRecDepth 8000
open Go.RowKit Go.Shelf
theorem ownsRow_form {W:World} {base:Nat} {e:TypeId} {size:Nat} {v:Value} {n:Nat} {xs:List Value} (h:W.ownsRow base e size v n xs):∃ a cap,v=.slice a n cap/\n<=cap:=by
 rcases h.2 with ⟨rfl,rfl⟩ | ⟨g,cap,cur,rfl,_,_,h4,_⟩
 ·exact ⟨none,0,rfl,Nat.le_refl _⟩
 ·exact ⟨_,cap,rfl,h4⟩
theorem Later.old {w0 wr:World} (h:Since w0 wr) (x:Later wr) {b:Nat} (o:Nat) (hb:b < w0.heap.size):x.w.cell? ⟨b,o,none⟩=w0.cell? ⟨b,o,none⟩:=(h.trans x.h).cellAt hb o
theorem gY {w w':World} {base:Nat} {e:TypeId} {size:Nat} {v:Value} {n:Nat} {xs:List Value} (k:Since w w') (h:w.ownsRow base e size v n xs):w'.ownsRow base e size v n xs:=by
 refine ⟨h.1, ?_⟩;rcases h.2 with h2 | ⟨g,cap,cur,e1,e2,e3,e4⟩
 ·exact .inl h2
 ·exact .inr ⟨g,cap,cur,e1,e2,(k.below.block g (zQ3.1 e3).1).trans e3,e4⟩
theorem OY {m x:Mg} {ms:List Mg} (h1:¬ aP ms=false) (h2:¬ 40<=ms.length) (h3:ms[dB m ms]? = some x):dP m ms=if lessM m x then 0 else 1:=by
 unfold dP;rw [if_neg h1,if_neg h2,h3]
theorem M9 {m:Mg} {ms:List Mg} (h1:¬ aP ms=false) (h2:¬ 40<=ms.length) (h3:dB m ms=ms.length):dP m ms=0:=by
 unfold dP;rw [if_neg h1,if_neg h2,h3,List.getElem?_eq_none (Nat.le_refl _)]
theorem KZ {ms:List Mg} {k:Nat} {x:Mg} (h:ms[k]? = some x):flat (ms.take (k+1))=flat (ms.take k)++x.cells:=by
 rw [List.take_add_one,fG,h];simp [flat]
end Go.Proofs.YtiiifecfdkjmbaaGreat
set_option maxHeartbeats 1000000
namespace Go.Proofs.YtiiifecfdkjmbaaGreat
open _root_.Go.Proofs.Tryz hiding checked
set_option maxRecDepth 8000
open Go.RowKit Go.Shelf
structure Nd where
 clock:Int
 last:List (List Int)
 held:List Mg
 told:List Mg
structure Wd where
 groups:List Int
 nodes:List Nd
 wires:List (List (List Mg))
structure WV where
 ga:Option Addr
 gl:Nat
 gc:Nat
 na:Option Addr
 nl:Nat
 nc:Nat
 wa:Option Addr
 wl:Nat
 wc:Nat
def yR (w:World) (v:Value) (xs:List Int):Prop:=∃ a cap,v=.slice a xs.length cap/\xs.length<=cap/\Ints w a xs.length xs
def nO (w:World) (v:Value) (xs:List Mg):Prop:=∃ a cap,v=.slice a xs.length cap/\xs.length<=cap/\fA w a xs.length xs
structure Slices {α:Type} (P:World->Value->α->Prop) (w:World) (a:Option Addr) (len:Nat) (xs:List α):Prop where
 hlen:xs.length=len
 hmax:len<=5864062014634
 cells:0 < len->∃ b off,a=some ⟨b,off,none⟩/\b < w.heap.size/\∀ i x,xs[i]? = some x->∃ v,w.cell? ⟨b,off+i,none⟩=some v/\P w v x
def oH {α:Type} (P:World->Value->α->Prop) (w:World) (v:Value) (xs:List α):Prop:=∃ a cap,v=.slice a xs.length cap/\xs.length<=cap/\Slices P w a xs.length xs
structure ED (w:World) (b o:Nat) (x:Nd):Prop where
 clk:w.cell? ⟨b,o,none⟩=some (.int .i64 x.clock)
 last:∃ v,w.cell? ⟨b,o+1,none⟩=some v/\oH yR w v x.last
 held:∃ v,w.cell? ⟨b,o+2,none⟩=some v/\nO w v x.held
 told:∃ v,w.cell? ⟨b,o+3,none⟩=some v/\nO w v x.told
structure Nodes (w:World) (a:Option Addr) (len:Nat) (xs:List Nd):Prop where
 hlen:xs.length=len
 hmax:len<=1759218604390
 cells:0 < len->∃ b off,a=some ⟨b,off,none⟩/\b < w.heap.size/\∀ i x,xs[i]? = some x->ED w b (off+i*4) x
structure WAt (w:World) (x:WV) (d:Wd):Prop where
 g:Ints w x.ga x.gl d.groups
 Wz:x.gl<=x.gc
 n:Nodes w x.na x.nl d.nodes
 WB:x.nl<=x.nc
 r:Slices (oH nO) w x.wa x.wl d.wires
 Tc:x.wl<=x.wc
def Stable {α:Type} (P:World->Value->α->Prop):Prop:=∀ w W v x,Since w W->P w v x->P W v x
theorem kW:Stable yR:=fun _ _ _ _ k ⟨a,cap,e,hc,h⟩=>⟨a,cap,e,hc,h.since k⟩
theorem jT:Stable nO:=fun _ _ _ _ k ⟨a,cap,e,hc,h⟩=>⟨a,cap,e,hc,h.since k⟩
theorem Slices.since {α:Type} {P:World->Value->α->Prop} (hP:Stable P) {w W:World} {a:Option Addr} {len:Nat} {xs:List α} (h:Slices P w a len xs) (k:Since w W):Slices P W a len xs:=by
 refine ⟨h.hlen,h.hmax,fun hp=>?_⟩;obtain ⟨b,off,e,hb,hc⟩:=h.cells hp;refine ⟨b,off,e,by have:=k.size;omega,fun i x hx=>?_⟩;obtain ⟨v,hv,hp⟩:=hc i x hx;exact ⟨v,(k.cellAt hb _).trans hv,hP _ _ _ _ k hp⟩
theorem og {α:Type} {P:World->Value->α->Prop} (hP:Stable P):Stable (oH P):=fun _ _ _ _ k ⟨a,cap,e,hc,h⟩=>⟨a,cap,e,hc,h.since hP k⟩
theorem ED.since {w W:World} {b o:Nat} {x:Nd} (h:ED w b o x) (hb:b < w.heap.size) (k:Since w W):ED W b o x:=by
 refine ⟨(k.cellAt hb _).trans h.clk, ?_, ?_, ?_⟩
 ·obtain ⟨v,h1,h2⟩:=h.last;exact ⟨v,(k.cellAt hb _).trans h1,og kW _ _ _ _ k h2⟩
 ·obtain ⟨v,h1,h2⟩:=h.held;exact ⟨v,(k.cellAt hb _).trans h1,jT _ _ _ _ k h2⟩
 ·obtain ⟨v,h1,h2⟩:=h.told;exact ⟨v,(k.cellAt hb _).trans h1,jT _ _ _ _ k h2⟩
theorem Nodes.since {w W:World} {a:Option Addr} {len:Nat} {xs:List Nd} (h:Nodes w a len xs) (k:Since w W):Nodes W a len xs:=by
 refine ⟨h.hlen,h.hmax,fun hp=>?_⟩;obtain ⟨b,off,e,hb,hc⟩:=h.cells hp;exact ⟨b,off,e,by have:=k.size;omega,fun i x hx=>(hc i x hx).since hb k⟩
theorem WAt.since {w W:World} {x:WV} {d:Wd} (h:WAt w x d) (k:Since w W):WAt W x d :=
 ⟨h.g.since k,h.Wz,h.n.since k,h.WB,h.r.since (og jT) k,h.Tc⟩
def gW (ms:List Mg):Bool:=ms.all fun m=>!m.nul
def jA (d:Wd) (n:Int) (m:Mg):Bool:=decide (iP d.nodes.length d.groups m=0) && hasB d.groups m.gr n
def bB (d:Wd) (ms:List Mg) (n:Int):Bool:=ms.all (jA d n)
theorem mM {α:Type} {p:α->Bool} {xs:List α} {k:Nat} {x:α} (h:xs[k]? = some x) (hp:p x=false):xs.all p=false:=by
 rw [List.all_eq_false];exact ⟨x,List.mem_of_getElem? h,by simp [hp]⟩
theorem jB {α:Type} {p:α->Bool} {xs:List α} {k:Nat} {x:α} (h:xs[k]? = some x) (h0:(xs.take k).all p=true) (hp:p x=true):(xs.take (k+1)).all p=true:=by
 rw [List.take_add_one,List.all_append,h0,h];simp [hp]
theorem Jy (a:Option Addr) (len cap:Nat) (ms:List Mg) (w:World) (hM:fA w a len ms) :
  Calls prog 155 #[.slice a len cap] w fun e w'=>e=.returned (.bool (gW ms))/\w'=w:=by
 obtain ⟨rfl,hmax,hc⟩:=hM
 go_enter func155,ntmps155
 go_wp2
 go_loop [3] (fun i=>∃ k:Nat,k<=ms.length/\i=.int .i64 k/\(ms.take k).all (fun m=>!m.nul)=true) (fun i=>ms.length - (intOf i).toNat)
 case atStart=>exact ⟨0,Nat.zero_le _,rfl,rfl⟩
 case round =>
  obtain ⟨k,hk,rfl,hn⟩:=hrel;have HN:Hid ((ms.take k).all (fun m=>!m.nul)=true):=hn;clear hn;by_cases hlt:k < ms.length
  ·obtain ⟨b,off,rfl,hb,hcell⟩:=hc (by omega);obtain ⟨m,hm⟩:∃ m,ms[k]? = some m:=⟨_,zQ1 hlt⟩;obtain ⟨d0,d1,d2,d3,d4⟩:=bP hcell k m hm;have HM:Hid (ms[k]? = some m):=hm;clear hm hcell hc;cases hl:m.nul
   ·rw [hl] at d3
    go_wp2
    go_round
    case rel=>exact ⟨k+1,by omega,by go_num,jB HM.out HN.out (by simp [hl])⟩
    case measure=>simp [intOf];omega
   ·have HF:Hid (gW ms=false):=mM HM.out (by simp [hl]);rw [hl] at d3
    go_wp2
    go_ret
    exact ⟨by rw [HF.out];rfl,rfl⟩
  ·have HF:Hid (gW ms=true):=by have:=HN.out;rw [List.take_of_length_le (by omega)] at this;exact this
   clear hc
   go_wp2
   go_ret
   exact ⟨by rw [HF.out];rfl,rfl⟩
theorem vY (w0:World) (nodes:Int) (a:Option Addr) (len cap:Nat) (xs:List Int) (m:Mg) (c:Int) (hc:iP nodes xs m=c) (hI:Ints w0 a len xs) (w:World) (h:Since w0 w) :
  Calls prog 192 #[.int .i64 nodes,.slice a len cap,.agg #[.int .i64 m.fr,.int .i64 m.gr,.int .i64 m.st,.bool m.nul,.string m.body]] w fun e w'=>e=.returned (.int .i64 c)/\Since w0 w' :=
 (DF nodes a len cap xs m w (hI.since h)).mono fun _ _ ⟨he,hw⟩=>⟨by rw [<-hc];exact he,h.trans hw⟩
theorem Ke (w0:World) (a:Option Addr) (len cap:Nat) (xs:List Int) (g n:Int) (v:Bool) (hv:hasB xs g n=v) (hI:Ints w0 a len xs) (w:World) (h:Since w0 w) :
  Calls prog 145 #[.slice a len cap,.int .i64 g,.int .i64 n] w fun e w'=>e=.returned (.bool v)/\Since w0 w' :=
 (dO a len cap xs g n w (hI.since h)).mono fun _ _ ⟨he,hw⟩=>⟨by rw [<-hv];exact he,by rw [hw];exact h⟩
theorem EF (x:WV) (d:Wd) (a:Option Addr) (len cap:Nat) (ms:List Mg) (n:Int) (w:World) (hW:WAt w x d) (hM:fA w a len ms) :
  Calls prog 156 #[.agg #[.slice x.ga x.gl x.gc,.slice x.na x.nl x.nc,.slice x.wa x.wl x.wc],.slice a len cap,.int .i64 n] w fun e w'=>e=.returned (.bool (bB d ms n))/\Since w w':=by
 obtain ⟨rfl,hmax,hc⟩:=hM;obtain ⟨w1,hw1⟩:∃ w1,w.alloc (.cells #[.slice x.ga x.gl x.gc,.slice x.na x.nl x.nc,.slice x.wa x.wl x.wc] 26)=w1:=⟨_,rfl⟩;have hS1:=ay hw1;have hsz:w1.heap.size=w.heap.size+1:=by rw [<-hw1];simp
 have b0:w1.cell? ⟨w.heap.size,0,none⟩=some (.slice x.ga x.gl x.gc):=by rw [<-hw1];simp [go_sem]
 have b1:w1.cell? ⟨w.heap.size,1,none⟩=some (.slice x.na x.nl x.nc):=by rw [<-hw1];simp [go_sem]
 have hI1:=hW.g.since hS1;have hnl:=hW.n.hlen;have hnm:=hW.n.hmax;have HNL:Hid (d.nodes.length=x.nl):=hnl;have hne:Nonempty (Later w1):=⟨⟨w1,Since.refl w1⟩⟩;have hg2:∀ (y:Later w1) (o:Nat),y.w.cell? ⟨w.heap.size,o,none⟩=w1.cell? ⟨w.heap.size,o,none⟩:=fun y o=>y.cell (by omega);clear hnl
 go_enter func156,ntmps156
 go_wp2
 clear hw1
 go_loopw [7] (fun i wr=>(∃ k:Nat,k<=ms.length/\i=.int .i64 k/\(ms.take k).all (jA d n)=true)/\Since w1 wr) (fun i _=>ms.length - (intOf i).toNat)
 case atStart=>exact ⟨⟨0,Nat.zero_le _,rfl,rfl⟩,Since.refl _⟩
 case round =>
  obtain ⟨⟨k,hk,rfl,hn⟩,hS⟩:=hrel;have HN:Hid ((ms.take k).all (jA d n)=true):=hn;clear hn;by_cases hlt:k < ms.length
  ·obtain ⟨b,off,rfl,hb,hcell⟩:=hc (by omega);obtain ⟨m,hm⟩:∃ m,ms[k]? = some m:=⟨_,zQ1 hlt⟩;obtain ⟨d0,d1,d2,d3,d4⟩:=bP hcell k m hm;have hg:∀ (y:Later w1) (o:Nat),y.w.cell? ⟨b,o,none⟩=w.cell? ⟨b,o,none⟩:=fun y o=>Later.old hS1 y o hb;have HM:Hid (ms[k]? = some m):=hm;clear hm hcell hc;obtain ⟨c,hce⟩:∃ c,iP x.nl d.groups m=c:=⟨_,rfl⟩;have HC:Hid (iP x.nl d.groups m=c):=hce;clear hce;cases h1:(c != 0)
   ·have hc0:Hid (iP d.nodes.length d.groups m=0):=by unfold Hid;rw [HNL.out,HC.out];simpa using h1
    cases h2:hasB d.groups m.gr n
    ·have HF:Hid (bB d ms n=false):=mM HM.out (by simp [jA,h2]);have H2:Hid (hasB d.groups m.gr n=false):=h2;clear h2
     go_wp2_with fail
     refine av (by kernel_rfl) (by kernel_rfl) hS ?_
     repeat (go_big_quiet_step ((first | (go_at_call 192;exact Later.call (vY w1 _ _ _ _ d.groups m _ HC.out hI1)) | (go_at_call 145;exact Later.call (Ke w1 _ _ _ d.groups _ _ _ H2.out hI1)))))
     refine wpQuiet_nil ?_;intro w9 hS9
     go_wp2
     go_ret
     exact ⟨by rw [HF.out];rfl,hS1.trans hS9⟩
    ·have HF:Hid ((ms.take (k+1)).all (jA d n)=true):=jB HM.out HN.out (by simp [jA,h2,hc0.out]);have H2:Hid (hasB d.groups m.gr n=true):=h2;clear h2
     go_wp2_with fail
     refine av (by kernel_rfl) (by kernel_rfl) hS ?_
     repeat (go_big_quiet_step ((first | (go_at_call 192;exact Later.call (vY w1 _ _ _ _ d.groups m _ HC.out hI1)) | (go_at_call 145;exact Later.call (Ke w1 _ _ _ d.groups _ _ _ H2.out hI1)))))
     refine wpQuiet_nil ?_;intro w9 hS9
     go_wp2
     go_roundw
     case rel=>exact ⟨⟨k+1,by omega,by go_num,HF.out⟩,hS9⟩
     case measure=>simp [intOf];omega
   ·have HF:Hid (bB d ms n=false):=mM HM.out (by
     have:¬ iP d.nodes.length d.groups m=0:=by rw [HNL.out,HC.out];simpa using h1
     simp [jA,this])
    go_wp2_with fail
    refine av (by kernel_rfl) (by kernel_rfl) hS ?_
    repeat (go_big_quiet_step ((first | (go_at_call 192;exact Later.call (vY w1 _ _ _ _ d.groups m _ HC.out hI1)))))
    refine wpQuiet_nil ?_;intro w9 hS9
    go_wp2
    go_ret
    exact ⟨by rw [HF.out];rfl,hS1.trans hS9⟩
  ·have HF:Hid (bB d ms n=true):=by have:=HN.out;rw [List.take_of_length_le (by omega)] at this;exact this
   clear hc
   go_wp2
   go_ret
   exact ⟨by rw [HF.out];rfl,hS1.trans hS⟩
end Go.Proofs.YtiiifecfdkjmbaaGreat
namespace Go.Proofs.YtiiifecfdkjmbaaGreat
set_option maxRecDepth 8000
open Go.RowKit Go.Shelf
structure KX (n:Nat) (X:Option Nat) (A B:World):Prop where
 below:Below n A B
 cells:∀ k o,A.heap[k]? = some o->o.isCells=true->some k≠X->B.heap[k]? = some o
def NC (A B:World):Prop:=∀ (k:Nat) (o:Obj),A.heap[k]? = some o->o.isCells=false->B.heap[k]? = some o
theorem Since.block {A B:World} (h:Since A B) {k:Nat} {o:Obj} (ho:A.heap[k]? = some o):B.heap[k]? = some o :=
 (h.below.block k (zQ3.1 ho).1).trans ho
theorem KX.refl (n:Nat) (X:Option Nat) (A:World):KX n X A A:=⟨Below.refl _ _,fun _ _ h _ _=>h⟩
theorem KX.trans {n:Nat} {X:Option Nat} {A B C:World} (h:KX n X A B) (k:KX n X B C):KX n X A C :=
 ⟨h.below.trans k.below,fun i o hi hc hx=>k.cells i o (h.cells i o hi hc hx) hc hx⟩
theorem KX.dR {n:Nat} {X:Option Nat} {A B:World} (h:Since A B) (hn:n<=A.heap.size):KX n X A B :=
 ⟨h.below.mono hn,fun _ _ hk _ _=>h.block hk⟩
theorem NC.dR {A B:World} (h:Since A B):NC A B:=fun _ _ hk _=>h.block hk
theorem KX.put {n:Nat} {X:Option Nat} {A:World} {l:Nat} {o:Obj} (o':Obj) (hl:A.heap[l]? = some o) (ho:o.isCells=false) (hn:n<=l):KX n X A (A.putObj l o'):=by
 refine ⟨⟨rfl,rfl,rfl,by simp,fun k hk=>World.putObj_heap_other (by omega)⟩,fun k o1 hk hc _=>?_⟩;refine (World.putObj_heap_other ?_).trans hk;rintro rfl;rw [hl] at hk;cases hk;rw [ho] at hc;cases hc
theorem KX.weak {n m:Nat} {X:Option Nat} {A B:World} (h:KX n none A B) (hm:m<=n):KX m X A B :=
 ⟨h.below.mono hm,fun k o hk hc _=>h.cells k o hk hc (by simp)⟩
theorem KX.cell {n:Nat} {X:Option Nat} {A B:World} (h:KX n X A B) {p:Addr} {v:Value} (hc:A.cell? p=some v) (hX:some p.block≠X):B.cell? p=some v:=by
 have:∃ o,A.heap[p.block]? = some o/\o.isCells=true:=by
  unfold World.cell? at hc;split at hc
  ·rename_i c e z hb;exact ⟨_,hb,rfl⟩
  ·cases hc
 obtain ⟨o,ho,hoc⟩:=this;exact (World.cell?_of_block (w:=A) ((h.cells _ _ ho hoc hX).trans ho.symm)).trans hc
def RN (P:Program) (l:Nat) (R:Ending->World->Prop):Exit->Act->World->Prop
 | .normal,_,w=>∃ v w',(Instr.endRound l none).run P w=.ok v w'/\R (.returned v) w'
 | .panic ch,a,w=>a.defers=[]/\R (.panicked ch) w
 | _,_,_=>False
theorem Jz {P:Program} {n l f:Nat} {fn:Func} {tmps:Array Value} {assign body:Code} {w:World} {R:Ending->World->Prop} (hf:P.funcs[f]? = some fn)
  (h:assign.wpIn (Fence.wide.inRound l) n P (Exit.then (fun a1 w1=>∃ w2,(Instr.beginRound l).run P w1=.ok () w2/\body.wpIn (Fence.wide.inRound l) n P (RN P l R) a1 w2) (fun _ _ _=>False)) { tmps:=tmps,defers:=[] } w) :
  RoundIn Fence.wide n P l f tmps assign body w R:=by
 refine ⟨trivial,fun c cs _=>?_⟩
 obtain ⟨b,hb⟩:∃ b:Frame,b={ (default:Frame) with fn:=f,kind:=.normal,roundOf:=some l }:=⟨_,rfl⟩
 have b1:b.fn=f:=by rw [hb]
 have b2:b.kind=.normal:=by rw [hb]
 have b3:b.roundOf=some l:=by rw [hb]
 have e0:Frame.round l f tmps assign body .normal=b.atR { tmps:=tmps,defers:=[] } [.code assign,.beginRound,.code body]:=by
  rw [hb];simp [Frame.round,Frame.atR]
 rw [e0];obtain ⟨e,a1,w1,hq,h1⟩:=h b [.beginRound,.code body] (c::cs) b3 trivial (room_wide _)
 match e,hq,h1 with
 | .normal,⟨w2,hbr,hbody⟩,h1 =>
  have s1:=StepsIn.trans h1 (.one (fenced_wide P _) (stepR_beginRound (a:=a1) (k:=[.code body]) (cs:=c::cs) b3 hbr));obtain ⟨e2,a2,w3,hq2,h2⟩:=hbody b [] (c::cs) b3 trivial (room_wide _)
  match e2,hq2,h2 with
  | .normal,⟨v,w4,hend,hR⟩,h2 =>
   exact ⟨.returned v,w4,hR,s1.trans (StepsIn.trans h2 (.one (fenced_wide P _) (stepR_round_end b3 b2 hend)))⟩
  | .panic ch,⟨hd,hR⟩,⟨todo,h2⟩ =>
   refine ⟨.panicked ch,w3,hR,s1.trans (StepsIn.trans h2 (.one (fenced_wide P _) (step_leave_panicked ⟨rfl,hd,fn, ?_⟩)))⟩;show P.funcs[b.fn]? = some fn;rw [b1];exact hf
def wpF (P:Program) (f0:FuncId) (c:Code) (Q:Exit->Act->World->Prop) (a:Act) (w:World):Prop :=
 ∀ (b:Frame) (k:List Item) (cs:List Frame),b.roundOf=none->b.fn=f0 ->
  ∃ e a' w',Q e a' w'/\ArrivesIn (Machine.fenced P Fence.wide) P (lone (b.atR a (.code c::k)) cs w) b k cs e a' w'
theorem cK {P:Program} {f0:FuncId} {c:Code} {Q:Exit->Act->World->Prop} {a:Act} {w:World} (h:c.wp P Q a w):wpF P f0 c Q a w :=
 fun b k cs hro _=>(wpIn_wide (n:=0)).2 h b k cs hro trivial (room_wide _)
theorem eG {P:Program} {f0:FuncId} {x y:Code} {Q:Exit->Act->World->Prop} {a:Act} {w:World} (h:wpF P f0 x (Exit.then (wpF P f0 y Q) Q) a w):wpF P f0 (Code.seq x y) Q a w:=by
 intro b k cs hro hb;have h0:=fenced_wide P (lone (b.atR a (.code (.seq x y)::k)) cs w);obtain ⟨e,a1,w1,hq,h1⟩:=h b (.code y::k) cs hro hb
 have pass:∀ {e},ArrivesIn (Machine.fenced P Fence.wide) P (lone (b.atR a (.code x::.code y::k)) cs w) b (.code y::k) cs e a1 w1->e≠.normal->ArrivesIn (Machine.fenced P Fence.wide) P (lone (b.atR a (.code (.seq x y)::k)) cs w) b k cs e a1 w1:=by
  intro e hh hne
  cases e with
  | normal=>exact absurd rfl hne
  | _=>exact .of_steps (.one h0 stepR_seq) (.pass (x:=.code y) rfl (fun _ _=>.inl (by simp)) hh)
 cases e with
 | normal =>
  obtain ⟨e2,a2,w2,hq2,h2⟩:=hq b k cs hro hb;exact ⟨e2,a2,w2,hq2,.of_steps (.head h0 stepR_seq h1) h2⟩
 | _=>exact ⟨_,a1,w1,hq,pass h1 (by simp)⟩
def RO (Q:Exit->Act->World->Prop):Exit->Act->World->Prop
 | .normal,a,w=>Q .normal a w
 | .panic ch,a,w=>Q (.panic ch) a w
 | _,_,_=>False
theorem ug {P:Program} {f0:FuncId} {id:Nat} {c:Code} {Q:Exit->Act->World->Prop} {a:Act} {w:World} (h:wpF P f0 c (RO Q) a w):wpF P f0 (Code.block id c) Q a w:=by
 intro b k cs hro hb;have h0:=fenced_wide P (lone (b.atR a (.code (.block id c)::k)) cs w);obtain ⟨e,a1,w1,hq,h1⟩:=h b (.inBlock id::k) cs hro hb
 match e,hq,h1 with
 | .normal,hq,h1=>exact ⟨.normal,a1,w1,hq,.head h0 stepR_block (StepsIn.trans h1 (.one (fenced_wide P _) stepR_inBlock))⟩
 | .panic ch,hq,⟨todo,h1⟩=>exact ⟨.panic ch,a1,w1,hq,todo,.head h0 stepR_block h1⟩
def OT {α:Type} (P:Program) (m:Nat) (g:Nat) (lb:Array Value) (encs:α->Array Value) (Kp:World->World->Prop) (E:Nat->α->Prop) (Sk:Nat->Prop) (N:Nat) (w:World):Prop :=
 ∀ (l:Nat) (J:Nat->World->Prop) (Jp:List PanicEntry->World->Prop) (W:World),Since w W->(∀ i A B,J i A->Since A B->J i B)->(∀ i A,J i A->i < N->Sk i->J (i+1) A) ->
  (∀ i x W1,J i W1->i < N->E i x->YieldAt Fence.wide (m - 1) P l (encs x) W1 fun e W' =>
   (e=.returned (.bool true)/\J (i+1) W'/\Kp W1 W')\/(∃ ch,e=.panicked ch/\Jp ch W')) ->
  J 0 W ->
  CallsIn Fence.wide m P g (#[.func (.yield l) #[] #[]]++lb) W fun e W'=>(∃ v,e=.returned v/\J N W')\/(∃ ch,e=.panicked ch/\Jp ch W')
def Uf (n0:Nat) (X:Option Nat) (I:Nat->World->Prop) (Ip:List PanicEntry->World->Prop) (i:Nat) (W:World):Exit->Act->World->Prop
 | .normal,_,W'=>NC W W'/\KX n0 X W W'/\I (i+1) W'
 | .panic ch,a,W'=>a.defers=[]/\NC W W'/\Ip ch W'
 | _,_,_=>False
theorem xZ {α:Type} {P:Program} {f0:FuncId} {fn:Func} (hf:P.funcs[f0]? = some fn) {g:Operand} {ps:Array Tmp} {assign body:Code} {Q:Exit->Act->World->Prop} {a:Act} {w:World}
  {gf:Nat} {lb:Array Value} (hg:a.eval g=.func (.func gf) #[] lb) (eg:∀ args w,(callFunc gf args).run P w=.ok (.enter gf args) w)
  {m:Nat} {encs:α->Array Value} {n0:Nat} {X:Option Nat} {E:Nat->α->Prop} {Sk:Nat->Prop} {N:Nat} (hn0:n0<=w.heap.size) (hseq:OT P m gf lb encs (KX n0 X) E Sk N w) (hps:∀ x,(encs x).size=ps.size)
  (I:Nat->World->Prop) (Ip:List PanicEntry->World->Prop) (hI:∀ i A B,I i A->KX w.heap.size none A B->I i B) (Ug:∀ i A,I i A->i < N->Sk i->I (i+1) A) (h0:I 0 w)
  (He:∀ (l i:Nat) (x:α) (W W':World),w.heap.size<=W'.heap.size->I i W'->i < N->E i x ->
   assign.wpIn (Fence.wide.inRound l) (m - 1) P (Exit.then (fun a' W1=>W1=W/\body.wpIn (Fence.wide.inRound l) (m - 1) P (Uf n0 X I Ip i W') a' W') (fun _ _ _=>False)) { tmps:=(ps.zip (encs x)).foldl (fun t (p,v)=>t.setIfInBounds p v) a.tmps,defers:=[] } W)
  (hdone:∀ (D:Nat) (W:World),w.heap.size<=D->I N W->W.heap[D]? = some (.deferred (some []))->Q .normal { a with defers:={ target:=.collected D,args:=#[] }::a.defers } W)
  (QA:∀ (D:Nat) (ch:List PanicEntry) (W:World),w.heap.size<=D->Ip ch W->W.heap[D]? = some (.deferred (some []))->Q (.panic ch) { a with defers:={ target:=.collected D,args:=#[] }::a.defers } W) :
  wpF P f0 (Code.rangeFunc g ps assign body) Q a w:=by
 intro b k cs hro hb;obtain ⟨rc,hrc⟩:∃ rc:LoopState->Loop,rc=fun st=>{ state:=st,pending:=none,fn:=f0,tmps:=a.tmps,params:=ps,assign,body,defers:=w.heap.size }:=⟨_,rfl⟩;obtain ⟨W1,hW1⟩:∃ W1,(w.alloc (.deferred (some []))).alloc (.loop (rc .ready))=W1:=⟨_,rfl⟩;have hS1:Since w W1:=by rw [<-hW1];exact ((Since.refl w).alloc _).alloc _
 have hL1:W1.heap[w.heap.size+1]? = some (.loop (rc .ready)):=by
  rw [<-hW1];have:=World.alloc_heap_new (w.alloc (.deferred (some []))) (.loop (rc .ready));rwa [World.size_alloc] at this
 have hK1:W1.heap[w.heap.size]? = some (.deferred (some [])):=by
  rw [<-hW1];exact (Below.heap_alloc _ _ _ (by simp)).trans (World.alloc_heap_new w _)
 have hsz1:w.heap.size<=W1.heap.size:=hS1.size
 have he:(Instr.enterLoop b.fn a.tmps ps assign body b.roundOf).run P w=.ok (w.heap.size+1,[{ target:=.collected w.heap.size,args:=#[] }]) W1:=by
  rw [hro,hb,<-hW1,hrc];exact run_enterLoop_outer _ _ _ _ _
 have hres:(resolve a.eval (rangeCall g (w.heap.size+1)) 0).run P W1=.ok { target:=.fn (.func gf) lb,args:=#[.func (.yield (w.heap.size+1)) #[] #[]] } W1:=by
  simp only [resolve,hg];simp [go_sem]
 have hinv:(invoke (.fn (.func gf) lb) #[.func (.yield (w.heap.size+1)) #[] #[]]).run P W1=.ok (.enter gf (#[.func (.yield (w.heap.size+1)) #[] #[]]++lb)) W1:=by simp [invoke,go_sem,eg]
 have henter:=stepR_rangeFunc (P:=P) (b:=b) (a:=a) (k:=k) (cs:=cs) (w:=w) he hres hinv
 have hcall:=hseq (w.heap.size+1)
  (fun i W=>w.heap.size<=W.heap.size/\I i W/\W.heap[w.heap.size+1]? = some (.loop (rc .ready))/\W.heap[w.heap.size]? = some (.deferred (some [])))
  (fun ch W=>Ip ch W/\W.heap[w.heap.size]? = some (.deferred (some [])))
  W1 hS1 (fun i A B hA hS=>⟨zQ5 hA.1 hS.size,hI i A B hA.2.1 (KX.dR hS hA.1),hS.block hA.2.2.1,hS.block hA.2.2.2⟩)
  (fun i A hA hi hk=>⟨hA.1,Ug i A hA.2.1 hi hk,hA.2.2.1,hA.2.2.2⟩)
  (by
   rintro i x W ⟨hsz,hi,hl,hk⟩ hiN hx;have hlt:w.heap.size+1 < W.heap.size:=(zQ3.1 hl).1;have hy:=run_yield (P:=P) (args:=encs x) hl (by rw [hrc];exact hps x);have er:(rc .ready).fn=f0/\(rc .ready).assign=assign/\(rc .ready).body=body/\(rc .ready).params=ps/\(rc .ready).tmps=a.tmps:=by rw [hrc];exact ⟨rfl,rfl,rfl,rfl,rfl⟩
   rw [er.1,er.2.1,er.2.2.1,er.2.2.2.1,er.2.2.2.2] at hy
   have k2:KX w.heap.size none W (W.putObj (w.heap.size+1) (.loop { rc .ready with state:=.busy })):=KX.put _ hl rfl (by omega)
   have hl2:(W.putObj (w.heap.size+1) (.loop { rc .ready with state:=.busy })).heap[w.heap.size+1]? = some (.loop { rc .ready with state:=.busy }):=World.putObj_heap_same hlt
   have hk2:(W.putObj (w.heap.size+1) (.loop { rc .ready with state:=.busy })).heap[w.heap.size]? = some (.deferred (some [])):=(World.putObj_heap_other (by omega)).trans hk
   refine ⟨_,_,_,_,hy,Jz hf (wpIn_mono (He _ i x W _ (by simpa using hsz) (hI _ _ _ hi k2) hiN hx) ?_)⟩;intro e0 a0 W0 hp0
   match e0,hp0 with
   | .normal,⟨hWW,hb0⟩ =>
   subst hWW;refine ⟨_,run_beginRound hl (by rw [hrc]),wpIn_mono hb0 ?_⟩;intro e a3 W3 hp
   match e,hp with
   | .normal,⟨hn3,hx3,hi3⟩ =>
    have hl3:=hn3 _ _ hl2 rfl;have hend:=run_endRound (P:=P) none hl3;have k4:KX w.heap.size none W3 (W3.putObj (w.heap.size+1) (.loop (rc .ready))):=KX.put _ hl3 rfl (by omega);refine ⟨_,_,hend,.inl ⟨rfl,⟨?_,hI _ _ _ hi3 ?_, ?_, ?_⟩, ?_⟩⟩
    ·have:=hx3.below.size;simp only [World.putObj_size] at this ⊢;omega
    ·rw [hrc] at k4 ⊢;exact k4
    ·rw [hrc] at hl3 ⊢;exact World.putObj_heap_same (zQ3.1 hl3).1
    ·exact (World.putObj_heap_other (by omega)).trans (hn3 _ _ hk2 rfl)
    ·refine (k2.weak hn0).trans (hx3.trans ?_);rw [hrc] at k4 ⊢;exact k4.weak hn0
   | .panic ch,⟨hd,hn3,hp3⟩=>exact ⟨hd,.inr ⟨ch,rfl,hp3,hn3 _ _ hk2 rfl⟩⟩)
  ⟨hsz1,hI _ _ _ h0 (KX.dR hS1 (Nat.le_refl _)),hL1,hK1⟩
 obtain ⟨e,w3,fr,hR,hsteps,hfn,hleave⟩:=hcall.2 (b.atR { a with defers:={ target:=.collected w.heap.size,args:=#[] }::a.defers } (.inRangeFunc (w.heap.size+1)::k)::cs) (room_wide _)
 rcases hR with ⟨v,rfl,hsz,hi,hl,hk⟩ | ⟨ch,rfl,hi,hk⟩
 ·have hend:=run_endLoop (P:=P) hl (by rw [hrc];simp)
  have k4:KX w.heap.size none w3 (w3.putObj (w.heap.size+1) (.loop { rc .ready with state:=.exhausted })):=KX.put _ hl rfl (by omega)
  refine ⟨.normal,_,_,hdone _ _ (Nat.le_refl _) (hI _ _ _ hi k4) ((World.putObj_heap_other (by omega)).trans hk), ?_⟩;have hp0:(rc .ready).pending=none:=by rw [hrc]
  replace hend:=hend.trans (congrArg (fun p=>Result.ok p (w3.putObj (w.heap.size+1) (.loop { rc .ready with state:=.exhausted }))) hp0)
  have h9:step P (lone fr (b.atR { a with defers:={ target:=.collected w.heap.size,args:=#[] }::a.defers } (.inRangeFunc (w.heap.size+1)::k)::cs) w3)=.next (lone (b.atR { a with defers:={ target:=.collected w.heap.size,args:=#[] }::a.defers } (.endRangeFunc (w.heap.size+1)::k)) cs w3):=by
   rw [<-finish_atR_inRangeFunc (w.heap.size+1) v];exact step_leave_returned hleave
  exact .head (fenced_wide P _) henter (StepsIn.trans hsteps (.head (fenced_wide P _) h9 (.one (fenced_wide P _) (stepR_endRangeFunc hend))))
 ·refine ⟨.panic ch,_,w3,QA _ _ _ (Nat.le_refl _) hi hk,.inRangeFunc (w.heap.size+1)::k,.head (fenced_wide P _) henter (StepsIn.trans hsteps (.one (fenced_wide P _) ?_))⟩;rw [<-Frame.raise_atR];exact step_leave_panicked hleave
theorem vw {l n:Nat} {P:Program} {f:FuncId} {args:Array Value} {w:World} {R:Ending->World->Prop} (h:Calls P f args w R):CallsIn (Fence.wide.inRound l) n P f args w R :=
 show CallsIn Fence.wide n P f args w R from callsIn_wide.2 h
theorem lg {P:Program} {f:FuncId} {fn:Func} {c:Code} {args:Array Value} {w:World} {R:Ending->World->Prop} (hf:P.funcs[f]? = some fn) (hb:fn.body=some c)
  (h:wpF P f c (bodyPostM Fence.wide 0 P fn R) { tmps:=args++Array.replicate (fn.ntmps - args.size) undef,defers:=[] } w):Calls P f args w R:=by
 refine (callsIn_wide (n:=0)).1 ⟨trivial,fun cs hr=>?_⟩
 obtain ⟨b,hbe⟩:∃ b:Frame,b={ (default:Frame) with fn:=f,kind:=.normal,roundOf:=none }:=⟨_,rfl⟩
 have b1:b.fn=f:=by rw [hbe]
 have b2:b.kind=.normal:=by rw [hbe]
 have b3:b.roundOf=none:=by rw [hbe]
 have e0:Frame.enter P f args .normal=b.atR { tmps:=args++Array.replicate (fn.ntmps - args.size) undef,defers:=[] } [.code c]:=by
  rw [hbe];simp [Frame.enter,Frame.atR,hf,hb]
 obtain ⟨e,a',w',hq,h1⟩:=h b [] cs b3 b1;rw [e0]
 have out:∀ (u:FrameMode) (todo:List Item),LeavesInM Fence.wide 0 P fn a'.tmps R a'.defers u w' ->
   ∃ e w'' fr',R e w''/\ComesIn (Machine.fenced P Fence.wide) P (lone { b.atR a' todo with mode:=u } cs w') (lone fr' cs w'') e/\fr'.fn=f/\fr'.leaving P w'' e:=by
  intro u todo hl
  obtain ⟨e,w'',fr',h2,h3,h4,h5⟩:=leaves_stepsInM (n:=0) a'.defers u w' { b.atR a' todo with mode:=u } cs rfl rfl rfl (by show P.funcs[b.fn]? = some fn;rw [b1];exact hf) b2 trivial (room_wide _) hl
  exact ⟨e,w'',fr',h2,h3,h4.trans b1,h5⟩
 cases e with
 | normal =>
  obtain ⟨e,w'',fr',h2,h3,h4,h5⟩:=out .returning [] hq;exact ⟨e,w'',fr',h2,ComesIn.of_steps (StepsIn.trans h1 (.one (fenced_wide P _) (stepR_end b3))) h3,h4,h5⟩
 | ret =>
  obtain ⟨todo,hs⟩:=h1.1 b3;obtain ⟨e,w'',fr',h2,h3,h4,h5⟩:=out .returning todo hq;exact ⟨e,w'',fr',h2,ComesIn.of_steps hs h3,h4,h5⟩
 | panic ch =>
  obtain ⟨todo,hs⟩:=h1;obtain ⟨e,w'',fr',h2,h3,h4,h5⟩:=out (.panicking ch) todo hq;exact ⟨e,w'',fr',h2,ComesIn.of_steps hs h3,h4,h5⟩
 | exit id=>exact hq.elim
 | goto l=>exact hq.elim
 | outgrown=>exact ⟨.outgrown,w',b,hq,h1.resolve_left (by rw [b2];simp),b1,trivial⟩
end Go.Proofs.YtiiifecfdkjmbaaGreat
