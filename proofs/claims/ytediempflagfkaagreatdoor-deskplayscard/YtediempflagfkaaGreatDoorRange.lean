/- Lemmas. Lemmas. Lemmas. Lemmas. Lemmas. -/
import Derived.Test.YtediempflagfkaaGreatDoorMsgB
import Derived.Deep.AppendSrc
set_option linter.unusedVariables false
set_option linter.unusedSimpArgs false
set_option linter.unnecessarySimpa false
namespace Go.Proofs.YtediempflagfkaaGreatDoor
open _root_.Go.Proofs.Tryz hiding checked
set_option maxRecDepth 8000
open Go.RowKit Go.Shelf
theorem Tryz.uS:(prog.info? 95).map (fun i=>(i.zero,i.size,i.bytes))=some (some (.agg #[.int .i64 0,.int .i64 0,.int .i64 0,.bool false,.string ByteArray.empty]),5,48):=by kernel_rfl
theorem ak.grown{w1 w w':World}{row:Option Nat}(h:ak w1 w)(hg:w.grownBy w' row)(hr:∀k,row=some k->w1.heap.size<=k):ak w1 w':=⟨h.below.grown hg h.size hr⟩
theorem ak.av{w1 w:World}(h:ak w1 w){b:Nat}(hb:b < w1.heap.size)(o:Nat):w.cell? ⟨b,o,none⟩=w1.cell? ⟨b,o,none⟩:=h.below.cell (p:=⟨b,o,none⟩) hb
theorem tO(b off j:Nat):(⟨b,off,none⟩:Addr).add j=⟨b,off+j,none⟩:=by
 by_cases h:j=0
 ·subst h;simp[Addr.add]
 ·simp[Addr.add,h]
theorem qm{ms:List Mg}{p j:Nat}{u:Value}(h:(flat (ms.take p))[j]? = some u):(flat ms)[j]? = some u:=by
 have e:flat ms=flat (ms.take p)++flat (ms.drop p):=by rw[<-fM,List.take_append_drop]
 rw[e,List.getElem?_append_left (zQ2.1 h).1];exact h
theorem kE{ms:List Mg}{p j:Nat}{u:Value}(hp:p<=ms.length)(h:(flat (ms.drop p))[j]? = some u):(flat ms)[p*5+j]? = some u:=by
 have e:flat ms=flat (ms.take p)++flat (ms.drop p):=by rw[<-fM,List.take_append_drop]
 have hl:(flat (ms.take p)).length=p*5:=by rw[dA];simp;omega
 rw[e,List.getElem?_append_right (by omega),hl];rw[show p*5+j - p*5=j from by omega];exact h
theorem iX(w:World)(m:Mg)(t:Nat):∀j u,m.cells[j]? = some u->(w.alloc (.cells #[.int .i64 m.fr,.int .i64 m.gr,.int .i64 m.st,.bool m.nul,.string m.body] t)).cell? ((⟨w.heap.size,0,none⟩:Addr).add j)=some u:=by
 intro j u hj;rw[tO];have hl:=(zQ2.1 hj).1;simp[Mg.cells]at hl
 rcases(show j=0\/j=1\/j=2\/j=3\/j=4 by omega) with rfl | rfl | rfl | rfl | rfl <;> simp[Mg.cells]at hj <;> subst hj <;> simp[go_sem]
def dV(m:Mg)(ms:List Mg):Int :=
 if bC ms=false then 1 else if 40<=ms.length then 2 else
  match ms[dK m ms]? with
  | some x=>if lessM m x then 0 else 1
  | none=>0
def gK(m:Mg)(ms:List Mg):List Mg:=if dV m ms=0 then ms.take (dK m ms)++[m]++ms.drop (dK m ms) else []
theorem lH(m:Mg)(ms:List Mg)(h:dV m ms=0):(gK m ms).length=ms.length+1:=by
 have:=mo m ms;unfold gK;rw[if_pos h];simp;omega
theorem nP(m:Mg)(ms:List Mg)(h:dV m ms≠0):gK m ms=[]:=by unfold gK;rw[if_neg h]
theorem kW{W:World}{base:Nat}{e:TypeId}{size:Nat}{x:Addr}{n k cap:Nat}{xs:List Value}(h:W.ownsRow base e size (.slice (some x) k cap) n xs):n<=cap:=by
 rcases h.2 with ⟨h1,_⟩ | ⟨g,cap',cur,h1,_,_,h4,_⟩
 ·cases h1
 ·simp only[Value.slice.injEq]at h1;rw[h1.2.2];exact h4
end Go.Proofs.YtediempflagfkaaGreatDoor
namespace Go.Proofs.YtediempflagfkaaGreatDoor
set_option maxRecDepth 8000
open Go.RowKit Go.Shelf
theorem ownsRow_form{W:World}{base:Nat}{e:TypeId}{size:Nat}{v:Value}{n:Nat}{xs:List Value}(h:W.ownsRow base e size v n xs):∃a cap,v=.slice a n cap/\n<=cap:=by
 rcases h.2 with ⟨rfl,rfl⟩ | ⟨g,cap,cur,rfl,_,_,h4,_⟩
 ·exact⟨none,0,rfl,Nat.le_refl _⟩
 ·exact⟨_,cap,rfl,h4⟩
theorem Later.old{w0 wr:World}(h:ak w0 wr)(x:Later wr){b:Nat}(o:Nat)(hb:b < w0.heap.size):x.w.cell? ⟨b,o,none⟩=w0.cell? ⟨b,o,none⟩:=(h.trans x.h).av hb o
theorem gU{w w':World}{base:Nat}{e:TypeId}{size:Nat}{v:Value}{n:Nat}{xs:List Value}(k:ak w w')(h:w.ownsRow base e size v n xs):w'.ownsRow base e size v n xs:=by
 refine⟨h.1, ?_⟩;rcases h.2 with h2 | ⟨g,cap,cur,e1,e2,e3,e4⟩
 ·exact .inl h2
 ·exact .inr ⟨g,cap,cur,e1,e2,(k.below.block g (zQ3.1 e3).1).trans e3,e4⟩
theorem PK{m x:Mg}{ms:List Mg}(h1:¬ bC ms=false)(h2:¬ 40<=ms.length)(h3:ms[dK m ms]? = some x):dV m ms=if lessM m x then 0 else 1:=by
 unfold dV;rw[if_neg h1,if_neg h2,h3]
theorem Od{m:Mg}{ms:List Mg}(h1:¬ bC ms=false)(h2:¬ 40<=ms.length)(h3:dK m ms=ms.length):dV m ms=0:=by
 unfold dV;rw[if_neg h1,if_neg h2,h3,List.getElem?_eq_none (Nat.le_refl _)]
theorem Mq{ms:List Mg}{k:Nat}{x:Mg}(h:ms[k]? = some x):flat (ms.take (k+1))=flat (ms.take k)++x.cells:=by
 rw[List.take_add_one,fM,h];simp[flat]
end Go.Proofs.YtediempflagfkaaGreatDoor
set_option maxHeartbeats 1000000
namespace Go.Proofs.YtediempflagfkaaGreatDoor
open _root_.Go.Proofs.Tryz hiding checked
set_option maxRecDepth 8000
open Go.RowKit Go.Shelf
structure Nd where
 aK:Int
 last:List (List Int)
 held:List Mg
 aG:List Mg
structure Wd where
 au:List Int
 ah:List Nd
 aB:List (List (List Mg))
structure WV where
 ga:Option Addr
 gl:Nat
 gc:Nat
 na:Option Addr
 nl:Nat
 nc:Nat
 wa:Option Addr
 wl:Nat
 wc:Nat
def zw(w:World)(v:Value)(xs:List Int):Prop:=∃a cap,v=.slice a xs.length cap/\xs.length<=cap/\Ints w a xs.length xs
def oq(w:World)(v:Value)(xs:List Mg):Prop:=∃a cap,v=.slice a xs.length cap/\xs.length<=cap/\gD w a xs.length xs
structure Slices {α:Type} (P:World->Value->α->Prop) (w:World) (a:Option Addr) (len:Nat) (xs:List α):Prop where
 bq:xs.length=len
 dY:len<=5864062014634
 cells:0 < len->∃b off,a=some ⟨b,off,none⟩/\b < w.heap.size/\∀i x,xs[i]? = some x->∃v,w.cell? ⟨b,off+i,none⟩=some v/\P w v x
def pG{α:Type}(P:World->Value->α->Prop)(w:World)(v:Value)(xs:List α):Prop:=∃a cap,v=.slice a xs.length cap/\xs.length<=cap/\Slices P w a xs.length xs
structure FJ (w:World) (b o:Nat) (x:Nd):Prop where
 clk:w.cell? ⟨b,o,none⟩=some (.int .i64 x.aK)
 last:∃v,w.cell? ⟨b,o+1,none⟩=some v/\pG zw w v x.last
 held:∃v,w.cell? ⟨b,o+2,none⟩=some v/\oq w v x.held
 aG:∃v,w.cell? ⟨b,o+3,none⟩=some v/\oq w v x.aG
structure Nodes (w:World) (a:Option Addr) (len:Nat) (xs:List Nd):Prop where
 bq:xs.length=len
 dY:len<=1759218604390
 cells:0 < len->∃b off,a=some ⟨b,off,none⟩/\b < w.heap.size/\∀i x,xs[i]? = some x->FJ w b (off+i*4) x
structure WAt (w:World) (x:WV) (d:Wd):Prop where
 g:Ints w x.ga x.gl d.au
 VX:x.gl<=x.gc
 n:Nodes w x.na x.nl d.ah
 VY:x.nl<=x.nc
 r:Slices (pG oq) w x.wa x.wl d.aB
 SL:x.wl<=x.wc
def Stable{α:Type}(P:World->Value->α->Prop):Prop:=∀w W v x,ak w W->P w v x->P W v x
theorem lg:Stable zw:=fun _ _ _ _ k ⟨a,cap,e,hc,h⟩=>⟨a,cap,e,hc,h.ay k⟩
theorem j4:Stable oq:=fun _ _ _ _ k ⟨a,cap,e,hc,h⟩=>⟨a,cap,e,hc,h.ay k⟩
theorem Slices.ay{α:Type}{P:World->Value->α->Prop}(hP:Stable P){w W:World}{a:Option Addr}{len:Nat}{xs:List α}(h:Slices P w a len xs)(k:ak w W):Slices P W a len xs:=by
 refine⟨h.bq,h.dY,fun hp=>?_⟩;obtain⟨b,off,e,hb,hc⟩:=h.cells hp;refine⟨b,off,e,by have:=k.size;omega,fun i x hx=>?_⟩;obtain⟨v,hv,hp⟩:=hc i x hx;exact⟨v,(k.av hb _).trans hv,hP _ _ _ _ k hp⟩
theorem oO{α:Type}{P:World->Value->α->Prop}(hP:Stable P):Stable (pG P):=fun _ _ _ _ k ⟨a,cap,e,hc,h⟩=>⟨a,cap,e,hc,h.ay hP k⟩
theorem FJ.ay{w W:World}{b o:Nat}{x:Nd}(h:FJ w b o x)(hb:b < w.heap.size)(k:ak w W):FJ W b o x:=by
 refine⟨(k.av hb _).trans h.clk, ?_, ?_, ?_⟩
 ·obtain⟨v,h1,h2⟩:=h.last;exact⟨v,(k.av hb _).trans h1,oO lg _ _ _ _ k h2⟩
 ·obtain⟨v,h1,h2⟩:=h.held;exact⟨v,(k.av hb _).trans h1,j4 _ _ _ _ k h2⟩
 ·obtain⟨v,h1,h2⟩:=h.aG;exact⟨v,(k.av hb _).trans h1,j4 _ _ _ _ k h2⟩
theorem Nodes.ay{w W:World}{a:Option Addr}{len:Nat}{xs:List Nd}(h:Nodes w a len xs)(k:ak w W):Nodes W a len xs:=by
 refine⟨h.bq,h.dY,fun hp=>?_⟩;obtain⟨b,off,e,hb,hc⟩:=h.cells hp;exact⟨b,off,e,by have:=k.size;omega,fun i x hx=>(hc i x hx).ay hb k⟩
theorem WAt.ay{w W:World}{x:WV}{d:Wd}(h:WAt w x d)(k:ak w W):WAt W x d :=
 ⟨h.g.ay k,h.VX,h.n.ay k,h.VY,h.r.ay (oO j4) k,h.SL⟩
def gQ(ms:List Mg):Bool:=ms.all fun m=>!m.nul
def jC(d:Wd)(n:Int)(m:Mg):Bool:=decide (iN d.ah.length d.au m=0) && hasB d.au m.gr n
def bW(d:Wd)(ms:List Mg)(n:Int):Bool:=ms.all (jC d n)
theorem ni{α:Type}{p:α->Bool}{xs:List α}{k:Nat}{x:α}(h:xs[k]? = some x)(hp:p x=false):xs.all p=false:=by
 rw[List.all_eq_false];exact⟨x,List.mem_of_getElem? h,by simp[hp]⟩
theorem jI{α:Type}{p:α->Bool}{xs:List α}{k:Nat}{x:α}(h:xs[k]? = some x)(h0:(xs.take k).all p=true)(hp:p x=true):(xs.take (k+1)).all p=true:=by
 rw[List.take_add_one,List.all_append,h0,h];simp[hp]
theorem Kt(a:Option Addr)(len cap:Nat)(ms:List Mg)(w:World)(hM:gD w a len ms) :
  Calls prog 113 #[.slice a len cap] w fun e w'=>e=.returned (.bool (gQ ms))/\w'=w:=by
 obtain⟨rfl,dY,hc⟩:=hM
 go_enter func113,ntmps113
 go_wp2
 go_loop [3] (fun i=>∃k:Nat,k<=ms.length/\i=.int .i64 k/\(ms.take k).all (fun m=>!m.nul)=true) (fun i=>ms.length - (intOf i).toNat)
 case atStart=>exact⟨0,Nat.zero_le _,rfl,rfl⟩
 case round =>
  obtain⟨k,hk,rfl,hn⟩:=hrel;have HN:Hid ((ms.take k).all (fun m=>!m.nul)=true):=hn;clear hn;by_cases hlt:k < ms.length
  ·obtain⟨b,off,rfl,hb,hcell⟩:=hc (by omega);obtain⟨m,hm⟩:∃m,ms[k]? = some m:=⟨_,zQ1 hlt⟩;obtain⟨d0,d1,d2,d3,d4⟩:=dM hcell k m hm;have HM:Hid (ms[k]? = some m):=hm;clear hm hcell hc;cases hl:m.nul
   ·rw[hl]at d3
    go_wp2
    go_round
    case rel=>exact⟨k+1,by omega,by go_num,jI HM.out HN.out (by simp[hl])⟩
    case measure=>simp[intOf];omega
   ·have HF:Hid (gQ ms=false):=ni HM.out (by simp[hl]);rw[hl]at d3
    go_wp2
    go_ret
    exact⟨by rw[HF.out];rfl,rfl⟩
  ·have HF:Hid (gQ ms=true):=by have:=HN.out;rw[List.take_of_length_le (by omega)]at this;exact this
   clear hc
   go_wp2
   go_ret
   exact⟨by rw[HF.out];rfl,rfl⟩
theorem wW(w0:World)(ah:Int)(a:Option Addr)(len cap:Nat)(xs:List Int)(m:Mg)(c:Int)(hc:iN ah xs m=c)(hI:Ints w0 a len xs)(w:World)(h:ak w0 w) :
  Calls prog 148 #[.int .i64 ah,.slice a len cap,.agg #[.int .i64 m.fr,.int .i64 m.gr,.int .i64 m.st,.bool m.nul,.string m.body]] w fun e w'=>e=.returned (.int .i64 c)/\ak w0 w' :=
 (EH ah a len cap xs m w (hI.ay h)).mono fun _ _ ⟨he,hw⟩=>⟨by rw[<-hc];exact he,h.trans hw⟩
theorem Le(w0:World)(a:Option Addr)(len cap:Nat)(xs:List Int)(g n:Int)(v:Bool)(hv:hasB xs g n=v)(hI:Ints w0 a len xs)(w:World)(h:ak w0 w) :
  Calls prog 68 #[.slice a len cap,.int .i64 g,.int .i64 n] w fun e w'=>e=.returned (.bool v)/\ak w0 w' :=
 (eu a len cap xs g n w (hI.ay h)).mono fun _ _ ⟨he,hw⟩=>⟨by rw[<-hv];exact he,by rw[hw];exact h⟩
theorem FK(x:WV)(d:Wd)(a:Option Addr)(len cap:Nat)(ms:List Mg)(n:Int)(w:World)(hW:WAt w x d)(hM:gD w a len ms) :
  Calls prog 114 #[.agg #[.slice x.ga x.gl x.gc,.slice x.na x.nl x.nc,.slice x.wa x.wl x.wc],.slice a len cap,.int .i64 n] w fun e w'=>e=.returned (.bool (bW d ms n))/\ak w w':=by
 obtain⟨rfl,dY,hc⟩:=hM;obtain⟨w1,hw1⟩:∃w1,w.alloc (.cells #[.slice x.ga x.gl x.gc,.slice x.na x.nl x.nc,.slice x.wa x.wl x.wc] 31)=w1:=⟨_,rfl⟩;have hS1:=aF hw1;have hsz:w1.heap.size=w.heap.size+1:=by rw[<-hw1];simp
 have b0:w1.cell? ⟨w.heap.size,0,none⟩=some (.slice x.ga x.gl x.gc):=by rw[<-hw1];simp[go_sem]
 have b1:w1.cell? ⟨w.heap.size,1,none⟩=some (.slice x.na x.nl x.nc):=by rw[<-hw1];simp[go_sem]
 have hI1:=hW.g.ay hS1;have hnl:=hW.n.bq;have hnm:=hW.n.dY;have HNL:Hid (d.ah.length=x.nl):=hnl;have hne:Nonempty (Later w1):=⟨⟨w1,ak.refl w1⟩⟩;have hg2:∀(y:Later w1) (o:Nat),y.w.cell? ⟨w.heap.size,o,none⟩=w1.cell? ⟨w.heap.size,o,none⟩:=fun y o=>y.cell (by omega);clear hnl
 go_enter func114,ntmps114
 go_wp2
 clear hw1
 go_loopw [7] (fun i wr=>(∃k:Nat,k<=ms.length/\i=.int .i64 k/\(ms.take k).all (jC d n)=true)/\ak w1 wr) (fun i _=>ms.length - (intOf i).toNat)
 case atStart=>exact⟨⟨0,Nat.zero_le _,rfl,rfl⟩,ak.refl _⟩
 case round =>
  obtain⟨⟨k,hk,rfl,hn⟩,hS⟩:=hrel;have HN:Hid ((ms.take k).all (jC d n)=true):=hn;clear hn;by_cases hlt:k < ms.length
  ·obtain⟨b,off,rfl,hb,hcell⟩:=hc (by omega);obtain⟨m,hm⟩:∃m,ms[k]? = some m:=⟨_,zQ1 hlt⟩;obtain⟨d0,d1,d2,d3,d4⟩:=dM hcell k m hm;have hg:∀(y:Later w1) (o:Nat),y.w.cell? ⟨b,o,none⟩=w.cell? ⟨b,o,none⟩:=fun y o=>Later.old hS1 y o hb;have HM:Hid (ms[k]? = some m):=hm;clear hm hcell hc;obtain⟨c,hce⟩:∃c,iN x.nl d.au m=c:=⟨_,rfl⟩;have HC:Hid (iN x.nl d.au m=c):=hce;clear hce;cases h1:(c != 0)
   ·have hc0:Hid (iN d.ah.length d.au m=0):=by unfold Hid;rw[HNL.out,HC.out];simpa using h1
    cases h2:hasB d.au m.gr n
    ·have HF:Hid (bW d ms n=false):=ni HM.out (by simp[jC,h2]);have H2:Hid (hasB d.au m.gr n=false):=h2;clear h2
     go_wp2_with fail
     refine aH (by kernel_rfl) (by kernel_rfl) hS ?_
     repeat (go_big_quiet_step ((first | (go_at_call 148;exact Later.call (wW w1 _ _ _ _ d.au m _ HC.out hI1)) | (go_at_call 68;exact Later.call (Le w1 _ _ _ d.au _ _ _ H2.out hI1)))))
     refine wpQuiet_nil ?_;intro w9 hS9
     go_wp2
     go_ret
     exact⟨by rw[HF.out];rfl,hS1.trans hS9⟩
    ·have HF:Hid ((ms.take (k+1)).all (jC d n)=true):=jI HM.out HN.out (by simp[jC,h2,hc0.out]);have H2:Hid (hasB d.au m.gr n=true):=h2;clear h2
     go_wp2_with fail
     refine aH (by kernel_rfl) (by kernel_rfl) hS ?_
     repeat (go_big_quiet_step ((first | (go_at_call 148;exact Later.call (wW w1 _ _ _ _ d.au m _ HC.out hI1)) | (go_at_call 68;exact Later.call (Le w1 _ _ _ d.au _ _ _ H2.out hI1)))))
     refine wpQuiet_nil ?_;intro w9 hS9
     go_wp2
     go_roundw
     case rel=>exact⟨⟨k+1,by omega,by go_num,HF.out⟩,hS9⟩
     case measure=>simp[intOf];omega
   ·have HF:Hid (bW d ms n=false):=ni HM.out (by
     have:¬ iN d.ah.length d.au m=0:=by rw[HNL.out,HC.out];simpa using h1
     simp[jC,this])
    go_wp2_with fail
    refine aH (by kernel_rfl) (by kernel_rfl) hS ?_
    repeat (go_big_quiet_step ((first | (go_at_call 148;exact Later.call (wW w1 _ _ _ _ d.au m _ HC.out hI1)))))
    refine wpQuiet_nil ?_;intro w9 hS9
    go_wp2
    go_ret
    exact⟨by rw[HF.out];rfl,hS1.trans hS9⟩
  ·have HF:Hid (bW d ms n=true):=by have:=HN.out;rw[List.take_of_length_le (by omega)]at this;exact this
   clear hc
   go_wp2
   go_ret
   exact⟨by rw[HF.out];rfl,hS1.trans hS⟩
end Go.Proofs.YtediempflagfkaaGreatDoor
set_option maxHeartbeats 1000000
namespace Go.Proofs.YtediempflagfkaaGreatDoor
open _root_.Go.Proofs.Tryz hiding checked
set_option maxRecDepth 8000
open Go.RowKit Go.Shelf
def gP:List Mg->Bool
 | []=>true
 | [_]=>true
 | a::b::r=>decide (a.st < b.st) && gP (b::r)
theorem uM:∀(ms:List Mg),gP ms=true↔∀i a b,ms[i]? = some a->ms[i+1]? = some b->a.st < b.st
 | []=>by simp[gP]
 | [x]=>by
  refine⟨fun _ i a b _ h2=>?_,fun _=>rfl⟩;simp at h2
 | x::y::r=>by
  rw[gP,Bool.and_eq_true,uM (y::r),decide_eq_true_eq];constructor
  ·rintro⟨h1,h2⟩ i a b ha hb
   cases i with
   | zero=>simp at ha hb;subst ha hb;exact h1
   | succ i=>exact h2 i a b (by simpa using ha) (by simpa using hb)
  ·intro h;exact⟨h 0 x y rfl rfl,fun i a b ha hb=>h (i+1) a b (by simpa using ha) (by simpa using hb)⟩
def kM(f:Int)(l:List Mg):Bool:=(l.all fun m=>decide (m.fr=f)) && gP l
def bA(d:Wd)(f t:Nat)(l:List Mg):Bool:=kM f l && (bW d l t && (decide (f≠t) || decide (l.length=0)))
theorem Gp{α:Type}(l:List α):((l.length:Int) == 0)=decide (l.length=0):=by rw[Bool.eq_iff_iff];simp
theorem wX(f:Int)(l:List Mg):kM f l=true↔(∀(i:Nat) (m:Mg),l[i]? = some m->m.fr=f)/\∀i a b,l[i]? = some a->l[i+1]? = some b->a.st < b.st:=by
 unfold kM;rw[Bool.and_eq_true,uM,List.all_eq_true];refine and_congr ⟨fun h i m hm=>by simpa using h m (List.mem_of_getElem? hm),fun h m hm=>?_⟩ Iff.rfl;obtain⟨i,hi⟩:=List.getElem?_of_mem hm;simpa using h i m hi
theorem jN(w0:World)(x:WV)(d:Wd)(a:Option Addr)(len cap:Nat)(ms:List Mg)(n:Int)(v:Bool)(hv:bW d ms n=v)(hW:WAt w0 x d)(hM:gD w0 a len ms)(w:World)(h:ak w0 w) :
  Calls prog 114 #[.agg #[.slice x.ga x.gl x.gc,.slice x.na x.nl x.nc,.slice x.wa x.wl x.wc],.slice a len cap,.int .i64 n] w fun e w'=>e=.returned (.bool v)/\ak w0 w' :=
 (FK x d a len cap ms n w (hW.ay h) (hM.ay h)).mono fun _ _ ⟨he,hw⟩=>⟨by rw[<-hv];exact he,h.trans hw⟩
theorem FI(x:WV)(d:Wd)(f t:Nat)(row:List (List Mg))(l:List Mg)(w:World)(hW:WAt w x d)(hr:d.aB[f]? = some row)(hl:row[t]? = some l) :
  Calls prog 84 #[.agg #[.slice x.ga x.gl x.gc,.slice x.na x.nl x.nc,.slice x.wa x.wl x.wc],.int .i64 f,.int .i64 t] w fun e w'=>e=.returned (.bool (bA d f t l))/\ak w w':=by
 have hfl:=(zQ2.1 hr).1;have htl:=(zQ2.1 hl).1;obtain⟨ga,gl,gc,na,nl,nc,wa,wl,wc⟩:=x;have hwl:=hW.r.bq;have hwm:=hW.r.dY;obtain⟨bw,ow,hwa,hbw,hcw⟩:=hW.r.cells (by omega);dsimp only at hwl hwm hwa ⊢;subst hwa;obtain⟨v1,k1,ra,rc,rfl,hrc,hR⟩:=hcw f row hr;obtain⟨br,orr,rfl,hbr,hcr⟩:=hR.cells (by omega);obtain⟨v2,k2,la,lc,rfl,hlc,hM⟩:=hcr t l hl;have hrm:=hR.dY;obtain⟨_,hlm,hc⟩:=hM;obtain⟨w1,hw1⟩:∃w1,w.alloc (.cells #[.slice ga gl gc,.slice na nl nc,.slice (some ⟨bw,ow,none⟩) wl wc] 31)=w1:=⟨_,rfl⟩;have hS1:=aF hw1;have hsz:w1.heap.size=w.heap.size+1:=by rw[<-hw1];simp
 have b0:w1.cell? ⟨w.heap.size,0,none⟩=some (.slice ga gl gc):=by rw[<-hw1];simp[go_sem]
 have b1:w1.cell? ⟨w.heap.size,1,none⟩=some (.slice na nl nc):=by rw[<-hw1];simp[go_sem]
 have b2:w1.cell? ⟨w.heap.size,2,none⟩=some (.slice (some ⟨bw,ow,none⟩) wl wc):=by rw[<-hw1];simp[go_sem]
 have k1':w1.cell? ⟨bw,ow+f,none⟩=some (.slice (some ⟨br,orr,none⟩) row.length rc):=(hS1.av hbw _).trans k1;have k2':w1.cell? ⟨br,orr+t,none⟩=some (.slice la l.length lc):=(hS1.av hbr _).trans k2;have f1:(f:Int) < (wl:Int):=by omega
 have t1:(t:Int) < (row.length:Int):=by omega
 have hM1:gD w1 la l.length l:=gD.ay ⟨rfl,hlm,hc⟩ hS1;have hW1:=hW.ay hS1;have hne:Nonempty (Later w1):=⟨⟨w1,ak.refl w1⟩⟩;clear hcw hcr hfl htl k1 k2 hwl
 go_enter func84,ntmps84
 go_wp2
 clear hw1 k1' k2'
 go_loopw [8] (fun i wr=>(∃k:Nat,k<=l.length/\i=.int .i64 k/\(∀(i:Nat) (m:Mg),i < k->l[i]? = some m->m.fr=f)/\∀i a b,i+1 < k->l[i]? = some a->l[i+1]? = some b->a.st < b.st)/\ak w1 wr) (fun i _=>l.length - (intOf i).toNat)
 case atStart=>exact⟨⟨0,Nat.zero_le _,rfl,fun i m h=>by omega,fun i a b h=>by omega⟩,ak.refl _⟩
 case round =>
  obtain⟨⟨k,hk,rfl,hn1,hn2⟩,hS⟩:=hrel;have H1:Hid (∀(i:Nat) (m:Mg),i < k->l[i]? = some m->m.fr=f):=hn1;have H2:Hid (∀i a b,i+1 < k->l[i]? = some a->l[i+1]? = some b->a.st < b.st):=hn2;clear hn1 hn2;by_cases hlt:k < l.length
  ·obtain⟨b,off,rfl,hb,hcell⟩:=hc (by omega);obtain⟨m,hm⟩:∃m,l[k]? = some m:=⟨_,zQ1 hlt⟩;obtain⟨d0,d1,d2,d3,d4⟩:=dM hcell k m hm;have hg:∀(y:Later w1) (o:Nat),y.w.cell? ⟨b,o,none⟩=w.cell? ⟨b,o,none⟩:=fun y o=>Later.old hS1 y o hb;have HM:Hid (l[k]? = some m):=hm;clear hm hc;cases h1:(m.fr != (f:Int))
   ·have hfr:Hid (m.fr=f):=by unfold Hid;simpa using h1
    by_cases h0:0 < k
    ·obtain⟨k',hk0,hk1,hlt'⟩:∃k':Nat,k=k'+1/\(k:Int) - 1=(k':Int)/\k' < l.length:=⟨k - 1,by omega,by omega,by omega⟩;have HK:Hid (k=k'+1):=hk0;have hwk:IntKind.i64.wrap (k':Int)=(k':Int):=IntWalk.i64_in _ (by omega);obtain⟨m',hm'⟩:∃m',l[k']? = some m':=⟨_,zQ1 hlt'⟩;obtain⟨e0,e1,e2,e3,e4⟩:=dM hcell k' m' hm';have HM':Hid (l[k']? = some m'):=hm';have hd0:decide (0 < k)=true:=by simpa using h0
     clear hm' hcell hk0;cases h2:decide (m.st<=m'.st)
     ·go_wp2_with fail
      refine aH (by kernel_rfl) (by kernel_rfl) hS ?_
      repeat (go_big_quiet_step (fail))
      refine wpQuiet_nil ?_;intro w9 hS9
      go_wp2
      go_roundw
      case rel =>
       refine⟨⟨k+1,by omega,by go_num,fun i y hi hy=>?_,fun i y z hi hy hz=>?_⟩,hS9⟩
       ·by_cases hik:i < k
        ·exact H1.out i y hik hy
        ·obtain rfl:i=k:=by omega
         have:=HM.out.symm.trans hy;cases this;exact hfr.out
       ·by_cases hik:i+1 < k
        ·exact H2.out i y z hik hy hz
        ·have e:i=k':=by have:=HK.out;omega
         subst e;have a1:=HM'.out.symm.trans hy;rw[<-HK.out]at hz;have a2:=HM.out.symm.trans hz;cases a1;cases a2;have:¬ m.st<=m'.st:=by simpa using h2
         omega
      case measure=>simp[intOf];omega
     ·have HF:Hid (bA d f t l=false):=by
       unfold Hid bA
       have:kM f l=false:=by
        rw[<-Bool.not_eq_true,wX];rintro⟨_,h⟩;have:=h k' m' m HM'.out (by rw[<-HK.out];exact HM.out);have h3:m.st<=m'.st:=by simpa using h2
        omega
       rw[this];rfl
      go_wp2_with fail
      refine aH (by kernel_rfl) (by kernel_rfl) hS ?_
      repeat (go_big_quiet_step (fail))
      refine wpQuiet_nil ?_;intro w9 hS9
      go_wp2
      go_ret
      exact⟨by rw[HF.out];rfl,hS1.trans hS9⟩
    ·have hd0:decide (0 < k)=false:=by simpa using h0
     clear hcell
     go_wp2_with fail
     refine aH (by kernel_rfl) (by kernel_rfl) hS ?_
     repeat (go_big_quiet_step (fail))
     refine wpQuiet_nil ?_;intro w9 hS9
     go_wp2
     go_roundw
     case rel =>
      refine⟨⟨k+1,by omega,by go_num,fun i y hi hy=>?_,fun i y z hi hy hz=>by omega⟩,hS9⟩;obtain rfl:i=k:=by omega
      have:=HM.out.symm.trans hy;cases this;exact hfr.out
     case measure=>simp[intOf];omega
   ·have HF:Hid (bA d f t l=false):=by
     unfold Hid bA
     have:kM f l=false:=by
      rw[<-Bool.not_eq_true,wX];rintro⟨h,_⟩;have:=h k m HM.out;simp[this]at h1
     rw[this];rfl
    clear hcell
    go_wp2_with fail
    refine aH (by kernel_rfl) (by kernel_rfl) hS ?_
    repeat (go_big_quiet_step (fail))
    refine wpQuiet_nil ?_;intro w9 hS9
    go_wp2
    go_ret
    exact⟨by rw[HF.out];rfl,hS1.trans hS9⟩
  ·have HO:Hid (kM f l=true):=by
    unfold Hid;rw[wX];refine⟨fun i m hm=>H1.out i m ?_ hm,fun i a b ha hb=>H2.out i a b ?_ ha hb⟩
    ·have:=(zQ2.1 hm).1;omega
    ·have:=(zQ2.1 hb).1;omega
   have hg2:∀o:Nat,wr.cell? ⟨w.heap.size,o,none⟩=w1.cell? ⟨w.heap.size,o,none⟩:=fun o=>hS.av (by omega) o;clear hc;cases h3:bW d l t
   ·have HF:Hid (bA d f t l=false):=by unfold Hid bA;rw[h3];simp
    have H3:Hid (bW d l t=false):=h3;clear h3
    go_wp2_with (go_at_call 114;refine(jN w1 ⟨ga,gl,gc,na,nl,nc,_,wl,wc⟩ d _ _ _ l _ _ H3.out hW1 hM1 _ hS).mono ?_;rintro e w' ⟨rfl,hS'⟩)
    go_ret
    exact⟨by rw[HF.out];rfl,hS1.trans hS'⟩
   ·have H3:Hid (bW d l t=true):=h3;cases h4:((f:Int) != (t:Int))
    ·have hft:Hid (f=t):=by unfold Hid;have h5:=h4;simp at h5;omega
     have HF:Hid (bA d f t l=decide (l.length=0)):=by unfold Hid bA;rw[HO.out,h3,hft.out];simp
     clear h3
     go_wp2_with (go_at_call 114;refine(jN w1 ⟨ga,gl,gc,na,nl,nc,_,wl,wc⟩ d _ _ _ l _ _ H3.out hW1 hM1 _ hS).mono ?_;rintro e w' ⟨rfl,hS'⟩)
     go_ret
     exact⟨by rw[HF.out,<-Gp];rfl,hS1.trans hS'⟩
    ·have hft:Hid (f≠t):=by unfold Hid;have h5:=h4;simp at h5;omega
     have HF:Hid (bA d f t l=true):=by unfold Hid bA;rw[HO.out,h3];simp[hft.out]
     clear h3
     go_wp2_with (go_at_call 114;refine(jN w1 ⟨ga,gl,gc,na,nl,nc,_,wl,wc⟩ d _ _ _ l _ _ H3.out hW1 hM1 _ hS).mono ?_;rintro e w' ⟨rfl,hS'⟩)
     go_ret
     exact⟨by rw[HF.out];rfl,hS1.trans hS'⟩
end Go.Proofs.YtediempflagfkaaGreatDoor
namespace Go.Proofs.YtediempflagfkaaGreatDoor
set_option maxRecDepth 8000
open Go.RowKit Go.Shelf
structure KX (n:Nat) (X:Option Nat) (A B:World):Prop where
 below:Below n A B
 cells:∀k o,A.heap[k]? = some o->o.isCells=true->some k≠X->B.heap[k]? = some o
def NC(A B:World):Prop:=∀(k:Nat) (o:Obj),A.heap[k]? = some o->o.isCells=false->B.heap[k]? = some o
theorem ak.block{A B:World}(h:ak A B){k:Nat}{o:Obj}(ho:A.heap[k]? = some o):B.heap[k]? = some o :=
 (h.below.block k (zQ3.1 ho).1).trans ho
theorem KX.refl(n:Nat)(X:Option Nat)(A:World):KX n X A A:=⟨Below.refl _ _,fun _ _ h _ _=>h⟩
theorem KX.trans{n:Nat}{X:Option Nat}{A B C:World}(h:KX n X A B)(k:KX n X B C):KX n X A C :=
 ⟨h.below.trans k.below,fun i o hi hc hx=>k.cells i o (h.cells i o hi hc hx) hc hx⟩
theorem KX.iD{n:Nat}{X:Option Nat}{A B:World}(h:ak A B)(hn:n<=A.heap.size):KX n X A B :=
 ⟨h.below.mono hn,fun _ _ hk _ _=>h.block hk⟩
theorem NC.iD{A B:World}(h:ak A B):NC A B:=fun _ _ hk _=>h.block hk
theorem KX.put{n:Nat}{X:Option Nat}{A:World}{l:Nat}{o:Obj}(o':Obj)(hl:A.heap[l]? = some o)(ho:o.isCells=false)(hn:n<=l):KX n X A (A.putObj l o'):=by
 refine⟨⟨rfl,rfl,rfl,by simp,fun k hk=>World.putObj_heap_other (by omega)⟩,fun k o1 hk hc _=>?_⟩;refine(World.putObj_heap_other ?_).trans hk;rintro rfl;rw[hl]at hk;cases hk;rw[ho]at hc;cases hc
theorem KX.weak{n m:Nat}{X:Option Nat}{A B:World}(h:KX n none A B)(hm:m<=n):KX m X A B :=
 ⟨h.below.mono hm,fun k o hk hc _=>h.cells k o hk hc (by simp)⟩
theorem KX.cell{n:Nat}{X:Option Nat}{A B:World}(h:KX n X A B){p:Addr}{v:Value}(hc:A.cell? p=some v)(hX:some p.block≠X):B.cell? p=some v:=by
 have:∃o,A.heap[p.block]? = some o/\o.isCells=true:=by
  unfold World.cell? at hc;split at hc
  ·rename_i c e z hb;exact⟨_,hb,rfl⟩
  ·cases hc
 obtain⟨o,ho,hoc⟩:=this;exact(World.cell?_of_block (w:=A) ((h.cells _ _ ho hoc hX).trans ho.symm)).trans hc
def Ru(P:Program)(l:Nat)(R:Ending->World->Prop):Exit->Act->World->Prop
 | .normal,_,w=>∃v w',(Instr.endRound l none).run P w=.ok v w'/\R (.returned v) w'
 | .panic ch,a,w=>a.defers=[]/\R (.panicked ch) w
 | _,_,_=>False
theorem K9{P:Program}{n l f:Nat}{fn:Func}{tmps:Array Value}{assign body:Code}{w:World}{R:Ending->World->Prop}(hf:P.funcs[f]? = some fn)
  (h:assign.wpIn (Fence.wide.inRound l) n P (Exit.then (fun a1 w1=>∃w2,(Instr.beginRound l).run P w1=.ok () w2/\body.wpIn (Fence.wide.inRound l) n P (Ru P l R) a1 w2) (fun _ _ _=>False)) { tmps:=tmps,defers:=[] } w) :
  RoundIn Fence.wide n P l f tmps assign body w R:=by
 refine⟨trivial,fun c cs _=>?_⟩
 obtain⟨b,hb⟩:∃b:Frame,b={ (default:Frame) with fn:=f,kind:=.normal,roundOf:=some l }:=⟨_,rfl⟩
 have b1:b.fn=f:=by rw[hb]
 have b2:b.kind=.normal:=by rw[hb]
 have b3:b.roundOf=some l:=by rw[hb]
 have e0:Frame.round l f tmps assign body .normal=b.atR { tmps:=tmps,defers:=[] } [.code assign,.beginRound,.code body]:=by
  rw[hb];simp[Frame.round,Frame.atR]
 rw[e0];obtain⟨e,a1,w1,hq,h1⟩:=h b [.beginRound,.code body] (c::cs) b3 trivial (room_wide _)
 match e,hq,h1 with
 | .normal,⟨w2,hbr,hbody⟩,h1 =>
  have s1:=StepsIn.trans h1 (.one (fenced_wide P _) (stepR_beginRound (a:=a1) (k:=[.code body]) (cs:=c::cs) b3 hbr));obtain⟨e2,a2,w3,hq2,h2⟩:=hbody b [] (c::cs) b3 trivial (room_wide _)
  match e2,hq2,h2 with
  | .normal,⟨v,w4,hend,hR⟩,h2 =>
   exact⟨.returned v,w4,hR,s1.trans (StepsIn.trans h2 (.one (fenced_wide P _) (stepR_round_end b3 b2 hend)))⟩
  | .panic ch,⟨hd,hR⟩,⟨todo,h2⟩ =>
   refine⟨.panicked ch,w3,hR,s1.trans (StepsIn.trans h2 (.one (fenced_wide P _) (step_leave_panicked ⟨rfl,hd,fn, ?_⟩)))⟩;show P.funcs[b.fn]? = some fn;rw[b1];exact hf
def wpF(P:Program)(f0:FuncId)(c:Code)(Q:Exit->Act->World->Prop)(a:Act)(w:World):Prop :=
 ∀(b:Frame) (k:List Item) (cs:List Frame),b.roundOf=none->b.fn=f0 ->
  ∃e a' w',Q e a' w'/\ArrivesIn (Machine.fenced P Fence.wide) P (lone (b.atR a (.code c::k)) cs w) b k cs e a' w'
theorem dw{P:Program}{f0:FuncId}{c:Code}{Q:Exit->Act->World->Prop}{a:Act}{w:World}(h:c.wp P Q a w):wpF P f0 c Q a w :=
 fun b k cs hro _=>(wpIn_wide (n:=0)).2 h b k cs hro trivial (room_wide _)
theorem eY{P:Program}{f0:FuncId}{x y:Code}{Q:Exit->Act->World->Prop}{a:Act}{w:World}(h:wpF P f0 x (Exit.then (wpF P f0 y Q) Q) a w):wpF P f0 (Code.seq x y) Q a w:=by
 intro b k cs hro hb;have h0:=fenced_wide P (lone (b.atR a (.code (.seq x y)::k)) cs w);obtain⟨e,a1,w1,hq,h1⟩:=h b (.code y::k) cs hro hb
 have pass:∀{e},ArrivesIn (Machine.fenced P Fence.wide) P (lone (b.atR a (.code x::.code y::k)) cs w) b (.code y::k) cs e a1 w1->e≠.normal->ArrivesIn (Machine.fenced P Fence.wide) P (lone (b.atR a (.code (.seq x y)::k)) cs w) b k cs e a1 w1:=by
  intro e hh hne
  cases e with
  | normal=>exact absurd rfl hne
  | _=>exact .of_steps (.one h0 stepR_seq) (.pass (x:=.code y) rfl (fun _ _=>.inl (by simp)) hh)
 cases e with
 | normal =>
  obtain⟨e2,a2,w2,hq2,h2⟩:=hq b k cs hro hb;exact⟨e2,a2,w2,hq2,.of_steps (.head h0 stepR_seq h1) h2⟩
 | _=>exact⟨_,a1,w1,hq,pass h1 (by simp)⟩
def Rv(Q:Exit->Act->World->Prop):Exit->Act->World->Prop
 | .normal,a,w=>Q .normal a w
 | .panic ch,a,w=>Q (.panic ch) a w
 | _,_,_=>False
theorem uZ{P:Program}{f0:FuncId}{id:Nat}{c:Code}{Q:Exit->Act->World->Prop}{a:Act}{w:World}(h:wpF P f0 c (Rv Q) a w):wpF P f0 (Code.block id c) Q a w:=by
 intro b k cs hro hb;have h0:=fenced_wide P (lone (b.atR a (.code (.block id c)::k)) cs w);obtain⟨e,a1,w1,hq,h1⟩:=h b (.inBlock id::k) cs hro hb
 match e,hq,h1 with
 | .normal,hq,h1=>exact⟨.normal,a1,w1,hq,.head h0 stepR_block (StepsIn.trans h1 (.one (fenced_wide P _) stepR_inBlock))⟩
 | .panic ch,hq,⟨todo,h1⟩=>exact⟨.panic ch,a1,w1,hq,todo,.head h0 stepR_block h1⟩
def PI{α:Type}(P:Program)(m:Nat)(g:Nat)(lb:Array Value)(encs:α->Array Value)(Kp:World->World->Prop)(E:Nat->α->Prop)(Sk:Nat->Prop)(N:Nat)(w:World):Prop :=
 ∀(l:Nat) (J:Nat->World->Prop) (Jp:List PanicEntry->World->Prop) (W:World),ak w W->(∀i A B,J i A->ak A B->J i B)->(∀i A,J i A->i < N->Sk i->J (i+1) A) ->
  (∀i x W1,J i W1->i < N->E i x->YieldAt Fence.wide (m - 1) P l (encs x) W1 fun e W' =>
   (e=.returned (.bool true)/\J (i+1) W'/\Kp W1 W')\/(∃ch,e=.panicked ch/\Jp ch W')) ->
  J 0 W ->
  CallsIn Fence.wide m P g (#[.func (.yield l) #[] #[]]++lb) W fun e W'=>(∃v,e=.returned v/\J N W')\/(∃ch,e=.panicked ch/\Jp ch W')
def TK(n0:Nat)(X:Option Nat)(I:Nat->World->Prop)(Ip:List PanicEntry->World->Prop)(i:Nat)(W:World):Exit->Act->World->Prop
 | .normal,_,W'=>NC W W'/\KX n0 X W W'/\I (i+1) W'
 | .panic ch,a,W'=>a.defers=[]/\NC W W'/\Ip ch W'
 | _,_,_=>False
theorem yP{α:Type}{P:Program}{f0:FuncId}{fn:Func}(hf:P.funcs[f0]? = some fn){g:Operand}{ps:Array Tmp}{assign body:Code}{Q:Exit->Act->World->Prop}{a:Act}{w:World}
  {gf:Nat} {lb:Array Value} (hg:a.eval g=.func (.func gf) #[] lb) (eg:∀args w,(callFunc gf args).run P w=.ok (.enter gf args) w)
  {m:Nat} {encs:α->Array Value} {n0:Nat} {X:Option Nat} {E:Nat->α->Prop} {Sk:Nat->Prop} {N:Nat} (hn0:n0<=w.heap.size) (hseq:PI P m gf lb encs (KX n0 X) E Sk N w) (hps:∀x,(encs x).size=ps.size)
  (I:Nat->World->Prop) (Ip:List PanicEntry->World->Prop) (hI:∀i A B,I i A->KX w.heap.size none A B->I i B) (TL:∀i A,I i A->i < N->Sk i->I (i+1) A) (h0:I 0 w)
  (J7:∀(l i:Nat) (x:α) (W W':World),w.heap.size<=W'.heap.size->I i W'->i < N->E i x ->
   assign.wpIn (Fence.wide.inRound l) (m - 1) P (Exit.then (fun a' W1=>W1=W/\body.wpIn (Fence.wide.inRound l) (m - 1) P (TK n0 X I Ip i W') a' W') (fun _ _ _=>False)) { tmps:=(ps.zip (encs x)).foldl (fun t (p,v)=>t.setIfInBounds p v) a.tmps,defers:=[] } W)
  (hdone:∀(D:Nat) (W:World),w.heap.size<=D->I N W->W.heap[D]? = some (.deferred (some []))->Q .normal { a with defers:={ target:=.collected D,args:=#[] }::a.defers } W)
  (Vv:∀(D:Nat) (ch:List PanicEntry) (W:World),w.heap.size<=D->Ip ch W->W.heap[D]? = some (.deferred (some []))->Q (.panic ch) { a with defers:={ target:=.collected D,args:=#[] }::a.defers } W) :
  wpF P f0 (Code.rangeFunc g ps assign body) Q a w:=by
 intro b k cs hro hb;obtain⟨rc,hrc⟩:∃rc:LoopState->Loop,rc=fun st=>{ state:=st,pending:=none,fn:=f0,tmps:=a.tmps,params:=ps,assign,body,defers:=w.heap.size }:=⟨_,rfl⟩;obtain⟨W1,hW1⟩:∃W1,(w.alloc (.deferred (some []))).alloc (.loop (rc .ready))=W1:=⟨_,rfl⟩;have hS1:ak w W1:=by rw[<-hW1];exact((ak.refl w).alloc _).alloc _
 have hL1:W1.heap[w.heap.size+1]? = some (.loop (rc .ready)):=by
  rw[<-hW1];have:=World.alloc_heap_new (w.alloc (.deferred (some []))) (.loop (rc .ready));rwa[World.size_alloc]at this
 have hK1:W1.heap[w.heap.size]? = some (.deferred (some [])):=by
  rw[<-hW1];exact(Below.heap_alloc _ _ _ (by simp)).trans (World.alloc_heap_new w _)
 have hsz1:w.heap.size<=W1.heap.size:=hS1.size
 have he:(Instr.enterLoop b.fn a.tmps ps assign body b.roundOf).run P w=.ok (w.heap.size+1,[{ target:=.collected w.heap.size,args:=#[] }]) W1:=by
  rw[hro,hb,<-hW1,hrc];exact run_enterLoop_outer _ _ _ _ _
 have hres:(resolve a.eval (rangeCall g (w.heap.size+1)) 0).run P W1=.ok { target:=.fn (.func gf) lb,args:=#[.func (.yield (w.heap.size+1)) #[] #[]] } W1:=by
  simp only[resolve,hg];simp[go_sem]
 have hinv:(invoke (.fn (.func gf) lb) #[.func (.yield (w.heap.size+1)) #[] #[]]).run P W1=.ok (.enter gf (#[.func (.yield (w.heap.size+1)) #[] #[]]++lb)) W1:=by simp[invoke,go_sem,eg]
 have henter:=stepR_rangeFunc (P:=P) (b:=b) (a:=a) (k:=k) (cs:=cs) (w:=w) he hres hinv
 have hcall:=hseq (w.heap.size+1)
  (fun i W=>w.heap.size<=W.heap.size/\I i W/\W.heap[w.heap.size+1]? = some (.loop (rc .ready))/\W.heap[w.heap.size]? = some (.deferred (some [])))
  (fun ch W=>Ip ch W/\W.heap[w.heap.size]? = some (.deferred (some [])))
  W1 hS1 (fun i A B hA hS=>⟨zQ5 hA.1 hS.size,hI i A B hA.2.1 (KX.iD hS hA.1),hS.block hA.2.2.1,hS.block hA.2.2.2⟩)
  (fun i A hA hi hk=>⟨hA.1,TL i A hA.2.1 hi hk,hA.2.2.1,hA.2.2.2⟩)
  (by
   rintro i x W ⟨hsz,hi,hl,hk⟩ hiN hx;have hlt:w.heap.size+1 < W.heap.size:=(zQ3.1 hl).1;have hy:=run_yield (P:=P) (args:=encs x) hl (by rw[hrc];exact hps x);have er:(rc .ready).fn=f0/\(rc .ready).assign=assign/\(rc .ready).body=body/\(rc .ready).params=ps/\(rc .ready).tmps=a.tmps:=by rw[hrc];exact⟨rfl,rfl,rfl,rfl,rfl⟩
   rw[er.1,er.2.1,er.2.2.1,er.2.2.2.1,er.2.2.2.2]at hy
   have k2:KX w.heap.size none W (W.putObj (w.heap.size+1) (.loop { rc .ready with state:=.busy })):=KX.put _ hl rfl (by omega)
   have hl2:(W.putObj (w.heap.size+1) (.loop { rc .ready with state:=.busy })).heap[w.heap.size+1]? = some (.loop { rc .ready with state:=.busy }):=World.putObj_heap_same hlt
   have hk2:(W.putObj (w.heap.size+1) (.loop { rc .ready with state:=.busy })).heap[w.heap.size]? = some (.deferred (some [])):=(World.putObj_heap_other (by omega)).trans hk
   refine⟨_,_,_,_,hy,K9 hf (wpIn_mono (J7 _ i x W _ (by simpa using hsz) (hI _ _ _ hi k2) hiN hx) ?_)⟩;intro e0 a0 W0 hp0
   match e0,hp0 with
   | .normal,⟨hWW,hb0⟩ =>
   subst hWW;refine⟨_,run_beginRound hl (by rw[hrc]),wpIn_mono hb0 ?_⟩;intro e a3 W3 hp
   match e,hp with
   | .normal,⟨hn3,hx3,hi3⟩ =>
    have hl3:=hn3 _ _ hl2 rfl;have hend:=run_endRound (P:=P) none hl3;have k4:KX w.heap.size none W3 (W3.putObj (w.heap.size+1) (.loop (rc .ready))):=KX.put _ hl3 rfl (by omega);refine⟨_,_,hend,.inl ⟨rfl,⟨?_,hI _ _ _ hi3 ?_, ?_, ?_⟩, ?_⟩⟩
    ·have:=hx3.below.size;simp only[World.putObj_size]at this ⊢;omega
    ·rw[hrc]at k4 ⊢;exact k4
    ·rw[hrc]at hl3 ⊢;exact World.putObj_heap_same (zQ3.1 hl3).1
    ·exact(World.putObj_heap_other (by omega)).trans (hn3 _ _ hk2 rfl)
    ·refine(k2.weak hn0).trans (hx3.trans ?_);rw[hrc]at k4 ⊢;exact k4.weak hn0
   | .panic ch,⟨hd,hn3,hp3⟩=>exact⟨hd,.inr ⟨ch,rfl,hp3,hn3 _ _ hk2 rfl⟩⟩)
  ⟨hsz1,hI _ _ _ h0 (KX.iD hS1 (Nat.le_refl _)),hL1,hK1⟩
 obtain⟨e,w3,fr,hR,hsteps,hfn,hleave⟩:=hcall.2 (b.atR { a with defers:={ target:=.collected w.heap.size,args:=#[] }::a.defers } (.inRangeFunc (w.heap.size+1)::k)::cs) (room_wide _)
 rcases hR with ⟨v,rfl,hsz,hi,hl,hk⟩ | ⟨ch,rfl,hi,hk⟩
 ·have hend:=run_endLoop (P:=P) hl (by rw[hrc];simp)
  have k4:KX w.heap.size none w3 (w3.putObj (w.heap.size+1) (.loop { rc .ready with state:=.exhausted })):=KX.put _ hl rfl (by omega)
  refine⟨.normal,_,_,hdone _ _ (Nat.le_refl _) (hI _ _ _ hi k4) ((World.putObj_heap_other (by omega)).trans hk), ?_⟩;have hp0:(rc .ready).pending=none:=by rw[hrc]
  replace hend:=hend.trans (congrArg (fun p=>Result.ok p (w3.putObj (w.heap.size+1) (.loop { rc .ready with state:=.exhausted }))) hp0)
  have h9:step P (lone fr (b.atR { a with defers:={ target:=.collected w.heap.size,args:=#[] }::a.defers } (.inRangeFunc (w.heap.size+1)::k)::cs) w3)=.next (lone (b.atR { a with defers:={ target:=.collected w.heap.size,args:=#[] }::a.defers } (.endRangeFunc (w.heap.size+1)::k)) cs w3):=by
   rw[<-finish_atR_inRangeFunc (w.heap.size+1) v];exact step_leave_returned hleave
  exact .head (fenced_wide P _) henter (StepsIn.trans hsteps (.head (fenced_wide P _) h9 (.one (fenced_wide P _) (stepR_endRangeFunc hend))))
 ·refine⟨.panic ch,_,w3,Vv _ _ _ (Nat.le_refl _) hi hk,.inRangeFunc (w.heap.size+1)::k,.head (fenced_wide P _) henter (StepsIn.trans hsteps (.one (fenced_wide P _) ?_))⟩;rw[<-Frame.raise_atR];exact step_leave_panicked hleave
theorem ng{l n:Nat}{P:Program}{f:FuncId}{args:Array Value}{w:World}{R:Ending->World->Prop}(h:Calls P f args w R):CallsIn (Fence.wide.inRound l) n P f args w R :=
 show CallsIn Fence.wide n P f args w R from callsIn_wide.2 h
theorem iY{P:Program}{f:FuncId}{fn:Func}{c:Code}{args:Array Value}{w:World}{R:Ending->World->Prop}(hf:P.funcs[f]? = some fn)(hb:fn.body=some c)
  (h:wpF P f c (bodyPostM Fence.wide 0 P fn R) { tmps:=args++Array.replicate (fn.ntmps - args.size) undef,defers:=[] } w):Calls P f args w R:=by
 refine(callsIn_wide (n:=0)).1 ⟨trivial,fun cs hr=>?_⟩
 obtain⟨b,hbe⟩:∃b:Frame,b={ (default:Frame) with fn:=f,kind:=.normal,roundOf:=none }:=⟨_,rfl⟩
 have b1:b.fn=f:=by rw[hbe]
 have b2:b.kind=.normal:=by rw[hbe]
 have b3:b.roundOf=none:=by rw[hbe]
 have e0:Frame.enter P f args .normal=b.atR { tmps:=args++Array.replicate (fn.ntmps - args.size) undef,defers:=[] } [.code c]:=by
  rw[hbe];simp[Frame.enter,Frame.atR,hf,hb]
 obtain⟨e,a',w',hq,h1⟩:=h b [] cs b3 b1;rw[e0]
 have out:∀(u:FrameMode) (todo:List Item),LeavesInM Fence.wide 0 P fn a'.tmps R a'.defers u w' ->
   ∃e w'' fr',R e w''/\ComesIn (Machine.fenced P Fence.wide) P (lone { b.atR a' todo with mode:=u } cs w') (lone fr' cs w'') e/\fr'.fn=f/\fr'.leaving P w'' e:=by
  intro u todo hl
  obtain⟨e,w'',fr',h2,h3,h4,h5⟩:=leaves_stepsInM (n:=0) a'.defers u w' { b.atR a' todo with mode:=u } cs rfl rfl rfl (by show P.funcs[b.fn]? = some fn;rw[b1];exact hf) b2 trivial (room_wide _) hl
  exact⟨e,w'',fr',h2,h3,h4.trans b1,h5⟩
 cases e with
 | normal =>
  obtain⟨e,w'',fr',h2,h3,h4,h5⟩:=out .returning [] hq;exact⟨e,w'',fr',h2,ComesIn.of_steps (StepsIn.trans h1 (.one (fenced_wide P _) (stepR_end b3))) h3,h4,h5⟩
 | ret =>
  obtain⟨todo,hs⟩:=h1.1 b3;obtain⟨e,w'',fr',h2,h3,h4,h5⟩:=out .returning todo hq;exact⟨e,w'',fr',h2,ComesIn.of_steps hs h3,h4,h5⟩
 | panic ch =>
  obtain⟨todo,hs⟩:=h1;obtain⟨e,w'',fr',h2,h3,h4,h5⟩:=out (.panicking ch) todo hq;exact⟨e,w'',fr',h2,ComesIn.of_steps hs h3,h4,h5⟩
 | exit id=>exact hq.elim
 | goto l=>exact hq.elim
 | outgrown=>exact⟨.outgrown,w',b,hq,h1.resolve_left (by rw[b2];simp),b1,trivial⟩
end Go.Proofs.YtediempflagfkaaGreatDoor
