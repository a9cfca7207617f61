/- Lemmas. Lemmas. Lemmas. -/
import Derived.Test.YtiiifecfdkjmbaaWorld1
import Derived.WalkLawsBesides
import Derived.Test.YtiiifecfdkjmbaaRange
set_option maxHeartbeats 1000000
namespace Go.Proofs.Ytiiifecfdkjmbaa
open _root_.Go.Proofs.Try hiding checked
set_option maxRecDepth 8000
open Go.RowKit Go.Shelf
def fI:List Mg->Bool
 | []=>true
 | [_]=>true
 | a::b::r=>decide (a.st < b.st) && fI (b::r)
theorem lT:∀ (ms:List Mg),fI ms=true↔∀ i a b,ms[i]? = some a->ms[i+1]? = some b->a.st < b.st
 | []=>by simp [fI]
 | [x]=>by
  refine ⟨fun _ i a b _ h2=>?_,fun _=>rfl⟩
  simp at h2
 | x::y::r=>by
  rw [fI,Bool.and_eq_true,lT (y::r),decide_eq_true_eq]
  constructor
  ·rintro ⟨h1,h2⟩ i a b ha hb
   cases i with
   | zero=>simp at ha hb;subst ha hb;exact h1
   | succ i=>exact h2 i a b (by simpa using ha) (by simpa using hb)
  ·intro h
   exact ⟨h 0 x y rfl rfl,fun i a b ha hb=>h (i+1) a b (by simpa using ha) (by simpa using hb)⟩
def gF (f:Int) (l:List Mg):Bool:=(l.all fun m=>decide (m.fr=f)) && fI l
def ay (d:Wd) (f t:Nat) (l:List Mg):Bool:=gF f l && (aH d l t && (decide (f≠t) || decide (l.length=0)))
theorem vD {α:Type} (l:List α):((l.length:Int) == 0)=decide (l.length=0):=by rw [Bool.eq_iff_iff];simp
theorem nD (f:Int) (l:List Mg):gF f l=true↔(∀ (i:Nat) (m:Mg),l[i]? = some m->m.fr=f)/\∀ i a b,l[i]? = some a->l[i+1]? = some b->a.st < b.st:=by
 unfold gF
 rw [Bool.and_eq_true,lT,List.all_eq_true]
 refine and_congr ⟨fun h i m hm=>by simpa using h m (List.mem_of_getElem? hm),fun h m hm=>?_⟩ Iff.rfl
 obtain ⟨i,hi⟩:=List.getElem?_of_mem hm
 simpa using h i m hi
theorem fE (w0:World) (x:WV) (d:Wd) (a:Option Addr) (len cap:Nat) (ms:List Mg) (n:Int) (v:Bool) (hv:aH d ms n=v) (hW:WAt w0 x d) (hM:dn w0 a len ms) (w:World) (h:Since w0 w) :
  Calls prog 84 #[.agg #[.slice x.ga x.gl x.gc,.slice x.na x.nl x.nc,.slice x.wa x.wl x.wc],.slice a len cap,.int .i64 n] w fun e w'=>e=.returned (.bool v)/\Since w0 w' :=
 (uN x d a len cap ms n w (hW.since h) (hM.since h)).mono fun _ _ ⟨he,hw⟩=>⟨by rw [<-hv];exact he,h.trans hw⟩
theorem uL (x:WV) (d:Wd) (f t:Nat) (row:List (List Mg)) (l:List Mg) (w:World) (hW:WAt w x d) (hr:d.wires[f]? = some row) (hl:row[t]? = some l) :
  Calls prog 49 #[.agg #[.slice x.ga x.gl x.gc,.slice x.na x.nl x.nc,.slice x.wa x.wl x.wc],.int .i64 f,.int .i64 t] w fun e w'=>e=.returned (.bool (ay d f t l))/\Since w w':=by
 have hfl:=(zQ2.1 hr).1
 have htl:=(zQ2.1 hl).1
 obtain ⟨ga,gl,gc,na,nl,nc,wa,wl,wc⟩:=x
 have hwl:=hW.r.hlen
 have hwm:=hW.r.hmax
 obtain ⟨bw,ow,hwa,hbw,hcw⟩:=hW.r.cells (by omega)
 dsimp only at hwl hwm hwa ⊢
 subst hwa
 obtain ⟨v1,k1,ra,rc,rfl,hrc,hR⟩:=hcw f row hr
 obtain ⟨br,orr,rfl,hbr,hcr⟩:=hR.cells (by omega)
 obtain ⟨v2,k2,la,lc,rfl,hlc,hM⟩:=hcr t l hl
 have hrm:=hR.hmax
 obtain ⟨_,hlm,hc⟩:=hM
 obtain ⟨w1,hw1⟩:∃ w1,w.alloc (.cells #[.slice ga gl gc,.slice na nl nc,.slice (some ⟨bw,ow,none⟩) wl wc] 26)=w1:=⟨_,rfl⟩
 have hS1:=au hw1
 have hsz:w1.heap.size=w.heap.size+1:=by rw [<-hw1];simp
 have b0:w1.cell? ⟨w.heap.size,0,none⟩=some (.slice ga gl gc):=by rw [<-hw1];simp [go_sem]
 have b1:w1.cell? ⟨w.heap.size,1,none⟩=some (.slice na nl nc):=by rw [<-hw1];simp [go_sem]
 have b2:w1.cell? ⟨w.heap.size,2,none⟩=some (.slice (some ⟨bw,ow,none⟩) wl wc):=by rw [<-hw1];simp [go_sem]
 have k1':w1.cell? ⟨bw,ow+f,none⟩=some (.slice (some ⟨br,orr,none⟩) row.length rc):=(hS1.cellAt hbw _).trans k1
 have k2':w1.cell? ⟨br,orr+t,none⟩=some (.slice la l.length lc):=(hS1.cellAt hbr _).trans k2
 have f1:(f:Int) < (wl:Int):=by omega
 have t1:(t:Int) < (row.length:Int):=by omega
 have hM1:dn w1 la l.length l:=dn.since ⟨rfl,hlm,hc⟩ hS1
 have hW1:=hW.since hS1
 have hne:Nonempty (Later w1):=⟨⟨w1,Since.refl w1⟩⟩
 clear hcw hcr hfl htl k1 k2 hwl
 go_enter func49,ntmps49
 go_wp2
 clear hw1 k1' k2'
 go_loopw [8] (fun i wr=>(∃ k:Nat,k<=l.length/\i=.int .i64 k/\(∀ (i:Nat) (m:Mg),i < k->l[i]? = some m->m.fr=f)/\∀ i a b,i+1 < k->l[i]? = some a->l[i+1]? = some b->a.st < b.st)/\Since w1 wr) (fun i _=>l.length - (intOf i).toNat)
 case atStart=>exact ⟨⟨0,Nat.zero_le _,rfl,fun i m h=>by omega,fun i a b h=>by omega⟩,Since.refl _⟩
 case round =>
  obtain ⟨⟨k,hk,rfl,hn1,hn2⟩,hS⟩:=hrel
  have H1:Hid (∀ (i:Nat) (m:Mg),i < k->l[i]? = some m->m.fr=f):=hn1
  have H2:Hid (∀ i a b,i+1 < k->l[i]? = some a->l[i+1]? = some b->a.st < b.st):=hn2
  clear hn1 hn2
  by_cases hlt:k < l.length
  ·obtain ⟨b,off,rfl,hb,hcell⟩:=hc (by omega)
   obtain ⟨m,hm⟩:∃ m,l[k]? = some m:=⟨_,zQ1 hlt⟩
   obtain ⟨d0,d1,d2,d3,d4⟩:=aX hcell k m hm
   have hg:∀ (y:Later w1) (o:Nat),y.w.cell? ⟨b,o,none⟩=w.cell? ⟨b,o,none⟩:=fun y o=>Later.old hS1 y o hb
   have HM:Hid (l[k]? = some m):=hm
   clear hm hc
   cases h1:(m.fr != (f:Int))
   ·have hfr:Hid (m.fr=f):=by unfold Hid;simpa using h1
    by_cases h0:0 < k
    ·obtain ⟨k',hk0,hk1,hlt'⟩:∃ k':Nat,k=k'+1/\(k:Int) - 1=(k':Int)/\k' < l.length:=⟨k - 1,by omega,by omega,by omega⟩
     have HK:Hid (k=k'+1):=hk0
     have hwk:IntKind.i64.wrap (k':Int)=(k':Int):=IntWalk.i64_in _ (by omega)
     obtain ⟨m',hm'⟩:∃ m',l[k']? = some m':=⟨_,zQ1 hlt'⟩
     obtain ⟨e0,e1,e2,e3,e4⟩:=aX hcell k' m' hm'
     have HM':Hid (l[k']? = some m'):=hm'
     have hd0:decide (0 < k)=true:=by simpa using h0
     clear hm' hcell hk0
     cases h2:decide (m.st<=m'.st)
     ·go_wp2_with fail
      refine aj (by kernel_rfl) (by kernel_rfl) hS ?_
      repeat (go_big_quiet_step (fail))
      refine wpQuiet_nil ?_
      intro w9 hS9
      go_wp2
      go_roundw
      case rel =>
       refine ⟨⟨k+1,by omega,by go_num,fun i y hi hy=>?_,fun i y z hi hy hz=>?_⟩,hS9⟩
       ·by_cases hik:i < k
        ·exact H1.out i y hik hy
        ·obtain rfl:i=k:=by omega
         have:=HM.out.symm.trans hy;cases this;exact hfr.out
       ·by_cases hik:i+1 < k
        ·exact H2.out i y z hik hy hz
        ·have e:i=k':=by have:=HK.out;omega
         subst e
         have a1:=HM'.out.symm.trans hy
         rw [<-HK.out] at hz
         have a2:=HM.out.symm.trans hz
         cases a1;cases a2
         have:¬ m.st<=m'.st:=by simpa using h2
         omega
      case measure=>simp [intOf];omega
     ·have HF:Hid (ay d f t l=false):=by
       unfold Hid ay
       have:gF f l=false:=by
        rw [<-Bool.not_eq_true,nD]
        rintro ⟨_,h⟩
        have:=h k' m' m HM'.out (by rw [<-HK.out];exact HM.out)
        have h3:m.st<=m'.st:=by simpa using h2
        omega
       rw [this];rfl
      go_wp2_with fail
      refine aj (by kernel_rfl) (by kernel_rfl) hS ?_
      repeat (go_big_quiet_step (fail))
      refine wpQuiet_nil ?_
      intro w9 hS9
      go_wp2
      go_ret
      exact ⟨by rw [HF.out];rfl,hS1.trans hS9⟩
    ·have hd0:decide (0 < k)=false:=by simpa using h0
     clear hcell
     go_wp2_with fail
     refine aj (by kernel_rfl) (by kernel_rfl) hS ?_
     repeat (go_big_quiet_step (fail))
     refine wpQuiet_nil ?_
     intro w9 hS9
     go_wp2
     go_roundw
     case rel =>
      refine ⟨⟨k+1,by omega,by go_num,fun i y hi hy=>?_,fun i y z hi hy hz=>by omega⟩,hS9⟩
      obtain rfl:i=k:=by omega
      have:=HM.out.symm.trans hy;cases this;exact hfr.out
     case measure=>simp [intOf];omega
   ·have HF:Hid (ay d f t l=false):=by
     unfold Hid ay
     have:gF f l=false:=by
      rw [<-Bool.not_eq_true,nD]
      rintro ⟨h,_⟩
      have:=h k m HM.out
      simp [this] at h1
     rw [this];rfl
    clear hcell
    go_wp2_with fail
    refine aj (by kernel_rfl) (by kernel_rfl) hS ?_
    repeat (go_big_quiet_step (fail))
    refine wpQuiet_nil ?_
    intro w9 hS9
    go_wp2
    go_ret
    exact ⟨by rw [HF.out];rfl,hS1.trans hS9⟩
  ·have HO:Hid (gF f l=true):=by
    unfold Hid
    rw [nD]
    refine ⟨fun i m hm=>H1.out i m ?_ hm,fun i a b ha hb=>H2.out i a b ?_ ha hb⟩
    ·have:=(zQ2.1 hm).1;omega
    ·have:=(zQ2.1 hb).1;omega
   have hg2:∀ o:Nat,wr.cell? ⟨w.heap.size,o,none⟩=w1.cell? ⟨w.heap.size,o,none⟩:=fun o=>hS.cellAt (by omega) o
   clear hc
   cases h3:aH d l t
   ·have HF:Hid (ay d f t l=false):=by unfold Hid ay;rw [h3];simp
    have H3:Hid (aH d l t=false):=h3
    clear h3
    go_wp2_with (go_at_call 84;refine (fE w1 ⟨ga,gl,gc,na,nl,nc,_,wl,wc⟩ d _ _ _ l _ _ H3.out hW1 hM1 _ hS).mono ?_;rintro e w' ⟨rfl,hS'⟩)
    go_ret
    exact ⟨by rw [HF.out];rfl,hS1.trans hS'⟩
   ·have H3:Hid (aH d l t=true):=h3
    cases h4:((f:Int) != (t:Int))
    ·have hft:Hid (f=t):=by unfold Hid;have h5:=h4;simp at h5;omega
     have HF:Hid (ay d f t l=decide (l.length=0)):=by unfold Hid ay;rw [HO.out,h3,hft.out];simp
     clear h3
     go_wp2_with (go_at_call 84;refine (fE w1 ⟨ga,gl,gc,na,nl,nc,_,wl,wc⟩ d _ _ _ l _ _ H3.out hW1 hM1 _ hS).mono ?_;rintro e w' ⟨rfl,hS'⟩)
     go_ret
     exact ⟨by rw [HF.out,<-vD];rfl,hS1.trans hS'⟩
    ·have hft:Hid (f≠t):=by unfold Hid;have h5:=h4;simp at h5;omega
     have HF:Hid (ay d f t l=true):=by unfold Hid ay;rw [HO.out,h3];simp [hft.out]
     clear h3
     go_wp2_with (go_at_call 84;refine (fE w1 ⟨ga,gl,gc,na,nl,nc,_,wl,wc⟩ d _ _ _ l _ _ H3.out hW1 hM1 _ hS).mono ?_;rintro e w' ⟨rfl,hS'⟩)
     go_ret
     exact ⟨by rw [HF.out];rfl,hS1.trans hS'⟩
def nI (e:Int) (b:Bool):Ending:=if b then .returned (.tuple #[]) else .panicked [{ v:=.iface 27 (.int .i64 e),recovered:=false }]
theorem vL (b off cap:Nat) (bs:List Bool) (hmax:bs.length<=1000) (w:World) (hc:∀ i x,bs[i]? = some x->w.cell? ⟨b,off+i,none⟩=some (.bool x)) :
  Calls prog 137 #[.slice (some ⟨b,off,none⟩) bs.length cap,.bool false] w fun e w'=>(∃ r:Int,e=.returned (.int .i64 r)/\decide (0<=r)=!bs.all id)/\w'=w:=by
 go_enter func137,ntmps137
 go_wp2_with fail
 go_loop [5,8] (fun _ i=>∃ k:Nat,k<=bs.length/\i=.int .i64 k/\(bs.take k).all id=true) (fun _ i=>bs.length - (intOf i).toNat)
 case atStart=>exact ⟨0,Nat.zero_le _,rfl,rfl⟩
 case round =>
  obtain ⟨k,hk,rfl,hn⟩:=hrel
  have HN:Hid ((bs.take k).all id=true):=hn
  clear hn
  by_cases hlt:k < bs.length
  ·obtain ⟨x,hx⟩:∃ x,bs[k]? = some x:=⟨_,zQ1 hlt⟩
   have hcx:=hc k x hx
   have HX:Hid (bs[k]? = some x):=hx
   clear hc hx
   cases x
   ·have HF:Hid (bs.all id=false):=by
     unfold Hid;rw [List.all_eq_false];exact ⟨false,List.mem_of_getElem? HX.out,by simp⟩
    go_wp2
    go_ret
    exact ⟨⟨_,rfl,by rw [HF.out];simp⟩,rfl⟩
   ·go_wp2
    go_round
    case rel =>
     refine ⟨k+1,by omega,by go_num, ?_⟩
     rw [List.take_add_one,List.all_append,HN.out,HX.out];rfl
    case measure=>simp [intOf];omega
  ·have HF:Hid (bs.all id=true):=by have:=HN.out;rw [List.take_of_length_le (by omega)] at this;exact this
   clear hc
   go_wp2
   go_ret
   exact ⟨⟨_,rfl,by rw [HF.out];rfl⟩,rfl⟩
theorem contains_false (b off cap:Nat) (bs:List Bool) (hmax:bs.length<=1000) (w:World) (hc:∀ i x,bs[i]? = some x->w.cell? ⟨b,off+i,none⟩=some (.bool x)) :
  Calls prog 106 #[.slice (some ⟨b,off,none⟩) bs.length cap,.bool false] w fun e w'=>e=.returned (.bool !bs.all id)/\w'=w:=by
 go_enter func106,ntmps106
 go_wp2_with (go_at_call 137;refine (vL _ _ _ bs hmax _ hc).mono ?_;rintro e w' ⟨⟨r,rfl,hr⟩,rfl⟩)
 go_ret
 exact ⟨by simp,rfl⟩
theorem vM (e:Int) (b off cap:Nat) (bs:List Bool) (hmax:bs.length<=1000) (w:World) (hc:∀ i x,bs[i]? = some x->w.cell? ⟨b,off+i,none⟩=some (.bool x)) :
  Calls prog 77 #[.int .i64 e,.slice (some ⟨b,off,none⟩) bs.length cap] w fun r w'=>r=nI e (bs.all id)/\w'=w:=by
 cases hb:bs.all id
 ·go_enter func77,ntmps77
  go_wp2_with (go_at_call 106;refine (contains_false _ _ _ bs hmax _ hc).mono ?_;rw [hb];rintro e w' ⟨rfl,rfl⟩)
  exact ⟨rfl,rfl,rfl⟩
 ·go_enter func77,ntmps77
  go_wp2_with (go_at_call 106;refine (contains_false _ _ _ bs hmax _ hc).mono ?_;rw [hb];rintro e w' ⟨rfl,rfl⟩)
  go_end0
  exact ⟨rfl,rfl⟩
theorem vv (e:Int) (x:Bool) (w:World) :
  Calls prog 77 #[.int .i64 e,.slice (some ⟨w.heap.size,0,none⟩) 1 1] (w.alloc (.cells #[.bool x] 4)) fun r w'=>r=nI e x/\w'=w.alloc (.cells #[.bool x] 4):=by
 refine (vM e w.heap.size 0 1 [x] (by simp) _ ?_).mono ?_
 ·intro i y hy
  match i,hy with
  | 0,hy=>cases hy;simp [go_sem]
  | i+1,hy=>simp at hy
 ·rintro r w' ⟨h,hw⟩;exact ⟨by simpa using h,hw⟩
theorem vw (e:Int) (x y:Bool) (w:World) :
  Calls prog 77 #[.int .i64 e,.slice (some ⟨w.heap.size,0,none⟩) 2 2] (w.alloc (.cells #[.bool x,.bool y] 4)) fun r w'=>r=nI e (x && y)/\w'=w.alloc (.cells #[.bool x,.bool y] 4):=by
 refine (vM e w.heap.size 0 2 [x,y] (by simp) _ ?_).mono ?_
 ·intro i z hz
  match i,hz with
  | 0,hz=>cases hz;simp [go_sem]
  | 1,hz=>cases hz;simp [go_sem]
  | i+2,hz=>simp at hz
 ·rintro r w' ⟨h,hw⟩;exact ⟨by simpa using h,hw⟩
theorem jO (x:Int) (w:World) :
  Calls prog 108 #[.int .i64 x] w fun e w'=>e=.returned (.bool (inB x 0 1048576))/\w'=w:=by
 by_cases h1:0<=x
 ·go_enter func108,ntmps108
  go_wp2
  go_ret
  exact ⟨by simp [inB,h1],rfl⟩
 ·go_enter func108,ntmps108
  go_wp2
  go_ret
  exact ⟨by simp [inB];omega,rfl⟩
theorem yx (a b:Mg) (w:World) :
  Calls prog 140 #[.agg #[.int .i64 a.fr,.int .i64 a.gr,.int .i64 a.st,.bool a.nul,.string a.body],.agg #[.int .i64 b.fr,.int .i64 b.gr,.int .i64 b.st,.bool b.nul,.string b.body]] w fun e w' =>
   e=.returned (.bool (decide (a.st < b.st)))/\w'=(w.alloc (.cells #[.int .i64 a.fr,.int .i64 a.gr,.int .i64 a.st,.bool a.nul,.string a.body] 48)).alloc (.cells #[.int .i64 b.fr,.int .i64 b.gr,.int .i64 b.st,.bool b.nul,.string b.body] 48):=by
 obtain ⟨af,ag,ast,an,ab⟩:=a
 obtain ⟨bf,bg,bst,bn,bb⟩:=b
 go_enter func140,ntmps140
 go_wp2
 go_ret
 exact ⟨by simp,rfl⟩
theorem wP (w0:World) (a b:Mg) (v:Bool) (hv:decide (a.st < b.st)=v) (w:World) (h:Since w0 w) :
  Calls prog 140 #[.agg #[.int .i64 a.fr,.int .i64 a.gr,.int .i64 a.st,.bool a.nul,.string a.body],.agg #[.int .i64 b.fr,.int .i64 b.gr,.int .i64 b.st,.bool b.nul,.string b.body]] w fun e w' =>
   e=.returned (.bool v)/\Since w0 w' :=
 (yx a b w).mono fun e w' ⟨he,hw⟩=>⟨by rw [<-hv];exact he,by rw [hw];exact (h.alloc _).alloc _⟩
theorem nT (ms:List Mg):fI ms=true↔∀ i a b,ms[i]? = some a->ms[i+1]? = some b->decide (a.st < b.st)=true:=by
 rw [lT];simp only [decide_eq_true_eq]
theorem rA (a:Option Addr) (len cap:Nat) (ms:List Mg) (w:World) (hM:dn w a len ms) :
  Calls prog 110 #[.slice a len cap,.func (.func 88) #[] #[]] w fun e w'=>e=.returned (.bool (aM ms))/\Since w w':=by
 obtain ⟨rfl,hmax,hc⟩:=hM
 go_enter func110,ntmps110
 go_wp2
 go_loopw [5] (fun i wr=>(∃ k:Nat,1<=k/\i=.int .i64 k/\∀ i a b,i+1 < k->ms[i]? = some a->ms[i+1]? = some b->lessM a b=true)/\Since w wr) (fun i _=>ms.length - (intOf i).toNat)
 case atStart=>exact ⟨⟨1,by omega,rfl,fun i a b h=>by omega⟩,Since.refl _⟩
 case round =>
  obtain ⟨⟨k,hk,rfl,hr⟩,hS⟩:=hrel
  have HR:Hid (∀ i a b,i+1 < k->ms[i]? = some a->ms[i+1]? = some b->lessM a b=true):=hr
  clear hr
  by_cases hlt:k < ms.length
  ·obtain ⟨k',hk0,hk1,hlt'⟩:∃ k':Nat,k=k'+1/\(k:Int) - 1=(k':Int)/\k' < ms.length:=⟨k - 1,by omega,by omega,by omega⟩
   have HK:Hid (k=k'+1):=hk0
   have hwk:IntKind.i64.wrap (k':Int)=(k':Int):=IntWalk.i64_in _ (by omega)
   obtain ⟨b,off,rfl,hb,hcell⟩:=hc (by omega)
   obtain ⟨m,hm⟩:∃ m,ms[k]? = some m:=⟨_,zQ1 hlt⟩
   obtain ⟨m',hm'⟩:∃ m',ms[k']? = some m':=⟨_,zQ1 hlt'⟩
   obtain ⟨d0,d1,d2,d3,d4⟩:=aX hcell k m hm
   obtain ⟨e0,e1,e2,e3,e4⟩:=aX hcell k' m' hm'
   have hne:Nonempty (Later w):=⟨⟨w,Since.refl w⟩⟩
   have hg:∀ (x:Later w) (o:Nat),x.w.cell? ⟨b,o,none⟩=w.cell? ⟨b,o,none⟩:=fun x o=>x.cell hb
   have HM:Hid (ms[k]? = some m):=hm
   have HM':Hid (ms[k']? = some m'):=hm'
   clear hm hm' hcell hc hk0
   cases hl:lessM m' m
   ·have HF:Hid (aM ms=false):=by
     unfold Hid
     rw [<-Bool.not_eq_true,gI]
     intro h
     have:=h k' m' m HM'.out (by rw [<-HK.out];exact HM.out)
     rw [hl] at this
     cases this
    go_wp2_with fail
    refine aj (by kernel_rfl) (by kernel_rfl) hS ?_
    repeat (go_big_quiet_step ((go_at_call 88;exact Later.call (lD w m' m _ hl))))
    refine wpQuiet_nil ?_
    intro w9 hS9
    go_wp2
    go_ret
    exact ⟨by rw [HF.out];rfl,hS9⟩
   ·have HF:Hid (∀ i a b,i+1 < k+1->ms[i]? = some a->ms[i+1]? = some b->lessM a b=true):=by
     intro i a b hi ha hb
     by_cases h:i+1 < k
     ·exact HR.out i a b h ha hb
     ·have e:i=k':=by have:=HK.out;omega
      subst e
      have h1:=HM'.out
      have h2:=HM.out
      rw [HK.out] at h2
      rw [h1] at ha
      rw [h2] at hb
      cases ha;cases hb
      exact hl
    go_wp2_with fail
    refine aj (by kernel_rfl) (by kernel_rfl) hS ?_
    repeat (go_big_quiet_step ((go_at_call 88;exact Later.call (lD w m' m _ hl))))
    refine wpQuiet_nil ?_
    intro w9 hS9
    go_wp2
    go_roundw
    case rel=>exact ⟨⟨k+1,by omega,by go_num,HF.out⟩,hS9⟩
    case measure=>simp [intOf];omega
  ·have HF:Hid (aM ms=true):=by
    unfold Hid
    rw [gI]
    intro i a b ha hb
    refine HR.out i a b ?_ ha hb
    have:=(zQ2.1 hb).1
    omega
   clear hc
   go_wp2
   go_ret
   exact ⟨by rw [HF.out];rfl,hS⟩
theorem vB (a:Option Addr) (len cap:Nat) (ms:List Mg) (w:World) (hM:dn w a len ms) :
  Calls prog 110 #[.slice a len cap,.func (.func 140) #[] #[]] w fun e w'=>e=.returned (.bool (fI ms))/\Since w w':=by
 obtain ⟨rfl,hmax,hc⟩:=hM
 go_enter func110,ntmps110
 go_wp2
 go_loopw [5] (fun i wr=>(∃ k:Nat,1<=k/\i=.int .i64 k/\∀ i a b,i+1 < k->ms[i]? = some a->ms[i+1]? = some b->decide (a.st < b.st)=true)/\Since w wr) (fun i _=>ms.length - (intOf i).toNat)
 case atStart=>exact ⟨⟨1,by omega,rfl,fun i a b h=>by omega⟩,Since.refl _⟩
 case round =>
  obtain ⟨⟨k,hk,rfl,hr⟩,hS⟩:=hrel
  have HR:Hid (∀ i a b,i+1 < k->ms[i]? = some a->ms[i+1]? = some b->decide (a.st < b.st)=true):=hr
  clear hr
  by_cases hlt:k < ms.length
  ·obtain ⟨k',hk0,hk1,hlt'⟩:∃ k':Nat,k=k'+1/\(k:Int) - 1=(k':Int)/\k' < ms.length:=⟨k - 1,by omega,by omega,by omega⟩
   have HK:Hid (k=k'+1):=hk0
   have hwk:IntKind.i64.wrap (k':Int)=(k':Int):=IntWalk.i64_in _ (by omega)
   obtain ⟨b,off,rfl,hb,hcell⟩:=hc (by omega)
   obtain ⟨m,hm⟩:∃ m,ms[k]? = some m:=⟨_,zQ1 hlt⟩
   obtain ⟨m',hm'⟩:∃ m',ms[k']? = some m':=⟨_,zQ1 hlt'⟩
   obtain ⟨d0,d1,d2,d3,d4⟩:=aX hcell k m hm
   obtain ⟨e0,e1,e2,e3,e4⟩:=aX hcell k' m' hm'
   have hne:Nonempty (Later w):=⟨⟨w,Since.refl w⟩⟩
   have hg:∀ (x:Later w) (o:Nat),x.w.cell? ⟨b,o,none⟩=w.cell? ⟨b,o,none⟩:=fun x o=>x.cell hb
   have HM:Hid (ms[k]? = some m):=hm
   have HM':Hid (ms[k']? = some m'):=hm'
   clear hm hm' hcell hc hk0
   cases hl:decide (m'.st < m.st)
   ·have HF:Hid (fI ms=false):=by
     unfold Hid
     rw [<-Bool.not_eq_true,nT]
     intro h
     have:=h k' m' m HM'.out (by rw [<-HK.out];exact HM.out)
     rw [hl] at this
     cases this
    go_wp2_with fail
    refine aj (by kernel_rfl) (by kernel_rfl) hS ?_
    repeat (go_big_quiet_step ((go_at_call 140;exact Later.call (wP w m' m _ hl))))
    refine wpQuiet_nil ?_
    intro w9 hS9
    go_wp2
    go_ret
    exact ⟨by rw [HF.out];rfl,hS9⟩
   ·have HF:Hid (∀ i a b,i+1 < k+1->ms[i]? = some a->ms[i+1]? = some b->decide (a.st < b.st)=true):=by
     intro i a b hi ha hb
     by_cases h:i+1 < k
     ·exact HR.out i a b h ha hb
     ·have e:i=k':=by have:=HK.out;omega
      subst e
      have h1:=HM'.out
      have h2:=HM.out
      rw [HK.out] at h2
      rw [h1] at ha
      rw [h2] at hb
      cases ha;cases hb
      exact hl
    go_wp2_with fail
    refine aj (by kernel_rfl) (by kernel_rfl) hS ?_
    repeat (go_big_quiet_step ((go_at_call 140;exact Later.call (wP w m' m _ hl))))
    refine wpQuiet_nil ?_
    intro w9 hS9
    go_wp2
    go_roundw
    case rel=>exact ⟨⟨k+1,by omega,by go_num,HF.out⟩,hS9⟩
    case measure=>simp [intOf];omega
  ·have HF:Hid (fI ms=true):=by
    unfold Hid
    rw [nT]
    intro i a b ha hb
    refine HR.out i a b ?_ ha hb
    have:=(zQ2.1 hb).1
    omega
   clear hc
   go_wp2
   go_ret
   exact ⟨by rw [HF.out];rfl,hS⟩
end Go.Proofs.Ytiiifecfdkjmbaa
