/- Lemmas. Lemmas. Lemmas. Lemmas. -/
import Derived.Test.YtiiifecfdkjmbaaGreatRange
import Derived.WalkLawsBesides
set_option maxHeartbeats 1000000
namespace Go.Proofs.YtiiifecfdkjmbaaGreat
open _root_.Go.Proofs.Tryz hiding checked
set_option maxRecDepth 8000
open Go.RowKit Go.Shelf
def gU:List Mg->Bool
 | []=>true
 | [_]=>true
 | a::b::r=>decide (a.st < b.st) && gU (b::r)
theorem tQ:∀ (ms:List Mg),gU ms=true↔∀ i a b,ms[i]? = some a->ms[i+1]? = some b->a.st < b.st
 | []=>by simp [gU]
 | [x]=>by
  refine ⟨fun _ i a b _ h2=>?_,fun _=>rfl⟩;simp at h2
 | x::y::r=>by
  rw [gU,Bool.and_eq_true,tQ (y::r),decide_eq_true_eq];constructor
  ·rintro ⟨h1,h2⟩ i a b ha hb
   cases i with
   | zero=>simp at ha hb;subst ha hb;exact h1
   | succ i=>exact h2 i a b (by simpa using ha) (by simpa using hb)
  ·intro h;exact ⟨h 0 x y rfl rfl,fun i a b ha hb=>h (i+1) a b (by simpa using ha) (by simpa using hb)⟩
def kG (f:Int) (l:List Mg):Bool:=(l.all fun m=>decide (m.fr=f)) && gU l
def aN (d:Wd) (f t:Nat) (l:List Mg):Bool:=kG f l && (bB d l t && (decide (f≠t) || decide (l.length=0)))
theorem Fj {α:Type} (l:List α):((l.length:Int) == 0)=decide (l.length=0):=by rw [Bool.eq_iff_iff];simp
theorem vZ (f:Int) (l:List Mg):kG f l=true↔(∀ (i:Nat) (m:Mg),l[i]? = some m->m.fr=f)/\∀ i a b,l[i]? = some a->l[i+1]? = some b->a.st < b.st:=by
 unfold kG;rw [Bool.and_eq_true,tQ,List.all_eq_true];refine and_congr ⟨fun h i m hm=>by simpa using h m (List.mem_of_getElem? hm),fun h m hm=>?_⟩ Iff.rfl;obtain ⟨i,hi⟩:=List.getElem?_of_mem hm;simpa using h i m hi
theorem jI (w0:World) (x:WV) (d:Wd) (a:Option Addr) (len cap:Nat) (ms:List Mg) (n:Int) (v:Bool) (hv:bB d ms n=v) (hW:WAt w0 x d) (hM:fA w0 a len ms) (w:World) (h:Since w0 w) :
  Calls prog 156 #[.agg #[.slice x.ga x.gl x.gc,.slice x.na x.nl x.nc,.slice x.wa x.wl x.wc],.slice a len cap,.int .i64 n] w fun e w'=>e=.returned (.bool v)/\Since w0 w' :=
 (EF x d a len cap ms n w (hW.since h) (hM.since h)).mono fun _ _ ⟨he,hw⟩=>⟨by rw [<-hv];exact he,h.trans hw⟩
theorem EC (x:WV) (d:Wd) (f t:Nat) (row:List (List Mg)) (l:List Mg) (w:World) (hW:WAt w x d) (hr:d.wires[f]? = some row) (hl:row[t]? = some l) :
  Calls prog 99 #[.agg #[.slice x.ga x.gl x.gc,.slice x.na x.nl x.nc,.slice x.wa x.wl x.wc],.int .i64 f,.int .i64 t] w fun e w'=>e=.returned (.bool (aN d f t l))/\Since w w':=by
 have hfl:=(zQ2.1 hr).1;have htl:=(zQ2.1 hl).1;obtain ⟨ga,gl,gc,na,nl,nc,wa,wl,wc⟩:=x;have hwl:=hW.r.hlen;have hwm:=hW.r.hmax;obtain ⟨bw,ow,hwa,hbw,hcw⟩:=hW.r.cells (by omega);dsimp only at hwl hwm hwa ⊢;subst hwa;obtain ⟨v1,k1,ra,rc,rfl,hrc,hR⟩:=hcw f row hr;obtain ⟨br,orr,rfl,hbr,hcr⟩:=hR.cells (by omega);obtain ⟨v2,k2,la,lc,rfl,hlc,hM⟩:=hcr t l hl;have hrm:=hR.hmax;obtain ⟨_,hlm,hc⟩:=hM;obtain ⟨w1,hw1⟩:∃ w1,w.alloc (.cells #[.slice ga gl gc,.slice na nl nc,.slice (some ⟨bw,ow,none⟩) wl wc] 26)=w1:=⟨_,rfl⟩;have hS1:=ay hw1;have hsz:w1.heap.size=w.heap.size+1:=by rw [<-hw1];simp
 have b0:w1.cell? ⟨w.heap.size,0,none⟩=some (.slice ga gl gc):=by rw [<-hw1];simp [go_sem]
 have b1:w1.cell? ⟨w.heap.size,1,none⟩=some (.slice na nl nc):=by rw [<-hw1];simp [go_sem]
 have b2:w1.cell? ⟨w.heap.size,2,none⟩=some (.slice (some ⟨bw,ow,none⟩) wl wc):=by rw [<-hw1];simp [go_sem]
 have k1':w1.cell? ⟨bw,ow+f,none⟩=some (.slice (some ⟨br,orr,none⟩) row.length rc):=(hS1.cellAt hbw _).trans k1;have k2':w1.cell? ⟨br,orr+t,none⟩=some (.slice la l.length lc):=(hS1.cellAt hbr _).trans k2;have f1:(f:Int) < (wl:Int):=by omega
 have t1:(t:Int) < (row.length:Int):=by omega
 have hM1:fA w1 la l.length l:=fA.since ⟨rfl,hlm,hc⟩ hS1;have hW1:=hW.since hS1;have hne:Nonempty (Later w1):=⟨⟨w1,Since.refl w1⟩⟩;clear hcw hcr hfl htl k1 k2 hwl
 go_enter func99,ntmps99
 go_wp2
 clear hw1 k1' k2'
 go_loopw [8] (fun i wr=>(∃ k:Nat,k<=l.length/\i=.int .i64 k/\(∀ (i:Nat) (m:Mg),i < k->l[i]? = some m->m.fr=f)/\∀ i a b,i+1 < k->l[i]? = some a->l[i+1]? = some b->a.st < b.st)/\Since w1 wr) (fun i _=>l.length - (intOf i).toNat)
 case atStart=>exact ⟨⟨0,Nat.zero_le _,rfl,fun i m h=>by omega,fun i a b h=>by omega⟩,Since.refl _⟩
 case round =>
  obtain ⟨⟨k,hk,rfl,hn1,hn2⟩,hS⟩:=hrel;have H1:Hid (∀ (i:Nat) (m:Mg),i < k->l[i]? = some m->m.fr=f):=hn1;have H2:Hid (∀ i a b,i+1 < k->l[i]? = some a->l[i+1]? = some b->a.st < b.st):=hn2;clear hn1 hn2;by_cases hlt:k < l.length
  ·obtain ⟨b,off,rfl,hb,hcell⟩:=hc (by omega);obtain ⟨m,hm⟩:∃ m,l[k]? = some m:=⟨_,zQ1 hlt⟩;obtain ⟨d0,d1,d2,d3,d4⟩:=bP hcell k m hm;have hg:∀ (y:Later w1) (o:Nat),y.w.cell? ⟨b,o,none⟩=w.cell? ⟨b,o,none⟩:=fun y o=>Later.old hS1 y o hb;have HM:Hid (l[k]? = some m):=hm;clear hm hc;cases h1:(m.fr != (f:Int))
   ·have hfr:Hid (m.fr=f):=by unfold Hid;simpa using h1
    by_cases h0:0 < k
    ·obtain ⟨k',hk0,hk1,hlt'⟩:∃ k':Nat,k=k'+1/\(k:Int) - 1=(k':Int)/\k' < l.length:=⟨k - 1,by omega,by omega,by omega⟩;have HK:Hid (k=k'+1):=hk0;have hwk:IntKind.i64.wrap (k':Int)=(k':Int):=IntWalk.i64_in _ (by omega);obtain ⟨m',hm'⟩:∃ m',l[k']? = some m':=⟨_,zQ1 hlt'⟩;obtain ⟨e0,e1,e2,e3,e4⟩:=bP hcell k' m' hm';have HM':Hid (l[k']? = some m'):=hm';have hd0:decide (0 < k)=true:=by simpa using h0
     clear hm' hcell hk0;cases h2:decide (m.st<=m'.st)
     ·go_wp2_with fail
      refine av (by kernel_rfl) (by kernel_rfl) hS ?_
      repeat (go_big_quiet_step (fail))
      refine wpQuiet_nil ?_;intro w9 hS9
      go_wp2
      go_roundw
      case rel =>
       refine ⟨⟨k+1,by omega,by go_num,fun i y hi hy=>?_,fun i y z hi hy hz=>?_⟩,hS9⟩
       ·by_cases hik:i < k
        ·exact H1.out i y hik hy
        ·obtain rfl:i=k:=by omega
         have:=HM.out.symm.trans hy;cases this;exact hfr.out
       ·by_cases hik:i+1 < k
        ·exact H2.out i y z hik hy hz
        ·have e:i=k':=by have:=HK.out;omega
         subst e;have a1:=HM'.out.symm.trans hy;rw [<-HK.out] at hz;have a2:=HM.out.symm.trans hz;cases a1;cases a2;have:¬ m.st<=m'.st:=by simpa using h2
         omega
      case measure=>simp [intOf];omega
     ·have HF:Hid (aN d f t l=false):=by
       unfold Hid aN
       have:kG f l=false:=by
        rw [<-Bool.not_eq_true,vZ];rintro ⟨_,h⟩;have:=h k' m' m HM'.out (by rw [<-HK.out];exact HM.out);have h3:m.st<=m'.st:=by simpa using h2
        omega
       rw [this];rfl
      go_wp2_with fail
      refine av (by kernel_rfl) (by kernel_rfl) hS ?_
      repeat (go_big_quiet_step (fail))
      refine wpQuiet_nil ?_;intro w9 hS9
      go_wp2
      go_ret
      exact ⟨by rw [HF.out];rfl,hS1.trans hS9⟩
    ·have hd0:decide (0 < k)=false:=by simpa using h0
     clear hcell
     go_wp2_with fail
     refine av (by kernel_rfl) (by kernel_rfl) hS ?_
     repeat (go_big_quiet_step (fail))
     refine wpQuiet_nil ?_;intro w9 hS9
     go_wp2
     go_roundw
     case rel =>
      refine ⟨⟨k+1,by omega,by go_num,fun i y hi hy=>?_,fun i y z hi hy hz=>by omega⟩,hS9⟩;obtain rfl:i=k:=by omega
      have:=HM.out.symm.trans hy;cases this;exact hfr.out
     case measure=>simp [intOf];omega
   ·have HF:Hid (aN d f t l=false):=by
     unfold Hid aN
     have:kG f l=false:=by
      rw [<-Bool.not_eq_true,vZ];rintro ⟨h,_⟩;have:=h k m HM.out;simp [this] at h1
     rw [this];rfl
    clear hcell
    go_wp2_with fail
    refine av (by kernel_rfl) (by kernel_rfl) hS ?_
    repeat (go_big_quiet_step (fail))
    refine wpQuiet_nil ?_;intro w9 hS9
    go_wp2
    go_ret
    exact ⟨by rw [HF.out];rfl,hS1.trans hS9⟩
  ·have HO:Hid (kG f l=true):=by
    unfold Hid;rw [vZ];refine ⟨fun i m hm=>H1.out i m ?_ hm,fun i a b ha hb=>H2.out i a b ?_ ha hb⟩
    ·have:=(zQ2.1 hm).1;omega
    ·have:=(zQ2.1 hb).1;omega
   have hg2:∀ o:Nat,wr.cell? ⟨w.heap.size,o,none⟩=w1.cell? ⟨w.heap.size,o,none⟩:=fun o=>hS.cellAt (by omega) o;clear hc;cases h3:bB d l t
   ·have HF:Hid (aN d f t l=false):=by unfold Hid aN;rw [h3];simp
    have H3:Hid (bB d l t=false):=h3;clear h3
    go_wp2_with (go_at_call 156;refine (jI w1 ⟨ga,gl,gc,na,nl,nc,_,wl,wc⟩ d _ _ _ l _ _ H3.out hW1 hM1 _ hS).mono ?_;rintro e w' ⟨rfl,hS'⟩)
    go_ret
    exact ⟨by rw [HF.out];rfl,hS1.trans hS'⟩
   ·have H3:Hid (bB d l t=true):=h3;cases h4:((f:Int) != (t:Int))
    ·have hft:Hid (f=t):=by unfold Hid;have h5:=h4;simp at h5;omega
     have HF:Hid (aN d f t l=decide (l.length=0)):=by unfold Hid aN;rw [HO.out,h3,hft.out];simp
     clear h3
     go_wp2_with (go_at_call 156;refine (jI w1 ⟨ga,gl,gc,na,nl,nc,_,wl,wc⟩ d _ _ _ l _ _ H3.out hW1 hM1 _ hS).mono ?_;rintro e w' ⟨rfl,hS'⟩)
     go_ret
     exact ⟨by rw [HF.out,<-Fj];rfl,hS1.trans hS'⟩
    ·have hft:Hid (f≠t):=by unfold Hid;have h5:=h4;simp at h5;omega
     have HF:Hid (aN d f t l=true):=by unfold Hid aN;rw [HO.out,h3];simp [hft.out]
     clear h3
     go_wp2_with (go_at_call 156;refine (jI w1 ⟨ga,gl,gc,na,nl,nc,_,wl,wc⟩ d _ _ _ l _ _ H3.out hW1 hM1 _ hS).mono ?_;rintro e w' ⟨rfl,hS'⟩)
     go_ret
     exact ⟨by rw [HF.out];rfl,hS1.trans hS'⟩
def wS (e:Int) (b:Bool):Ending:=if b then .returned (.tuple #[]) else .panicked [{ v:=.iface 27 (.int .i64 e),recovered:=false }]
theorem FI (b off cap:Nat) (bs:List Bool) (hmax:bs.length<=1000) (w:World) (hc:∀ i x,bs[i]? = some x->w.cell? ⟨b,off+i,none⟩=some (.bool x)) :
  Calls prog 220 #[.slice (some ⟨b,off,none⟩) bs.length cap,.bool false] w fun e w'=>(∃ r:Int,e=.returned (.int .i64 r)/\decide (0<=r)=!bs.all id)/\w'=w:=by
 go_enter func220,ntmps220
 go_wp2_with fail
 go_loop [5,8] (fun _ i=>∃ k:Nat,k<=bs.length/\i=.int .i64 k/\(bs.take k).all id=true) (fun _ i=>bs.length - (intOf i).toNat)
 case atStart=>exact ⟨0,Nat.zero_le _,rfl,rfl⟩
 case round =>
  obtain ⟨k,hk,rfl,hn⟩:=hrel;have HN:Hid ((bs.take k).all id=true):=hn;clear hn;by_cases hlt:k < bs.length
  ·obtain ⟨x,hx⟩:∃ x,bs[k]? = some x:=⟨_,zQ1 hlt⟩;have hcx:=hc k x hx;have HX:Hid (bs[k]? = some x):=hx;clear hc hx;cases x
   ·have HF:Hid (bs.all id=false):=by
     unfold Hid;rw [List.all_eq_false];exact ⟨false,List.mem_of_getElem? HX.out,by simp⟩
    go_wp2
    go_ret
    exact ⟨⟨_,rfl,by rw [HF.out];simp⟩,rfl⟩
   ·go_wp2
    go_round
    case rel =>
     refine ⟨k+1,by omega,by go_num, ?_⟩;rw [List.take_add_one,List.all_append,HN.out,HX.out];rfl
    case measure=>simp [intOf];omega
  ·have HF:Hid (bs.all id=true):=by have:=HN.out;rw [List.take_of_length_le (by omega)] at this;exact this
   clear hc
   go_wp2
   go_ret
   exact ⟨⟨_,rfl,by rw [HF.out];rfl⟩,rfl⟩
theorem contains_false (b off cap:Nat) (bs:List Bool) (hmax:bs.length<=1000) (w:World) (hc:∀ i x,bs[i]? = some x->w.cell? ⟨b,off+i,none⟩=some (.bool x)) :
  Calls prog 195 #[.slice (some ⟨b,off,none⟩) bs.length cap,.bool false] w fun e w'=>e=.returned (.bool !bs.all id)/\w'=w:=by
 go_enter func195,ntmps195
 go_wp2_with (go_at_call 220;refine (FI _ _ _ bs hmax _ hc).mono ?_;rintro e w' ⟨⟨r,rfl,hr⟩,rfl⟩)
 go_ret
 exact ⟨by simp,rfl⟩
theorem FJ (e:Int) (b off cap:Nat) (bs:List Bool) (hmax:bs.length<=1000) (w:World) (hc:∀ i x,bs[i]? = some x->w.cell? ⟨b,off+i,none⟩=some (.bool x)) :
  Calls prog 159 #[.int .i64 e,.slice (some ⟨b,off,none⟩) bs.length cap] w fun r w'=>r=wS e (bs.all id)/\w'=w:=by
 cases hb:bs.all id
 ·go_enter func159,ntmps159
  go_wp2_with (go_at_call 195;refine (contains_false _ _ _ bs hmax _ hc).mono ?_;rw [hb];rintro e w' ⟨rfl,rfl⟩)
  exact ⟨rfl,rfl,rfl⟩
 ·go_enter func159,ntmps159
  go_wp2_with (go_at_call 195;refine (contains_false _ _ _ bs hmax _ hc).mono ?_;rw [hb];rintro e w' ⟨rfl,rfl⟩)
  go_end0
  exact ⟨rfl,rfl⟩
theorem Fb (e:Int) (x:Bool) (w:World) :
  Calls prog 159 #[.int .i64 e,.slice (some ⟨w.heap.size,0,none⟩) 1 1] (w.alloc (.cells #[.bool x] 4)) fun r w'=>r=wS e x/\w'=w.alloc (.cells #[.bool x] 4):=by
 refine (FJ e w.heap.size 0 1 [x] (by simp) _ ?_).mono ?_
 ·intro i y hy
  match i,hy with
  | 0,hy=>cases hy;simp [go_sem]
  | i+1,hy=>simp at hy
 ·rintro r w' ⟨h,hw⟩;exact ⟨by simpa using h,hw⟩
theorem Fe (e:Int) (x y:Bool) (w:World) :
  Calls prog 159 #[.int .i64 e,.slice (some ⟨w.heap.size,0,none⟩) 2 2] (w.alloc (.cells #[.bool x,.bool y] 4)) fun r w'=>r=wS e (x && y)/\w'=w.alloc (.cells #[.bool x,.bool y] 4):=by
 refine (FJ e w.heap.size 0 2 [x,y] (by simp) _ ?_).mono ?_
 ·intro i z hz
  match i,hz with
  | 0,hz=>cases hz;simp [go_sem]
  | 1,hz=>cases hz;simp [go_sem]
  | i+2,hz=>simp at hz
 ·rintro r w' ⟨h,hw⟩;exact ⟨by simpa using h,hw⟩
theorem oG (x:Int) (w:World) :
  Calls prog 197 #[.int .i64 x] w fun e w'=>e=.returned (.bool (inB x 0 1048576))/\w'=w:=by
 by_cases h1:0<=x
 ·go_enter func197,ntmps197
  go_wp2
  go_ret
  exact ⟨by simp [inB,h1],rfl⟩
 ·go_enter func197,ntmps197
  go_wp2
  go_ret
  exact ⟨by simp [inB];omega,rfl⟩
theorem Jg (a b:Mg) (w:World) :
  Calls prog 223 #[.agg #[.int .i64 a.fr,.int .i64 a.gr,.int .i64 a.st,.bool a.nul,.string a.body],.agg #[.int .i64 b.fr,.int .i64 b.gr,.int .i64 b.st,.bool b.nul,.string b.body]] w fun e w' =>
   e=.returned (.bool (decide (a.st < b.st)))/\w'=(w.alloc (.cells #[.int .i64 a.fr,.int .i64 a.gr,.int .i64 a.st,.bool a.nul,.string a.body] 42)).alloc (.cells #[.int .i64 b.fr,.int .i64 b.gr,.int .i64 b.st,.bool b.nul,.string b.body] 42):=by
 obtain ⟨af,ag,ast,an,ab⟩:=a;obtain ⟨bf,bg,bst,bn,bb⟩:=b
 go_enter func223,ntmps223
 go_wp2
 go_ret
 exact ⟨by simp,rfl⟩
theorem GK (w0:World) (a b:Mg) (v:Bool) (hv:decide (a.st < b.st)=v) (w:World) (h:Since w0 w) :
  Calls prog 223 #[.agg #[.int .i64 a.fr,.int .i64 a.gr,.int .i64 a.st,.bool a.nul,.string a.body],.agg #[.int .i64 b.fr,.int .i64 b.gr,.int .i64 b.st,.bool b.nul,.string b.body]] w fun e w' =>
   e=.returned (.bool v)/\Since w0 w' :=
 (Jg a b w).mono fun e w' ⟨he,hw⟩=>⟨by rw [<-hv];exact he,by rw [hw];exact (h.alloc _).alloc _⟩
theorem xL (ms:List Mg):gU ms=true↔∀ i a b,ms[i]? = some a->ms[i+1]? = some b->decide (a.st < b.st)=true:=by
 rw [tQ];simp only [decide_eq_true_eq]
theorem BN (a:Option Addr) (len cap:Nat) (ms:List Mg) (w:World) (hM:fA w a len ms) :
  Calls prog 199 #[.slice a len cap,.func (.func 170) #[] #[]] w fun e w'=>e=.returned (.bool (aP ms))/\Since w w':=by
 obtain ⟨rfl,hmax,hc⟩:=hM
 go_enter func199,ntmps199
 go_wp2
 go_loopw [5] (fun i wr=>(∃ k:Nat,1<=k/\i=.int .i64 k/\∀ i a b,i+1 < k->ms[i]? = some a->ms[i+1]? = some b->lessM a b=true)/\Since w wr) (fun i _=>ms.length - (intOf i).toNat)
 case atStart=>exact ⟨⟨1,by omega,rfl,fun i a b h=>by omega⟩,Since.refl _⟩
 case round =>
  obtain ⟨⟨k,hk,rfl,hr⟩,hS⟩:=hrel;have HR:Hid (∀ i a b,i+1 < k->ms[i]? = some a->ms[i+1]? = some b->lessM a b=true):=hr;clear hr;by_cases hlt:k < ms.length
  ·obtain ⟨k',hk0,hk1,hlt'⟩:∃ k':Nat,k=k'+1/\(k:Int) - 1=(k':Int)/\k' < ms.length:=⟨k - 1,by omega,by omega,by omega⟩;have HK:Hid (k=k'+1):=hk0;have hwk:IntKind.i64.wrap (k':Int)=(k':Int):=IntWalk.i64_in _ (by omega);obtain ⟨b,off,rfl,hb,hcell⟩:=hc (by omega);obtain ⟨m,hm⟩:∃ m,ms[k]? = some m:=⟨_,zQ1 hlt⟩;obtain ⟨m',hm'⟩:∃ m',ms[k']? = some m':=⟨_,zQ1 hlt'⟩;obtain ⟨d0,d1,d2,d3,d4⟩:=bP hcell k m hm;obtain ⟨e0,e1,e2,e3,e4⟩:=bP hcell k' m' hm';have hne:Nonempty (Later w):=⟨⟨w,Since.refl w⟩⟩;have hg:∀ (x:Later w) (o:Nat),x.w.cell? ⟨b,o,none⟩=w.cell? ⟨b,o,none⟩:=fun x o=>x.cell hb;have HM:Hid (ms[k]? = some m):=hm;have HM':Hid (ms[k']? = some m'):=hm';clear hm hm' hcell hc hk0;cases hl:lessM m' m
   ·have HF:Hid (aP ms=false):=by
     unfold Hid;rw [<-Bool.not_eq_true,kM];intro h;have:=h k' m' m HM'.out (by rw [<-HK.out];exact HM.out);rw [hl] at this;cases this
    go_wp2_with fail
    refine av (by kernel_rfl) (by kernel_rfl) hS ?_
    repeat (go_big_quiet_step ((go_at_call 170;exact Later.call (qQ w m' m _ hl))))
    refine wpQuiet_nil ?_;intro w9 hS9
    go_wp2
    go_ret
    exact ⟨by rw [HF.out];rfl,hS9⟩
   ·have HF:Hid (∀ i a b,i+1 < k+1->ms[i]? = some a->ms[i+1]? = some b->lessM a b=true):=by
     intro i a b hi ha hb;by_cases h:i+1 < k
     ·exact HR.out i a b h ha hb
     ·have e:i=k':=by have:=HK.out;omega
      subst e;have h1:=HM'.out;have h2:=HM.out;rw [HK.out] at h2;rw [h1] at ha;rw [h2] at hb;cases ha;cases hb;exact hl
    go_wp2_with fail
    refine av (by kernel_rfl) (by kernel_rfl) hS ?_
    repeat (go_big_quiet_step ((go_at_call 170;exact Later.call (qQ w m' m _ hl))))
    refine wpQuiet_nil ?_;intro w9 hS9
    go_wp2
    go_roundw
    case rel=>exact ⟨⟨k+1,by omega,by go_num,HF.out⟩,hS9⟩
    case measure=>simp [intOf];omega
  ·have HF:Hid (aP ms=true):=by
    unfold Hid;rw [kM];intro i a b ha hb;refine HR.out i a b ?_ ha hb;have:=(zQ2.1 hb).1;omega
   clear hc
   go_wp2
   go_ret
   exact ⟨by rw [HF.out];rfl,hS⟩
theorem Fg (a:Option Addr) (len cap:Nat) (ms:List Mg) (w:World) (hM:fA w a len ms) :
  Calls prog 199 #[.slice a len cap,.func (.func 223) #[] #[]] w fun e w'=>e=.returned (.bool (gU ms))/\Since w w':=by
 obtain ⟨rfl,hmax,hc⟩:=hM
 go_enter func199,ntmps199
 go_wp2
 go_loopw [5] (fun i wr=>(∃ k:Nat,1<=k/\i=.int .i64 k/\∀ i a b,i+1 < k->ms[i]? = some a->ms[i+1]? = some b->decide (a.st < b.st)=true)/\Since w wr) (fun i _=>ms.length - (intOf i).toNat)
 case atStart=>exact ⟨⟨1,by omega,rfl,fun i a b h=>by omega⟩,Since.refl _⟩
 case round =>
  obtain ⟨⟨k,hk,rfl,hr⟩,hS⟩:=hrel;have HR:Hid (∀ i a b,i+1 < k->ms[i]? = some a->ms[i+1]? = some b->decide (a.st < b.st)=true):=hr;clear hr;by_cases hlt:k < ms.length
  ·obtain ⟨k',hk0,hk1,hlt'⟩:∃ k':Nat,k=k'+1/\(k:Int) - 1=(k':Int)/\k' < ms.length:=⟨k - 1,by omega,by omega,by omega⟩;have HK:Hid (k=k'+1):=hk0;have hwk:IntKind.i64.wrap (k':Int)=(k':Int):=IntWalk.i64_in _ (by omega);obtain ⟨b,off,rfl,hb,hcell⟩:=hc (by omega);obtain ⟨m,hm⟩:∃ m,ms[k]? = some m:=⟨_,zQ1 hlt⟩;obtain ⟨m',hm'⟩:∃ m',ms[k']? = some m':=⟨_,zQ1 hlt'⟩;obtain ⟨d0,d1,d2,d3,d4⟩:=bP hcell k m hm;obtain ⟨e0,e1,e2,e3,e4⟩:=bP hcell k' m' hm';have hne:Nonempty (Later w):=⟨⟨w,Since.refl w⟩⟩;have hg:∀ (x:Later w) (o:Nat),x.w.cell? ⟨b,o,none⟩=w.cell? ⟨b,o,none⟩:=fun x o=>x.cell hb;have HM:Hid (ms[k]? = some m):=hm;have HM':Hid (ms[k']? = some m'):=hm';clear hm hm' hcell hc hk0;cases hl:decide (m'.st < m.st)
   ·have HF:Hid (gU ms=false):=by
     unfold Hid;rw [<-Bool.not_eq_true,xL];intro h;have:=h k' m' m HM'.out (by rw [<-HK.out];exact HM.out);rw [hl] at this;cases this
    go_wp2_with fail
    refine av (by kernel_rfl) (by kernel_rfl) hS ?_
    repeat (go_big_quiet_step ((go_at_call 223;exact Later.call (GK w m' m _ hl))))
    refine wpQuiet_nil ?_;intro w9 hS9
    go_wp2
    go_ret
    exact ⟨by rw [HF.out];rfl,hS9⟩
   ·have HF:Hid (∀ i a b,i+1 < k+1->ms[i]? = some a->ms[i+1]? = some b->decide (a.st < b.st)=true):=by
     intro i a b hi ha hb;by_cases h:i+1 < k
     ·exact HR.out i a b h ha hb
     ·have e:i=k':=by have:=HK.out;omega
      subst e;have h1:=HM'.out;have h2:=HM.out;rw [HK.out] at h2;rw [h1] at ha;rw [h2] at hb;cases ha;cases hb;exact hl
    go_wp2_with fail
    refine av (by kernel_rfl) (by kernel_rfl) hS ?_
    repeat (go_big_quiet_step ((go_at_call 223;exact Later.call (GK w m' m _ hl))))
    refine wpQuiet_nil ?_;intro w9 hS9
    go_wp2
    go_roundw
    case rel=>exact ⟨⟨k+1,by omega,by go_num,HF.out⟩,hS9⟩
    case measure=>simp [intOf];omega
  ·have HF:Hid (gU ms=true):=by
    unfold Hid;rw [xL];intro i a b ha hb;refine HR.out i a b ?_ ha hb;have:=(zQ2.1 hb).1;omega
   clear hc
   go_wp2
   go_ret
   exact ⟨by rw [HF.out];rfl,hS⟩
end Go.Proofs.YtiiifecfdkjmbaaGreat
set_option maxHeartbeats 4000000
namespace Go.Proofs.YtiiifecfdkjmbaaGreat
open _root_.Go.Proofs.Tryz hiding checked
set_option maxRecDepth 8000
open Go.RowKit Go.Shelf
theorem jL {p:Nat->Bool} {k:Nat} (h0:(List.range k).all p=true) (hp:p k=true):(List.range (k+1)).all p=true:=by
 rw [List.range_succ,List.all_append,h0];simp [hp]
theorem ng {p:Nat->Bool} {k n:Nat} (hk:k < n) (hp:p k=false):(List.range n).all p=false:=by
 rw [List.all_eq_false];exact ⟨k,by simpa using hk,by simp [hp]⟩
def wZ (d:Wd) (n g k:Nat):Bool:=hasB d.groups g n && hasB d.groups g k
def fq (d:Wd) (n g k:Nat) (v:Int):Bool:=inB v 0 1048576 && (wZ d n g k || decide (v=0))
def lQ (d:Wd) (n g:Nat) (row:List Int):Bool:=decide (row.length=d.nodes.length) && (List.range row.length).all fun k=>fq d n g k (row[k]?.getD 0)
def eF (d:Wd) (n:Nat) (last:List (List Int)):Bool:=(List.range last.length).all fun g=>lQ d n g (last[g]?.getD [])
def mX (d:Wd) (nd:Nd):Bool:=inB nd.clock 0 1048576 && decide (nd.last.length=d.groups.length)
def jh (d:Wd) (n:Nat) (nd:Nd):Bool:=aP nd.held && (aP nd.told && (gW nd.held && (gW nd.told && (bB d nd.held n && bB d nd.told n))))
def aH (d:Wd) (n:Nat) (nd:Nd):Bool:=mX d nd && (eF d n nd.last && jh d n nd)
theorem fQ (w0:World) (a:Option Addr) (len cap:Nat) (ms:List Mg) (v:Bool) (hv:aP ms=v) (hM:fA w0 a len ms) (w:World) (h:Since w0 w) :
  Calls prog 154 #[.slice a len cap] w fun e w'=>e=.returned (.bool v)/\Since w0 w' :=
 (iG a len cap ms w (hM.since h)).mono fun _ _ ⟨he,hw⟩=>⟨by rw [<-hv];exact he,h.trans hw⟩
theorem lK (w0:World) (a:Option Addr) (len cap:Nat) (ms:List Mg) (v:Bool) (hv:gW ms=v) (hM:fA w0 a len ms) (w:World) (h:Since w0 w) :
  Calls prog 155 #[.slice a len cap] w fun e w'=>e=.returned (.bool v)/\Since w0 w' :=
 (Jy a len cap ms w (hM.since h)).mono fun _ _ ⟨he,hw⟩=>⟨by rw [<-hv];exact he,by rw [hw];exact h⟩
set_option maxRecDepth 4000 in
theorem EB (x:WV) (d:Wd) (n:Nat) (nd:Nd) (w:World) (hW:WAt w x d) (hn:d.nodes[n]? = some nd) :
  Calls prog 98 #[.agg #[.slice x.ga x.gl x.gc,.slice x.na x.nl x.nc,.slice x.wa x.wl x.wc],.int .i64 n] w fun e w'=>e=.returned (.bool (aH d n nd))/\Since w w':=by
 have hnl:=(zQ2.1 hn).1;obtain ⟨ga,gl,gc,na,nl,nc,wa,wl,wc⟩:=x;have pE:=hW.n.hlen;have hnm:=hW.n.hmax;have hgl:=hW.g.hlen;have hgm:=hW.g.hmax;obtain ⟨bn,on,hna,hbn,hcn⟩:=hW.n.cells (by omega);dsimp only at pE hnm hgl hgm hna ⊢;subst hna;obtain ⟨k0,⟨v1,k1,la,lc,rfl,hlc,hL⟩,⟨v2,k2,ha,hc,rfl,hhc,hH⟩,⟨v3,k3,ta,tc,rfl,htc,hT⟩⟩:=hcn n nd hn;have hlm:=hL.hmax;obtain ⟨w1,hw1⟩:∃ w1,w.alloc (.cells #[.slice ga gl gc,.slice (some ⟨bn,on,none⟩) nl nc,.slice wa wl wc] 26)=w1:=⟨_,rfl⟩;obtain ⟨w2,hw2⟩:∃ w2,w1.alloc (.cells #[.int .i64 nd.clock,.slice la nd.last.length lc,.slice ha nd.held.length hc,.slice ta nd.told.length tc] 45)=w2:=⟨_,rfl⟩;have hS1:=ay hw1;have hsz:w1.heap.size=w.heap.size+1:=by rw [<-hw1];simp
 have dn:=ay hw2;have hsz2:w2.heap.size=w.heap.size+1+1:=by rw [<-hw2];simp [hsz]
 have hS2:=hS1.trans dn;have b0:w1.cell? ⟨w.heap.size,0,none⟩=some (.slice ga gl gc):=by rw [<-hw1];simp [go_sem]
 have b1:w1.cell? ⟨w.heap.size,1,none⟩=some (.slice (some ⟨bn,on,none⟩) nl nc):=by rw [<-hw1];simp [go_sem]
 have b2:w1.cell? ⟨w.heap.size,2,none⟩=some (.slice wa wl wc):=by rw [<-hw1];simp [go_sem]
 have hn1:(n:Int) < (nl:Int):=by omega
 have j0:w1.cell? ⟨bn,on+n*4,none⟩=_:=(hS1.cellAt hbn _).trans k0;have j1:w1.cell? ⟨bn,on+n*4+1,none⟩=_:=(hS1.cellAt hbn _).trans k1;have j2:w1.cell? ⟨bn,on+n*4+2,none⟩=_:=(hS1.cellAt hbn _).trans k2;have j3:w1.cell? ⟨bn,on+n*4+3,none⟩=_:=(hS1.cellAt hbn _).trans k3;have n0:w2.cell? ⟨w.heap.size+1,0,none⟩=some (.int .i64 nd.clock):=by rw [<-hw2,<-hsz];simp [go_sem]
 have n1:w2.cell? ⟨w.heap.size+1,1,none⟩=some (.slice la nd.last.length lc):=by rw [<-hw2,<-hsz];simp [go_sem]
 have n2:w2.cell? ⟨w.heap.size+1,2,none⟩=some (.slice ha nd.held.length hc):=by rw [<-hw2,<-hsz];simp [go_sem]
 have n3:w2.cell? ⟨w.heap.size+1,3,none⟩=some (.slice ta nd.told.length tc):=by rw [<-hw2,<-hsz];simp [go_sem]
 have B0:w2.cell? ⟨w.heap.size,0,none⟩=some (.slice ga gl gc):=(dn.cellAt (by omega) _).trans b0;have B1:w2.cell? ⟨w.heap.size,1,none⟩=some (.slice (some ⟨bn,on,none⟩) nl nc):=(dn.cellAt (by omega) _).trans b1;have B2:w2.cell? ⟨w.heap.size,2,none⟩=some (.slice wa wl wc):=(dn.cellAt (by omega) _).trans b2;have hG2:Ints w2 ga gl d.groups:=hW.g.since hS2;have hW2:=hW.since hS2;have hH2:=hH.since hS2;have hT2:=hT.since hS2;have hSr:=Since.refl w2;have HNL:Hid (d.nodes.length=nl):=pE;have HGL:Hid (d.groups.length=gl):=hgl;have hne:Nonempty (Later w2):=⟨⟨w2,Since.refl w2⟩⟩;have gw:∀ (y:Later w2) (o:Nat),y.w.cell? ⟨w.heap.size,o,none⟩=w2.cell? ⟨w.heap.size,o,none⟩:=fun y o=>y.cell (by omega);have gn:∀ (y:Later w2) (o:Nat),y.w.cell? ⟨w.heap.size+1,o,none⟩=w2.cell? ⟨w.heap.size+1,o,none⟩:=fun y o=>y.cell (by omega);clear hcn k0 k1 k2 k3 pE hgl b2 hnl hH hT;cases c1:inB nd.clock 0 1048576
 ·have HF:Hid (aH d n nd=false):=by unfold Hid aH mX;rw [c1];rfl
  go_enter func98,ntmps98
  go_wp2_with (go_at_call 126;refine (bD _ _ _ _).mono ?_;rintro e w' ⟨rfl,hw⟩;obtain rfl:=hw.symm)
  go_ret
  exact ⟨by rw [HF.out];rfl,hS2⟩
 cases c2:((nd.last.length:Int) != (gl:Int))
 rotate_left
 ·have HF:Hid (aH d n nd=false):=by
   have:¬ nd.last.length=d.groups.length:=by rw [HGL.out];have h:=c2;simp at h;omega
   unfold Hid aH mX;simp [this]
  go_enter func98,ntmps98
  go_wp2_with (go_at_call 126;refine (bD _ _ _ _).mono ?_;rintro e w' ⟨rfl,hw⟩;obtain rfl:=hw.symm)
  go_ret
  exact ⟨by rw [HF.out];rfl,hS2⟩
 have HD:Hid (mX d nd=true):=by
  have:nd.last.length=d.groups.length:=by rw [HGL.out];have h:=c2;simp at h;omega
  unfold Hid mX;rw [c1];simp [this]
 go_enter func98,ntmps98
 go_wp2_with (go_at_call 126;refine (bD _ _ _ _).mono ?_;rintro e w' ⟨rfl,hw⟩;obtain rfl:=hw.symm)
 clear hw1 hw2 j0 j1 j2 j3 b0 b1 c1
 go_loopw [6,7,8] (fun g _ _ wr=>(∃ k:Nat,k<=nd.last.length/\g=.int .i64 k/\(List.range k).all (fun g=>lQ d n g (nd.last[g]?.getD []))=true)/\Since w2 wr) (fun g _ _ _=>nd.last.length - (intOf g).toNat)
 case atStart=>exact ⟨⟨0,Nat.zero_le _,rfl,rfl⟩,Since.refl _⟩
 case round =>
  obtain ⟨⟨k,hk,rfl,hn⟩,hS⟩:=hrel;have HN:Hid ((List.range k).all (fun g=>lQ d n g (nd.last[g]?.getD []))=true):=hn;clear hn;have r0:∀ o:Nat,wr.cell? ⟨w.heap.size,o,none⟩=w2.cell? ⟨w.heap.size,o,none⟩:=fun o=>hS.cellAt (by omega) o;have r1:∀ o:Nat,wr.cell? ⟨w.heap.size+1,o,none⟩=w2.cell? ⟨w.heap.size+1,o,none⟩:=fun o=>hS.cellAt (by omega) o;by_cases hlt:k < nd.last.length
  ·obtain ⟨row,hrow⟩:∃ row,nd.last[k]? = some row:=⟨_,zQ1 hlt⟩;obtain ⟨bL,oL,rfl,hbL,hcL⟩:=hL.cells (by omega);obtain ⟨v4,k4,ra,rc,rfl,hrc,hR⟩:=hcL k row hrow;have hRm:=hR.hmax;have hRc:=hR.cells;have mK:Hid (nd.last[k]? = some row):=hrow
   have HFR:Hid (lQ d n k row=false->aH d n nd=false):=by
    intro h;have:eF d n nd.last=false:=ng hlt (by rw [mK.out];exact h);unfold aH;rw [this];simp
   have gL:∀ (y:Later w2) (o:Nat),y.w.cell? ⟨bL,o,none⟩=w.cell? ⟨bL,o,none⟩:=fun y o=>Later.old hS2 y o hbL;clear hcL hrow hR;cases c3:((row.length:Int) != (nl:Int))
   rotate_left
   ·have HF:Hid (aH d n nd=false):=HFR.out (by
     have:¬ row.length=d.nodes.length:=by rw [HNL.out];have h:=c3;simp at h;omega
     unfold lQ;simp [this])
    go_wp2_with fail
    refine av (by kernel_rfl) (by kernel_rfl) hS ?_
    repeat (go_big_quiet_step (fail))
    refine wpQuiet_nil ?_;intro w9 hS9
    go_wp2
    go_ret
    exact ⟨by rw [HF.out];rfl,hS2.trans hS9⟩
   have HRL:Hid (row.length=d.nodes.length):=by unfold Hid;rw [HNL.out];have h:=c3;simp at h;omega
   have HFC:Hid (∀ j v,row[j]? = some v->fq d n k j v=false->aH d n nd=false):=by
    intro j v hv h;refine HFR.out ?_;unfold lQ;rw [ng (p:=fun k_1=>fq d n k k_1 (row[k_1]?.getD 0)) (zQ2.1 hv).1 (by rw [hv];exact h)];simp
   go_wp2_with fail
   refine av (by kernel_rfl) (by kernel_rfl) hS ?_
   repeat (go_big_quiet_step (fail))
   refine wpQuiet_nil ?_;intro w9 hS9;clear HFR c3 r0 r1
   go_wp2_with fail
   go_loopw [7,8] (fun i _ wr=>(∃ j:Nat,j<=row.length/\i=.int .i64 j/\(List.range j).all (fun j=>fq d n k j (row[j]?.getD 0))=true)/\Since w2 wr) (fun i _ _=>row.length - (intOf i).toNat)
   case atStart=>exact ⟨⟨0,Nat.zero_le _,rfl,rfl⟩,hS9⟩
   case round =>
    obtain ⟨⟨j,hj,rfl,hnj⟩,hSj⟩:=hrel;have HNJ:Hid ((List.range j).all (fun j=>fq d n k j (row[j]?.getD 0))=true):=hnj;have r0:∀ o:Nat,wr.cell? ⟨w.heap.size,o,none⟩=w2.cell? ⟨w.heap.size,o,none⟩:=fun o=>hSj.cellAt (by omega) o;have r1:∀ o:Nat,wr.cell? ⟨w.heap.size+1,o,none⟩=w2.cell? ⟨w.heap.size+1,o,none⟩:=fun o=>hSj.cellAt (by omega) o;have r2:∀ o:Nat,wr.cell? ⟨bL,o,none⟩=w.cell? ⟨bL,o,none⟩:=fun o=>(hS2.trans hSj).cellAt hbL o;clear hnj;by_cases hjl:j < row.length
    ·obtain ⟨v,hv⟩:∃ v,row[j]? = some v:=⟨_,zQ1 hjl⟩;obtain ⟨bR,oR,rfl,hbR,hcR⟩:=hRc (by omega);have hvc:wr.cell? ⟨bR,oR+j,none⟩=some (.int .i64 v):=((hS2.trans hSj).cellAt hbR _).trans (by have:=hcR j hjl;rw [hv] at this;exact this);have HV:Hid (row[j]? = some v):=hv;have HF:=fun h=>HFC.out j v HV.out h;have HF':Hid (fq d n k j v=false->aH d n nd=false):=HF;clear hv hcR hRc HF HFC;cases h1:hasB d.groups k n
     all_goals cases h2:hasB d.groups k j
     all_goals cases h3:inB v 0 1048576
     all_goals cases h4:(v != 0)
     all_goals
      have HC:Hid (fq d n k j v=(inB v 0 1048576 && ((hasB d.groups k n && hasB d.groups k j) || !(v != 0)))):=by
       unfold Hid fq wZ;congr 2;rw [Bool.eq_iff_iff];simp
      go_wp2_with (first | (go_at_call 145;refine (dO _ _ _ d.groups _ _ _ (hG2.since (by assumption))).mono ?_;rintro e w' ⟨rfl,hw⟩;obtain rfl:=hw.symm) | (go_at_call 126;refine (bD _ _ _ _).mono ?_;rintro e w' ⟨rfl,hw⟩;obtain rfl:=hw.symm))
      first
      | (go_ret
         exact ⟨by rw [HF'.out (by rw [HC.out,h1,h2,h3,h4];rfl)];rfl,hS2.trans hSj⟩)
      | (go_roundw
         case rel=>exact ⟨⟨j+1,by omega,by go_num,jL HNJ.out (by rw [HV.out];exact (HC.out.trans (by rw [h1,h2,h3,h4];rfl)))⟩,hSj⟩
         case measure=>simp [intOf];omega)
    ·have HR:Hid (lQ d n k row=true):=by
      have:=HNJ.out;rw [show j=row.length from by omega] at this;unfold Hid lQ;rw [this];simp [HRL.out]
     clear hRc HFC
     go_wp2_with fail
     go_roundw
     case rel=>exact ⟨⟨k+1,by omega,by go_num,jL HN.out (by rw [mK.out];exact HR.out)⟩,hSj⟩
     case measure=>simp [intOf];omega
  ·have HLA:Hid (eF d n nd.last=true):=by
    have:=HN.out;rw [show k=nd.last.length from by omega] at this;exact this
   have HE:Hid (aH d n nd=jh d n nd):=by unfold Hid aH;rw [HD.out,HLA.out];rfl
   clear gw gn hne;have rf:∀ y:World,Since w2 y->(∀ o:Nat,y.cell? ⟨w.heap.size,o,none⟩=w2.cell? ⟨w.heap.size,o,none⟩)/\(∀ o:Nat,y.cell? ⟨w.heap.size+1,o,none⟩=w2.cell? ⟨w.heap.size+1,o,none⟩):=fun y h=>⟨fun o=>h.cellAt (by omega) o,fun o=>h.cellAt (by omega) o⟩;have RF:Hid (∀ y:World,Since w2 y->(∀ o:Nat,y.cell? ⟨w.heap.size,o,none⟩=w2.cell? ⟨w.heap.size,o,none⟩)/\(∀ o:Nat,y.cell? ⟨w.heap.size+1,o,none⟩=w2.cell? ⟨w.heap.size+1,o,none⟩)):=rf;clear rf;cases c5:aP nd.held
   ·have HF:Hid (aH d n nd=false):=by unfold Hid;rw [HE.out];unfold jh;rw [c5];rfl
    go_wp2_with (first | (go_at_call_of 154 (Value.slice ha nd.held.length hc);refine (fQ _ _ _ _ _ _ c5 hH2 _ (by assumption)).mono ?_;rintro e w' ⟨rfl,hw⟩;obtain ⟨q0,q1⟩:=RF.out _ hw))
    go_ret
    rename_i hw _ _;exact ⟨by rw [HF.out];rfl,hS2.trans hw⟩
   cases c6:aP nd.told
   ·have HF:Hid (aH d n nd=false):=by unfold Hid;rw [HE.out];unfold jh;rw [c5,c6];rfl
    go_wp2_with (first | (go_at_call_of 154 (Value.slice ha nd.held.length hc);refine (fQ _ _ _ _ _ _ c5 hH2 _ (by assumption)).mono ?_;rintro e w' ⟨rfl,hw⟩;obtain ⟨q0,q1⟩:=RF.out _ hw) | (go_at_call_of 154 (Value.slice ta nd.told.length tc);refine (fQ _ _ _ _ _ _ c6 hT2 _ (by assumption)).mono ?_;rintro e w' ⟨rfl,hw⟩;obtain ⟨q0,q1⟩:=RF.out _ hw))
    go_ret
    rename_i hw _ _;exact ⟨by rw [HF.out];rfl,hS2.trans hw⟩
   cases c7:gW nd.held
   ·have HF:Hid (aH d n nd=false):=by unfold Hid;rw [HE.out];unfold jh;rw [c5,c6,c7];rfl
    go_wp2_with (first | (go_at_call_of 154 (Value.slice ha nd.held.length hc);refine (fQ _ _ _ _ _ _ c5 hH2 _ (by assumption)).mono ?_;rintro e w' ⟨rfl,hw⟩;obtain ⟨q0,q1⟩:=RF.out _ hw) | (go_at_call_of 154 (Value.slice ta nd.told.length tc);refine (fQ _ _ _ _ _ _ c6 hT2 _ (by assumption)).mono ?_;rintro e w' ⟨rfl,hw⟩;obtain ⟨q0,q1⟩:=RF.out _ hw) | (go_at_call_of 155 (Value.slice ha nd.held.length hc);refine (lK _ _ _ _ _ _ c7 hH2 _ (by assumption)).mono ?_;rintro e w' ⟨rfl,hw⟩;obtain ⟨q0,q1⟩:=RF.out _ hw))
    go_ret
    rename_i hw _ _;exact ⟨by rw [HF.out];rfl,hS2.trans hw⟩
   cases c8:gW nd.told
   ·have HF:Hid (aH d n nd=false):=by unfold Hid;rw [HE.out];unfold jh;rw [c5,c6,c7,c8];rfl
    go_wp2_with (first | (go_at_call_of 154 (Value.slice ha nd.held.length hc);refine (fQ _ _ _ _ _ _ c5 hH2 _ (by assumption)).mono ?_;rintro e w' ⟨rfl,hw⟩;obtain ⟨q0,q1⟩:=RF.out _ hw) | (go_at_call_of 154 (Value.slice ta nd.told.length tc);refine (fQ _ _ _ _ _ _ c6 hT2 _ (by assumption)).mono ?_;rintro e w' ⟨rfl,hw⟩;obtain ⟨q0,q1⟩:=RF.out _ hw) | (go_at_call_of 155 (Value.slice ha nd.held.length hc);refine (lK _ _ _ _ _ _ c7 hH2 _ (by assumption)).mono ?_;rintro e w' ⟨rfl,hw⟩;obtain ⟨q0,q1⟩:=RF.out _ hw) | (go_at_call_of 155 (Value.slice ta nd.told.length tc);refine (lK _ _ _ _ _ _ c8 hT2 _ (by assumption)).mono ?_;rintro e w' ⟨rfl,hw⟩;obtain ⟨q0,q1⟩:=RF.out _ hw))
    go_ret
    rename_i hw _ _;exact ⟨by rw [HF.out];rfl,hS2.trans hw⟩
   cases c9:bB d nd.held n
   ·have HF:Hid (aH d n nd=false):=by unfold Hid;rw [HE.out];unfold jh;rw [c5,c6,c7,c8,c9];rfl
    go_wp2_with (first | (go_at_call_of 154 (Value.slice ha nd.held.length hc);refine (fQ _ _ _ _ _ _ c5 hH2 _ (by assumption)).mono ?_;rintro e w' ⟨rfl,hw⟩;obtain ⟨q0,q1⟩:=RF.out _ hw) | (go_at_call_of 154 (Value.slice ta nd.told.length tc);refine (fQ _ _ _ _ _ _ c6 hT2 _ (by assumption)).mono ?_;rintro e w' ⟨rfl,hw⟩;obtain ⟨q0,q1⟩:=RF.out _ hw) | (go_at_call_of 155 (Value.slice ha nd.held.length hc);refine (lK _ _ _ _ _ _ c7 hH2 _ (by assumption)).mono ?_;rintro e w' ⟨rfl,hw⟩;obtain ⟨q0,q1⟩:=RF.out _ hw) | (go_at_call_of 155 (Value.slice ta nd.told.length tc);refine (lK _ _ _ _ _ _ c8 hT2 _ (by assumption)).mono ?_;rintro e w' ⟨rfl,hw⟩;obtain ⟨q0,q1⟩:=RF.out _ hw) | (go_at_call_of 156 (Value.slice ha nd.held.length hc);refine (jI _ _ _ _ _ _ _ _ _ c9 hW2 hH2 _ (by assumption)).mono ?_;rintro e w' ⟨rfl,hw⟩;obtain ⟨q0,q1⟩:=RF.out _ hw))
    go_ret
    rename_i hw _ _;exact ⟨by rw [HF.out];rfl,hS2.trans hw⟩
   cases c10:bB d nd.told n
   ·have HF:Hid (aH d n nd=false):=by unfold Hid;rw [HE.out];unfold jh;rw [c5,c6,c7,c8,c9,c10];rfl
    go_wp2_with (first | (go_at_call_of 154 (Value.slice ha nd.held.length hc);refine (fQ _ _ _ _ _ _ c5 hH2 _ (by assumption)).mono ?_;rintro e w' ⟨rfl,hw⟩;obtain ⟨q0,q1⟩:=RF.out _ hw) | (go_at_call_of 154 (Value.slice ta nd.told.length tc);refine (fQ _ _ _ _ _ _ c6 hT2 _ (by assumption)).mono ?_;rintro e w' ⟨rfl,hw⟩;obtain ⟨q0,q1⟩:=RF.out _ hw) | (go_at_call_of 155 (Value.slice ha nd.held.length hc);refine (lK _ _ _ _ _ _ c7 hH2 _ (by assumption)).mono ?_;rintro e w' ⟨rfl,hw⟩;obtain ⟨q0,q1⟩:=RF.out _ hw) | (go_at_call_of 155 (Value.slice ta nd.told.length tc);refine (lK _ _ _ _ _ _ c8 hT2 _ (by assumption)).mono ?_;rintro e w' ⟨rfl,hw⟩;obtain ⟨q0,q1⟩:=RF.out _ hw) | (go_at_call_of 156 (Value.slice ha nd.held.length hc);refine (jI _ _ _ _ _ _ _ _ _ c9 hW2 hH2 _ (by assumption)).mono ?_;rintro e w' ⟨rfl,hw⟩;obtain ⟨q0,q1⟩:=RF.out _ hw) | (go_at_call_of 156 (Value.slice ta nd.told.length tc);refine (jI _ _ _ _ _ _ _ _ _ c10 hW2 hT2 _ (by assumption)).mono ?_;rintro e w' ⟨rfl,hw⟩;obtain ⟨q0,q1⟩:=RF.out _ hw))
    go_ret
    rename_i hw _ _;exact ⟨by rw [HF.out];rfl,hS2.trans hw⟩
   ·have HF:Hid (aH d n nd=true):=by unfold Hid;rw [HE.out];unfold jh;rw [c5,c6,c7,c8,c9,c10];rfl
    go_wp2_with (first | (go_at_call_of 154 (Value.slice ha nd.held.length hc);refine (fQ _ _ _ _ _ _ c5 hH2 _ (by assumption)).mono ?_;rintro e w' ⟨rfl,hw⟩;obtain ⟨q0,q1⟩:=RF.out _ hw) | (go_at_call_of 154 (Value.slice ta nd.told.length tc);refine (fQ _ _ _ _ _ _ c6 hT2 _ (by assumption)).mono ?_;rintro e w' ⟨rfl,hw⟩;obtain ⟨q0,q1⟩:=RF.out _ hw) | (go_at_call_of 155 (Value.slice ha nd.held.length hc);refine (lK _ _ _ _ _ _ c7 hH2 _ (by assumption)).mono ?_;rintro e w' ⟨rfl,hw⟩;obtain ⟨q0,q1⟩:=RF.out _ hw) | (go_at_call_of 155 (Value.slice ta nd.told.length tc);refine (lK _ _ _ _ _ _ c8 hT2 _ (by assumption)).mono ?_;rintro e w' ⟨rfl,hw⟩;obtain ⟨q0,q1⟩:=RF.out _ hw) | (go_at_call_of 156 (Value.slice ha nd.held.length hc);refine (jI _ _ _ _ _ _ _ _ _ c9 hW2 hH2 _ (by assumption)).mono ?_;rintro e w' ⟨rfl,hw⟩;obtain ⟨q0,q1⟩:=RF.out _ hw) | (go_at_call_of 156 (Value.slice ta nd.told.length tc);refine (jI _ _ _ _ _ _ _ _ _ c10 hW2 hT2 _ (by assumption)).mono ?_;rintro e w' ⟨rfl,hw⟩;obtain ⟨q0,q1⟩:=RF.out _ hw))
    go_ret
    rename_i hw _ _;exact ⟨by rw [HF.out];rfl,hS2.trans hw⟩
end Go.Proofs.YtiiifecfdkjmbaaGreat
