/- Lemmas. Lemmas. -/
import Derived.WalkLawsBesides
import Derived.Test.YtiiifecfdkjmbaaRange
import Derived.Test.YtiiifecfdkjmbaaWorld3
namespace Go.Proofs.Ytiiifecfdkjmbaa
open _root_.Go.Proofs.Try
set_option maxRecDepth 8000
open Go.RowKit Go.Shelf
def qX (e:Int) (b:Bool):Ending:=if b then .returned (.tuple #[]) else .panicked [{ v:=.iface 27 (.int .i64 e),recovered:=false }]
theorem AB (b off cap:Nat) (bs:List Bool) (hmax:bs.length<=1000) (w:World) (hc:∀ i x,bs[i]? = some x->w.cell? ⟨b,off+i,none⟩=some (.bool x)) :
  Calls prog 137 #[.slice (some ⟨b,off,none⟩) bs.length cap,.bool false] w fun e w'=>(∃ r:Int,e=.returned (.int .i64 r)/\decide (0<=r)=!bs.all id)/\w'=w:=by
 go_enter func137,ntmps137
 go_wp2_with fail
 go_loop [5,8] (fun _ i=>∃ k:Nat,k<=bs.length/\i=.int .i64 k/\(bs.take k).all id=true) (fun _ i=>bs.length - (intOf i).toNat)
 case atStart=>exact ⟨0,Nat.zero_le _,rfl,rfl⟩
 case round =>
  obtain ⟨k,hk,rfl,hn⟩:=hrel
  have HN:Hid ((bs.take k).all id=true):=hn
  clear hn
  by_cases hlt:k < bs.length
  ·obtain ⟨x,hx⟩:∃ x,bs[k]? = some x:=⟨_,zQ1 hlt⟩
   have hcx:=hc k x hx
   have HX:Hid (bs[k]? = some x):=hx
   clear hc hx
   cases x
   ·have HF:Hid (bs.all id=false):=by
     unfold Hid;rw [List.all_eq_false];exact ⟨false,List.mem_of_getElem? HX.out,by simp⟩
    go_wp2
    go_ret
    exact ⟨⟨_,rfl,by rw [HF.out];simp⟩,rfl⟩
   ·go_wp2
    go_round
    case rel =>
     refine ⟨k+1,by omega,by go_num, ?_⟩
     rw [List.take_add_one,List.all_append,HN.out,HX.out];rfl
    case measure=>simp [intOf];omega
  ·have HF:Hid (bs.all id=true):=by have:=HN.out;rw [List.take_of_length_le (by omega)] at this;exact this
   clear hc
   go_wp2
   go_ret
   exact ⟨⟨_,rfl,by rw [HF.out];rfl⟩,rfl⟩
theorem contains_false (b off cap:Nat) (bs:List Bool) (hmax:bs.length<=1000) (w:World) (hc:∀ i x,bs[i]? = some x->w.cell? ⟨b,off+i,none⟩=some (.bool x)) :
  Calls prog 106 #[.slice (some ⟨b,off,none⟩) bs.length cap,.bool false] w fun e w'=>e=.returned (.bool !bs.all id)/\w'=w:=by
 go_enter func106,ntmps106
 go_wp2_with (go_at_call 137;refine (AB _ _ _ bs hmax _ hc).mono ?_;rintro e w' ⟨⟨r,rfl,hr⟩,rfl⟩)
 go_ret
 exact ⟨by simp,rfl⟩
theorem AJ (e:Int) (b off cap:Nat) (bs:List Bool) (hmax:bs.length<=1000) (w:World) (hc:∀ i x,bs[i]? = some x->w.cell? ⟨b,off+i,none⟩=some (.bool x)) :
  Calls prog 77 #[.int .i64 e,.slice (some ⟨b,off,none⟩) bs.length cap] w fun r w'=>r=qX e (bs.all id)/\w'=w:=by
 cases hb:bs.all id
 ·go_enter func77,ntmps77
  go_wp2_with (go_at_call 106;refine (contains_false _ _ _ bs hmax _ hc).mono ?_;rw [hb];rintro e w' ⟨rfl,rfl⟩)
  exact ⟨rfl,rfl,rfl⟩
 ·go_enter func77,ntmps77
  go_wp2_with (go_at_call 106;refine (contains_false _ _ _ bs hmax _ hc).mono ?_;rw [hb];rintro e w' ⟨rfl,rfl⟩)
  go_end0
  exact ⟨rfl,rfl⟩
theorem Aj (e:Int) (x:Bool) (w:World) :
  Calls prog 77 #[.int .i64 e,.slice (some ⟨w.heap.size,0,none⟩) 1 1] (w.alloc (.cells #[.bool x] 4)) fun r w'=>r=qX e x/\w'=w.alloc (.cells #[.bool x] 4):=by
 refine (AJ e w.heap.size 0 1 [x] (by simp) _ ?_).mono ?_
 ·intro i y hy
  match i,hy with
  | 0,hy=>cases hy;simp [go_sem]
  | i+1,hy=>simp at hy
 ·rintro r w' ⟨h,hw⟩;exact ⟨by simpa using h,hw⟩
theorem Ak (e:Int) (x y:Bool) (w:World) :
  Calls prog 77 #[.int .i64 e,.slice (some ⟨w.heap.size,0,none⟩) 2 2] (w.alloc (.cells #[.bool x,.bool y] 4)) fun r w'=>r=qX e (x && y)/\w'=w.alloc (.cells #[.bool x,.bool y] 4):=by
 refine (AJ e w.heap.size 0 2 [x,y] (by simp) _ ?_).mono ?_
 ·intro i z hz
  match i,hz with
  | 0,hz=>cases hz;simp [go_sem]
  | 1,hz=>cases hz;simp [go_sem]
  | i+2,hz=>simp at hz
 ·rintro r w' ⟨h,hw⟩;exact ⟨by simpa using h,hw⟩
theorem kG (x:Int) (w:World) :
  Calls prog 108 #[.int .i64 x] w fun e w'=>e=.returned (.bool (inB x 0 1048576))/\w'=w:=by
 by_cases h1:0<=x
 ·go_enter func108,ntmps108
  go_wp2
  go_ret
  exact ⟨by simp [inB,h1],rfl⟩
 ·go_enter func108,ntmps108
  go_wp2
  go_ret
  exact ⟨by simp [inB];omega,rfl⟩
theorem CX (a b:Mg) (w:World) :
  Calls prog 140 #[.agg #[.int .i64 a.fr,.int .i64 a.gr,.int .i64 a.st,.bool a.nul,.string a.body],.agg #[.int .i64 b.fr,.int .i64 b.gr,.int .i64 b.st,.bool b.nul,.string b.body]] w fun e w' =>
   e=.returned (.bool (decide (a.st < b.st)))/\w'=(w.alloc (.cells #[.int .i64 a.fr,.int .i64 a.gr,.int .i64 a.st,.bool a.nul,.string a.body] 48)).alloc (.cells #[.int .i64 b.fr,.int .i64 b.gr,.int .i64 b.st,.bool b.nul,.string b.body] 48):=by
 obtain ⟨af,ag,ast,an,ab⟩:=a
 obtain ⟨bf,bg,bst,bn,bb⟩:=b
 go_enter func140,ntmps140
 go_wp2
 go_ret
 exact ⟨by simp,rfl⟩
theorem BA (w0:World) (a b:Mg) (v:Bool) (hv:decide (a.st < b.st)=v) (w:World) (h:Since w0 w) :
  Calls prog 140 #[.agg #[.int .i64 a.fr,.int .i64 a.gr,.int .i64 a.st,.bool a.nul,.string a.body],.agg #[.int .i64 b.fr,.int .i64 b.gr,.int .i64 b.st,.bool b.nul,.string b.body]] w fun e w' =>
   e=.returned (.bool v)/\Since w0 w' :=
 (CX a b w).mono fun e w' ⟨he,hw⟩=>⟨by rw [<-hv];exact he,by rw [hw];exact (h.alloc _).alloc _⟩
theorem rM (ms:List Mg):eB ms=true↔∀ i a b,ms[i]? = some a->ms[i+1]? = some b->decide (a.st < b.st)=true:=by
 rw [uf];simp only [decide_eq_true_eq]
theorem xB (a:Option Addr) (len cap:Nat) (ms:List Mg) (w:World) (hM:fO w a len ms) :
  Calls prog 110 #[.slice a len cap,.func (.func 88) #[] #[]] w fun e w'=>e=.returned (.bool (aP ms))/\Since w w':=by
 obtain ⟨rfl,hmax,hc⟩:=hM
 go_enter func110,ntmps110
 go_wp2
 go_loopw [5] (fun i wr=>(∃ k:Nat,1<=k/\i=.int .i64 k/\∀ i a b,i+1 < k->ms[i]? = some a->ms[i+1]? = some b->lessM a b=true)/\Since w wr) (fun i _=>ms.length - (intOf i).toNat)
 case atStart=>exact ⟨⟨1,by omega,rfl,fun i a b h=>by omega⟩,Since.refl _⟩
 case round =>
  obtain ⟨⟨k,hk,rfl,hr⟩,hS⟩:=hrel
  have HR:Hid (∀ i a b,i+1 < k->ms[i]? = some a->ms[i+1]? = some b->lessM a b=true):=hr
  clear hr
  by_cases hlt:k < ms.length
  ·obtain ⟨k',hk0,hk1,hlt'⟩:∃ k':Nat,k=k'+1/\(k:Int) - 1=(k':Int)/\k' < ms.length:=⟨k - 1,by omega,by omega,by omega⟩
   have HK:Hid (k=k'+1):=hk0
   have hwk:IntKind.i64.wrap (k':Int)=(k':Int):=IntWalk.i64_in _ (by omega)
   obtain ⟨b,off,rfl,hb,hcell⟩:=hc (by omega)
   obtain ⟨m,hm⟩:∃ m,ms[k]? = some m:=⟨_,zQ1 hlt⟩
   obtain ⟨m',hm'⟩:∃ m',ms[k']? = some m':=⟨_,zQ1 hlt'⟩
   obtain ⟨d0,d1,d2,d3,d4⟩:=bZ hcell k m hm
   obtain ⟨e0,e1,e2,e3,e4⟩:=bZ hcell k' m' hm'
   have hne:Nonempty (Later w):=⟨⟨w,Since.refl w⟩⟩
   have hg:∀ (x:Later w) (o:Nat),x.w.cell? ⟨b,o,none⟩=w.cell? ⟨b,o,none⟩:=fun x o=>x.cell hb
   have HM:Hid (ms[k]? = some m):=hm
   have HM':Hid (ms[k']? = some m'):=hm'
   clear hm hm' hcell hc hk0
   cases hl:lessM m' m
   ·have HF:Hid (aP ms=false):=by
     unfold Hid
     rw [<-Bool.not_eq_true,jW]
     intro h
     have:=h k' m' m HM'.out (by rw [<-HK.out];exact HM.out)
     rw [hl] at this
     cases this
    go_wp2_with fail
    refine aB (by kernel_rfl) (by kernel_rfl) hS ?_
    repeat (go_big_quiet_step ((go_at_call 88;exact Later.call (mE w m' m _ hl))))
    refine wpQuiet_nil ?_
    intro w9 hS9
    go_wp2
    go_ret
    exact ⟨by rw [HF.out];rfl,hS9⟩
   ·have HF:Hid (∀ i a b,i+1 < k+1->ms[i]? = some a->ms[i+1]? = some b->lessM a b=true):=by
     intro i a b hi ha hb
     by_cases h:i+1 < k
     ·exact HR.out i a b h ha hb
     ·have e:i=k':=by have:=HK.out;omega
      subst e
      have h1:=HM'.out
      have h2:=HM.out
      rw [HK.out] at h2
      rw [h1] at ha
      rw [h2] at hb
      cases ha;cases hb
      exact hl
    go_wp2_with fail
    refine aB (by kernel_rfl) (by kernel_rfl) hS ?_
    repeat (go_big_quiet_step ((go_at_call 88;exact Later.call (mE w m' m _ hl))))
    refine wpQuiet_nil ?_
    intro w9 hS9
    go_wp2
    go_roundw
    case rel=>exact ⟨⟨k+1,by omega,by go_num,HF.out⟩,hS9⟩
    case measure=>simp [intOf];omega
  ·have HF:Hid (aP ms=true):=by
    unfold Hid
    rw [jW]
    intro i a b ha hb
    refine HR.out i a b ?_ ha hb
    have:=(zQ2.1 hb).1
    omega
   clear hc
   go_wp2
   go_ret
   exact ⟨by rw [HF.out];rfl,hS⟩
theorem Al (a:Option Addr) (len cap:Nat) (ms:List Mg) (w:World) (hM:fO w a len ms) :
  Calls prog 110 #[.slice a len cap,.func (.func 140) #[] #[]] w fun e w'=>e=.returned (.bool (eB ms))/\Since w w':=by
 obtain ⟨rfl,hmax,hc⟩:=hM
 go_enter func110,ntmps110
 go_wp2
 go_loopw [5] (fun i wr=>(∃ k:Nat,1<=k/\i=.int .i64 k/\∀ i a b,i+1 < k->ms[i]? = some a->ms[i+1]? = some b->decide (a.st < b.st)=true)/\Since w wr) (fun i _=>ms.length - (intOf i).toNat)
 case atStart=>exact ⟨⟨1,by omega,rfl,fun i a b h=>by omega⟩,Since.refl _⟩
 case round =>
  obtain ⟨⟨k,hk,rfl,hr⟩,hS⟩:=hrel
  have HR:Hid (∀ i a b,i+1 < k->ms[i]? = some a->ms[i+1]? = some b->decide (a.st < b.st)=true):=hr
  clear hr
  by_cases hlt:k < ms.length
  ·obtain ⟨k',hk0,hk1,hlt'⟩:∃ k':Nat,k=k'+1/\(k:Int) - 1=(k':Int)/\k' < ms.length:=⟨k - 1,by omega,by omega,by omega⟩
   have HK:Hid (k=k'+1):=hk0
   have hwk:IntKind.i64.wrap (k':Int)=(k':Int):=IntWalk.i64_in _ (by omega)
   obtain ⟨b,off,rfl,hb,hcell⟩:=hc (by omega)
   obtain ⟨m,hm⟩:∃ m,ms[k]? = some m:=⟨_,zQ1 hlt⟩
   obtain ⟨m',hm'⟩:∃ m',ms[k']? = some m':=⟨_,zQ1 hlt'⟩
   obtain ⟨d0,d1,d2,d3,d4⟩:=bZ hcell k m hm
   obtain ⟨e0,e1,e2,e3,e4⟩:=bZ hcell k' m' hm'
   have hne:Nonempty (Later w):=⟨⟨w,Since.refl w⟩⟩
   have hg:∀ (x:Later w) (o:Nat),x.w.cell? ⟨b,o,none⟩=w.cell? ⟨b,o,none⟩:=fun x o=>x.cell hb
   have HM:Hid (ms[k]? = some m):=hm
   have HM':Hid (ms[k']? = some m'):=hm'
   clear hm hm' hcell hc hk0
   cases hl:decide (m'.st < m.st)
   ·have HF:Hid (eB ms=false):=by
     unfold Hid
     rw [<-Bool.not_eq_true,rM]
     intro h
     have:=h k' m' m HM'.out (by rw [<-HK.out];exact HM.out)
     rw [hl] at this
     cases this
    go_wp2_with fail
    refine aB (by kernel_rfl) (by kernel_rfl) hS ?_
    repeat (go_big_quiet_step ((go_at_call 140;exact Later.call (BA w m' m _ hl))))
    refine wpQuiet_nil ?_
    intro w9 hS9
    go_wp2
    go_ret
    exact ⟨by rw [HF.out];rfl,hS9⟩
   ·have HF:Hid (∀ i a b,i+1 < k+1->ms[i]? = some a->ms[i+1]? = some b->decide (a.st < b.st)=true):=by
     intro i a b hi ha hb
     by_cases h:i+1 < k
     ·exact HR.out i a b h ha hb
     ·have e:i=k':=by have:=HK.out;omega
      subst e
      have h1:=HM'.out
      have h2:=HM.out
      rw [HK.out] at h2
      rw [h1] at ha
      rw [h2] at hb
      cases ha;cases hb
      exact hl
    go_wp2_with fail
    refine aB (by kernel_rfl) (by kernel_rfl) hS ?_
    repeat (go_big_quiet_step ((go_at_call 140;exact Later.call (BA w m' m _ hl))))
    refine wpQuiet_nil ?_
    intro w9 hS9
    go_wp2
    go_roundw
    case rel=>exact ⟨⟨k+1,by omega,by go_num,HF.out⟩,hS9⟩
    case measure=>simp [intOf];omega
  ·have HF:Hid (eB ms=true):=by
    unfold Hid
    rw [rM]
    intro i a b ha hb
    refine HR.out i a b ?_ ha hb
    have:=(zQ2.1 hb).1
    omega
   clear hc
   go_wp2
   go_ret
   exact ⟨by rw [HF.out];rfl,hS⟩
end Go.Proofs.Ytiiifecfdkjmbaa
