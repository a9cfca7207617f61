/- Lemmas. Lemmas. Lemmas. Lemmas. -/
import Derived.WalkLawsBesides
import Derived.Test.YtediempflagfkaaGreatDoorRange
import Derived.Test.YtediempflagfkaaGreatDoorWorld3
set_option linter.unusedVariables false
set_option linter.unusedSimpArgs false
set_option linter.unnecessarySimpa false
namespace Go.Proofs.YtediempflagfkaaGreatDoor
open _root_.Go.Proofs.Tryz hiding checked
set_option maxRecDepth 8000
open Go.RowKit Go.Shelf
def xU(e:Int)(b:Bool):Ending:=if b then .returned (.tuple #[]) else .panicked [{ v:=.iface 23 (.int .i64 e),recovered:=false }]
theorem Gz(b off cap:Nat)(bs:List Bool)(dY:bs.length<=1000)(w:World)(hc:∀i x,bs[i]? = some x->w.cell? ⟨b,off+i,none⟩=some (.bool x)) :
  Calls prog 186 #[.slice (some ⟨b,off,none⟩) bs.length cap,.bool false] w fun e w'=>(∃r:Int,e=.returned (.int .i64 r)/\decide (0<=r)=!bs.all id)/\w'=w:=by
 go_enter func186,ntmps186
 go_wp2_with fail
 go_loop [5,8] (fun _ i=>∃k:Nat,k<=bs.length/\i=.int .i64 k/\(bs.take k).all id=true) (fun _ i=>bs.length - (intOf i).toNat)
 case atStart=>exact⟨0,Nat.zero_le _,rfl,rfl⟩
 case round =>
  obtain⟨k,hk,rfl,hn⟩:=hrel;have HN:Hid ((bs.take k).all id=true):=hn;clear hn;by_cases hlt:k < bs.length
  ·obtain⟨x,hx⟩:∃x,bs[k]? = some x:=⟨_,zQ1 hlt⟩;have hcx:=hc k x hx;have HX:Hid (bs[k]? = some x):=hx;clear hc hx;cases x
   ·have HF:Hid (bs.all id=false):=by
     unfold Hid;rw[List.all_eq_false];exact⟨false,List.mem_of_getElem? HX.out,by simp⟩
    go_wp2
    go_ret
    exact⟨⟨_,rfl,by rw[HF.out];simp⟩,rfl⟩
   ·go_wp2
    go_round
    case rel =>
     refine⟨k+1,by omega,by go_num, ?_⟩;rw[List.take_add_one,List.all_append,HN.out,HX.out];rfl
    case measure=>simp[intOf];omega
  ·have HF:Hid (bs.all id=true):=by have:=HN.out;rw[List.take_of_length_le (by omega)]at this;exact this
   clear hc
   go_wp2
   go_ret
   exact⟨⟨_,rfl,by rw[HF.out];rfl⟩,rfl⟩
theorem contains_false(b off cap:Nat)(bs:List Bool)(dY:bs.length<=1000)(w:World)(hc:∀i x,bs[i]? = some x->w.cell? ⟨b,off+i,none⟩=some (.bool x)) :
  Calls prog 179 #[.slice (some ⟨b,off,none⟩) bs.length cap,.bool false] w fun e w'=>e=.returned (.bool !bs.all id)/\w'=w:=by
 go_enter func179,ntmps179
 go_wp2_with (go_at_call 186;refine(Gz _ _ _ bs dY _ hc).mono ?_;rintro e w' ⟨⟨r,rfl,hr⟩,rfl⟩)
 go_ret
 exact⟨by simp,rfl⟩
theorem GA(e:Int)(b off cap:Nat)(bs:List Bool)(dY:bs.length<=1000)(w:World)(hc:∀i x,bs[i]? = some x->w.cell? ⟨b,off+i,none⟩=some (.bool x)) :
  Calls prog 171 #[.int .i64 e,.slice (some ⟨b,off,none⟩) bs.length cap] w fun r w'=>r=xU e (bs.all id)/\w'=w:=by
 cases hb:bs.all id
 ·go_enter func171,ntmps171
  go_wp2_with (go_at_call 179;refine(contains_false _ _ _ bs dY _ hc).mono ?_;rw[hb];rintro e w' ⟨rfl,rfl⟩)
  exact⟨rfl,rfl,rfl⟩
 ·go_enter func171,ntmps171
  go_wp2_with (go_at_call 179;refine(contains_false _ _ _ bs dY _ hc).mono ?_;rw[hb];rintro e w' ⟨rfl,rfl⟩)
  go_end0
  exact⟨rfl,rfl⟩
theorem Gj(e:Int)(x:Bool)(w:World) :
  Calls prog 171 #[.int .i64 e,.slice (some ⟨w.heap.size,0,none⟩) 1 1] (w.alloc (.cells #[.bool x] 4)) fun r w'=>r=xU e x/\w'=w.alloc (.cells #[.bool x] 4):=by
 refine(GA e w.heap.size 0 1 [x] (by simp) _ ?_).mono ?_
 ·intro i y hy
  match i,hy with
  | 0,hy=>cases hy;simp[go_sem]
  | i+1,hy=>simp at hy
 ·rintro r w' ⟨h,hw⟩;exact⟨by simpa using h,hw⟩
theorem Gl(e:Int)(x y:Bool)(w:World) :
  Calls prog 171 #[.int .i64 e,.slice (some ⟨w.heap.size,0,none⟩) 2 2] (w.alloc (.cells #[.bool x,.bool y] 4)) fun r w'=>r=xU e (x && y)/\w'=w.alloc (.cells #[.bool x,.bool y] 4):=by
 refine(GA e w.heap.size 0 2 [x,y] (by simp) _ ?_).mono ?_
 ·intro i z hz
  match i,hz with
  | 0,hz=>cases hz;simp[go_sem]
  | 1,hz=>cases hz;simp[go_sem]
  | i+2,hz=>simp at hz
 ·rintro r w' ⟨h,hw⟩;exact⟨by simpa using h,hw⟩
theorem pF(x:Int)(w:World) :
  Calls prog 181 #[.int .i64 x] w fun e w'=>e=.returned (.bool (inB x 0 1048576))/\w'=w:=by
 by_cases h1:0<=x
 ·go_enter func181,ntmps181
  go_wp2
  go_ret
  exact⟨by simp[inB,h1],rfl⟩
 ·go_enter func181,ntmps181
  go_wp2
  go_ret
  exact⟨by simp[inB];omega,rfl⟩
theorem J8(a b:Mg)(w:World) :
  Calls prog 189 #[.agg #[.int .i64 a.fr,.int .i64 a.gr,.int .i64 a.st,.bool a.nul,.string a.body],.agg #[.int .i64 b.fr,.int .i64 b.gr,.int .i64 b.st,.bool b.nul,.string b.body]] w fun e w' =>
   e=.returned (.bool (decide (a.st < b.st)))/\w'=(w.alloc (.cells #[.int .i64 a.fr,.int .i64 a.gr,.int .i64 a.st,.bool a.nul,.string a.body] 95)).alloc (.cells #[.int .i64 b.fr,.int .i64 b.gr,.int .i64 b.st,.bool b.nul,.string b.body] 95):=by
 obtain⟨af,ag,ast,an,ab⟩:=a;obtain⟨bf,bg,bst,bn,bb⟩:=b
 go_enter func189,ntmps189
 go_wp2
 go_ret
 exact⟨by simp,rfl⟩
theorem Ij(w0:World)(a b:Mg)(v:Bool)(hv:decide (a.st < b.st)=v)(w:World)(h:ak w0 w) :
  Calls prog 189 #[.agg #[.int .i64 a.fr,.int .i64 a.gr,.int .i64 a.st,.bool a.nul,.string a.body],.agg #[.int .i64 b.fr,.int .i64 b.gr,.int .i64 b.st,.bool b.nul,.string b.body]] w fun e w' =>
   e=.returned (.bool v)/\ak w0 w' :=
 (J8 a b w).mono fun e w' ⟨he,hw⟩=>⟨by rw[<-hv];exact he,by rw[hw];exact(h.alloc _).alloc _⟩
theorem yD(ms:List Mg):gP ms=true↔∀i a b,ms[i]? = some a->ms[i+1]? = some b->decide (a.st < b.st)=true:=by
 rw[uM];simp only[decide_eq_true_eq]
theorem CV(a:Option Addr)(len cap:Nat)(ms:List Mg)(w:World)(hM:gD w a len ms) :
  Calls prog 183 #[.slice a len cap,.func (.func 159) #[] #[]] w fun e w'=>e=.returned (.bool (bC ms))/\ak w w':=by
 obtain⟨rfl,dY,hc⟩:=hM
 go_enter func183,ntmps183
 go_wp2
 go_loopw [5] (fun i wr=>(∃k:Nat,1<=k/\i=.int .i64 k/\∀i a b,i+1 < k->ms[i]? = some a->ms[i+1]? = some b->lessM a b=true)/\ak w wr) (fun i _=>ms.length - (intOf i).toNat)
 case atStart=>exact⟨⟨1,by omega,rfl,fun i a b h=>by omega⟩,ak.refl _⟩
 case round =>
  obtain⟨⟨k,hk,rfl,hr⟩,hS⟩:=hrel;have HR:Hid (∀i a b,i+1 < k->ms[i]? = some a->ms[i+1]? = some b->lessM a b=true):=hr;clear hr;by_cases hlt:k < ms.length
  ·obtain⟨k',hk0,hk1,hlt'⟩:∃k':Nat,k=k'+1/\(k:Int) - 1=(k':Int)/\k' < ms.length:=⟨k - 1,by omega,by omega,by omega⟩;have HK:Hid (k=k'+1):=hk0;have hwk:IntKind.i64.wrap (k':Int)=(k':Int):=IntWalk.i64_in _ (by omega);obtain⟨b,off,rfl,hb,hcell⟩:=hc (by omega);obtain⟨m,hm⟩:∃m,ms[k]? = some m:=⟨_,zQ1 hlt⟩;obtain⟨m',hm'⟩:∃m',ms[k']? = some m':=⟨_,zQ1 hlt'⟩;obtain⟨d0,d1,d2,d3,d4⟩:=dM hcell k m hm;obtain⟨e0,e1,e2,e3,e4⟩:=dM hcell k' m' hm';have hne:Nonempty (Later w):=⟨⟨w,ak.refl w⟩⟩;have hg:∀(x:Later w) (o:Nat),x.w.cell? ⟨b,o,none⟩=w.cell? ⟨b,o,none⟩:=fun x o=>x.cell hb;have HM:Hid (ms[k]? = some m):=hm;have HM':Hid (ms[k']? = some m'):=hm';clear hm hm' hcell hc hk0;cases hl:lessM m' m
   ·have HF:Hid (bC ms=false):=by
     unfold Hid;rw[<-Bool.not_eq_true,kR];intro h;have:=h k' m' m HM'.out (by rw[<-HK.out];exact HM.out);rw[hl]at this;cases this
    go_wp2_with fail
    refine aH (by kernel_rfl) (by kernel_rfl) hS ?_
    repeat (go_big_quiet_step ((go_at_call 159;exact Later.call (rJ w m' m _ hl))))
    refine wpQuiet_nil ?_;intro w9 hS9
    go_wp2
    go_ret
    exact⟨by rw[HF.out];rfl,hS9⟩
   ·have HF:Hid (∀i a b,i+1 < k+1->ms[i]? = some a->ms[i+1]? = some b->lessM a b=true):=by
     intro i a b hi ha hb;by_cases h:i+1 < k
     ·exact HR.out i a b h ha hb
     ·have e:i=k':=by have:=HK.out;omega
      subst e;have h1:=HM'.out;have h2:=HM.out;rw[HK.out]at h2;rw[h1]at ha;rw[h2]at hb;cases ha;cases hb;exact hl
    go_wp2_with fail
    refine aH (by kernel_rfl) (by kernel_rfl) hS ?_
    repeat (go_big_quiet_step ((go_at_call 159;exact Later.call (rJ w m' m _ hl))))
    refine wpQuiet_nil ?_;intro w9 hS9
    go_wp2
    go_roundw
    case rel=>exact⟨⟨k+1,by omega,by go_num,HF.out⟩,hS9⟩
    case measure=>simp[intOf];omega
  ·have HF:Hid (bC ms=true):=by
    unfold Hid;rw[kR];intro i a b ha hb;refine HR.out i a b ?_ ha hb;have:=(zQ2.1 hb).1;omega
   clear hc
   go_wp2
   go_ret
   exact⟨by rw[HF.out];rfl,hS⟩
theorem Gm(a:Option Addr)(len cap:Nat)(ms:List Mg)(w:World)(hM:gD w a len ms) :
  Calls prog 183 #[.slice a len cap,.func (.func 189) #[] #[]] w fun e w'=>e=.returned (.bool (gP ms))/\ak w w':=by
 obtain⟨rfl,dY,hc⟩:=hM
 go_enter func183,ntmps183
 go_wp2
 go_loopw [5] (fun i wr=>(∃k:Nat,1<=k/\i=.int .i64 k/\∀i a b,i+1 < k->ms[i]? = some a->ms[i+1]? = some b->decide (a.st < b.st)=true)/\ak w wr) (fun i _=>ms.length - (intOf i).toNat)
 case atStart=>exact⟨⟨1,by omega,rfl,fun i a b h=>by omega⟩,ak.refl _⟩
 case round =>
  obtain⟨⟨k,hk,rfl,hr⟩,hS⟩:=hrel;have HR:Hid (∀i a b,i+1 < k->ms[i]? = some a->ms[i+1]? = some b->decide (a.st < b.st)=true):=hr;clear hr;by_cases hlt:k < ms.length
  ·obtain⟨k',hk0,hk1,hlt'⟩:∃k':Nat,k=k'+1/\(k:Int) - 1=(k':Int)/\k' < ms.length:=⟨k - 1,by omega,by omega,by omega⟩;have HK:Hid (k=k'+1):=hk0;have hwk:IntKind.i64.wrap (k':Int)=(k':Int):=IntWalk.i64_in _ (by omega);obtain⟨b,off,rfl,hb,hcell⟩:=hc (by omega);obtain⟨m,hm⟩:∃m,ms[k]? = some m:=⟨_,zQ1 hlt⟩;obtain⟨m',hm'⟩:∃m',ms[k']? = some m':=⟨_,zQ1 hlt'⟩;obtain⟨d0,d1,d2,d3,d4⟩:=dM hcell k m hm;obtain⟨e0,e1,e2,e3,e4⟩:=dM hcell k' m' hm';have hne:Nonempty (Later w):=⟨⟨w,ak.refl w⟩⟩;have hg:∀(x:Later w) (o:Nat),x.w.cell? ⟨b,o,none⟩=w.cell? ⟨b,o,none⟩:=fun x o=>x.cell hb;have HM:Hid (ms[k]? = some m):=hm;have HM':Hid (ms[k']? = some m'):=hm';clear hm hm' hcell hc hk0;cases hl:decide (m'.st < m.st)
   ·have HF:Hid (gP ms=false):=by
     unfold Hid;rw[<-Bool.not_eq_true,yD];intro h;have:=h k' m' m HM'.out (by rw[<-HK.out];exact HM.out);rw[hl]at this;cases this
    go_wp2_with fail
    refine aH (by kernel_rfl) (by kernel_rfl) hS ?_
    repeat (go_big_quiet_step ((go_at_call 189;exact Later.call (Ij w m' m _ hl))))
    refine wpQuiet_nil ?_;intro w9 hS9
    go_wp2
    go_ret
    exact⟨by rw[HF.out];rfl,hS9⟩
   ·have HF:Hid (∀i a b,i+1 < k+1->ms[i]? = some a->ms[i+1]? = some b->decide (a.st < b.st)=true):=by
     intro i a b hi ha hb;by_cases h:i+1 < k
     ·exact HR.out i a b h ha hb
     ·have e:i=k':=by have:=HK.out;omega
      subst e;have h1:=HM'.out;have h2:=HM.out;rw[HK.out]at h2;rw[h1]at ha;rw[h2]at hb;cases ha;cases hb;exact hl
    go_wp2_with fail
    refine aH (by kernel_rfl) (by kernel_rfl) hS ?_
    repeat (go_big_quiet_step ((go_at_call 189;exact Later.call (Ij w m' m _ hl))))
    refine wpQuiet_nil ?_;intro w9 hS9
    go_wp2
    go_roundw
    case rel=>exact⟨⟨k+1,by omega,by go_num,HF.out⟩,hS9⟩
    case measure=>simp[intOf];omega
  ·have HF:Hid (gP ms=true):=by
    unfold Hid;rw[yD];intro i a b ha hb;refine HR.out i a b ?_ ha hb;have:=(zQ2.1 hb).1;omega
   clear hc
   go_wp2
   go_ret
   exact⟨by rw[HF.out];rfl,hS⟩
end Go.Proofs.YtediempflagfkaaGreatDoor
set_option maxHeartbeats 2000000
namespace Go.Proofs.YtediempflagfkaaGreatDoor
open _root_.Go.Proofs.Tryz hiding checked
set_option maxRecDepth 8000
open Go.RowKit Go.Shelf
abbrev pan (e:Int):List PanicEntry:=[{ v:=.iface 23 (.int .i64 e),recovered:=false }]
theorem gI(e:Int)(x:Bool)(hv:x=true)(w:World) :
  Calls prog 171 #[.int .i64 e,.slice (some ⟨w.heap.size,0,none⟩) 1 1] (w.alloc (.cells #[.bool x] 4)) fun r w'=>r=.returned (.tuple #[])/\w'=w.alloc (.cells #[.bool x] 4):=by
 subst hv;exact Gj e true w
theorem iL(e:Int)(x:Bool)(hv:x=false)(w:World) :
  Calls prog 171 #[.int .i64 e,.slice (some ⟨w.heap.size,0,none⟩) 1 1] (w.alloc (.cells #[.bool x] 4)) fun r w'=>r=.panicked (pan e)/\w'=w.alloc (.cells #[.bool x] 4):=by
 subst hv;exact Gj e false w
theorem rF(e:Int)(x y:Bool)(hv:(x && y)=true)(w:World) :
  Calls prog 171 #[.int .i64 e,.slice (some ⟨w.heap.size,0,none⟩) 2 2] (w.alloc (.cells #[.bool x,.bool y] 4)) fun r w'=>r=.returned (.tuple #[])/\w'=w.alloc (.cells #[.bool x,.bool y] 4):=by
 have:=Gl e x y w;rw[hv]at this;exact this
theorem rG(e:Int)(x y:Bool)(hv:(x && y)=false)(w:World) :
  Calls prog 171 #[.int .i64 e,.slice (some ⟨w.heap.size,0,none⟩) 2 2] (w.alloc (.cells #[.bool x,.bool y] 4)) fun r w'=>r=.panicked (pan e)/\w'=w.alloc (.cells #[.bool x,.bool y] 4):=by
 have:=Gl e x y w;rw[hv]at this;exact this
set_option maxRecDepth 4000 in
theorem DL(x:WV)(d:Wd)(a:Option Addr)(len cap:Nat)(ms:List Mg)(n:Int)(w:World)(hW:WAt w x d)(hM:gD w a len ms) :
  Calls prog 184 #[.agg #[.slice x.ga x.gl x.gc,.slice x.na x.nl x.nc,.slice x.wa x.wl x.wc],.int .i64 n,.slice a len cap] w fun e w'=>e=xU 1 (bW d ms n)/\ak w w':=by
 obtain⟨rfl,dY,hc⟩:=hM;obtain⟨w1,hw1⟩:∃w1,w.alloc (.cells #[.slice x.ga x.gl x.gc,.slice x.na x.nl x.nc,.slice x.wa x.wl x.wc] 175)=w1:=⟨_,rfl⟩;have hS1:=aF hw1;have hsz:w1.heap.size=w.heap.size+1:=by rw[<-hw1];simp
 have b0:w1.cell? ⟨w.heap.size,0,none⟩=some (.slice x.ga x.gl x.gc):=by rw[<-hw1];simp[go_sem]
 have b1:w1.cell? ⟨w.heap.size,1,none⟩=some (.slice x.na x.nl x.nc):=by rw[<-hw1];simp[go_sem]
 have hI1:=hW.g.ay hS1;have hnm:=hW.n.dY;have HNL:Hid (d.ah.length=x.nl):=hW.n.bq
 go_enter func184,ntmps184
 go_wp2_with fail
 clear hw1
 go_loopw [7,8,11] (fun _ _ i wr=>(∃k:Nat,k<=ms.length/\i=.int .i64 k/\(ms.take k).all (jC d n)=true)/\ak w1 wr) (fun _ _ i _=>ms.length - (intOf i).toNat)
 case atStart=>exact⟨⟨0,Nat.zero_le _,rfl,rfl⟩,ak.refl _⟩
 case round =>
  obtain⟨⟨k,hk,rfl,hn⟩,hS⟩:=hrel;have HN:Hid ((ms.take k).all (jC d n)=true):=hn;clear hn;by_cases hlt:k < ms.length
  ·obtain⟨b,off,rfl,hb,hcell⟩:=hc (by omega);obtain⟨m,hm⟩:∃m,ms[k]? = some m:=⟨_,zQ1 hlt⟩;have hS0:=hS1.trans hS;obtain⟨d0,d1,d2,d3,d4⟩:=dM (w:=wr) (fun i u hi=>(hS0.av hb _).trans (hcell i u hi)) k m hm;have HM:Hid (ms[k]? = some m):=hm;obtain⟨w2,hw2⟩:∃w2,wr.alloc (.cells #[.int .i64 m.fr,.int .i64 m.gr,.int .i64 m.st,.bool m.nul,.string m.body] 95)=w2:=⟨_,rfl⟩;have hS2:=aF hw2;have hsz2:wr.heap.size < w2.heap.size:=by rw[<-hw2];simp
   have q0:w2.cell? ⟨wr.heap.size,0,none⟩=some (.int .i64 m.fr):=by rw[<-hw2];simp[go_sem]
   have q1:w2.cell? ⟨wr.heap.size,1,none⟩=some (.int .i64 m.gr):=by rw[<-hw2];simp[go_sem]
   have q2:w2.cell? ⟨wr.heap.size,2,none⟩=some (.int .i64 m.st):=by rw[<-hw2];simp[go_sem]
   have q3:w2.cell? ⟨wr.heap.size,3,none⟩=some (.bool m.nul):=by rw[<-hw2];simp[go_sem]
   have q4:w2.cell? ⟨wr.heap.size,4,none⟩=some (.string m.body):=by rw[<-hw2];simp[go_sem]
   have dO:=hS.trans hS2;have c0:w2.cell? ⟨w.heap.size,0,none⟩=some (.slice x.ga x.gl x.gc):=(dO.av (by omega) _).trans b0;have c1:w2.cell? ⟨w.heap.size,1,none⟩=some (.slice x.na x.nl x.nc):=(dO.av (by omega) _).trans b1;have hI2:=hI1.ay dO
   have RF:Hid (∀y,ak w2 y->y.cell? ⟨w.heap.size,0,none⟩=some (.slice x.ga x.gl x.gc)/\y.cell? ⟨wr.heap.size,1,none⟩=some (.int .i64 m.gr)/\Ints y x.ga x.gl d.au/\ak w1 y):=fun y hy =>
    ⟨(hy.av (by have:=dO.size;omega) _).trans c0,(hy.av hsz2 _).trans q1,hI2.ay hy,dO.trans hy⟩
   clear hm hcell hc
   have HV:Hid (jC d n m=((iN x.nl d.au m == 0) && hasB d.au m.gr n)):=by
    unfold Hid jC;rw[HNL.out];congr 1
   cases hv:jC d n m
   ·have HF:Hid (bW d ms n=false):=ni HM.out hv
    go_wp2_with (first
     | (go_at_call 188;refine(xV _ _ _ _ d.au m _ hI2).mono ?_;rintro e w3 ⟨rfl,hS3⟩;obtain⟨f0,f1,f2,f3⟩:=RF.out _ hS3)
     | (go_at_call 151;refine(iA _ _ _ d.au _ _ _ (by assumption)).mono ?_;rintro e w' ⟨rfl,hw⟩;obtain rfl:=hw.symm)
     | (go_at_call 171;refine(rG _ _ _ (by rw[<-HV.out];exact hv) _).mono ?_;rintro e w' ⟨rfl,rfl⟩))
    exact⟨rfl,by rw[HF.out];rfl,hS1.trans (ak.alloc (by assumption) _)⟩
   ·have HF:Hid ((ms.take (k+1)).all (jC d n)=true):=jI HM.out HN.out hv
    go_wp2_with (first
     | (go_at_call 188;refine(xV _ _ _ _ d.au m _ hI2).mono ?_;rintro e w3 ⟨rfl,hS3⟩;obtain⟨f0,f1,f2,f3⟩:=RF.out _ hS3)
     | (go_at_call 151;refine(iA _ _ _ d.au _ _ _ (by assumption)).mono ?_;rintro e w' ⟨rfl,hw⟩;obtain rfl:=hw.symm)
     | (go_at_call 171;refine(rF _ _ _ (by rw[<-HV.out];exact hv) _).mono ?_;rintro e w' ⟨rfl,rfl⟩))
    go_roundw
    case rel=>exact⟨⟨k+1,by omega,by go_num,HF.out⟩,ak.alloc (by assumption) _⟩
    case measure=>simp[intOf];omega
  ·have HF:Hid (bW d ms n=true):=by have:=HN.out;rw[List.take_of_length_le (by omega)]at this;exact this
   clear hc
   go_wp2
   go_end0
   exact⟨by rw[HF.out];rfl,hS1.trans hS⟩
theorem KN(w0:World)(x:WV)(d:Wd)(a:Option Addr)(len cap:Nat)(ms:List Mg)(n:Int)(hv:bW d ms n=true)(hW:WAt w0 x d)(hM:gD w0 a len ms)(w:World)(h:ak w0 w) :
  Calls prog 184 #[.agg #[.slice x.ga x.gl x.gc,.slice x.na x.nl x.nc,.slice x.wa x.wl x.wc],.int .i64 n,.slice a len cap] w fun e w'=>e=.returned (.tuple #[])/\ak w0 w' :=
 (DL x d a len cap ms n w (hW.ay h) (hM.ay h)).mono fun _ _ ⟨he,hw⟩=>⟨by rw[he,hv];rfl,h.trans hw⟩
theorem KO(w0:World)(x:WV)(d:Wd)(a:Option Addr)(len cap:Nat)(ms:List Mg)(n:Int)(hv:bW d ms n=false)(hW:WAt w0 x d)(hM:gD w0 a len ms)(w:World)(h:ak w0 w) :
  Calls prog 184 #[.agg #[.slice x.ga x.gl x.gc,.slice x.na x.nl x.nc,.slice x.wa x.wl x.wc],.int .i64 n,.slice a len cap] w fun e w'=>e=.panicked (pan 1)/\ak w0 w' :=
 (DL x d a len cap ms n w (hW.ay h) (hM.ay h)).mono fun _ _ ⟨he,hw⟩=>⟨by rw[he,hv];rfl,h.trans hw⟩
theorem vg(w0:World)(a:Option Addr)(len cap:Nat)(ms:List Mg)(v:Bool)(hv:gP ms=v)(hM:gD w0 a len ms)(w:World)(h:ak w0 w) :
  Calls prog 183 #[.slice a len cap,.func (.func 189) #[] #[]] w fun e w'=>e=.returned (.bool v)/\ak w0 w' :=
 (Gm a len cap ms w (hM.ay h)).mono fun _ _ ⟨he,hw⟩=>⟨by rw[<-hv];exact he,h.trans hw⟩
theorem tN(w0:World)(a:Option Addr)(len cap:Nat)(ms:List Mg)(v:Bool)(hv:bC ms=v)(hM:gD w0 a len ms)(w:World)(h:ak w0 w) :
  Calls prog 183 #[.slice a len cap,.func (.func 159) #[] #[]] w fun e w'=>e=.returned (.bool v)/\ak w0 w' :=
 (CV a len cap ms w (hM.ay h)).mono fun _ _ ⟨he,hw⟩=>⟨by rw[<-hv];exact he,h.trans hw⟩
set_option maxRecDepth 4000 in
theorem Gn(x:WV)(d:Wd)(f t:Nat)(a:Option Addr)(cap:Nat)(l:List Mg)(w:World)(hW:WAt w x d)(hM:gD w a l.length l) :
  Calls prog 185 #[.agg #[.slice x.ga x.gl x.gc,.slice x.na x.nl x.nc,.slice x.wa x.wl x.wc],.int .i64 f,.int .i64 t,.slice a l.length cap] w fun e w'=>e=xU 1 (bA d f t l)/\ak w w':=by
 obtain⟨w1,hw1⟩:∃w1,w.alloc (.cells #[.slice x.ga x.gl x.gc,.slice x.na x.nl x.nc,.slice x.wa x.wl x.wc] 175)=w1:=⟨_,rfl⟩;have hS1:=aF hw1;have hsz:w1.heap.size=w.heap.size+1:=by rw[<-hw1];simp
 have b0:w1.cell? ⟨w.heap.size,0,none⟩=some (.slice x.ga x.gl x.gc):=by rw[<-hw1];simp[go_sem]
 have b1:w1.cell? ⟨w.heap.size,1,none⟩=some (.slice x.na x.nl x.nc):=by rw[<-hw1];simp[go_sem]
 have b2:w1.cell? ⟨w.heap.size,2,none⟩=some (.slice x.wa x.wl x.wc):=by rw[<-hw1];simp[go_sem]
 have hW1:=hW.ay hS1;have hM1:=hM.ay hS1;obtain⟨_,dY,hc⟩:=hM;have hSr:=ak.refl w1
 have RF:Hid (∀y,ak w1 y->y.cell? ⟨w.heap.size,0,none⟩=some (.slice x.ga x.gl x.gc)/\y.cell? ⟨w.heap.size,1,none⟩=some (.slice x.na x.nl x.nc)/\y.cell? ⟨w.heap.size,2,none⟩=some (.slice x.wa x.wl x.wc)):=fun y hy =>
  ⟨(hy.av (by omega) _).trans b0,(hy.av (by omega) _).trans b1,(hy.av (by omega) _).trans b2⟩
 cases h4:((f:Int) != (t:Int))
 all_goals
  have HV:Hid ((decide (f≠t) || decide (l.length=0))=(((f:Int) != (t:Int)) || ((l.length:Int) == 0))):=by
   unfold Hid;rw[Gp];congr 1;rw[Bool.eq_iff_iff];simp;omega
  cases h1:gP l
  ·have HF:Hid (bA d f t l=false):=by unfold Hid bA kM;rw[h1];simp
   have H1:=h1;clear h1
   go_enter func185,ntmps185
   go_wp2_with (first
    | (go_at_call 183;refine(vg w1 _ _ _ _ _ H1 hM1 _ hSr).mono ?_;rintro e w2 ⟨rfl,hS2⟩)
    | (go_at_call 171;refine(rG _ _ _ rfl _).mono ?_;rintro e w' ⟨rfl,rfl⟩))
   exact⟨rfl,by rw[HF.out];rfl,hS1.trans (ak.alloc (by assumption) _)⟩
  have H1:Hid (gP l=true):=h1;clear h1;cases h2:(decide (f≠t) || decide (l.length=0))
  ·have HF:Hid (bA d f t l=false):=by unfold Hid bA;rw[h2];simp
   have H5:Hid ((((f:Int) != (t:Int)) || ((l.length:Int) == 0))=false):=by unfold Hid;rw[<-HV.out];exact h2
   clear h2
   go_enter func185,ntmps185
   go_wp2_with (first
    | (go_at_call 183;refine(vg w1 _ _ _ _ _ H1.out hM1 _ hSr).mono ?_;rintro e w2 ⟨rfl,hS2⟩)
    | (go_at_call 171;refine(rG _ _ _ (by have h:=H5.out;rw[h4]at h;exact h) _).mono ?_;rintro e w' ⟨rfl,rfl⟩))
   exact⟨rfl,by rw[HF.out];rfl,hS1.trans (ak.alloc (by assumption) _)⟩
  have H5:Hid ((((f:Int) != (t:Int)) || ((l.length:Int) == 0))=true):=by unfold Hid;rw[<-HV.out];exact h2
  have H2:Hid ((decide (f≠t) || decide (l.length=0))=true):=h2;clear h2;cases h3:bW d l t
  ·have HF:Hid (bA d f t l=false):=by unfold Hid bA;rw[h3];simp
   have H3:Hid (bW d l t=false):=h3;clear h3
   go_enter func185,ntmps185
   go_wp2_with (first
    | (go_at_call 183;refine(vg w1 _ _ _ _ _ H1.out hM1 _ hSr).mono ?_;rintro e w2 ⟨rfl,hS2⟩)
    | (go_at_call 171;refine(rF _ _ _ (by have h:=H5.out;rw[h4]at h;exact h) _).mono ?_;rintro e w' ⟨rfl,hw3⟩;have hS3:ak w1 w':=(by rw[hw3];exact ak.alloc hS2 _);obtain⟨g0,g1,g2⟩:=RF.out _ hS3;clear hw3)
    | (go_at_call 184;refine(KO w1 x d _ _ _ l _ H3.out hW1 hM1 _ (by assumption)).mono ?_;rintro e w' ⟨rfl,hS4⟩))
   exact⟨rfl,by rw[HF.out];rfl,hS1.trans (by assumption)⟩
  have H3:Hid (bW d l t=true):=h3;clear h3
  go_enter func185,ntmps185
  go_wp2_with (first
   | (go_at_call 183;refine(vg w1 _ _ _ _ _ H1.out hM1 _ hSr).mono ?_;rintro e w2 ⟨rfl,hS2⟩)
   | (go_at_call 171;refine(rF _ _ _ (by have h:=H5.out;rw[h4]at h;exact h) _).mono ?_;rintro e w' ⟨rfl,hw3⟩;have hS3:ak w1 w':=(by rw[hw3];exact ak.alloc hS2 _);obtain⟨g0,g1,g2⟩:=RF.out _ hS3;clear hw3)
   | (go_at_call 184;refine(KN w1 x d _ _ _ l _ H3.out hW1 hM1 _ (by assumption)).mono ?_;rintro e w' ⟨rfl,hS4⟩))
  clear hw1
  go_loopw [10,30] (fun _ i wr=>(∃k:Nat,k<=l.length/\i=.int .i64 k/\(l.take k).all (fun m=>decide (m.fr=f))=true)/\ak w1 wr) (fun _ i _=>l.length - (intOf i).toNat)
  case atStart=>exact⟨⟨0,Nat.zero_le _,rfl,rfl⟩,by assumption⟩
  case round =>
   obtain⟨⟨k,hk,rfl,hn⟩,hS⟩:=hrel;have HN:Hid ((l.take k).all (fun m=>decide (m.fr=f))=true):=hn;clear hn;by_cases hlt:k < l.length
   ·obtain⟨b,off,rfl,hb,hcell⟩:=hc (by omega);obtain⟨m,hm⟩:∃m,l[k]? = some m:=⟨_,zQ1 hlt⟩;have hS0:=hS1.trans hS;obtain⟨d0,d1,d2,d3,d4⟩:=dM (w:=wr) (fun i u hi=>(hS0.av hb _).trans (hcell i u hi)) k m hm;have HM:Hid (l[k]? = some m):=hm;obtain⟨w2,hw2⟩:∃w2,wr.alloc (.cells #[.int .i64 m.fr,.int .i64 m.gr,.int .i64 m.st,.bool m.nul,.string m.body] 95)=w2:=⟨_,rfl⟩;have hS2:=aF hw2;have q0:w2.cell? ⟨wr.heap.size,0,none⟩=some (.int .i64 m.fr):=by rw[<-hw2];simp[go_sem]
    clear hm hcell hc;have HD:Hid (decide (m.fr=f)=(m.fr == (f:Int))):=by unfold Hid;rw[Bool.eq_iff_iff];simp
    cases hv:decide (m.fr=(f:Int))
    ·have HF:Hid (bA d f t l=false):=by
      unfold Hid bA kM;rw[ni HM.out hv];simp
     have H6:Hid ((m.fr == (f:Int))=false):=by unfold Hid;rw[<-HD.out];exact hv
     clear hv
     go_wp2_with (first
      | (go_at_call 171;refine(iL _ _ H6.out _).mono ?_;rintro e w' ⟨rfl,rfl⟩))
     exact⟨rfl,by rw[HF.out];rfl,hS0.trans (ak.alloc (by assumption) _)⟩
    ·have HF:Hid ((l.take (k+1)).all (fun m=>decide (m.fr=f))=true):=jI HM.out HN.out hv;have H6:Hid ((m.fr == (f:Int))=true):=by unfold Hid;rw[<-HD.out];exact hv
     clear hv
     go_wp2_with (first
      | (go_at_call 171;refine(gI _ _ H6.out _).mono ?_;rintro e w' ⟨rfl,rfl⟩))
     go_roundw
     case rel=>exact⟨⟨k+1,by omega,by go_num,HF.out⟩,hS.trans (ak.alloc (by assumption) _)⟩
     case measure=>simp[intOf];omega
   ·have HO:Hid (bA d f t l=true):=by
     have:=HN.out;rw[List.take_of_length_le (by omega)]at this;unfold Hid bA kM;rw[this,H1.out,H2.out,H3.out];rfl
    clear hc
    go_wp2
    go_end0
    exact⟨by rw[HO.out];rfl,hS1.trans hS⟩
def sI(d:Wd)(f:Nat)(row:List (List Mg)):Bool:=decide (row.length=d.ah.length) && (List.range row.length).all fun t=>bA d f t (row[t]?.getD [])
def fF(d:Wd):Bool:=decide (d.aB.length=d.ah.length) && (List.range d.aB.length).all fun f=>sI d f (d.aB[f]?.getD [])
theorem QT(w0:World)(x:WV)(d:Wd)(f t:Nat)(a:Option Addr)(cap:Nat)(l:List Mg)(hv:bA d f t l=true)(hW:WAt w0 x d)(hM:gD w0 a l.length l)(w:World)(h:ak w0 w) :
  Calls prog 185 #[.agg #[.slice x.ga x.gl x.gc,.slice x.na x.nl x.nc,.slice x.wa x.wl x.wc],.int .i64 f,.int .i64 t,.slice a l.length cap] w fun e w'=>e=.returned (.tuple #[])/\ak w0 w' :=
 (Gn x d f t a cap l w (hW.ay h) (hM.ay h)).mono fun _ _ ⟨he,hw⟩=>⟨by rw[he,hv];rfl,h.trans hw⟩
theorem QU(w0:World)(x:WV)(d:Wd)(f t:Nat)(a:Option Addr)(cap:Nat)(l:List Mg)(hv:bA d f t l=false)(hW:WAt w0 x d)(hM:gD w0 a l.length l)(w:World)(h:ak w0 w) :
  Calls prog 185 #[.agg #[.slice x.ga x.gl x.gc,.slice x.na x.nl x.nc,.slice x.wa x.wl x.wc],.int .i64 f,.int .i64 t,.slice a l.length cap] w fun e w'=>e=.panicked (pan 1)/\ak w0 w' :=
 (Gn x d f t a cap l w (hW.ay h) (hM.ay h)).mono fun _ _ ⟨he,hw⟩=>⟨by rw[he,hv];rfl,h.trans hw⟩
theorem eq_len(a b:Nat):((a:Int) == (b:Int))=decide (a=b):=by rw[Bool.eq_iff_iff];simp;omega
set_option maxRecDepth 4000 in
theorem DN(x:WV)(d:Wd)(w:World)(hW:WAt w x d) :
  Calls prog 174 #[.agg #[.slice x.ga x.gl x.gc,.slice x.na x.nl x.nc,.slice x.wa x.wl x.wc]] w fun e w'=>e=xU 1 (fF d)/\ak w w':=by
 obtain⟨ga,gl,gc,na,nl,nc,wa,wl,wc⟩:=x;have hwl:=hW.r.bq;have hwm:=hW.r.dY;have hnl:=hW.n.bq;have hnm:=hW.n.dY;dsimp only at hwl hwm hnl hnm ⊢;subst hwl hnl;obtain⟨w1,hw1⟩:∃w1,w.alloc (.cells #[.slice ga gl gc,.slice na d.ah.length nc,.slice wa d.aB.length wc] 175)=w1:=⟨_,rfl⟩;have hS1:=aF hw1;have hsz:w.heap.size < w1.heap.size:=by rw[<-hw1];simp
 have b0:w1.cell? ⟨w.heap.size,0,none⟩=some (.slice ga gl gc):=by rw[<-hw1];simp[go_sem]
 have b1:w1.cell? ⟨w.heap.size,1,none⟩=some (.slice na d.ah.length nc):=by rw[<-hw1];simp[go_sem]
 have b2:w1.cell? ⟨w.heap.size,2,none⟩=some (.slice wa d.aB.length wc):=by rw[<-hw1];simp[go_sem]
 have hW1:=hW.ay hS1;have hR1:=hW1.r
 have RF:Hid (∀y,ak w1 y->y.cell? ⟨w.heap.size,0,none⟩=some (.slice ga gl gc)/\y.cell? ⟨w.heap.size,1,none⟩=some (.slice na d.ah.length nc)/\y.cell? ⟨w.heap.size,2,none⟩=some (.slice wa d.aB.length wc)):=fun y hy =>
  ⟨(hy.av (by omega) _).trans b0,(hy.av (by omega) _).trans b1,(hy.av (by omega) _).trans b2⟩
 cases h1:((d.aB.length:Int) == (d.ah.length:Int))
 ·have HF:Hid (fF d=false):=by unfold Hid fF;rw[<-eq_len,h1];rfl
  go_enter func174,ntmps174
  go_wp2_with (go_at_call 171;refine(iL _ _ (by first | exact h1 | rfl) _).mono ?_;rintro e w' ⟨rfl,rfl⟩)
  exact⟨rfl,by rw[HF.out];rfl,hS1.alloc _⟩
 have H1:Hid (((d.aB.length:Int) == (d.ah.length:Int))=true):=h1;clear h1
 go_enter func174,ntmps174
 go_wp2_with (go_at_call 171;refine(gI _ _ (by exact H1.out) _).mono ?_;rintro e w' ⟨rfl,hw3⟩;have hS3:ak w1 w':=(by rw[hw3];exact ak.alloc (ak.refl _) _);obtain⟨g0,g1,g2⟩:=RF.out _ hS3;clear hw3)
 clear hw1
 go_loopw [21] (fun i wr=>(∃k:Nat,k<=d.aB.length/\i=.int .i64 k/\(List.range k).all (fun f=>sI d f (d.aB[f]?.getD []))=true)/\ak w1 wr) (fun i _=>d.aB.length - (intOf i).toNat)
 case atStart=>exact⟨⟨0,Nat.zero_le _,rfl,rfl⟩,by assumption⟩
 case round =>
  obtain⟨⟨k,hk,rfl,hn⟩,hS⟩:=hrel;have HN:Hid ((List.range k).all (fun f=>sI d f (d.aB[f]?.getD []))=true):=hn;clear hn;obtain⟨f0,f1,f2⟩:=RF.out _ hS;by_cases hlt:k < d.aB.length
  ·obtain⟨row,hrow⟩:∃row,d.aB[k]? = some row:=⟨_,zQ1 hlt⟩;obtain⟨bL,oL,rfl,hbL,hcL⟩:=hR1.cells (by omega);obtain⟨v4,k4,ra,rc,rfl,hrc,hR⟩:=hcL k row hrow;have hRm:=hR.dY;have k5:wr.cell? ⟨bL,oL+k,none⟩=_:=(hS.av hbL _).trans k4;have nT:Hid (d.aB[k]? = some row):=hrow
   have HFR:Hid (sI d k row=false->fF d=false):=by
    intro h;unfold fF;rw[nK (p:=fun f=>sI d f (d.aB[f]?.getD [])) hlt (by rw[nT.out];exact h)];simp
   clear hcL hrow k4;cases c3:((row.length:Int) == (d.ah.length:Int))
   ·have HF:Hid (fF d=false):=HFR.out (by unfold sI;rw[<-eq_len,c3];rfl)
    go_wp2_with (go_at_call 171;refine(iL _ _ (by first | exact c3 | rfl) _).mono ?_;rintro e w' ⟨rfl,rfl⟩)
    exact⟨rfl,by rw[HF.out];rfl,hS1.trans (hS.alloc _)⟩
   have C3:Hid (((row.length:Int) == (d.ah.length:Int))=true):=c3
   have HFC:Hid (∀j v,row[j]? = some v->bA d k j v=false->fF d=false):=by
    intro j v hv h;refine HFR.out ?_;unfold sI;rw[nK (p:=fun t=>bA d k t (row[t]?.getD [])) (zQ2.1 hv).1 (by rw[hv];exact h)];simp
   clear c3 HFR
   go_wp2_with (go_at_call 171;refine(gI _ _ (by exact C3.out) _).mono ?_;rintro e w' ⟨rfl,hw3⟩;have hS4:ak w1 w':=(by rw[hw3];exact ak.alloc hS _);obtain⟨e0,e1,e2⟩:=RF.out _ hS4;clear hw3)
   go_loopw [37] (fun i wr=>(∃j:Nat,j<=row.length/\i=.int .i64 j/\(List.range j).all (fun t=>bA d k t (row[t]?.getD []))=true)/\ak w1 wr) (fun i _=>row.length - (intOf i).toNat)
   case atStart=>exact⟨⟨0,Nat.zero_le _,rfl,rfl⟩,by assumption⟩
   case round =>
    obtain⟨⟨j,hj,rfl,hnj⟩,hSj⟩:=hrel;have HNJ:Hid ((List.range j).all (fun t=>bA d k t (row[t]?.getD []))=true):=hnj;clear hnj;obtain⟨e0,e1,e2⟩:=RF.out _ hSj;by_cases hjl:j < row.length
    ·obtain⟨l,hl⟩:∃l,row[j]? = some l:=⟨_,zQ1 hjl⟩;obtain⟨bR,oR,rfl,hbR,hcR⟩:=hR.cells (by omega);obtain⟨v6,k6,la,lc,rfl,hlc,hM⟩:=hcR j l hl;have k7:wr.cell? ⟨bR,oR+j,none⟩=_:=(hSj.av hbR _).trans k6;have HL:Hid (row[j]? = some l):=hl;clear hcR hl k6;cases h8:bA d k j l
     ·have HF:Hid (fF d=false):=HFC.out j l HL.out h8;have H8:Hid (bA d k j l=false):=h8;clear h8
      go_wp2_with (go_at_call 185;refine(QU w1 ⟨ga,gl,gc,na,d.ah.length,nc,_,d.aB.length,wc⟩ d k j _ _ l H8.out hW1 hM _ hSj).mono ?_;rintro e w' ⟨rfl,hS9⟩)
      exact⟨rfl,by rw[HF.out];rfl,hS1.trans (by assumption)⟩
     ·have H8:Hid (bA d k j l=true):=h8;clear h8
      go_wp2_with (go_at_call 185;refine(QT w1 ⟨ga,gl,gc,na,d.ah.length,nc,_,d.aB.length,wc⟩ d k j _ _ l H8.out hW1 hM _ hSj).mono ?_;rintro e w' ⟨rfl,hS9⟩)
      go_roundw
      case rel=>exact⟨⟨j+1,by omega,by go_num,jS HNJ.out (by rw[HL.out];exact H8.out)⟩,by assumption⟩
      case measure=>simp[intOf];omega
    ·have HR:Hid (sI d k row=true):=by
      have:=HNJ.out;rw[show j=row.length from by omega]at this;unfold Hid sI;rw[this,<-eq_len,C3.out];rfl
     go_wp2_with fail
     go_roundw
     case rel=>exact⟨⟨k+1,by omega,by go_num,jS HN.out (by rw[nT.out];exact HR.out)⟩,hSj⟩
     case measure=>simp[intOf];omega
  ·have HF:Hid (fF d=true):=by
    have:=HN.out;rw[show k=d.aB.length from by omega]at this;unfold Hid fF;rw[this,<-eq_len,H1.out];rfl
   go_wp2
   go_end0
   exact⟨by rw[HF.out];rfl,hS1.trans hS⟩
attribute [local go_sem] Oper.semAt_some
def pairs(G N:Nat):List (Nat × Nat):=(List.range G).flatMap fun g=>(List.range N).map fun k=>(g,k)
theorem AB(G N:Nat):pairs (G+1) N=pairs G N++(List.range N).map fun k=>(G,k):=by
 simp[pairs,List.range_succ,List.flatMap_append]
theorem kT(G N:Nat):(pairs G N).length=G*N:=by
 induction G with
 | zero=>simp[pairs]
 | succ G ih=>rw[AB,List.length_append,ih];simp[Nat.succ_mul]
theorem lq{G N g k:Nat}(hg:g < G)(hk:k < N):(pairs G N)[g*N+k]? = some (g,k):=by
 induction G with
 | zero=>omega
 | succ G ih =>
  rw[AB];by_cases h:g < G
  ·rw[List.getElem?_append_left (by rw[kT];have:=Nat.mul_le_mul_right N (show g+1<=G from h);rw[Nat.succ_mul]at this;omega)];exact ih h
  ·obtain rfl:g=G:=by omega
   rw[List.getElem?_append_right (by rw[kT];omega),kT];simp[hk]
theorem DF{G N i g k:Nat}(h:(pairs G N)[i]? = some (g,k)):g < G/\k < N:=by
 have:=List.mem_of_getElem? h;simp only[pairs,List.mem_flatMap,List.mem_map,List.mem_range,Prod.mk.injEq]at this;obtain⟨g',hg,k',hk,rfl,rfl⟩:=this;exact⟨hg,hk⟩
set_option maxRecDepth 100000 in
theorem Mf(m:Nat)(Bj n0:Nat)(w:World)(hBj:Bj < n0)(hn0:n0<=w.heap.size)(ga:Option Addr)(gl gc:Nat)(na:Option Addr)(nl nc:Nat)(hgm:gl<=17592186043904)(hnm:nl<=17592186043904)
  (c0:w.cell? ⟨Bj,0,none⟩=some (.slice ga gl gc)) (c1:w.cell? ⟨Bj,1,none⟩=some (.slice na nl nc)) :
  PI prog m 190 #[.pointer (some ⟨Bj,0,none⟩)] (fun p:Nat × Nat=>#[.int .i64 (p.1:Int),.int .i64 (p.2:Int)]) (KX n0 none) (fun i p=>(pairs gl nl)[i]? = some p) (fun _=>False) (gl*nl) w:=by
 intro l J Jp W hW hJ _ hY h0
 have C:∀W',Below n0 W W'->W'.cell? ⟨Bj,0,none⟩=some (.slice ga gl gc)/\W'.cell? ⟨Bj,1,none⟩=some (.slice na nl nc):=fun W' h =>
  ⟨(h.cell (p:=⟨Bj,0,none⟩) hBj).trans ((hW.below.cell (p:=⟨Bj,0,none⟩) (by show Bj < _;omega)).trans c0),(h.cell (p:=⟨Bj,1,none⟩) hBj).trans ((hW.below.cell (p:=⟨Bj,1,none⟩) (by show Bj < _;omega)).trans c1)⟩
 obtain⟨d0,d1⟩:=C W (Below.refl _ _);refine callsIn_of_wp func190 rfl trivial ?_ rfl;simp only[ntmps190,List.size_toArray,List.length_cons,List.length_nil,Nat.reduceAdd,Nat.reduceSub,Array.replicate_succ,Array.replicate_zero,List.push_toArray,List.append_toArray,List.nil_append,List.cons_append]
 gi_wp2
 gi_loopw [9] (fun i wr=>∃g:Nat,g<=gl/\i=.int .i64 g/\J (g*nl) wr/\Below n0 W wr) (fun i _=>gl - (intOf i).toNat)
 case atStart=>exact⟨0,Nat.zero_le _,rfl,by simpa using h0,Below.refl _ _⟩
 case round =>
  obtain⟨g,hg,rfl,hJs,hB⟩:=hrel;obtain⟨f0,f1⟩:=C wr hB;by_cases hlt:g < gl
  ·gi_wp2
   gi_loopw [16] (fun i wr=>∃k:Nat,k<=nl/\i=.int .i64 k/\J (g*nl+k) wr/\Below n0 W wr) (fun i _=>nl - (intOf i).toNat)
   case atStart=>exact⟨0,Nat.zero_le _,rfl,hJs,hB⟩
   case round =>
    obtain⟨k,hk,rfl,hJk,hBk⟩:=hrel;by_cases hkl:k < nl
    ·obtain⟨fn,tmps,assign,body,hy,hR⟩:=hY _ (g,k) wr hJk (by have:=(zQ2.1 (lq hlt hkl)).1;rw[kT]at this;exact this) (lq hlt hkl);clear hY
     gi_wp2
     refine⟨fun h=>(by cases h), ?_⟩;refine hR.mono ?_;rintro e W3 (⟨rfl,hJ3,hk3⟩ | ⟨ch,rfl,hp3⟩)
     ·gi_wp2
      go_roundw
      case rel=>exact⟨k+1,by omega,by simp,hJ3,hBk.trans hk3.below⟩
      case measure=>simp[intOf];omega
     ·exact⟨rfl,.inr ⟨ch,rfl,hp3⟩⟩
    ·obtain rfl:k=nl:=by omega
     gi_wp2
     go_roundw
     case rel=>exact⟨g+1,by omega,by simp,by rw[Nat.succ_mul];exact hJk,hBk⟩
     case measure=>simp[intOf];omega
  ·obtain rfl:g=gl:=by omega
   gi_wp2
   go_end0
   exact .inl ⟨_,rfl,hJs⟩
end Go.Proofs.YtediempflagfkaaGreatDoor
set_option maxHeartbeats 2000000
namespace Go.Proofs.YtediempflagfkaaGreatDoor
open _root_.Go.Proofs.Tryz hiding checked
set_option maxRecDepth 8000
open Go.RowKit Go.Shelf
attribute [local go_sem] Oper.semAt_some
def jl(ns:List Nd):List Nat:=ns.flatMap fun nd=>[nd.held.length,nd.aG.length]
def kD(rs:List (List (List Mg))):List Nat:=rs.flatMap fun row=>row.map List.length
def iE(d:Wd):List Nat:=jl d.ah++kD d.aB
theorem vK(ns:List Nd)(i:Nat)(h:i<=ns.length):(jl (ns.take i)).length=2*i:=by
 unfold jl;rw[List.length_flatMap]
 have:((ns.take i).map fun nd:Nd=>[nd.held.length,nd.aG.length].length)=List.replicate i 2:=by
  rw[List.eq_replicate_iff];refine⟨by simp;omega,fun b hb=>?_⟩;simp only[List.mem_map]at hb;obtain⟨_,_,rfl⟩:=hb;rfl
 rw[this];simp[Nat.mul_comm]
theorem Gv{α:Type}{l:List α}{i:Nat}{x:α}(h:l[i]? = some x):l=l.take i++x::l.drop (i+1):=by
 obtain⟨hi,rfl⟩:=zQ2.1 h;simp
theorem Gw{ns:List Nd}{i:Nat}{nd:Nd}(h:ns[i]? = some nd):(jl ns)[2*i]? = some nd.held.length/\(jl ns)[2*i+1]? = some nd.aG.length:=by
 have hl:=vK ns i (Nat.le_of_lt (zQ2.1 h).1)
 have e:jl ns=jl (ns.take i)++([nd.held.length,nd.aG.length]++jl (ns.drop (i+1))):=by
  conv=>lhs;rw[Gv h]
  simp[jl]
 rw[e];constructor
 ·rw[List.getElem?_append_right (by omega),hl];simp
 ·rw[List.getElem?_append_right (by omega),hl];simp
theorem nL(ns:List Nd):(jl ns).length=2*ns.length:=by
 have:=vK ns ns.length (Nat.le_refl _);rwa[List.take_length]at this
def AP(rs:List (List (List Mg)))(f:Nat):Nat:=(kD (rs.take f)).length
theorem Mj{rs:List (List (List Mg))}{f:Nat}{row:List (List Mg)}(h:rs[f]? = some row):AP rs (f+1)=AP rs f+row.length:=by
 unfold AP kD;rw[List.take_add_one,h,List.flatMap_append,List.length_append];simp
theorem Gx{rs:List (List (List Mg))}{f t:Nat}{row:List (List Mg)}{l:List Mg}(h:rs[f]? = some row)(hl:row[t]? = some l):(kD rs)[AP rs f+t]? = some l.length:=by
 have e:kD rs=kD (rs.take f)++(row.map List.length++kD (rs.drop (f+1))):=by
  conv=>lhs;rw[Gv h]
  simp[kD]
 have ht:=(zQ2.1 hl).1;rw[e,List.getElem?_append_right (by unfold AP;omega)];unfold AP;rw[Nat.add_sub_cancel_left,List.getElem?_append_left (by simpa using ht)];simp[hl]
theorem Mk(x:WV)(w:World) :
  Calls prog 172 #[.agg #[.slice x.ga x.gl x.gc,.slice x.na x.nl x.nc,.slice x.wa x.wl x.wc]] w fun e w'=>e=.returned (.func (.func 180) #[] #[.pointer (some ⟨w.heap.size,0,none⟩)])/\w'=w.alloc (.cells #[.slice x.ga x.gl x.gc,.slice x.na x.nl x.nc,.slice x.wa x.wl x.wc] 175):=by
 go_enter func172,ntmps172
 go_wp2
 go_ret
 exact⟨rfl,rfl⟩
set_option maxRecDepth 100000 in
theorem Ml(m:Nat)(Bj:Nat)(w:World)(hBj:Bj < w.heap.size)(x:WV)(d:Wd)(hWA:WAt w x d)
  (c1:w.cell? ⟨Bj,1,none⟩=some (.slice x.na x.nl x.nc)) (c2:w.cell? ⟨Bj,2,none⟩=some (.slice x.wa x.wl x.wc)) :
  PI prog m 180 #[.pointer (some ⟨Bj,0,none⟩)] (fun s:Option Addr × Nat × Nat=>#[.slice s.1 s.2.1 s.2.2]) (KX w.heap.size none) (fun i s=>(iE d)[i]? = some s.2.1) (fun _=>False) (iE d).length w:=by
 intro l J Jp W hW hJ _ hY h0;obtain⟨ga,gl,gc,na,nl,nc,wa,wl,wc⟩:=x;have hwl:=hWA.r.bq;have hwm:=hWA.r.dY;have hnl:=hWA.n.bq;have hnm:=hWA.n.dY;dsimp only at hwl hwm hnl hnm c1 c2;subst hwl hnl
 have C:∀W',Below w.heap.size W W'->ak w W'/\W'.cell? ⟨Bj,1,none⟩=some (.slice na d.ah.length nc)/\W'.cell? ⟨Bj,2,none⟩=some (.slice wa d.aB.length wc):=fun W' h =>
  have hs:ak w W':=⟨hW.below.trans h⟩
  ⟨hs,(hs.av hBj _).trans c1,(hs.av hBj _).trans c2⟩
 obtain⟨-,d1,d2⟩:=C W (Below.refl _ _);refine callsIn_of_wp func180 rfl trivial ?_ rfl;simp only[ntmps180,List.size_toArray,List.length_cons,List.length_nil,Nat.reduceAdd,Nat.reduceSub,Array.replicate_succ,Array.replicate_zero,List.push_toArray,List.append_toArray,List.nil_append,List.cons_append]
 gi_wp2
 gi_loopw [13] (fun i wr=>∃k:Nat,k<=d.ah.length/\i=.int .i64 k/\J (2*k) wr/\Below w.heap.size W wr) (fun i _=>d.ah.length - (intOf i).toNat)
 case atStart=>exact⟨0,Nat.zero_le _,rfl,h0,Below.refl _ _⟩
 case round =>
  obtain⟨k,hk,rfl,hJs,hB⟩:=hrel;obtain⟨hSr,f1,f2⟩:=C wr hB;by_cases hlt:k < d.ah.length
  ·obtain⟨nd,hnd⟩:∃nd,d.ah[k]? = some nd:=⟨_,zQ1 hlt⟩;obtain⟨bn,on,rfl,hbn,hcn⟩:=hWA.n.cells (by dsimp only;omega);obtain⟨k0,⟨v1,k1,la,lc,rfl,hlc,hL⟩,⟨v2,k2,ha,hc,rfl,hhc,hH⟩,⟨v3,k3,ta,tc,rfl,htc,hT⟩⟩:=hcn k nd hnd;have j0:wr.cell? ⟨bn,on+k*4,none⟩=_:=(hSr.av hbn _).trans k0;have j1:wr.cell? ⟨bn,on+k*4+1,none⟩=_:=(hSr.av hbn _).trans k1;have j2:wr.cell? ⟨bn,on+k*4+2,none⟩=_:=(hSr.av hbn _).trans k2;have j3:wr.cell? ⟨bn,on+k*4+3,none⟩=_:=(hSr.av hbn _).trans k3;obtain⟨e1,e2⟩:=Gw hnd;have hll:=nL d.ah;have E1:(iE d)[2*k]? = some nd.held.length:=by unfold iE;rw[List.getElem?_append_left (by omega)];exact e1
   have E2:(iE d)[2*k+1]? = some nd.aG.length:=by unfold iE;rw[List.getElem?_append_left (by omega)];exact e2
   have hS1:ak wr (wr.alloc (.cells #[.int .i64 nd.aK,.slice la nd.last.length lc,.slice ha nd.held.length hc,.slice ta nd.aG.length tc] 64)):=(ak.refl wr).alloc _;have hbb:=World.alloc_heap_new wr (.cells #[.int .i64 nd.aK,.slice la nd.last.length lc,.slice ha nd.held.length hc,.slice ta nd.aG.length tc] 64);obtain⟨fn,tmps,assign,body,hy,hR⟩:=hY (2*k) (ha,nd.held.length,hc) _ (hJ _ _ _ hJs hS1) (zQ2.1 E1).1 E1;have HBB:Hid _:=hbb;have HY:Hid _:=hY;clear hY hcn k0 k1 k2 k3 hL hH hT hbb e1 e2 E1
   gi_wp2
   refine⟨fun h=>(by cases h), ?_⟩;refine hR.mono ?_;rintro e W3 (⟨rfl,hJ3,hk3⟩ | ⟨ch,rfl,hp3⟩)
   ·have t3:W3.cell? ⟨wr.heap.size,3,none⟩=some (.slice ta nd.aG.length tc) :=
     (World.cell?_of_block (w:=wr.alloc (.cells #[.int .i64 nd.aK,.slice la nd.last.length lc,.slice ha nd.held.length hc,.slice ta nd.aG.length tc] 64)) ((hk3.cells _ _ HBB.out rfl (by simp)).trans HBB.out.symm)).trans (by simp[go_sem])
    obtain⟨fn2,V6,assign2,V7,hy2,hR2⟩:=HY.out (2*k+1) (ta,nd.aG.length,tc) W3 hJ3 (zQ2.1 E2).1 E2;have hB3:Below w.heap.size W W3:=(hB.trans (hS1.below.mono hSr.size)).trans hk3.below;clear hy hR
    gi_wp2
    refine⟨fun h=>(by cases h), ?_⟩;refine hR2.mono ?_;rintro e W4 (⟨rfl,hJ4,hk4⟩ | ⟨ch,rfl,hp4⟩)
    ·gi_wp2
     go_roundw
     case rel=>exact⟨k+1,by omega,by simp,hJ4,hB3.trans hk4.below⟩
     case measure=>simp[intOf];omega
    ·exact⟨rfl,.inr ⟨ch,rfl,hp4⟩⟩
   ·exact⟨rfl,.inr ⟨ch,rfl,hp3⟩⟩
  ·obtain rfl:k=d.ah.length:=by omega
   gi_wp2
   gi_loopw [34] (fun i wr=>∃f:Nat,f<=d.aB.length/\i=.int .i64 f/\J (2*d.ah.length+AP d.aB f) wr/\Below w.heap.size W wr) (fun i _=>d.aB.length - (intOf i).toNat)
   case atStart=>exact⟨0,Nat.zero_le _,rfl,hJs,hB⟩
   case round =>
    obtain⟨f,hf,rfl,hJf,hBf⟩:=hrel;obtain⟨hSf,g1,g2⟩:=C wr hBf;by_cases hfl:f < d.aB.length
    ·obtain⟨row,hrow⟩:∃row,d.aB[f]? = some row:=⟨_,zQ1 hfl⟩;obtain⟨bL,oL,rfl,hbL,hcL⟩:=hWA.r.cells (by dsimp only;omega);obtain⟨v4,k4,ra,rc,rfl,hrc,hR⟩:=hcL f row hrow;have k5:wr.cell? ⟨bL,oL+f,none⟩=_:=(hSf.av hbL _).trans k4;have nT:Hid (d.aB[f]? = some row):=hrow;have hrm:=hR.dY;clear hrow k4 hcL
     gi_wp2
     gi_loopw [40] (fun i wr=>∃t:Nat,t<=row.length/\i=.int .i64 t/\J (2*d.ah.length+(AP d.aB f+t)) wr/\Below w.heap.size W wr) (fun i _=>row.length - (intOf i).toNat)
     case atStart=>exact⟨0,Nat.zero_le _,rfl,hJf,hBf⟩
     case round =>
      obtain⟨t,ht,rfl,hJt,hBt⟩:=hrel;obtain⟨hSt,-,-⟩:=C wr hBt;by_cases htl:t < row.length
      ·obtain⟨li,hli⟩:∃li,row[t]? = some li:=⟨_,zQ1 htl⟩;obtain⟨bR,oR,rfl,hbR,hcR⟩:=hR.cells (by omega);obtain⟨v6,k6,qa,qc,rfl,hqc,hM⟩:=hcR t li hli;have k7:wr.cell? ⟨bR,oR+t,none⟩=_:=(hSt.av hbR _).trans k6
       have E3:(iE d)[2*d.ah.length+(AP d.aB f+t)]? = some li.length:=by
        unfold iE;rw[List.getElem?_append_right (by rw[nL];omega),nL,Nat.add_sub_cancel_left];exact Gx nT.out hli
       obtain⟨fn,tmps,assign,body,hy,hR2⟩:=hY _ (qa,li.length,qc) wr hJt (zQ2.1 E3).1 E3;clear hcR hli k6 hM E3 hY
       gi_wp2
       refine⟨fun h=>(by cases h), ?_⟩;refine hR2.mono ?_;rintro e W4 (⟨rfl,hJ4,hk4⟩ | ⟨ch,rfl,hp4⟩)
       ·gi_wp2
        go_roundw
        case rel=>exact⟨t+1,by omega,by simp,hJ4,hBt.trans hk4.below⟩
        case measure=>simp[intOf];omega
       ·exact⟨rfl,.inr ⟨ch,rfl,hp4⟩⟩
      ·obtain rfl:t=row.length:=by omega
       gi_wp2
       go_roundw
       case rel=>exact⟨f+1,by omega,by simp,by rw[Mj nT.out];exact hJt,hBt⟩
       case measure=>simp[intOf];omega
    ·obtain rfl:f=d.aB.length:=by omega
     gi_wp2
     go_end0
     refine .inl ⟨_,rfl, ?_⟩
     have:(iE d).length=2*d.ah.length+AP d.aB d.aB.length:=by
      unfold iE AP;rw[List.length_append,nL,List.take_length]
     rw[this];exact hJf
end Go.Proofs.YtediempflagfkaaGreatDoor
