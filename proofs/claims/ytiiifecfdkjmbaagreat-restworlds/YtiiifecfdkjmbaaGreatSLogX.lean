/- Lemmas. -/
import Derived.Laws.IdiomStrings
import Derived.Test.YtiiifecfdkjmbaaGreatRDo4X
set_option maxHeartbeats 8000000
namespace Go.Proofs.YtiiifecfdkjmbaaGreat
open _root_.Go.Proofs.Tryz
set_option maxRecDepth 8000
open Go.RowKit Go.Shelf
open Pu
set_option linter.unusedVariables false
set_option linter.unusedSimpArgs false
def bAt (t:ByteArray) (i:Nat):Nat:=(t.data[i]?.getD 0).toNat
def gV (t:ByteArray):Nat:=if t.size < 4 then 0 else if t.size < 4+bAt t 3 then 0 else 4+bAt t 3
def kY (t:ByteArray):Ac:=if gV t=0 then ⟨0,0,0,ByteArray.empty⟩ else ⟨bAt t 0,bAt t 1,bAt t 2,t.extract 4 (gV t)⟩
theorem yI (t:ByteArray) (i:Nat) (h:i < t.size):(t[i]'h).toNat=bAt t i:=by
 unfold bAt
 have h':i < t.data.size:=h
 rw [Array.getElem?_eq_getElem h'];rfl
theorem Dz (t:ByteArray) (i:Nat):bAt t i < 256:=by
 unfold bAt;exact (t.data[i]?.getD 0).toNat_lt
theorem w64 {n:Int} (h:-9223372036854775808<=n/\n<=9223372036854775807):wrap64 n=n:=IntWalk.wrap64_in n h
theorem uT {o:Oper} {a:Act} {C:World->Prop} {K:Act->Prop} {x:Operand} {n:Int} (hop:o.op=.convert 5 3 x) (hx:a.eval x=.int .u8 n) (hn:0<=n/\n < 256) (hK:K (a.put o.dst (.int .i64 n))):o.quiet prog a C K:=by
 have hw:IntKind.i64.wrap n=n:=IntWalk.i64_in n (by omega)
 refine ⟨.int .i64 n,fun w _=>?_,hK⟩
 have hr:(convert 5 3 (.int .u8 n)).run prog w=.ok (.int .i64 n) w:=by
  simp [go_sem,underlying5,underlying3,hw]
 obtain ⟨dst,op,ty,pos,after,guard⟩:=o
 dsimp only at hop
 subst hop
 unfold Oper.quietAt
 simp only [execOp]
 rw [hx]
 simp only [Sem.run_bind,Sem.run_pure]
 rw [hr]
 simp [go_sem,Oper.quietUpon]
theorem vN (w:World) (T:TypeId) (v0 v1 v2 v3:Value):fD (w.alloc (.cells #[v0,v1,v2,v3] T)) w.heap.size v0 v1 v2 v3:=fD.new w T v0 v1 v2 v3
theorem KE (t:ByteArray) (w:World) :
  Calls prog 175 #[.string t] w fun e w'=>e=.returned (.tuple #[acV (kY t),.int .i64 (gV t)])/\Since w w':=by
 obtain ⟨w1,hw1⟩:∃ y,w.alloc (.cells #[.int .i64 0,.int .i64 0,.int .i64 0,.string ⟨#[]⟩] 58)=y:=⟨_,rfl⟩
 have hS1:=au hw1
 have hB1:fD w1 w.heap.size (.int .i64 0) (.int .i64 0) (.int .i64 0) (.string ⟨#[]⟩):=by rw [<-hw1];exact vN w _ _ _ _ _
 by_cases h4:t.size < 4
 ·have hN:gV t=0:=by unfold gV;rw [if_pos h4]
  have hA:kY t=⟨0,0,0,ByteArray.empty⟩:=by unfold kY;rw [if_pos hN]
  rw [hA,hN]
  have d4:decide ((t.size:Int) < 4)=true:=by simp;omega
  clear hw1
  go_enter func175,ntmps175
  go_wp2
  refine bodyPost_ret (v:=.tuple #[.agg #[.int .i64 0,.int .i64 0,.int .i64 0,.string ⟨#[]⟩],.int .i64 0]) ?_ rfl ⟨rfl,(Since.refl w).alloc _⟩
  simp [results,results175,go_sem]
 ·have d4:decide ((t.size:Int) < 4)=false:=by simp;omega
  obtain ⟨n3,hn3⟩:∃ n,bAt t 3=n:=⟨_,rfl⟩
  have g3:(t[3]'(by omega)).toNat=n3:=by rw [yI];exact hn3
  have l3:n3 < 256:=by rw [<-hn3];exact Dz t 3
  have e3:wrap64 (n3:Int)=(n3:Int):=w64 (by omega)
  have e4:wrap64 (4+(n3:Int))=4+(n3:Int):=w64 (by omega)
  have s3:(3:Int) < (t.size:Int):=by omega
  by_cases h5:t.size < 4+n3
  ·have hN:gV t=0:=by unfold gV;rw [if_neg h4,hn3,if_pos h5]
   have hA:kY t=⟨0,0,0,ByteArray.empty⟩:=by unfold kY;rw [if_pos hN]
   rw [hA,hN]
   have d5:decide ((t.size:Int) < 4+(n3:Int))=true:=by simp;omega
   clear hw1 hn3
   go_enter func175,ntmps175
   go_wp2
   refine bodyPost_ret (v:=.tuple #[.agg #[.int .i64 0,.int .i64 0,.int .i64 0,.string ⟨#[]⟩],.int .i64 0]) ?_ rfl ⟨rfl,(Since.refl w).alloc _⟩
   simp [results,results175,go_sem]
  ·have hN:gV t=4+n3:=by unfold gV;rw [if_neg h4,hn3,if_neg h5]
   have d5:decide ((t.size:Int) < 4+(n3:Int))=false:=by simp;omega
   obtain ⟨n0,hn0⟩:∃ n,bAt t 0=n:=⟨_,rfl⟩
   obtain ⟨n1,hn1⟩:∃ n,bAt t 1=n:=⟨_,rfl⟩
   obtain ⟨n2,hn2⟩:∃ n,bAt t 2=n:=⟨_,rfl⟩
   have g0:(t[0]'(by omega)).toNat=n0:=by rw [yI];exact hn0
   have g1:(t[1]'(by omega)).toNat=n1:=by rw [yI];exact hn1
   have g2:(t[2]'(by omega)).toNat=n2:=by rw [yI];exact hn2
   have l0:n0 < 256:=by rw [<-hn0];exact Dz t 0
   have l1:n1 < 256:=by rw [<-hn1];exact Dz t 1
   have l2:n2 < 256:=by rw [<-hn2];exact Dz t 2
   have s0:(0:Int) < (t.size:Int):=by omega
   have s1:(1:Int) < (t.size:Int):=by omega
   have s2:(2:Int) < (t.size:Int):=by omega
   have hA:kY t=⟨n0,n1,n2,t.extract 4 (4+n3)⟩:=by unfold kY;rw [if_neg (by rw [hN];omega),hn0,hn1,hn2,hN]
   rw [hA,hN]
   obtain ⟨bd,hbd⟩:∃ b,t.extract 4 (4+n3)=b:=⟨_,rfl⟩
   rw [hbd]
   have c1:(4:Int)<=4+(n3:Int):=by omega
   have c2:4+(n3:Int)<=(t.size:Int):=by omega
   have tn:(4+(n3:Int)).toNat=4+n3:=by omega
   obtain ⟨S0,hS0⟩:∃ S0:World->Prop,∀ w',S0 w'↔Since w1 w':=⟨_,fun _=>Iff.rfl⟩
   obtain ⟨W0,hW0⟩:∃ y,w1.drew=y:=⟨_,rfl⟩
   have hs0:=bM hW0
   have av:=(hS0 W0).2 hs0
   have hne:Nonempty (aj S0):=⟨⟨_,av⟩⟩
   have dG:=aQ w
   obtain ⟨_,y0,y1,y2,y3,z0,z1,z2,z3⟩:=hB1.since hs0
   clear hn0 hn1 hn2 hn3 hA hN
   go_enter func175,ntmps175
   go_wp2_with fail
   try rw [hw1]
   refine aS (fun w'=>∃ x:aj S0,w'=x.w) (by kernel_rfl) ?_
   rw [hW0]
   clear hW0 hw1 e3 e4
   refine tW 0 rfl ?_;go_big_quiet_op
   refine tM 1 rfl (ah av) ?_;go_big_quiet_op
   refine tM 2 rfl (ah av) ?_
   refine uT (n:=(n0:Int)) rfl rfl (by omega) ?_
   simp only [Act.put,zQ7,zQ8,zQ9]
   refine tW 3 rfl ?_;go_big_quiet_op
   refine tM 4 rfl (ah av) ?_;go_big_quiet_op
   refine tM 5 rfl (ah av) ?_
   refine uT (n:=(n1:Int)) rfl rfl (by omega) ?_
   simp only [Act.put,zQ7,zQ8,zQ9]
   refine tW 6 rfl ?_;go_big_quiet_op
   refine tM 7 rfl (ah av) ?_;go_big_quiet_op
   refine tM 8 rfl (ah av) ?_
   refine uT (n:=(n2:Int)) rfl rfl (by omega) ?_
   simp only [Act.put,zQ7,zQ8,zQ9]
   refine tW 9 rfl ?_;go_big_quiet_op
   refine tW 10 rfl ?_;go_big_quiet_op
   refine tM 11 rfl (ah av) ?_;go_big_quiet_op
   refine tW 12 rfl ?_;go_big_quiet_op
   refine tW 13 rfl ?_;go_big_quiet_op
   refine aT 14 rfl (by kernel_rfl) ?_
   intro K hK
   go_simp
   refine hK _ _ (fun h=>absurd h (by decide +kernel)) ?_
   clear hK K
   refine tW 15 rfl ?_;go_big_quiet_op
   refine dB (by kernel_rfl) ?_
   obtain ⟨W1,hW1⟩:∃ y,KG W0 w.heap.size (.int .i64 n0) (.int .i64 n1) (.int .i64 n2) (.string bd)=y:=⟨_,rfl⟩
   have hF1:Fr (fun i=>i=w.heap.size) W0 W1:=by rw [<-hW1];exact sS W0 w.heap.size _ _ _ _
   have hb1:fD W1 w.heap.size (.int .i64 n0) (.int .i64 n1) (.int .i64 n2) (.string bd):=by rw [<-hW1];exact (hB1.since hs0).put _ _ _ _
   have hSf:Since w W1:=hF1.aA (hS1.trans hs0) (fun i hi e=>by omega)
   obtain ⟨_,q0,q1,q2,q3,_,_,_,_⟩:=hb1
   unfold KG at hW1
   clear hne dG y0 y1 y2 y3 z0 z1 z2 z3
   go_wp2_with fail
   rw [hW1]
   refine bodyPost_ret (v:=.tuple #[.agg #[.int .i64 n0,.int .i64 n1,.int .i64 n2,.string bd],.int .i64 (4+(n3:Int))]) ?_ rfl ⟨?_,hSf⟩
   ·simp [results,results175,go_sem,q0,q1,q2,q3]
   ·unfold acV;simp
def nI (t:ByteArray):Nat->Nat
 | 0=>0
 | k+1=>nI t k+gV (t.extract (nI t k) t.size)
def og (t:ByteArray) (k:Nat):ByteArray:=t.extract (nI t k) t.size
def yB (t:ByteArray):Nat->Nat->Nat
 | 0,_=>0
 | n+1,k=>if gV (og t k)=0 then 0 else yB t n (k+1)+1
def iP (t:ByteArray):Nat:=yB t 80 0
def jU (t:ByteArray):List Ac:=(List.range (iP t)).map fun k=>kY (og t k)
theorem kZ (t:ByteArray):(jU t).length=iP t:=by simp [jU]
theorem KI {t:ByteArray} {k:Nat} (h:k < iP t):(jU t)[k]? = some (kY (og t k)):=by simp [jU,h]
theorem Jj (t:ByteArray):∀ n k,yB t n k<=n
 | 0,_=>Nat.le_refl _
 | n+1,k=>by
  unfold yB
  split
  ·omega
  ·have:=Jj t n (k+1);omega
theorem Jk (t:ByteArray):∀ n k i,i < yB t n k->gV (og t (k+i))≠0
 | 0,_,_,h=>by cases h
 | n+1,k,i,h=>by
  unfold yB at h
  split at h
  ·cases h
  ·rename_i hz
   cases i with
   | zero=>exact hz
   | succ i=>have:=Jk t n (k+1) i (by omega);rwa [show k+1+i=k+(i+1) from by omega] at this
theorem FR (t:ByteArray):∀ n k,yB t n k=n\/gV (og t (k+yB t n k))=0
 | 0,_=>.inl rfl
 | n+1,k=>by
  by_cases hz:gV (og t k)=0
  ·right;unfold yB;rw [if_pos hz];exact hz
  ·unfold yB;rw [if_neg hz]
   rcases FR t n (k+1) with h | h
   ·left;omega
   ·right;rwa [show k+(yB t n (k+1)+1)=k+1+yB t n (k+1) from by omega]
theorem yJ (t:ByteArray):iP t<=80:=Jj t 80 0
theorem Oi {t:ByteArray} {k:Nat} (h:k < iP t):gV (og t k)≠0:=by have:=Jk t 80 0 k h;rwa [Nat.zero_add] at this
theorem M5 (t:ByteArray):iP t=80\/gV (og t (iP t))=0:=by have:=FR t 80 0;rwa [Nat.zero_add] at this
theorem KJ (t:ByteArray):gV t<=t.size:=by
 unfold gV
 split
 ·omega
 ·split <;> omega
theorem DC (t:ByteArray):∀ k,nI t k<=t.size
 | 0=>Nat.zero_le _
 | k+1=>by
  have h:=DC t k
  have h2:=KJ (t.extract (nI t k) t.size)
  rw [ByteArray.size_extract] at h2
  unfold nI
  omega
theorem KL (t:ByteArray) (k:Nat):nI t (k+1)=nI t k+gV (og t k):=rfl
structure KB (n b:Nat) (A B:World):Prop where
 below:Below n A B
 same:B.heap[b]? = A.heap[b]?
theorem KB.refl (n b:Nat) (A:World):KB n b A A:=⟨Below.refl _ _,rfl⟩
theorem KB.trans {n b:Nat} {A B C:World} (h:KB n b A B) (k:KB n b B C):KB n b A C:=⟨h.below.trans k.below,k.same.trans h.same⟩
theorem KB.dD {n b:Nat} {A B:World} (h:Since A B) (hn:n<=A.heap.size) (hb:b < A.heap.size):KB n b A B:=⟨h.below.mono hn,h.below.block b hb⟩
theorem KB.cell {n b:Nat} {A B:World} (h:KB n b A B) (o:Nat):B.cell? ⟨b,o,none⟩=A.cell? ⟨b,o,none⟩:=World.cell?_of_block h.same
def R5 (n0 bj:Nat) (I:Nat->World->Prop) (Ip:List PanicEntry->World->Prop) (i:Nat) (W:World):Exit->Act->World->Prop
 | .normal,_,W'=>NC W W'/\KB n0 bj W W'/\I (i+1) W'
 | .panic ch,a,W'=>a.defers=[]/\NC W W'/\Ip ch W'
 | _,_,_=>False
theorem Il {α:Type} {P:Program} {f0:FuncId} {fn:Func} (hf:P.funcs[f0]? = some fn) {g:Operand} {ps:Array Tmp} {assign body:Code} {Q:Exit->Act->World->Prop} {a:Act} {w:World}
  {gf:Nat} {lb:Array Value} (hg:a.eval g=.func (.func gf) #[] lb) (eg:∀ args w,(callFunc gf args).run P w=.ok (.enter gf args) w)
  {m:Nat} {encs:α->Array Value} {n0 bj:Nat} {E:Nat->α->Prop} {Sk:Nat->Prop} {N:Nat} (hn0:n0<=w.heap.size) (hbj:bj < w.heap.size) (hseq:JU P m gf lb encs (KB n0 bj) E Sk N w) (hps:∀ x,(encs x).size=ps.size)
  (I:Nat->World->Prop) (Ip:List PanicEntry->World->Prop) (hI:∀ i A B,I i A->KX w.heap.size none A B->I i B) (MS:∀ i A,I i A->i < N->Sk i->I (i+1) A) (h0:I 0 w)
  (yM:∀ (l i:Nat) (x:α) (W:World),w.heap.size<=W.heap.size->I i W->i < N->E i x ->
   assign.wpIn (Fence.wide.inRound l) (m - 1) P (Exit.then (fun a' W1=>Since W W1/\∀ W',w.heap.size<=W'.heap.size->KX w.heap.size none W1 W'->body.wpIn (Fence.wide.inRound l) (m - 1) P (R5 n0 bj I Ip i W') a' W') (fun _ _ _=>False)) { tmps:=(ps.zip (encs x)).foldl (fun t (p,v)=>t.setIfInBounds p v) a.tmps,defers:=[] } W)
  (hdone:∀ (D:Nat) (W:World),w.heap.size<=D->I N W->W.heap[D]? = some (.deferred (some []))->Q .normal { a with defers:={ target:=.collected D,args:=#[] }::a.defers } W)
  (Lc:∀ (D:Nat) (ch:List PanicEntry) (W:World),w.heap.size<=D->Ip ch W->W.heap[D]? = some (.deferred (some []))->Q (.panic ch) { a with defers:={ target:=.collected D,args:=#[] }::a.defers } W) :
  wpF P f0 (Code.rangeFunc g ps assign body) Q a w:=by
 intro b k cs hro hb
 obtain ⟨rc,hrc⟩:∃ rc:LoopState->Loop,rc=fun st=>{ state:=st,pending:=none,fn:=f0,tmps:=a.tmps,params:=ps,assign,body,defers:=w.heap.size }:=⟨_,rfl⟩
 obtain ⟨W1,hW1⟩:∃ W1,(w.alloc (.deferred (some []))).alloc (.loop (rc .ready))=W1:=⟨_,rfl⟩
 have hS1:Since w W1:=by rw [<-hW1];exact ((Since.refl w).alloc _).alloc _
 have hL1:W1.heap[w.heap.size+1]? = some (.loop (rc .ready)):=by
  rw [<-hW1];have:=World.alloc_heap_new (w.alloc (.deferred (some []))) (.loop (rc .ready));rwa [World.size_alloc] at this
 have hK1:W1.heap[w.heap.size]? = some (.deferred (some [])):=by
  rw [<-hW1];exact (Below.heap_alloc _ _ _ (by simp)).trans (World.alloc_heap_new w _)
 have hsz1:w.heap.size<=W1.heap.size:=hS1.size
 have he:(Instr.enterLoop b.fn a.tmps ps assign body b.roundOf).run P w=.ok (w.heap.size+1,[{ target:=.collected w.heap.size,args:=#[] }]) W1:=by
  rw [hro,hb,<-hW1,hrc];exact run_enterLoop_outer _ _ _ _ _
 have hres:(resolve a.eval (rangeCall g (w.heap.size+1)) 0).run P W1=.ok { target:=.fn (.func gf) lb,args:=#[.func (.yield (w.heap.size+1)) #[] #[]] } W1:=by
  simp only [resolve,hg];simp [go_sem]
 have hinv:(invoke (.fn (.func gf) lb) #[.func (.yield (w.heap.size+1)) #[] #[]]).run P W1=.ok (.enter gf (#[.func (.yield (w.heap.size+1)) #[] #[]]++lb)) W1:=by simp [invoke,go_sem,eg]
 have henter:=stepR_rangeFunc (P:=P) (b:=b) (a:=a) (k:=k) (cs:=cs) (w:=w) he hres hinv
 have hcall:=hseq (w.heap.size+1)
  (fun i W=>w.heap.size<=W.heap.size/\I i W/\W.heap[w.heap.size+1]? = some (.loop (rc .ready))/\W.heap[w.heap.size]? = some (.deferred (some [])))
  (fun ch W=>Ip ch W/\W.heap[w.heap.size]? = some (.deferred (some [])))
  W1 hS1 (fun i A B hA hS=>⟨zQ5 hA.1 hS.size,hI i A B hA.2.1 (KX.dD hS hA.1),hS.block hA.2.2.1,hS.block hA.2.2.2⟩)
  (fun i A hA hi hk=>⟨hA.1,MS i A hA.2.1 hi hk,hA.2.2.1,hA.2.2.2⟩)
  (by
   rintro i x W ⟨hsz,hi,hl,hk⟩ hiN hx
   have hlt:w.heap.size+1 < W.heap.size:=(zQ3.1 hl).1
   have hy:=run_yield (P:=P) (args:=encs x) hl (by rw [hrc];exact hps x)
   have er:(rc .ready).fn=f0/\(rc .ready).assign=assign/\(rc .ready).body=body/\(rc .ready).params=ps/\(rc .ready).tmps=a.tmps:=by rw [hrc];exact ⟨rfl,rfl,rfl,rfl,rfl⟩
   rw [er.1,er.2.1,er.2.2.1,er.2.2.2.1,er.2.2.2.2] at hy
   refine ⟨_,_,_,_,hy,Cm hf (wpIn_mono (yM _ i x W hsz hi hiN hx) ?_)⟩
   intro e0 a0 W0 hp0
   match e0,hp0 with
   | .normal,⟨yN,hb0⟩ =>
   have hl0:W0.heap[w.heap.size+1]? = some (.loop (rc .ready)):=yN.block hl
   have hk0:W0.heap[w.heap.size]? = some (.deferred (some [])):=yN.block hk
   have O4:w.heap.size+1 < W0.heap.size:=(zQ3.1 hl0).1
   have k2:KX w.heap.size none W0 (W0.putObj (w.heap.size+1) (.loop { rc .ready with state:=.busy })):=KX.put _ hl0 rfl (by omega)
   have hl2:(W0.putObj (w.heap.size+1) (.loop { rc .ready with state:=.busy })).heap[w.heap.size+1]? = some (.loop { rc .ready with state:=.busy }):=World.putObj_heap_same O4
   have hk2:(W0.putObj (w.heap.size+1) (.loop { rc .ready with state:=.busy })).heap[w.heap.size]? = some (.deferred (some [])):=(World.putObj_heap_other (by omega)).trans hk0
   refine ⟨_,run_beginRound hl0 (by rw [hrc]),wpIn_mono (hb0 _ (by simp only [World.putObj_size];omega) k2) ?_⟩
   intro e a3 W3 hp
   match e,hp with
   | .normal,⟨hn3,hx3,hi3⟩ =>
    have hl3:=hn3 _ _ hl2 rfl
    have hend:=run_endRound (P:=P) none hl3
    have k4:KX w.heap.size none W3 (W3.putObj (w.heap.size+1) (.loop (rc .ready))):=KX.put _ hl3 rfl (by omega)
    refine ⟨_,_,hend,.inl ⟨rfl,⟨?_,hI _ _ _ hi3 ?_, ?_, ?_⟩, ?_⟩⟩
    ·have:=hx3.below.size;simp only [World.putObj_size] at this ⊢;omega
    ·rw [hrc] at k4 ⊢;exact k4
    ·rw [hrc] at hl3 ⊢;exact World.putObj_heap_same (zQ3.1 hl3).1
    ·exact (World.putObj_heap_other (by omega)).trans (hn3 _ _ hk2 rfl)
    ·refine (KB.dD yN (by omega) (by omega)).trans (KB.trans ⟨k2.below.mono hn0,World.putObj_heap_other (by omega)⟩ (hx3.trans ?_))
     rw [hrc] at k4 ⊢;exact ⟨k4.below.mono hn0,World.putObj_heap_other (by omega)⟩
   | .panic ch,⟨hd,hn3,hp3⟩=>exact ⟨hd,.inr ⟨ch,rfl,hp3,hn3 _ _ hk2 rfl⟩⟩)
  ⟨hsz1,hI _ _ _ h0 (KX.dD hS1 (Nat.le_refl _)),hL1,hK1⟩
 obtain ⟨e,w3,fr,hR,hsteps,hfn,hleave⟩:=hcall.2 (b.atR { a with defers:={ target:=.collected w.heap.size,args:=#[] }::a.defers } (.inRangeFunc (w.heap.size+1)::k)::cs) (room_wide _)
 rcases hR with ⟨v,rfl,hsz,hi,hl,hk⟩ | ⟨ch,rfl,hi,hk⟩
 ·have hend:=run_endLoop (P:=P) hl (by rw [hrc];simp)
  have k4:KX w.heap.size none w3 (w3.putObj (w.heap.size+1) (.loop { rc .ready with state:=.exhausted })):=KX.put _ hl rfl (by omega)
  refine ⟨.normal,_,_,hdone _ _ (Nat.le_refl _) (hI _ _ _ hi k4) ((World.putObj_heap_other (by omega)).trans hk), ?_⟩
  have hp0:(rc .ready).pending=none:=by rw [hrc]
  replace hend:=hend.trans (congrArg (fun p=>Result.ok p (w3.putObj (w.heap.size+1) (.loop { rc .ready with state:=.exhausted }))) hp0)
  have h9:step P (lone fr (b.atR { a with defers:={ target:=.collected w.heap.size,args:=#[] }::a.defers } (.inRangeFunc (w.heap.size+1)::k)::cs) w3)=.next (lone (b.atR { a with defers:={ target:=.collected w.heap.size,args:=#[] }::a.defers } (.endRangeFunc (w.heap.size+1)::k)) cs w3):=by
   rw [<-finish_atR_inRangeFunc (w.heap.size+1) v];exact step_leave_returned hleave
  exact .head (fenced_wide P _) henter (StepsIn.trans hsteps (.head (fenced_wide P _) h9 (.one (fenced_wide P _) (stepR_endRangeFunc hend))))
 ·refine ⟨.panic ch,_,w3,Lc _ _ _ (Nat.le_refl _) hi hk,.inRangeFunc (w.heap.size+1)::k,.head (fenced_wide P _) henter (StepsIn.trans hsteps (.one (fenced_wide P _) ?_))⟩
  rw [<-Frame.raise_atR];exact step_leave_panicked hleave
attribute [local go_sem] Oper.semAt_some
theorem FT (t:ByteArray) (w:World) :
  Calls prog 127 #[.string t] w fun e w'=>e=.returned (.func (.func 174) #[] #[.pointer (some ⟨w.heap.size,0,none⟩)])/\w'=w.alloc (.cells #[.string t] 9):=by
 go_enter func127,ntmps127
 go_wp2
 go_ret
 exact ⟨rfl,rfl⟩
set_option maxRecDepth 100000 in
theorem M6 (m:Nat) (Bj n0:Nat) (w:World) (hn0:n0<=w.heap.size) (hBj:Bj < w.heap.size) (t:ByteArray) (ht:t.size<=4096) (c0:w.cell? ⟨Bj,0,none⟩=some (.string t)) :
  JU prog m 174 #[.pointer (some ⟨Bj,0,none⟩)] (fun x:Ac × Nat=>#[acV x.1,.int .i64 x.2]) (KB n0 Bj) (fun i x=>x=(kY (og t i),nI t (i+1))) (fun _=>False) (iP t) w:=by
 intro l J Jp W hW hJ _ hY h0
 have C:∀ W',KB n0 Bj W W'->w.heap.size<=W'.heap.size/\W'.cell? ⟨Bj,0,none⟩=some (.string t):=fun W' h =>
  ⟨zQ5 hW.size h.below.size,(h.cell 0).trans ((hW.cellAt hBj _).trans c0)⟩
 obtain ⟨-,d0⟩:=C W (KB.refl _ _ _)
 refine callsIn_of_wp func174 rfl trivial ?_ rfl
 simp only [ntmps174,List.size_toArray,List.length_cons,List.length_nil,Nat.reduceAdd,Nat.reduceSub,Array.replicate_succ,Array.replicate_zero,List.push_toArray,List.append_toArray,List.nil_append,List.cons_append]
 gi_wp2
 gi_loopw [3,6] (fun e i wr=>∃ k:Nat,k<=iP t/\e=.int .i64 (nI t k)/\i=.int .i64 k/\J k wr/\KB n0 Bj W wr) (fun _ i _=>80 - (intOf i).toNat)
 case atStart=>exact ⟨0,Nat.zero_le _,rfl,rfl,h0,KB.refl _ _ _⟩
 case round =>
  obtain ⟨k,hk,rfl,rfl,hJs,hB⟩:=hrel
  obtain ⟨hSr,f0⟩:=C wr hB
  have h80:=yJ t
  obtain ⟨ek,hek⟩:∃ e,nI t k=e:=⟨_,rfl⟩
  have hel:ek<=t.size:=by rw [<-hek];exact DC t k
  obtain ⟨rs,hrs⟩:∃ r,og t k=r:=⟨_,rfl⟩
  have hex:t.extract ek t.size=rs:=by rw [<-hrs,<-hek];rfl
  have HES:Hid (nI t (k+1)=ek+gV rs):=by unfold Hid;rw [KL,hek,hrs]
  have hsl:ek+gV rs<=t.size:=by have:=DC t (k+1);rw [HES.out] at this;exact this
  rw [hek]
  by_cases hlt:k < 80
  ·have k1:(k:Int) < 80:=by omega
   have e1:(ek:Int)<=(t.size:Int):=by omega
   obtain ⟨fn,hfn⟩:∃ n,gV rs=n:=⟨_,rfl⟩
   obtain ⟨fa,hfa⟩:∃ n,kY rs=n:=⟨_,rfl⟩
   have hF:=fun y=>KE rs y
   rw [hfn,hfa] at hF
   rw [hfn] at hsl HES
   have w1:wrap64 ((ek:Int)+(fn:Int))=(ek:Int)+(fn:Int):=w64 (by omega)
   have HK:Hid (fn≠0->k < iP t):=fun hz=>by
    rcases Nat.lt_or_ge k (iP t) with h | h
    ·exact h
    ·have hkn:k=iP t:=by omega
     rcases M5 t with h2 | h2
     ·omega
     ·rw [<-hkn,hrs,hfn] at h2;exact absurd h2 hz
   have HKE:Hid (fn=0->k=iP t):=fun hz=>by
    rcases Nat.lt_or_ge k (iP t) with h | h
    ·have:=Oi h;rw [hrs,hfn] at this;exact absurd hz this
    ·omega
   have HY:Hid _:=hY
   have HFA:Hid (kY (og t k)=fa):=by unfold Hid;rw [hrs,hfa]
   clear hY hfn hfa hrs hek
   unfold acV at hF
   cases hz:((fn:Int) == 0)
   ·have hkn:k < iP t:=HK.out (by intro e;rw [e] at hz;simp at hz)
    gi_wp2_with (refine ⟨trivial,fun h=>(by cases h), ?_⟩;gi_at_call 175;refine (callsIn_wide.2 (hF _)).mono ?_;rintro e W1 ⟨rfl,hS1⟩;obtain ⟨W2,hW2⟩:∃ y,W1.alloc (.cells #[.int .i64 fa.kind,.int .i64 fa.one,.int .i64 fa.two,.string fa.body] 58)=y:=⟨_,rfl⟩;have hS2:Since wr W2:=(by rw [<-hW2];exact hS1.alloc _);obtain ⟨fnn,tmps,assign,body,hy,hR⟩:=HY.out k (fa,ek+fn) W2 (hJ _ _ _ hJs hS2) hkn (by rw [HFA.out,HES.out]);simp only [acV,Int.natCast_add] at hy;have z0:W2.cell? ⟨W1.heap.size,0,none⟩=some (.int .i64 fa.kind):=(by rw [<-hW2];simp [go_sem]);have z1:W2.cell? ⟨W1.heap.size,1,none⟩=some (.int .i64 fa.one):=(by rw [<-hW2];simp [go_sem]);have z2:W2.cell? ⟨W1.heap.size,2,none⟩=some (.int .i64 fa.two):=(by rw [<-hW2];simp [go_sem]);have z3:W2.cell? ⟨W1.heap.size,3,none⟩=some (.string fa.body):=(by rw [<-hW2];simp [go_sem]))
    refine ⟨fun h=>(by cases h), ?_⟩
    refine hR.mono ?_
    rintro e W3 (⟨rfl,hJ3,hk3⟩ | ⟨ch,rfl,hp3⟩)
    ·have hB3:KB n0 Bj W W3:=(hB.trans (KB.dD hS2 (by omega) (by omega))).trans hk3
     clear hy hR z0 z1 z2 z3 hW2
     gi_wp2
     go_roundw
     case rel=>exact ⟨k+1,hkn,by rw [HES.out];simp,by simp,hJ3,hB3⟩
     case measure=>simp [intOf];omega
    ·exact ⟨rfl,.inr ⟨ch,rfl,hp3⟩⟩
   ·have hkn:k=iP t:=HKE.out (by have:=beq_iff_eq.1 hz;omega)
    gi_wp2_with (refine ⟨trivial,fun h=>(by cases h), ?_⟩;gi_at_call 175;refine (callsIn_wide.2 (hF _)).mono ?_;rintro e W1 ⟨rfl,hS1⟩)
    refine ⟨fun f h=>(by cases h), ?_⟩
    gi_wp2
    refine bodyPost_ret (v:=.tuple #[]) ?_ rfl (.inl ⟨_,rfl, ?_⟩)
    ·simp [results,results174,go_sem]
    ·rw [<-hkn]
     exact hJ _ _ _ hJs (hS1.alloc _)
  ·have hkn:k=iP t:=by omega
   have k1:¬ (k:Int) < 80:=by omega
   clear hex HES hsl hel
   gi_wp2
   go_end0
   refine .inl ⟨⟨_,rfl⟩, ?_⟩
   rw [<-hkn]
   exact hJs
theorem OY:ET 50 58 4 40:=xW (z:=.agg #[.int .i64 0,.int .i64 0,.int .i64 0,.string ByteArray.empty]) (by kernel_rfl) (by kernel_rfl) rfl
theorem Eb {F:Fence} {nn:Nat} {w:World} {ops:Array Oper} {rest:List Oper} {o:Oper} {a:Act} {Q:Exit->Act->World->Prop} {t e:TypeId} {size bytes:Nat} (hE:ET t e size bytes) (hgd:o.guard=none) (ds dx:Operand) (tx:TypeId)
  (ho:o.op=.call { callee:=.builtin .append,args:=#[ds,dx],argTypes:=#[t,tx] })
  {lo:Nat} {sa:Option Addr} {sc n:Nat} {xs:List Value} (hd:a.eval ds=.slice sa n sc) (hR:Row w lo size ⟨sa,sc⟩ n xs) {x:Value} {m:Nat} {news:List Value} (hx:a.eval dx=x) (hs:Src prog size tx x m news w)
  (hb:(n+m)*(bytes+1)<=1000000000) (hlo:lo<=w.heap.size)
  (h:∀ a' c' w',Row w' lo size ⟨a',c'⟩ (n+m) (xs++news)->Fr (fun k=>Sl.blk ⟨sa,sc⟩=some k) w w'->((⟨a',c'⟩:Sl)=⟨sa,sc⟩\/(Since w w'/\Sl.blk ⟨a',c'⟩=some w.heap.size))->wpListIn F nn prog ops Q rest (a.put o.dst (.slice a' (n+m) c')) w'):wpListIn F nn prog ops Q (o::rest) a w:=by
 obtain ⟨i,z,h1,h2,h3,h4,h5⟩:=hE.info
 rw [Nat.mul_add] at hb
 refine wpListIn_plain hgd fun K hK'=>?_
 obtain ⟨s',w',hr,q2,q3,q4⟩:=uq (P:=prog) w t tx o.type e i z size bytes hE.und h1 h2 h3 h4 h5 (s:=⟨sa,sc⟩) hR hs (by unfold maxLen;omega) (by omega) hlo
 have hd':a.eval ds=Sl.v ⟨sa,sc⟩ n:=hd
 unfold Oper.wpIn
 refine ⟨?_, ?_⟩
 ·simp [Oper.about,ho,resolve,Target.leads,Sem.run_pure]
 ·rw [Oper.semAt_plain F _ _ (by rw [ho];intro c hc';cases hc')]
  simp only [execOp,ho,resolve,invoke,builtin,Sem.run_bind,Sem.run_pure,Result.andThen_ok,List.map_toArray,List.map_cons,List.map_nil,hd',hx,hr]
  exact hK' _ _ (h s'.a s'.cap w' q2 q3 q4)
theorem sF {n:Nat} {A B:World} (h:KX n none A B) {p:Addr} {v:Value} (hc:A.cell? p=some v):B.heap[p.block]? = A.heap[p.block]?:=by
 unfold World.cell? at hc
 split at hc
 ·rename_i c e z hb;exact (h.cells _ _ hb rfl (by simp)).trans hb.symm
 ·cases hc
theorem NC.OA {B:Nat->Prop} {A A':World} (h:Fr B A A') (hB:∀ k,B k->∃ o v,A.cell? ⟨k,o,none⟩=some v):NC A A':=by
 intro k o hk hc
 by_cases hb:B k
 ·obtain ⟨off,v,hv⟩:=hB k hb
  unfold World.cell? at hv
  split at hv
  ·rename_i c e z hb2
   rw [hk] at hb2;cases hb2;cases hc
  ·cases hv
 ·exact (h.block k (zQ3.1 hk).1 hb).trans hk
theorem xR {B:Nat->Prop} {A A':World} {n:Nat} (h:Fr B A A') (hn:n<=A.heap.size) (hB:∀ k,k < n->¬ B k):Below n A A':=⟨h.os,h.tape,h.output,h.size,fun i hi=>h.block i (by omega) (hB i hi)⟩
theorem Row.kx {n:Nat} {A B:World} {lo sz:Nat} {s:Sl} {m:Nat} {xs:List Value} (h:Row A lo sz s m xs) (hsz:0 < sz) (k:KX n none A B):Row B lo sz s m xs:=by
 refine h.kept k.below.size (fun b hb=>?_)
 obtain ⟨hp,_,_,off,e⟩:=h.fA hb
 obtain ⟨b',off',e',_,_,hc,_⟩:=h.body hp
 rw [e] at e'
 cases e'
 obtain ⟨u,hu⟩:=Option.isSome_iff_exists.1 (hc 0 (Nat.mul_pos hp hsz)).1
 unfold World.cell? at hu
 split at hu
 ·rename_i c ty z hb2;exact (k.cells _ _ hb2 rfl (by simp)).trans hb2.symm
 ·cases hu
theorem M7 {w:World} {lo:Nat} {s:Sl} {l:List Ac} (h:Row w lo 4 s l.length (l.flatMap iN)) (hl:l.length<=1000):yh w s.a l.length l:=by
 refine ⟨rfl,by omega,fun hp=>?_⟩
 obtain ⟨b,off,e,_,hb,_,hx⟩:=h.body (by have:=h.cap;omega)
 refine ⟨b,off,e,hb,fun i x hi=>?_⟩
 have key:∀ j,j < 4->(l.flatMap iN)[i*4+j]? = (iN x)[j]?:=by
  clear hx h hb e hp hl
  induction l generalizing i with
  | nil=>simp at hi
  | cons y ys ih =>
   intro j hj
   cases i with
   | zero =>
    simp at hi;subst hi
    rw [List.flatMap_cons,List.getElem?_append_left (by simp [iN];omega)];simp
   | succ i =>
    simp at hi
    rw [List.flatMap_cons,List.getElem?_append_right (by simp [iN];omega)]
    have:=ih i hi j hj
    rw [<-this];congr 1;simp [iN];omega
 refine ⟨?_, ?_, ?_, ?_⟩
 ·exact hx _ _ (key 0 (by omega))
 ·rw [Nat.add_assoc];exact hx _ _ (key 1 (by omega))
 ·rw [Nat.add_assoc];exact hx _ _ (key 2 (by omega))
 ·rw [Nat.add_assoc];exact hx _ _ (key 3 (by omega))
def Oj (Q:Exit->Act->World->Prop):Exit->Act->World->Prop
 | .ret,a,w=>Q .ret a w
 | _,_,_=>False
theorem uj {P:Program} {c:Code} {Q:Exit->Act->World->Prop} {a:Act} {w:World} (h:c.wp P (Oj Q) a w):c.wp P Q a w:=by
 refine wp_mono h ?_
 intro e a w hq
 match e,hq with
 | .ret,hq=>exact hq
theorem lt_of_cell {W:World} {k o:Nat} {v:Value} (h:W.cell? ⟨k,o,none⟩=some v):k < W.heap.size:=by
 unfold World.cell? at h
 split at h
 ·rename_i hb;exact (zQ3.1 hb).1
 ·cases h
theorem Ol {n:Nat} {A B:World} {a:Option Addr} {m:Nat} {l:List Ac} (h:yh A a m l) (k:KX n none A B):yh B a m l:=by
 refine ⟨h.hlen,h.hmax,fun hp=>?_⟩
 obtain ⟨b,off,e,hb,hc⟩:=h.cells hp
 refine ⟨b,off,e,zQ4 hb k.below.size,fun i x hx=>?_⟩
 have g:=hc i x hx
 exact ⟨k.cell g.c0 (by simp),k.cell g.c1 (by simp),k.cell g.c2 (by simp),k.cell g.c3 (by simp)⟩
theorem KM {t:ByteArray} {i:Nat} (h:i < iP t):((jU t).take (i+1)).flatMap iN=((jU t).take i).flatMap iN++iN (kY (og t i)):=by
 rw [List.take_add_one,KI h];simp
theorem Im {W' W3:World} {o:Obj} {p5 p6 bj lo i:Nat} {sa:Option Addr} {sc:Nat} {sa':Option Addr} {sc':Nat} {v5 v6 u5 u6 x5 x6:Value} {ys:List Value} {w:World}
  (h56:p5 < p6) (h6j:p6 < bj) (hjl:bj < lo) (hlo:lo<=W'.heap.size) (hw:w.heap.size=p5) (hSW:Since w W')
  (hF:Fr (fun k=>Sl.blk ⟨sa,sc⟩=some k) (W'.alloc o) W3) (hrb:∀ k,Sl.blk ⟨sa,sc⟩=some k->lo<=k)
  (hB:∀ k,Sl.blk ⟨sa,sc⟩=some k->∃ o v,W'.cell? ⟨k,o,none⟩=some v)
  (D5:W'.cell? ⟨p5,0,none⟩=some v5) (D6:W'.cell? ⟨p6,0,none⟩=some v6) (E5:W3.cell? ⟨p5,0,none⟩=some x5) (E6:W3.cell? ⟨p6,0,none⟩=some x6)
  (Z5:W3.frozen? ⟨p5,0,none⟩=false) (Z6:W3.frozen? ⟨p6,0,none⟩=false) (hR:Row W3 lo 4 ⟨sa',sc'⟩ i ys) :
  let Wf:=(W3.setCell ⟨p5,0,none⟩ u5).setCell ⟨p6,0,none⟩ u6
  NC W' Wf/\KB p5 bj W' Wf/\Since w Wf/\Wf.cell? ⟨p5,0,none⟩=some u5/\Wf.frozen? ⟨p5,0,none⟩=false/\Wf.cell? ⟨p6,0,none⟩=some u6/\Wf.frozen? ⟨p6,0,none⟩=false/\Row Wf lo 4 ⟨sa',sc'⟩ i ys:=by
 intro Wf
 have hFf:Fr (fun k=>Sl.blk ⟨sa,sc⟩=some k\/k=p5\/k=p6) W' Wf:=by
  refine Fr.setCell (Fr.setCell ((((Since.refl W').alloc o).fr (fun _=>False)).trans hF (fun _ _ x=>x.elim) (fun _ _ x=>.inl x)) _ _ ?_) _ _ ?_
  ·intro _;exact .inr (.inl rfl)
  ·intro _;exact .inr (.inr rfl)
 have hob:∀ k,k≠p5->k≠p6->Wf.heap[k]? = W3.heap[k]?:=fun k h5 h6=>(Below.heap_setCell _ ⟨p6,0,none⟩ u6 k h6).trans (Below.heap_setCell _ ⟨p5,0,none⟩ u5 k h5)
 have hs3:Wf.heap.size=W3.heap.size:=by simp [Wf]
 refine ⟨NC.OA hFf ?_,⟨xR hFf (by omega) ?_,hFf.block _ (by omega) ?_⟩,hFf.aA hSW ?_, ?_, ?_, ?_, ?_,hR.kept (by omega) ?_⟩
 ·rintro k (h | rfl | rfl)
  ·exact hB k h
  ·exact ⟨0,_,D5⟩
  ·exact ⟨0,_,D6⟩
 ·rintro k hk (h | rfl | rfl)
  ·have:=hrb _ h;omega
  ·omega
  ·omega
 ·rintro (h | h | h)
  ·have:=hrb _ h;omega
  ·omega
  ·omega
 ·rintro k hk (h | rfl | rfl)
  ·have:=hrb _ h;omega
  ·omega
  ·omega
 ·exact (World.cell?_of_block (w:=W3.setCell ⟨p5,0,none⟩ u5) (Below.heap_setCell _ ⟨p6,0,none⟩ u6 p5 (by show p5≠p6;omega))).trans (World.cell?_setCell_same' W3 ⟨p5,0,none⟩ u5 (by rw [E5];rfl))
 ·show ((W3.setCell ⟨p5,0,none⟩ u5).setCell ⟨p6,0,none⟩ u6).frozen? _=false
  rw [World.frozen?_setCell,World.frozen?_setCell];exact Z5
 ·refine World.cell?_setCell_same' (W3.setCell ⟨p5,0,none⟩ u5) ⟨p6,0,none⟩ u6 ?_
  have:(W3.setCell ⟨p5,0,none⟩ u5).cell? ⟨p6,0,none⟩=W3.cell? ⟨p6,0,none⟩:=World.cell?_of_block (Below.heap_setCell _ ⟨p5,0,none⟩ u5 p6 (by show p6≠p5;omega))
  rw [this,E6];rfl
 ·show ((W3.setCell ⟨p5,0,none⟩ u5).setCell ⟨p6,0,none⟩ u6).frozen? _=false
  rw [World.frozen?_setCell,World.frozen?_setCell];exact Z6
 ·intro k hk
  have:=hR.eD k hk
  exact hob k (by omega) (by omega)
set_option maxRecDepth 8000 in
theorem Ca (t:ByteArray) (ht:t.size<=4096) (w:World) :
  Calls prog 65 #[.string t] w fun e w'=>∃ a c,e=.returned (.tuple #[.slice a (iP t) c,.int .i64 (nI t (iP t)),.int .i64 0])/\yh w' a (iP t) (jU t)/\Since w w'/\(0 < iP t->∀ b off,a=some ⟨b,off,none⟩->w.heap.size<=b):=by
 have d1:decide (4096 < (t.size:Int))=false:=by simp;omega
 refine iF func65 rfl ?_
 simp only [ntmps65,List.size_toArray,List.length_cons,List.length_nil,Nat.reduceAdd,Nat.reduceSub,Array.replicate_succ,Array.replicate_zero,List.push_toArray,List.append_toArray,List.nil_append,List.cons_append]
 refine dK (bE ?_)
 go_wp2
 refine dK (bE ?_)
 go_wp2
 refine dK (bE ?_)
 go_wp2
 refine dK (bE ?_)
 go_wp2
 obtain ⟨w1,hw1⟩:∃ y,w.alloc (.cells #[.slice none 0 0] 50)=y:=⟨_,rfl⟩
 obtain ⟨w2,hw2⟩:∃ y,w1.alloc (.cells #[.int .i64 0] 3)=y:=⟨_,rfl⟩
 obtain ⟨w3,hw3⟩:∃ y,w2.alloc (.cells #[.string t] 9)=y:=⟨_,rfl⟩
 have hS1:=au hw1
 have hS2:=au hw2
 have hS3:=au hw3
 have hl1:w.heap.size < w1.heap.size:=by rw [<-hw1];simp
 have hl2:w1.heap.size < w2.heap.size:=by rw [<-hw2];simp
 have hl3:w2.heap.size < w3.heap.size:=by rw [<-hw3];simp
 have hS:=hS1.trans (hS2.trans hS3)
 have b5:w3.cell? ⟨w.heap.size,0,none⟩=some (.slice none 0 0):=((hS2.trans hS3).cellAt hl1 _).trans (by rw [<-hw1];simp [go_sem])
 have z5:w3.frozen? ⟨w.heap.size,0,none⟩=false:=((hS2.trans hS3).below.frozen (p:=⟨w.heap.size,0,none⟩) hl1).trans (by rw [<-hw1];simp [go_sem])
 have b6:w3.cell? ⟨w1.heap.size,0,none⟩=some (.int .i64 0):=(hS3.cellAt hl2 _).trans (by rw [<-hw2];simp [go_sem])
 have z6:w3.frozen? ⟨w1.heap.size,0,none⟩=false:=(hS3.below.frozen (p:=⟨w1.heap.size,0,none⟩) hl2).trans (by rw [<-hw2];simp [go_sem])
 have bj:w3.cell? ⟨w2.heap.size,0,none⟩=some (.string t):=by rw [<-hw3];simp [go_sem]
 have hq1:w1.heap.size=w.heap.size+1:=by rw [<-hw1];simp
 rw [hq1] at b6 z6 hl2
 rw [hw1,hw2]
 refine dK (dK (bE ?_))
 go_wp2_with (go_at_call 127;refine (FT t w2).mono ?_;rintro e w' ⟨rfl,hw'⟩;rw [hw3] at hw';obtain rfl:=hw'.symm)
 refine mO ?_
 clear hw1 hw2 hw3
 refine Il (m:=1) (n0:=w.heap.size) (bj:=w2.heap.size) func65 (gf:=174) (lb:=#[.pointer (some ⟨w2.heap.size,0,none⟩)]) rfl (enters_of func174 (by kernel_rfl) rfl) hS.size hl3
  (M6 1 w2.heap.size w.heap.size w3 hS.size hl3 t ht bj) (fun _=>rfl)
  (fun i W=>Since w W/\∃ sa sc,W.cell? ⟨w.heap.size,0,none⟩=some (.slice sa i sc)/\W.frozen? ⟨w.heap.size,0,none⟩=false/\W.cell? ⟨(w.heap.size+1),0,none⟩=some (.int .i64 (nI t i))/\W.frozen? ⟨(w.heap.size+1),0,none⟩=false/\Row W w3.heap.size 4 ⟨sa,sc⟩ i (((jU t).take i).flatMap iN))
  (fun _ _=>False)
  (fun i A B hA hk=>by
   obtain ⟨hSA,sa,sc,c5,f5,c6,f6,hR⟩:=hA
   exact ⟨⟨hSA.below.trans (hk.below.mono hS.size)⟩,sa,sc,hk.cell c5 (by simp),(World.frozen?_of_block (w:=A) (sF hk c5)).trans f5,hk.cell c6 (by simp),(World.frozen?_of_block (w:=A) (sF hk c6)).trans f6,hR.kx (by omega) hk⟩)
  (fun _ _ _ _ h=>h.elim) ⟨hS,none,0,b5,z5,b6,z6,Row.nil _ _ _⟩ ?round ?done ?pan
 case pan =>
  rintro D ch W hD h hK
  exact h.elim
 case round =>
  rintro l i ⟨xa,xe⟩ W hsz ⟨hSW,sa,sc,c5,f5,c6,f6,hR⟩ hiN hx
  obtain ⟨rfl,rfl⟩:=Prod.mk.inj hx
  obtain ⟨fa,hfa⟩:∃ f,kY (og t i)=f:=⟨_,rfl⟩
  obtain ⟨ee,hee⟩:∃ f,nI t (i+1)=f:=⟨_,rfl⟩
  obtain ⟨e0,he0⟩:∃ f,nI t i=f:=⟨_,rfl⟩
  obtain ⟨xs,hxs⟩:∃ f,((jU t).take i).flatMap iN=f:=⟨_,rfl⟩
  have HTS:((jU t).take (i+1)).flatMap iN=xs++iN fa:=by rw [KM hiN,hfa,hxs]
  have UR:i<=80:=by have:=yJ t;omega
  obtain ⟨PP,hPP⟩:∃ PP:World->World->Prop,∀ A B,PP A B↔(NC A B/\KB w.heap.size w2.heap.size A B/\(Since w B/\∃ sa sc,B.cell? ⟨w.heap.size,0,none⟩=some (.slice sa (i+1) sc)/\B.frozen? ⟨w.heap.size,0,none⟩=false/\B.cell? ⟨(w.heap.size+1),0,none⟩=some (.int .i64 ee)/\B.frozen? ⟨(w.heap.size+1),0,none⟩=false/\Row B w3.heap.size 4 ⟨sa,sc⟩ (i+1) (xs++iN fa))):=⟨_,fun _ _=>Iff.rfl⟩
  have HM:Hid (∀ A B,PP A B->NC A B/\KB w.heap.size w2.heap.size A B/\(Since w B/\∃ sa sc,B.cell? ⟨w.heap.size,0,none⟩=some (.slice sa (i+1) sc)/\B.frozen? ⟨w.heap.size,0,none⟩=false/\B.cell? ⟨(w.heap.size+1),0,none⟩=some (.int .i64 (nI t (i+1)))/\B.frozen? ⟨(w.heap.size+1),0,none⟩=false/\Row B w3.heap.size 4 ⟨sa,sc⟩ (i+1) (((jU t).take (i+1)).flatMap iN))):=fun A B hp=>by
   have hp:=(hPP A B).1 hp
   rw [HTS,hee]
   exact hp
  have HPP:Hid (∀ A B,PP A B↔_):=hPP
  unfold acV
  rw [hfa,hee]
  rw [he0] at c6
  rw [hxs] at hR
  clear hx hfa hee HTS hxs he0 hiN hPP
  gi_wp2
  obtain ⟨W1,hW1⟩:∃ y,W.alloc (.cells #[.int .i64 fa.kind,.int .i64 fa.one,.int .i64 fa.two,.string fa.body] 58)=y:=⟨_,rfl⟩
  have oo:=au hW1
  have hbx:fD W1 W.heap.size (.int .i64 fa.kind) (.int .i64 fa.one) (.int .i64 fa.two) (.string fa.body):=by rw [<-hW1];exact vN W _ _ _ _ _
  rw [hW1]
  refine ⟨oo,fun W' hsz' hk=>?_⟩
  refine wpIn_mono (Q:=Exit.then (fun _ B=>PP W' B) (fun _ _ _=>False)) ?_ ?mono
  case mono =>
   intro e1 a1 W5 hp1
   match e1,hp1 with
   | .normal,hp=>exact HM.out W' W5 hp
  clear HM
  have hp5:w.heap.size < W.heap.size:=by omega
  have hp6:(w.heap.size+1) < W.heap.size:=by omega
  have C5:=(oo.cellAt hp5 _).trans c5
  have C6:=(oo.cellAt hp6 _).trans c6
  have D5:=hk.cell C5 (by simp)
  have D6:=hk.cell C6 (by simp)
  have G5:=(World.frozen?_of_block (w:=W1) (sF hk C5)).trans ((oo.below.frozen (p:=⟨w.heap.size,0,none⟩) hp5).trans f5)
  have G6:=(World.frozen?_of_block (w:=W1) (sF hk C6)).trans ((oo.below.frozen (p:=⟨(w.heap.size+1),0,none⟩) hp6).trans f6)
  have x0:=hk.cell hbx.c0 (by simp)
  have x1:=hk.cell hbx.c1 (by simp)
  have x2:=hk.cell hbx.c2 (by simp)
  have x3:=hk.cell hbx.c3 (by simp)
  have hRW:=(hR.since oo).kx (by omega) hk
  have Ld:Since w W':=⟨(hSW.trans oo).below.trans (hk.below.mono hS.size)⟩
  have hsrc:=gP (size:=4) (T:=58) (w:=W') OY.und [.int .i64 fa.kind,.int .i64 fa.one,.int .i64 fa.two,.string fa.body] rfl (fun u hu=>by simp at hu;rcases hu with rfl | rfl | rfl | rfl <;> rfl) 1
  have hrb:∀ k,Sl.blk ⟨sa,sc⟩=some k->w3.heap.size<=k:=fun k e=>hR.eD k e
  have O7:Hid (∀ k,Sl.blk ⟨sa,sc⟩=some k->∃ o v,W'.cell? ⟨k,o,none⟩=some v):=fun k e=>by
   obtain ⟨hp,_,_,off,e1⟩:=hRW.fA e
   obtain ⟨b',off',e2,_,_,hc,_⟩:=hRW.body hp
   rw [e1] at e2
   cases e2
   obtain ⟨u,hu⟩:=Option.isSome_iff_exists.1 (hc 0 (by omega)).1
   exact ⟨_,u,hu⟩
  clear hW1 hR c5 c6 f5 f6 C5 C6
  have n5:¬ Sl.blk ⟨sa,sc⟩=some w.heap.size:=fun e=>by have:=hrb _ e;omega
  have n6:¬ Sl.blk ⟨sa,sc⟩=some (w.heap.size+1):=fun e=>by have:=hrb _ e;omega
  gi_wp2_with (gi_at_builtin;apply Hid.out)
  unfold Hid
  refine Eb OY rfl _ _ 50 rfl rfl (hRW.since ((Since.refl W').alloc _)) rfl hsrc (by omega) (by simp;omega) ?_
  intro sa' sc' W3 hR3 hF3 hB3
  have E5:=(hF3.cell (p:=⟨w.heap.size,0,none⟩) (by simp;omega) n5).trans ((((Since.refl W').alloc _).cellAt (by omega) _).trans D5)
  have E6:=(hF3.cell (p:=⟨w.heap.size+1,0,none⟩) (by simp;omega) n6).trans ((((Since.refl W').alloc _).cellAt (by omega) _).trans D6)
  have Z5:=(hF3.frozen (p:=⟨w.heap.size,0,none⟩) (by simp;omega) n5).trans ((((Since.refl W').alloc _).below.frozen (p:=⟨w.heap.size,0,none⟩) (by show w.heap.size < W'.heap.size;omega)).trans G5)
  have Z6:=(hF3.frozen (p:=⟨w.heap.size+1,0,none⟩) (by simp;omega) n6).trans ((((Since.refl W').alloc _).below.frozen (p:=⟨w.heap.size+1,0,none⟩) (by show w.heap.size+1 < W'.heap.size;omega)).trans G6)
  gi_wp2
  refine (HPP.out W' _).2 ?_
  obtain ⟨q1,q2,q3,q4,q5,q6,q7,q8⟩:=Im (u5:=.slice sa' (i+1) sc') (u6:=.int .i64 ee) (by omega) (by omega) hl3 hsz' rfl Ld hF3 hrb O7.out D5 D6 E5 E6 Z5 Z6 hR3
  exact ⟨q1,q2,q3,sa',sc',q4,q5,q6,q7,q8⟩
 case done =>
  rintro D W hD ⟨hSW,sa,sc,c5,f5,c6,f6,hR⟩ hK
  have hA:yh W sa (iP t) (jU t):=by
   have e1:(jU t).take (iP t)=jU t:=List.take_of_length_le (by rw [kZ];omega)
   rw [e1,<-kZ] at hR
   have:=M7 hR (by rw [kZ];have:=yJ t;omega)
   rwa [kZ] at this
  have HA:Hid (yh W sa (iP t) (jU t)):=hA
  have HN:Hid (0 < iP t->∀ b off,sa=some ⟨b,off,none⟩->w.heap.size<=b):=fun hp b off e=>by
   have hcp:=hR.cap
   obtain ⟨b',off',e',hb',_⟩:=hR.body (by omega)
   dsimp only at e'
   rw [e] at e'
   cases e'
   have:=hS.size
   omega
  have l5:w.heap.size < W.heap.size:=lt_of_cell c5
  have l6:w.heap.size+1 < W.heap.size:=lt_of_cell c6
  have lD:D < W.heap.size:=(zQ3.1 hK).1
  obtain ⟨nn,hnn⟩:∃ y,iP t=y:=⟨_,rfl⟩
  obtain ⟨ee,hee⟩:∃ y,nI t (iP t)=y:=⟨_,rfl⟩
  rw [hnn] at c5
  rw [hee] at c6
  obtain ⟨S0,hS0⟩:∃ S0:World->Prop,∀ w',S0 w'↔Since W w':=⟨_,fun _=>Iff.rfl⟩
  have m5:∀ y:aj S0,y.w.cell? ⟨w.heap.size,0,none⟩=some (.slice sa nn sc):=fun y=>(((hS0 _).1 y.h).cellAt l5 _).trans c5
  have m6:∀ y:aj S0,y.w.cell? ⟨w.heap.size+1,0,none⟩=some (.int .i64 ee):=fun y=>(((hS0 _).1 y.h).cellAt l6 _).trans c6
  have HQ:Hid (iP t=nn/\nI t (iP t)=ee):=⟨hnn,hee⟩
  clear hnn hee hA hR c5 c6 f5 f6
  refine bE (uj ?_)
  go_wp2_with fail
  obtain ⟨W0,hW0⟩:∃ y,W.drew=y:=⟨_,rfl⟩
  have hs0:=bM hW0
  have av:=(hS0 W0).2 hs0
  have hne:Nonempty (aj S0):=⟨⟨_,av⟩⟩
  have hK0:=hs0.block hK
  refine aS (fun w'=>∃ x:aj S0,w'=x.w) (by kernel_rfl) ?_
  rw [hW0]
  clear hW0
  refine tM 0 rfl (ah av) ?_;go_big_quiet_op
  refine tM 1 rfl (ah av) ?_;go_big_quiet_op
  refine tW 2 rfl ?_;go_big_quiet_op
  refine tW 3 rfl ?_;go_big_quiet_op
  refine tW 4 rfl ?_;go_big_quiet_op
  refine dB (by kernel_rfl) ?_
  go_wp2
  refine ⟨by simp,.inl ⟨_,_,rfl,run_takeDeferred hK0, ?_⟩⟩
  obtain ⟨e1,e2⟩:=HQ.out
  have hX:KX w3.heap.size none W0 (W0.putObj D (.deferred none)):=KX.put (X:=none) (.deferred none) hK0 rfl hD
  refine ⟨_,results_tmp3 rfl _ _ _,sa,sc,by rw [e2,e1];rfl,Ol (HA.out.since hs0) hX,⟨(hSW.trans hs0).below.trans (hX.below.mono hS.size)⟩,HN.out⟩
def Cb (x:Ac):List Int:=[x.kind,x.one,x.two,(x.body.size:Int)]
def okA (x:Ac):Bool:=(Cb x).all fun n=>decide (0<=n) && decide (n<=255)
def headA (x:Ac):List UInt8:=(Cb x).map fun n=>UInt8.ofNat n.toNat
def su (x:Ac):ByteArray:=⟨(headA x).toArray⟩++x.body
theorem M8:ET 143 5 1 1:=xW (z:=.int .u8 0) (by kernel_rfl) (by kernel_rfl) rfl
theorem M9 (w:World) (lo sz n:Nat) (hlo:lo<=w.heap.size) (cs:List Value) (hl:cs.length=n*sz) (hn:n<=maxLen) (T:TypeId):Row (w.alloc (.cells cs.toArray T)) lo sz ⟨some ⟨w.heap.size,0,none⟩,n⟩ n cs:=by
 have hh:=World.alloc_heap_new w (.cells cs.toArray T)
 have hc:∀ j v,cs[j]? = some v->(w.alloc (.cells cs.toArray T)).cell? ⟨w.heap.size,0+j,none⟩=some v:=by
  intro j v hv
  unfold World.cell?
  simp only [hh,Nat.zero_add]
  simpa using hv
 refine ⟨hl,Nat.le_refl _,hn,fun _=>.inr ⟨_,_,rfl⟩,fun _=>⟨_,_,rfl,hlo,by simp,fun j hj=>?_,hc⟩⟩
 obtain ⟨v,hv⟩:∃ v,cs[j]? = some v:=⟨_,zQ1 (by rw [hl];exact hj)⟩
 refine ⟨by rw [hc j v hv];rfl, ?_⟩
 unfold World.frozen?
 simp only [hh]
 simp
theorem KN (y:World):(Instr.makeSlice 143 (.int .i64 0) (.int .i64 4)).run prog y=.ok (.slice (some ⟨y.heap.size,0,none⟩) 0 4) (y.alloc (.cells #[.int .u8 0,.int .u8 0,.int .u8 0,.int .u8 0] 5)):=by
 obtain ⟨i0,hi,hz0,hz1,hz2⟩:=info_parts (P:=prog) (e:=5) (z:=.int .u8 0) (size:=1) (bytes:=1) (by kernel_rfl)
 have h:=run_makeSlice (P:=prog) y 143 5 i0 (.int .u8 0) (by kernel_rfl) hi hz0 .i64 .i64 0 4 (by omega) (by omega) (by rw [hz1];decide) (by rw [hz2];decide) (by decide)
 rw [hz1] at h
 have e:madeCells (Value.int IntKind.u8 0).cells (Int.toNat 4*1)=#[.int .u8 0,.int .u8 0,.int .u8 0,.int .u8 0]:=by
  have e1:(Value.int IntKind.u8 0).cells=#[.int .u8 0]:=rfl
  have e2:Array.range 4=#[0,1,2,3]:=by decide
  rw [e1]
  unfold madeCells
  show (Array.range 4).map _=_
  rw [e2];simp
 rw [e] at h
 exact h
set_option maxRecDepth 8000 in
theorem Cc (x:Ac) (w:World) :
  Calls prog 63 #[acV x] w fun e w'=>e=.returned (if okA x then .tuple #[.string (su x),.int .i64 0] else .tuple #[.string ⟨#[]⟩,.int .i64 3])/\Since w w':=by
 obtain ⟨w1,hw1⟩:∃ y,w.alloc (.cells #[.int .i64 x.kind,.int .i64 x.one,.int .i64 x.two,.string x.body] 58)=y:=⟨_,rfl⟩
 have hS1:=au hw1
 have hB1:fD w1 w.heap.size (.int .i64 x.kind) (.int .i64 x.one) (.int .i64 x.two) (.string x.body):=by rw [<-hw1];exact vN w _ _ _ _ _
 obtain ⟨_,q0,q1,q2,q3,_⟩:=hB1
 obtain ⟨rv,hrv⟩:∃ rv,(if okA x then (.tuple #[.string (su x),.int .i64 0]:Value) else .tuple #[.string ⟨#[]⟩,.int .i64 3])=rv:=⟨_,rfl⟩
 have HRV:Hid ((if okA x then (.tuple #[.string (su x),.int .i64 0]:Value) else .tuple #[.string ⟨#[]⟩,.int .i64 3])=rv):=hrv
 rw [hrv]
 clear hrv
 unfold acV
 go_enter func63,ntmps63
 have hmk:=KN w1
 obtain ⟨w2,hw2⟩:∃ y,w1.alloc (.cells #[.int .u8 0,.int .u8 0,.int .u8 0,.int .u8 0] 5)=y:=⟨_,rfl⟩
 have hS2:=au hw2
 have hR2:Row w2 w1.heap.size 1 ⟨some ⟨w1.heap.size,0,none⟩,4⟩ 0 []:=by
  rw [<-hw2];exact (M9 w1 w1.heap.size 1 4 (Nat.le_refl _) [.int .u8 0,.int .u8 0,.int .u8 0,.int .u8 0] rfl (by decide) _).take 0 (by omega)
 rw [hw2] at hmk
 obtain ⟨w3,hw3⟩:∃ y,w2.alloc (.cells #[.int .i64 x.kind,.int .i64 x.one,.int .i64 x.two,.int .i64 x.body.size] 3)=y:=⟨_,rfl⟩
 have hS3:=au hw3
 have p0:=(hS2.cellAt ‹_› _).trans q0
 have p1:=(hS2.cellAt ‹_› _).trans q1
 have p2:=(hS2.cellAt ‹_› _).trans q2
 have p3:=(hS2.cellAt ‹_› _).trans q3
 go_wp2_with fail
 have hnR:Row w3 w1.heap.size 1 ⟨some ⟨w2.heap.size,0,none⟩,4⟩ 4 ((Cb x).map (.int .i64)):=by
  rw [<-hw3];exact M9 w2 w1.heap.size 1 4 hS2.size [.int .i64 x.kind,.int .i64 x.one,.int .i64 x.two,.int .i64 x.body.size] rfl (by decide) _
 have hl2:w1.heap.size < w2.heap.size:=by rw [<-hw2];simp
 have nL:=hS2.trans hS3
 have hR3:=hR2.since hS3
 obtain ⟨ns,hns⟩:∃ y,Cb x=y:=⟨_,rfl⟩
 have HNS:Hid (Cb x=ns):=hns
 have hn4:ns.length=4:=by rw [<-hns];rfl
 rw [hns] at hnR
 have TW:¬ Sl.blk ⟨some ⟨w1.heap.size,0,none⟩,4⟩=some w2.heap.size:=by
  unfold Sl.blk;simp;omega
 clear hw1 hw2 hw3 hmk p0 p1 p2 p3 q0 q1 q2 hns hR2
 go_loopw [4,19] (fun v i wr=>∃ (k:Nat) (sa:Option Addr) (sc:Nat),k<=4/\i=.int .i64 k/\v=.slice sa k sc/\Row wr w1.heap.size 1 ⟨sa,sc⟩ k ((ns.take k).map (.int .u8))/\Row wr w1.heap.size 1 ⟨some ⟨w2.heap.size,0,none⟩,4⟩ 4 (ns.map (.int .i64))/\(¬ Sl.blk ⟨sa,sc⟩=some w2.heap.size)/\Since w1 wr/\(∀ n,n∈ns.take k->0<=n/\n<=255)) (fun _ i _=>4 - (intOf i).toNat)
 case atStart=>exact ⟨0,_,_,by omega,rfl,rfl,hR3,hnR,TW,nL,by simp⟩
 case round =>
  obtain ⟨wo,rfl⟩:∃ wo,wo=wr:=⟨_,rfl⟩
  obtain ⟨k,sa,sc,hk,rfl,rfl,hR,hN,hap,hSr,hin⟩:=hrel
  by_cases hlt:k < 4
  ·obtain ⟨n,hn⟩:∃ n,ns[k]? = some n:=⟨_,zQ1 (by omega)⟩
   obtain ⟨_,_,e,_,_,_,hc⟩:=hN.body (by show 0 < 4;omega)
   cases e
   have c0:wo.cell? ⟨w2.heap.size,0+k,none⟩=some (.int .i64 n):=hc k _ (by rw [List.getElem?_map,hn];rfl)
   rw [Nat.zero_add] at c0
   have n1:(k:Int) < 4:=by omega
   clear hc
   have hmem:n∈ns:=List.mem_of_getElem? hn
   by_cases hbad:n < 0\/255 < n
   ·have HBAD:Hid (okA x=false):=by
     unfold Hid
     have:¬ okA x=true:=fun h=>by
      unfold okA at h
      rw [HNS.out] at h
      have:=List.all_eq_true.1 h n hmem
      simp at this
      omega
     simpa using this
    by_cases hneg:n < 0
    ·have d1:decide (n < 0)=true:=by simpa using hneg
     clear hbad hneg hn hmem
     go_wp2_with fail
     refine bodyPost_ret (v:=.tuple #[.string ⟨#[]⟩,.int .i64 3]) ?_ rfl ⟨by rw [<-HRV.out,HBAD.out];rfl,hS1.trans hSr⟩
     simp [results,results63,go_sem]
    ·have d1:decide (n < 0)=false:=by simpa using hneg
     have d2:decide (255 < n)=true:=by simp;omega
     clear hbad hneg hn hmem
     go_wp2_with fail
     refine bodyPost_ret (v:=.tuple #[.string ⟨#[]⟩,.int .i64 3]) ?_ rfl ⟨by rw [<-HRV.out,HBAD.out];rfl,hS1.trans hSr⟩
     simp [results,results63,go_sem]
   ·have d1:decide (n < 0)=false:=by simp;omega
    have d2:decide (255 < n)=false:=by simp;omega
    have hw8:IntKind.u8.wrap n=n:=by show n % 256=n;omega
    have HT:Hid (ns.take (k+1)=ns.take k++[n]):=by unfold Hid;rw [List.take_add_one,hn];rfl
    have HIN:Hid (0<=n/\n<=255):=by constructor <;> omega
    have hsrc:=gP (size:=1) (T:=5) (w:=wo) M8.und [.int .u8 n] rfl (fun u hu=>by simp at hu;subst hu;rfl) 1
    have hlo:w1.heap.size<=wo.heap.size:=hSr.size
    have hRa:=hR.since ((Since.refl wo).alloc (.cells #[.int .u8 n] 5))
    have hNa:=hN.since ((Since.refl wo).alloc (.cells #[.int .u8 n] 5))
    have hSa:Since w1 (wo.alloc (.cells #[.int .u8 n] 5)):=hSr.alloc _
    clear hbad hn hmem
    go_wp2_with (at_builtin;refine iK M8 rfl _ _ 143 rfl rfl hRa rfl hsrc (by omega) (by simp;omega) ?_;intro sa' sc' W3 hR4 hF4 hB4)
    refine ⟨⟨k+1,sa',sc',by omega,by go_num,rfl, ?_,hNa.fr hF4 ?_, ?_,hF4.aA hSa ?_, ?_⟩,by simp [intOf];omega⟩
    ·rw [HT.out,List.map_append];exact hR4
    ·intro b hb hc
     unfold Sl.blk at hb
     simp at hb
     subst hb
     exact hap hc
    ·rcases hB4 with h | ⟨_,h⟩
     ·rw [h];exact hap
     ·rw [h];intro e
      have e':=Option.some.inj e
      have:=(hN.fA (b:=w2.heap.size) (by unfold Sl.blk;simp)).2.2.1
      simp only [World.size_alloc] at e'
      omega
    ·intro i hi hc
     have:=(hRa.fA hc).2.1
     omega
    ·rw [HT.out]
     intro m hm
     rcases List.mem_append.1 hm with h | h
     ·exact hin m h
     ·simp at h;subst h;exact HIN.out
  ·obtain rfl:k=4:=by omega
   have ht4:ns.take 4=ns:=List.take_of_length_le (by omega)
   rw [ht4] at hR hin
   have HOK:Hid (okA x=true/\headA x=ns.map fun n=>UInt8.ofNat n.toNat):=by
    refine ⟨?_,by unfold headA;rw [HNS.out]⟩
    unfold okA
    rw [HNS.out]
    refine List.all_eq_true.2 fun n hn=>?_
    have:=hin n hn
    simp;omega
   obtain ⟨b,off,e,_,_,_,hx⟩:=hR.body (by have:=hR.cap;omega)
   dsimp only at e
   subst e
   obtain ⟨hl,hhl⟩:∃ y,(ns.map fun n=>UInt8.ofNat n.toNat)=y:=⟨_,rfl⟩
   have hlen:hl.length=4:=by rw [<-hhl];simp [hn4]
   have hcv:=run_convert_bytes_back (P:=prog) wo 143 9 5 ⟨b,off,none⟩ sc hl (by kernel_rfl) (by kernel_rfl) (by kernel_rfl) (fun j hj=>by
    rw [Addr.add_lit]
    refine hx j _ ?_
    have hj4:j < ns.length:=by omega
    obtain ⟨n,hn⟩:∃ n,ns[j]? = some n:=⟨_,zQ1 hj4⟩
    have hb:=hin n (List.mem_of_getElem? hn)
    have e1:hl[j]? = some (UInt8.ofNat n.toNat):=by rw [<-hhl,List.getElem?_map,hn];rfl
    have e2:hl[j]=UInt8.ofNat n.toNat:=by rw [zQ1 hj] at e1;exact Option.some.inj e1
    rw [List.getElem?_map,hn,e2]
    have e3:((UInt8.ofNat n.toNat).toNat:Int)=n:=by simp;omega
    rw [e3];rfl)
   rw [hlen] at hcv
   have HHL:Hid (headA x=hl):=HOK.out.2.trans hhl
   have r3:=(hSr.cellAt ‹_› _).trans q3
   have hbs:¬ 9223372036854775807 < hl.length+x.body.size:=by
    have hm:(x.body.size:Int)∈ns:=by rw [<-HNS.out];unfold Cb;simp
    have:=hin _ hm
    omega
   clear hhl hlen hx hin ht4
   go_wp2_with fail
   refine bodyPost_ret (v:=.tuple #[.string (su x),.int .i64 0]) ?_ rfl ⟨by rw [<-HRV.out,HOK.out.1];rfl,hS1.trans hSr⟩
   simp [results,results63,go_sem,su,HHL.out]
theorem Io (nodes:Nat) (a:Option Addr) (cap:Nat) (l:List Int) (t:ByteArray) (w:World) (hI:Ints w a l.length l) (hn:nodes<=4) (hl:l.length<=3) (hN:eX (nodes:Int) l=0) (ht:t.size<=4096) :
  Calls prog 68 #[.int .i64 nodes,.slice a l.length cap,.string t] w fun e w'=>∃ v:WV,e=.returned (.tuple #[.agg #[.slice v.ga v.gl v.gc,.slice v.na v.nl v.nc,.slice v.wa v.wl v.wc],.int .i64 (iP t),.int .i64 0])/\WAt w' v (doneD nodes l (jU t))/\Since w w':=by
 obtain ⟨w1,hw1⟩:∃ w1,w.alloc (.cells #[.slice none 0 0,.slice none 0 0,.slice none 0 0] 26)=w1:=⟨_,rfl⟩
 have hNB:aC w1 w.heap.size:=by rw [<-hw1];exact aC.new w _
 have hS1:=au hw1
 have hB:=AX nodes hn l hl a cap w1 (hI.since hS1) hN
 have hRp:=fun y=>Ca t ht y
 have TY:=yJ t
 obtain ⟨nn,hnn⟩:∃ y,iP t=y:=⟨_,rfl⟩
 obtain ⟨acts,Na⟩:∃ y,jU t=y:=⟨_,rfl⟩
 have hal:acts.length=nn:=by rw [<-Na,<-hnn];exact kZ t
 obtain ⟨ee,hee⟩:∃ y,nI t (iP t)=y:=⟨_,rfl⟩
 rw [hee] at hRp
 rw [hnn,Na] at hRp ⊢
 rw [hnn] at TY
 clear hnn Na hee
 subst hal
 clear hN
 go_enter func68,ntmps68
 go_wp2_with fail
 refine hB.mono ?_
 rintro e w2 hR2
 obtain ⟨L,rfl,hO2,dw⟩:=hR2.out.2 (iI nodes l) rfl
 simp only [aI]
 obtain ⟨w3,hw3⟩:∃ y,w2.alloc (.cells #[.slice (L (0,0,0)).a (iI nodes l).groups.length (L (0,0,0)).cap,.slice (L (1,0,0)).a (iI nodes l).nodes.length (L (1,0,0)).cap,.slice (L (2,0,0)).a (iI nodes l).wires.length (L (2,0,0)).cap] 26)=y:=⟨_,rfl⟩
 have Eu:=au hw3
 have hM3:bQ w1.heap.size w3 w2.heap.size (iI nodes l) L:=by
  refine ⟨hO2.since Eu, ?_,fun hb=>?_⟩
  ·rw [<-hw3];constructor <;> simp [go_sem]
  ·have:=(hO2.blk hb).2;omega
 have nL:=dw.trans Eu
 have hge:w1.heap.size<=w2.heap.size:=dw.size
 have hlt3:w2.heap.size < w3.heap.size:=by rw [<-hw3];simp
 clear hw1 hO2 hB hR2
 go_wp2_with (go_at_call 65;refine (hRp w3).mono ?_;rintro e w4 ⟨ac,Mx,rfl,hA4,qP,hAn⟩)
 have hM4:=hM3.since qP
 have vZ:=nL.trans qP
 clear hM3 hRp hw3
 go_loopw [39] (fun i wr=>∃ (k:Nat) (Lk:Lay),k<=acts.length/\i=.int .i64 k/\bQ w1.heap.size wr w2.heap.size (doneD nodes l (acts.take k)) Lk/\Fr (fun i=>i=w2.heap.size) w4 wr/\Since w1 wr) (fun i _=>acts.length - (intOf i).toNat)
 case atStart=>exact ⟨0,L,Nat.zero_le _,rfl,by simpa [doneD] using hM4,Fr.refl _ _,vZ⟩
 case round =>
  obtain ⟨wo,rfl⟩:∃ wo,wo=wr:=⟨_,rfl⟩
  obtain ⟨k,Lk,hk,rfl,hM,hFk,hSr⟩:=hrel
  by_cases hlt:k < acts.length
  ·obtain ⟨x,hx⟩:∃ x,acts[k]? = some x:=⟨_,zQ1 hlt⟩
   obtain ⟨dk,hdk⟩:∃ y,doneD nodes l (acts.take k)=y:=⟨_,rfl⟩
   have hnext:doneD nodes l (acts.take (k+1))=qg dk x:=by
    rw [<-hdk,List.take_add_one,hx];unfold doneD;rw [List.foldl_append];rfl
   rw [hdk] at hM
   have HNX:=(show Hid _ from hnext)
   obtain ⟨bA,oA,rfl,hbA,hcA⟩:=hA4.cells (by omega)
   have hbn:w3.heap.size<=bA:=hAn (by omega) bA oA rfl
   obtain ⟨e0,e1,e2,e3⟩:=hcA k x hx
   have hb2:¬ bA=w2.heap.size:=by omega
   replace e0:=(hFk.cell (p:=⟨bA,oA+k*4,none⟩) hbA hb2).trans e0
   replace e1:=(hFk.cell (p:=⟨bA,oA+k*4+1,none⟩) hbA hb2).trans e1
   replace e2:=(hFk.cell (p:=⟨bA,oA+k*4+2,none⟩) hbA hb2).trans e2
   replace e3:=(hFk.cell (p:=⟨bA,oA+k*4+3,none⟩) hbA hb2).trans e3
   have n1:(k:Int) < (acts.length:Int):=by omega
   obtain ⟨WA,hWA⟩:∃ y,wo.alloc (.cells #[.int .i64 x.kind,.int .i64 x.one,.int .i64 x.two,.string x.body] 58)=y:=⟨_,rfl⟩
   have hsA:=au hWA
   have hBA:fD WA wo.heap.size (.int .i64 x.kind) (.int .i64 x.one) (.int .i64 x.two) (.string x.body):=by rw [<-hWA];exact vN wo _ _ _ _ _
   obtain ⟨ltA,a0,a1,a2,a3,_⟩:=hBA
   have hMA:=hM.since hsA
   obtain ⟨b0,b1,b2⟩:_/\_/\_:=⟨hMA.box.c0,hMA.box.c1,hMA.box.c2⟩
   have hDo:=xg (fP Lk dk) dk x WA hMA.own.wat
   unfold fP acV at hDo
   dsimp only at hDo
   obtain ⟨r,hr⟩:∃ r,doD dk x=r:=⟨_,rfl⟩
   rw [hr] at hDo
   have hpw:w2.heap.size < WA.heap.size:=hMA.box.lt
   have hlo:w1.heap.size<=WA.heap.size:=zQ5 hSr.size hsA.size
   clear hnext hdk hcA hx hA4 hAn
   cases r with
   | error er =>
    have her:(er == 0)=false:=by simpa using NQ hr
    have HN:Hid (doneD nodes l (acts.take (k+1))=dk):=by unfold Hid;rw [HNX.out];unfold qg;rw [hr]
    clear hr
    go_wp2_with (go_at_call 53;refine hDo.mono ?_;rintro e wC hR3;obtain ⟨rfl,hS3⟩:=hR3.out.1 er rfl;dsimp only)
    have hsF:Since wo (wC.alloc (.cells #[.slice none 0 0,.slice none 0 0,.slice none 0 0] 26)):=(hsA.trans hS3).alloc _
    exact ⟨⟨k+1,Lk,by omega,by go_num,by rw [HN.out];exact hM.since hsF,hFk.trans (hsF.fr (fun i=>i=w2.heap.size)) (fun _ _ x=>x) (fun _ _ x=>x),hSr.trans hsF⟩,by simp [intOf];omega⟩
   | ok d' =>
    have HN:Hid (doneD nodes l (acts.take (k+1))=d'):=by unfold Hid;rw [HNX.out];unfold qg;rw [hr]
    clear hr
    go_wp2_with (go_at_call 53;refine hDo.mono ?_;rintro e wC hR3;obtain ⟨L',rfl,hO,hS3⟩:=hR3.out.2 d' rfl;simp only [aI];apply Hid.out)
    unfold Hid
    obtain ⟨WF,hWF⟩:∃ y,wC.alloc (.cells #[.slice (L' (0,0,0)).a d'.groups.length (L' (0,0,0)).cap,.slice (L' (1,0,0)).a d'.nodes.length (L' (1,0,0)).cap,.slice (L' (2,0,0)).a d'.wires.length (L' (2,0,0)).cap] 26)=y:=⟨_,rfl⟩
    have ME:=au hWF
    have q0:WF.cell? ⟨wC.heap.size,0,none⟩=some (.slice (L' (0,0,0)).a d'.groups.length (L' (0,0,0)).cap):=by rw [<-hWF];simp [go_sem]
    have q1:WF.cell? ⟨wC.heap.size,1,none⟩=some (.slice (L' (1,0,0)).a d'.nodes.length (L' (1,0,0)).cap):=by rw [<-hWF];simp [go_sem]
    have q2:WF.cell? ⟨wC.heap.size,2,none⟩=some (.slice (L' (2,0,0)).a d'.wires.length (L' (2,0,0)).cap):=by rw [<-hWF];simp [go_sem]
    have hsF:=hsA.trans (hS3.trans ME)
    have hMF:=hM.since hsF
    obtain ⟨bl,c0,c1,c2,z0,z1,z2⟩:=hMF.box
    have MF:=BS (lo:=w1.heap.size) (hO.since ME) hMF.box hlo hpw
    have hFF:Fr (fun i=>i=w2.heap.size) w4 (((WF.setCell ⟨w2.heap.size,0,none⟩ (.slice (L' (0,0,0)).a d'.groups.length (L' (0,0,0)).cap)).setCell ⟨w2.heap.size,1,none⟩ (.slice (L' (1,0,0)).a d'.nodes.length (L' (1,0,0)).cap)).setCell ⟨w2.heap.size,2,none⟩ (.slice (L' (2,0,0)).a d'.wires.length (L' (2,0,0)).cap)):=by
     have hF:Fr (fun i=>i=w2.heap.size) w4 WF:=hFk.trans (hsF.fr (fun i=>i=w2.heap.size)) (fun _ _ x=>x) (fun _ _ x=>x)
     exact (((hF.setCell ⟨w2.heap.size,0,none⟩ _ (fun _=>rfl)).setCell ⟨w2.heap.size,1,none⟩ _ (fun _=>rfl)).setCell ⟨w2.heap.size,2,none⟩ _ (fun _=>rfl))
    have hSg:=hFF.aA vZ (fun i hi e=>by omega)
    go_wp2_with fail
    exact ⟨⟨k+1,L',by omega,by go_num,by rw [HN.out];exact MF,hFF,hSg⟩,by simp [intOf];omega⟩
  ·obtain rfl:k=acts.length:=by omega
   rw [List.take_length] at hM
   obtain ⟨dk,hdk⟩:∃ y,doneD nodes l acts=y:=⟨_,rfl⟩
   rw [hdk] at hM
   have HDK:Hid (doneD nodes l acts=dk):=hdk
   clear hdk
   obtain ⟨lt,r0,r1,r2,r3,r4,r5⟩:=hNB.since hSr
   obtain ⟨b0,b1,b2⟩:_/\_/\_:=⟨hM.box.c0,hM.box.c1,hM.box.c2⟩
   obtain ⟨hO,hSf⟩:=hM.own.result (w0:=w) (p:=w.heap.size) hNB.lt (Nat.le_refl _) (hS1.trans hSr) hS1.size
   go_wp2_with fail
   refine bodyPost_ret (v:=.tuple #[aI Lk dk,.int .i64 acts.length,.int .i64 0]) ?_ rfl ⟨fP Lk dk,rfl,by rw [HDK.out];exact hO.wat,hSf⟩
   simp [results,results68,go_sem,r0,r1,r2,aI]
def gA:Ac:=⟨1,0,0,⟨#[104,105]⟩⟩
def gB:Ac:=⟨3,0,1,⟨#[]⟩⟩
def gC:Ac:=⟨1,256,0,⟨#[]⟩⟩
def gS:ByteArray:=su gA
def gT:ByteArray:=su gB
def gD:Wd:=doneD 3 [3,6] (jU (gS++gT))
def gN:Nd:=(gD.nodes[1]?).getD ⟨0,[],[],[]⟩
set_option maxRecDepth 8000 in
theorem DF (s t:ByteArray) (D D0:Wd) (N1:Nd)
  (f1:Hid (∀ y:World,Calls prog 63 #[.agg #[.int .i64 1,.int .i64 0,.int .i64 0,.string ⟨#[104,105]⟩]] y fun e w'=>e=.returned (.tuple #[.string s,.int .i64 0])/\Since y w'))
  (f2:Hid (∀ y:World,Calls prog 63 #[.agg #[.int .i64 3,.int .i64 0,.int .i64 1,.string ⟨#[]⟩]] y fun e w'=>e=.returned (.tuple #[.string t,.int .i64 0])/\Since y w'))
  (f3:Hid (∀ y:World,Calls prog 65 #[.string (s++t++⟨#[1]⟩)] y fun e w'=>∃ a c,e=.returned (.tuple #[.slice a 2 c,.int .i64 10,.int .i64 0])/\Since y w'))
  (f4:Hid (∀ (b cap:Nat) (y:World),Ints y (some ⟨b,0,none⟩) 2 [3,6]->Calls prog 68 #[.int .i64 3,.slice (some ⟨b,0,none⟩) 2 cap,.string (s++t)] y fun e w'=>∃ v:WV,e=.returned (.tuple #[.agg #[.slice v.ga v.gl v.gc,.slice v.na v.nl v.nc,.slice v.wa v.wl v.wc],.int .i64 2,.int .i64 0])/\WAt w' v D/\Since y w'))
  (f5:Hid (∀ y:World,Calls prog 63 #[.agg #[.int .i64 1,.int .i64 256,.int .i64 0,.string ⟨#[]⟩]] y fun e w'=>e=.returned (.tuple #[.string ⟨#[]⟩,.int .i64 3])/\Since y w'))
  (f6:Hid (∀ y:World,Calls prog 83 #[.slice none 0 0] y fun e w'=>∃ L,e=.returned (aI L D0)/\aU y.heap.size w' D0 L/\Since y w'))
  (f7:Hid (∀ (L:Lay) (lo:Nat) (y:World),aU lo y D0 L->Calls prog 53 #[.agg #[.slice (L (0,0,0)).a D0.groups.length (L (0,0,0)).cap,.slice (L (1,0,0)).a D0.nodes.length (L (1,0,0)).cap,.slice (L (2,0,0)).a D0.wires.length (L (2,0,0)).cap],.agg #[.int .i64 0,.int .i64 0,.int .i64 0,.string ⟨#[]⟩]] y fun e w'=>e=.returned (.tuple #[.agg #[.slice none 0 0,.slice none 0 0,.slice none 0 0],.int .i64 6])/\Since y w'))
  (g1:s.size=6) (g2:t.size=4) (g3:Hid (D.nodes.length=3)) (g4:Hid (D.nodes[1]? = some N1)) (g5:Hid (N1.held.length=1)) (w:World) :
  Calls prog 62 #[] w fun e w'=>e=.returned (.bool true)/\Since w w':=by
 have hc:Since w w:=Since.refl w
 have UC:¬ 9223372036854775807 < s.size+t.size:=by omega
 have UD:¬ 9223372036854775807 < (s++t).size+1:=by rw [ByteArray.size_append];omega
 go_enter func62,ntmps62
 go_wp2_with (go_at_call 94;refine (Dj _ _ _ _ _).mono ?_;rintro e wa ⟨rfl,ha⟩)
 refine (f1.out _).mono ?_
 rintro e wb ⟨rfl,hb⟩
 have c1:=hc.trans (ha.trans hb)
 clear hc ha hb
 go_wp2_with (go_at_call 94;refine (Dj _ _ _ _ _).mono ?_;rintro e wa ⟨rfl,ha⟩)
 refine (f2.out _).mono ?_
 rintro e wb ⟨rfl,hb⟩
 have c2:=c1.trans (ha.trans hb)
 clear c1 ha hb
 go_wp2_with fail
 refine (f3.out _).mono ?_
 rintro e wb ⟨la,lc,rfl,hb⟩
 have c3:=c2.trans hb
 clear c2 hb
 go_wp2_with (go_at_call 125;refine (OD _ _ (Since.refl _)).mono ?_;rintro e wt ⟨bt,ct,rfl,hIt,ht⟩)
 refine (f4.out _ _ _ hIt).mono ?_
 rintro e wd ⟨⟨ga,gl,gc,na,nl,nc,wa0,wl,wc⟩,rfl,hW,hd⟩
 dsimp only at hW ⊢
 obtain ⟨we,hwe⟩:∃ y,wd.alloc (.cells #[.slice ga gl gc,.slice na nl nc,.slice wa0 wl wc] 26)=y:=⟨_,rfl⟩
 have he:=au hwe
 have k1:we.cell? ⟨wd.heap.size,1,none⟩=some (.slice na nl nc):=by rw [<-hwe];simp [go_sem]
 have kl:wd.heap.size < we.heap.size:=by rw [<-hwe];simp
 have hnl:D.nodes.length=nl:=hW.n.hlen
 rw [g3.out] at hnl
 subst hnl
 obtain ⟨bn,on,rfl,hbn,hcn⟩:=hW.n.cells (by dsimp only;omega)
 obtain ⟨_,_,⟨v2,n2,ha,hcp,rfl,_,_⟩,_⟩:=hcn 1 N1 g4.out
 rw [g5.out] at n2
 have c4:=c3.trans (ht.trans (hd.trans he))
 have j2:=(he.cellAt hbn _).trans n2
 have hbe:bn < we.heap.size:=zQ4 hbn he.size
 clear c3 ht hd he hW hcn n2 hIt
 go_wp2_with (go_at_call 94;refine (Dj _ _ _ _ _).mono ?_;rintro e wa ⟨rfl,ha'⟩)
 refine (f5.out _).mono ?_
 rintro e wb ⟨rfl,hb⟩
 have c5:=ha'.trans hb
 clear ha' hb hwe
 go_wp2_with fail
 refine (f6.out _).mono ?_
 rintro e wf ⟨L,rfl,hO,hf⟩
 simp only [aI]
 have c6:=c5.trans hf
 clear c5 hf
 go_wp2_with fail
 refine (f7.out _ _ _ hO).mono ?_
 rintro e wg ⟨rfl,hg⟩
 obtain ⟨wh,hwh⟩:∃ y,wg.alloc (.cells #[.slice none 0 0,.slice none 0 0,.slice none 0 0] 26)=y:=⟨_,rfl⟩
 have hh:=au hwh
 have hNB:aC wh wg.heap.size:=by rw [<-hwh];exact aC.new wg _
 obtain ⟨wi,hwi⟩:∃ y,((wh.setCell ⟨wg.heap.size,0,none⟩ (.slice none 0 0)).setCell ⟨wg.heap.size,1,none⟩ (.slice none 0 0)).setCell ⟨wg.heap.size,2,none⟩ (.slice none 0 0)=y:=⟨_,rfl⟩
 have hF4:Fr (fun i=>i=wg.heap.size) wh wi:=by rw [<-hwi];exact dX wh wg.heap.size _ _ _
 have hi:Since wg wi:=hF4.aA hh (fun i hi e=>by omega)
 have c7:=c6.trans (hg.trans hi)
 obtain ⟨_,r0,r1,r2,r3,r4,r5⟩:=hNB
 have k1':=(c7.cellAt kl _).trans k1
 have j2':=(c7.cellAt hbe _).trans j2
 clear c6 hg hO hF4 hi hh k1 j2
 go_wp2_with fail
 refine bodyPost_ret (results_tmp rfl _ _ _) rfl ⟨rfl,c4.trans c7⟩
theorem gOk:okA gA=true/\okA gB=true/\okA gC=false:=by decide +kernel
theorem OZ:gS.size=6/\gT.size=4:=by decide +kernel
theorem Qd:iP (gS++gT++⟨#[1]⟩)=2/\nI (gS++gT++⟨#[1]⟩) 2=10/\iP (gS++gT)=2:=by decide +kernel
theorem gSz:(gS++gT++⟨#[1]⟩).size<=4096/\(gS++gT).size<=4096:=by decide +kernel
theorem Iq:gD.nodes.length=3/\(gD.nodes[1]?).isSome=true/\gN.held.length=1:=by decide +kernel
theorem gNode:gD.nodes[1]? = some gN:=by
 obtain ⟨n,hn⟩:=Option.isSome_iff_exists.1 Iq.2.1
 unfold gN;rw [hn];rfl
theorem Nb (t:ByteArray) {n e:Nat} (h:iP t=n) (h2:nI t n=e) (hs:t.size<=4096) (y:World):Calls prog 65 #[.string t] y fun r w'=>∃ a c,r=.returned (.tuple #[.slice a n c,.int .i64 e,.int .i64 0])/\Since y w':=by
 subst h
 subst h2
 refine (Ca t hs y).mono ?_
 rintro e w' ⟨a,c,rfl,_,hS,_⟩
 exact ⟨a,c,rfl,hS⟩
theorem KO (t:ByteArray) {n:Nat} (h:iP t=n) (hs:t.size<=4096) (D:Wd) (hD:doneD 3 [3,6] (jU t)=D) (b cap:Nat) (y:World) (hI:Ints y (some ⟨b,0,none⟩) 2 [3,6]):Calls prog 68 #[.int .i64 3,.slice (some ⟨b,0,none⟩) 2 cap,.string t] y fun e w'=>∃ v:WV,e=.returned (.tuple #[.agg #[.slice v.ga v.gl v.gc,.slice v.na v.nl v.nc,.slice v.wa v.wl v.wc],.int .i64 n,.int .i64 0])/\WAt w' v D/\Since y w':=by
 subst h
 subst hD
 exact Io 3 _ cap [3,6] t y hI (by omega) (by simp) (by decide) hs
theorem Jl (x:Ac) {b:ByteArray} (h:okA x=true) (hb:su x=b) (y:World):Calls prog 63 #[acV x] y fun e w'=>e=.returned (.tuple #[.string b,.int .i64 0])/\Since y w':=by
 subst hb
 have k:=Cc x y
 rw [if_pos h] at k;exact k
theorem Nc (x:Ac) (h:okA x=false) (y:World):Calls prog 63 #[acV x] y fun e w'=>e=.returned (.tuple #[.string ⟨#[]⟩,.int .i64 3])/\Since y w':=by
 have k:=Cc x y
 rw [if_neg (by rw [h];decide)] at k;exact k
theorem Nf (y:World):Calls prog 83 #[.slice none 0 0] y fun e w'=>∃ L,e=.returned (aI L (iI 3 [3,6]))/\aU y.heap.size w' (iI 3 [3,6]) L/\Since y w':=Kq none 0 [] (by simp) y ⟨rfl,by simp,fun h=>absurd h (by simp)⟩
theorem R6 (D:Wd) (L:Lay) (lo:Nat) (y:World) (hO:aU lo y D L):Calls prog 53 #[.agg #[.slice (L (0,0,0)).a D.groups.length (L (0,0,0)).cap,.slice (L (1,0,0)).a D.nodes.length (L (1,0,0)).cap,.slice (L (2,0,0)).a D.wires.length (L (2,0,0)).cap],.agg #[.int .i64 0,.int .i64 0,.int .i64 0,.string ⟨#[]⟩]] y fun e w'=>e=.returned (.tuple #[.agg #[.slice none 0 0,.slice none 0 0,.slice none 0 0],.int .i64 6])/\Since y w':=by
 refine (xg (fP L D) D ⟨0,0,0,⟨#[]⟩⟩ y hO.wat).mono ?_
 intro e w' h
 exact h.out.1 6 rfl
theorem gW1 (y:World):Calls prog 63 #[.agg #[.int .i64 1,.int .i64 0,.int .i64 0,.string ⟨#[104,105]⟩]] y fun e w'=>e=.returned (.tuple #[.string gS,.int .i64 0])/\Since y w':=Jl gA gOk.1 (b:=gS) rfl y
theorem gW2 (y:World):Calls prog 63 #[.agg #[.int .i64 3,.int .i64 0,.int .i64 1,.string ⟨#[]⟩]] y fun e w'=>e=.returned (.tuple #[.string gT,.int .i64 0])/\Since y w':=Jl gB gOk.2.1 (b:=gT) rfl y
theorem gW5 (y:World):Calls prog 63 #[.agg #[.int .i64 1,.int .i64 256,.int .i64 0,.string ⟨#[]⟩]] y fun e w'=>e=.returned (.tuple #[.string ⟨#[]⟩,.int .i64 3])/\Since y w':=Nc gC gOk.2.2 y
theorem gW4:doneD 3 [3,6] (jU (gS++gT))=gD:=by unfold gD;rfl
theorem Ng (t:ByteArray) (h:iP t=2) (h2:nI t 2=10) (hs:t.size<=4096) (y:World):Calls prog 65 #[.string t] y fun e w'=>∃ a c,e=.returned (.tuple #[.slice a 2 c,.int .i64 10,.int .i64 0])/\Since y w':=Nb t h h2 hs y
theorem gW3 (y:World):Calls prog 65 #[.string (gS++gT++⟨#[1]⟩)] y fun e w'=>∃ a c,e=.returned (.tuple #[.slice a 2 c,.int .i64 10,.int .i64 0])/\Since y w':=Ng _ Qd.1 Qd.2.1 gSz.1 y
theorem KP (t:ByteArray) (h:iP t=2) (hs:t.size<=4096) (D:Wd) (hD:doneD 3 [3,6] (jU t)=D) (b cap:Nat) (y:World) (hI:Ints y (some ⟨b,0,none⟩) 2 [3,6]):Calls prog 68 #[.int .i64 3,.slice (some ⟨b,0,none⟩) 2 cap,.string t] y fun e w'=>∃ v:WV,e=.returned (.tuple #[.agg #[.slice v.ga v.gl v.gc,.slice v.na v.nl v.nc,.slice v.wa v.wl v.wc],.int .i64 2,.int .i64 0])/\WAt w' v D/\Since y w':=KO t h hs D hD b cap y hI
theorem vM (w:World):Calls prog 62 #[] w fun e w'=>e=.returned (.bool true)/\Since w w':=by
 refine DF gS gT gD (iI 3 [3,6]) gN ?_ ?_ ?_ ?_ ?_ ?_ ?_ OZ.1 OZ.2 ?_ ?_ ?_ w
 ·exact gW1
 ·exact gW2
 ·exact gW3
 ·exact fun b cap y hI=>KP (gS++gT) Qd.2.2 gSz.2 gD gW4 b cap y hI
 ·exact gW5
 ·exact Nf
 ·exact R6 (iI 3 [3,6])
 ·exact Iq.1
 ·exact gNode
 ·exact Iq.2.2
end Go.Proofs.YtiiifecfdkjmbaaGreat
