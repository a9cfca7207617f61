/- Lemmas. Lemmas. Lemmas. Lemmas. Lemmas. -/
import Derived.Test.YtediempflagfkaaGreatDoorPureDD
import Derived.Test.YtediempflagfkaaGreatDoorDkC3
import Derived.Test.YtediempflagfkaaGreatDoorSCastX
import Derived.Test.YtediempflagfkaaGreatDoorSCalmX
set_option linter.unusedVariables false
set_option linter.unusedSimpArgs false
set_option linter.unnecessarySimpa false
set_option maxHeartbeats 1000000
namespace Go.Proofs.YtediempflagfkaaGreatDoor
open _root_.Go.Proofs.Tryz hiding checked
set_option maxRecDepth 8000
open Go.RowKit Go.Shelf
open Pu
abbrev Ck (w:World) (B:Nat) (x:WV):Prop:=Bx3 w B (.slice x.ga x.gl x.gc) (.slice x.na x.nl x.nc) (.slice x.wa x.wl x.wc)
def GvR(B:Nat)(w:World)(d:Wd)(r:Except Int (Wd × List UInt8))(e:Ending)(w':World):Prop :=
 (∀er,r=.error er->e=.panicked (pan er)/\ak w w') /\
 (∀d' t,r=.ok (d',t)->e=.returned (.string (bs t))/\((ak w w'/\d'=d)\/∃L,Ck w' B (fE L d')/\bG w.heap.size w' d' L/\Fr (fun i=>i=B) w w'))
theorem Em{B:Nat}{w w':World}{d:Wd}{er:Int}(h:ak w w'):GvR B w d (.error er) (.panicked (pan er)) w':=⟨fun _ e=>(by cases e;exact⟨rfl,h⟩),fun _ _ e=>(by cases e)⟩
theorem Ah{B:Nat}{w w':World}{d:Wd}{t:List UInt8}(h:ak w w'):GvR B w d (.ok (d,t)) (.returned (.string (bs t))) w':=⟨fun _ e=>(by cases e),fun _ _ e=>(by cases e;exact⟨rfl,.inl ⟨h,rfl⟩⟩)⟩
theorem zV{B:Nat}{w w':World}{d d':Wd}{t:List UInt8}{L:Lay}(h:Ck w' B (fE L d'))(hO:bG w.heap.size w' d' L)(hF:Fr (fun i=>i=B) w w'):GvR B w d (.ok (d',t)) (.returned (.string (bs t))) w' :=
 ⟨fun _ e=>(by cases e),fun _ _ e=>(by cases e;exact⟨rfl,.inr ⟨L,h,hO,hF⟩⟩)⟩
theorem nI(B:Nat)(a b c:Value)(ha:a.oneCell'=true)(hb:b.oneCell'=true)(hc:c.oneCell'=true)(er:Int)(h0:er≠0)(w:World):Calls prog 73 #[.pointer (some ⟨B,0,none⟩),.agg #[a,b,c],.int .i64 er] w fun e w'=>e=.panicked (pan er)/\ak w w':=by
 have her:(er == 0)=false:=by simpa using h0
 obtain⟨w1,hw1⟩:∃y,w.alloc (.cells #[a,b,c] 31)=y:=⟨_,rfl⟩;have hS1:=aF hw1;clear h0
 go_enter func73,ntmps73
 go_wp2_with (go_at_call 32;refine(iZ _ _).mono ?_;rintro e w' ⟨rfl,rfl⟩)
 exact⟨rfl,rfl,hS1⟩
theorem oZ(B:Nat)(v x:WV)(w:World)(hB:Ck w B v):Calls prog 73 #[.pointer (some ⟨B,0,none⟩),.agg #[.slice x.ga x.gl x.gc,.slice x.na x.nl x.nc,.slice x.wa x.wl x.wc],.int .i64 0] w fun e w'=>e=.returned (.tuple #[])/\Ck w' B x/\Fr (fun i=>i=B) w w':=by
 obtain⟨ga,gl,gc,na,nl,nc,wa,wl,wc⟩:=x;dsimp only;obtain⟨w1,hw1⟩:∃y,w.alloc (.cells #[.slice ga gl gc,.slice na nl nc,.slice wa wl wc] 31)=y:=⟨_,rfl⟩;have hS1:=aF hw1
 have hX:Bx3 w1 w.heap.size (.slice ga gl gc) (.slice na nl nc) (.slice wa wl wc):=by rw[<-hw1];constructor <;> simp[go_sem]
 have hB1:=hB.fr (hS1.fr fun _=>False) (fun x=>x);have hAV:=hB1.all (.slice ga gl gc) (.slice na nl nc) (.slice wa wl wc);have hpf:=aS w1 B (.slice ga gl gc) (.slice na nl nc) (.slice wa wl wc);unfold iB at hpf;obtain⟨V,hV⟩:∃y,(((w1.setCell ⟨B,0,none⟩ (.slice ga gl gc)).setCell ⟨B,1,none⟩ (.slice na nl nc)).setCell ⟨B,2,none⟩ (.slice wa wl wc))=y:=⟨_,rfl⟩;rw[hV]at hAV hpf;obtain⟨_,m0,m1,m2,k0,k1,k2⟩:=hB1;obtain⟨_,p0,p1,p2,_,_,_⟩:=hX
 go_enter func73,ntmps73
 go_wp2_with (go_at_call 32;refine(l9 _ _).mono ?_;rintro e w' ⟨rfl,hw⟩;obtain rfl:=hw.symm)
 go_end0
 exact⟨rfl,hAV,(hS1.fr _).trans hpf (fun _ _ x=>x) (fun _ _ x=>x)⟩
theorem yL{w:World}{ga:Option Addr}{gl gc:Nat}{na:Option Addr}{nl nc:Nat}{wa:Option Addr}{wl wc:Nat}{d:Wd}(hW:WAt w ⟨ga,gl,gc,na,nl,nc,wa,wl,wc⟩ d){n:Nat}{x0:Nd}(hx0:d.ah[n]? = some x0) :
  ∃b0 o0,na=some ⟨b0,o0,none⟩/\n < nl/\b0 < w.heap.size/\w.cell? ⟨b0,o0+n*4,none⟩=some (.int .i64 x0.aK)/\(∃ha hc,w.cell? ⟨b0,o0+n*4+2,none⟩=some (.slice ha x0.held.length hc))/\(∃ta tc,w.cell? ⟨b0,o0+n*4+3,none⟩=some (.slice ta x0.aG.length tc)/\gD w ta x0.aG.length x0.aG):=by
 have bq:=hW.n.bq;have hlt:=bT hx0;obtain⟨b0,o0,hna,hb0,hnd⟩:=hW.n.cells (by dsimp only at *;omega);obtain⟨hk0,⟨vl,hk1,la,lc,rfl,_,_⟩,⟨vh,hk2,ha,hcp,rfl,_,_⟩,⟨vt,hk3,ta,tc,rfl,_,hMt⟩⟩:=hnd n x0 hx0;exact⟨b0,o0,hna,by dsimp only at *;omega,hb0,hk0,⟨ha,hcp,hk2⟩,⟨ta,tc,hk3,hMt⟩⟩
set_option maxRecDepth 8000 in
theorem Dr(B n ck:Nat)(x:WV)(d:Wd)(x0:Nd)(w:World)(hB:Ck w B x)(hW:WAt w x d)(hx0:d.ah[n]? = some x0)(hck:x0.aK=ck)(hc9:ck<=1000000000)(hn9:n<=1000000000)(hT:Tb w) :
  Calls prog 75 #[.pointer (some ⟨B,0,none⟩),.int .i64 n] w fun e w'=>e=.returned (.string (bs (dn ck)))/\ak w w':=by
 obtain⟨ga,gl,gc,na,nl,nc,wa,wl,wc⟩:=x;obtain⟨b0,o0,rfl,n8,hb0,hk0,_,_⟩:=yL hW hx0;rw[hck]at hk0;obtain⟨_,c0,c1,c2,_,_,_⟩:=hB;dsimp only at c1;have n9:(n:Int) < (nl:Int):=by omega
 have hit:=fun y (hy:Tb y)=>qK ck (by omega) y hy;clear hW hx0 hck
 go_enter func75,ntmps75
 go_wp2_with (go_at_call 29;refine(hit _ hT).mono ?_;rintro e w' ⟨rfl,hS⟩)
 go_ret
 exact⟨rfl,hS⟩
end Go.Proofs.YtediempflagfkaaGreatDoor
set_option maxHeartbeats 2000000
namespace Go.Proofs.YtediempflagfkaaGreatDoor
open _root_.Go.Proofs.Tryz hiding checked
set_option maxRecDepth 8000
open Go.RowKit Go.Shelf
open Pu
theorem Ep{w:World}{r:Nat}{es:Array MapEntry}{c:Nat}(hr:w.heap[r]? = some (.map es c))(o':Obj):(setObj r o').run prog w=.ok () (w.putObj r o'):=by
 simp[setObj,Sem.run,hr,World.putObj]
theorem mg(em:Bool)(key:ByteArray)(w:World):(Instr.checkKey em 10000 9 (.string key)).run prog w=.ok () w:=by
 show(Instr.checkKey em (9999+1) 9 (.string key)).run prog w=.ok () w;unfold Instr.checkKey;simp only[Sem.run_bind,run_underlying underlying9,Result.andThen_ok,Sem.run_pure]
theorem mZ{key:ByteArray}{es:List MapEntry}{x:Option (Nat × Value)}(hf:Instr.findNow .string (.string key) es 0=some x)(w:World):(Instr.findKey 9 (.string key) es).run prog w=.ok x w:=by
 unfold Instr.findKey;simp only[Sem.run_bind,run_underlying underlying9,Result.andThen_ok,hf,Sem.run_pure]
theorem uW{w:World}{r c:Nat}{es:Array MapEntry}{T E:TypeId}(hT:prog.underlying T=some (.map 9 E))(h:w.heap[r]? = some (.map es c))(key:ByteArray)(v:Value)(hf:Instr.findNow .string (.string key) es.toList 0=some none) :
  (Instr.mapUpdate T (.map (some r)) (.string key) v).run prog w=.ok () (w.putObj r (.map (es.push { key:=.string key,val:=v,born:=c }) (c+1))):=by
 have hg:(getObj r).run prog w=.ok (.map es c) w:=by simp[getObj,Sem.run,h]
 unfold Instr.mapUpdate;simp only[Sem.run_bind,run_underlying hT,Result.andThen_ok,hg,mg,mZ hf];have hlt:r < w.heap.size:=(zQ3.1 h).1;exact Ep h _
theorem Nu{w:World}{r c:Nat}{es:Array MapEntry}{T E:TypeId}(hT:prog.underlying T=some (.map 9 E))(h:w.heap[r]? = some (.map es c))(key:ByteArray){i:Nat}{v:Value}(hf:Instr.findNow .string (.string key) es.toList 0=some (some (i,v))) :
  (Instr.lookup T (.map (some r)) (.string key) true).run prog w=.ok (.tuple #[v,.bool true]) w:=by
 have hg:(getObj r).run prog w=.ok (.map es c) w:=by simp[getObj,Sem.run,h]
 unfold Instr.lookup;simp only[Sem.run_bind,run_underlying hT,Result.andThen_ok,hg,mg,Sem.run_pure,mZ hf];rfl
theorem I4{w:World}{r c:Nat}{es:Array MapEntry}{T E:TypeId}(hT:prog.underlying T=some (.map 9 E))(h:w.heap[r]? = some (.map es c))(key:ByteArray){z:Value}(hz:∀w,(zeroValue E).run prog w=.ok z w)(hf:Instr.findNow .string (.string key) es.toList 0=some none) :
  (Instr.lookup T (.map (some r)) (.string key) true).run prog w=.ok (.tuple #[z,.bool false]) w:=by
 have hg:(getObj r).run prog w=.ok (.map es c) w:=by simp[getObj,Sem.run,h]
 unfold Instr.lookup;simp only[Sem.run_bind,run_underlying hT,Result.andThen_ok,hg,mg,Sem.run_pure,mZ hf,hz];rfl
def ruV(B k:Nat)(bd:Bool)(f:Nat):Value:=.agg #[.int .i64 k,.bool bd,.func (.func f) #[.pointer (some ⟨B,0,none⟩)] #[]]
def ruE(B:Nat):Array MapEntry:=#[
 { key:=.string ⟨#[115,101,110,100]⟩,val:=ruV B 2 true 55,born:=0 },
 { key:=.string ⟨#[110,117,108,108]⟩,val:=ruV B 2 false 56,born:=1 },
 { key:=.string ⟨#[109,111,118,101]⟩,val:=ruV B 2 false 57,born:=2 },
 { key:=.string ⟨#[99,97,108,109]⟩,val:=ruV B 0 false 58,born:=3 },
 { key:=.string ⟨#[116,111,108,100]⟩,val:=ruV B 1 false 59,born:=4 },
 { key:=.string ⟨#[104,101,108,100]⟩,val:=ruV B 1 false 60,born:=5 }]
def Cx(B i:Nat):Array MapEntry:=((ruE B).toList.take i).toArray
theorem kU:prog.underlying 76=some (.map 9 74):=by kernel_rfl
set_option maxRecDepth 8000 in
theorem Dp(B:Nat)(w:World):Calls prog 31 #[.pointer (some ⟨B,0,none⟩)] w fun e w'=>e=.returned (.map (some w.heap.size))/\w'.heap[w.heap.size]? = some (.map (ruE B) 6)/\ak w w':=by
 have hmf:∀(fn:Fn) (first cap:Array Value) (w:World),(Instr.makeFunc fn first cap).run prog w=.ok (.func fn first cap) w:=fun _ _ _ _=>rfl
 obtain⟨r,hr⟩:∃y,w.heap.size=y:=⟨_,rfl⟩;obtain⟨w0,hw0⟩:∃y,w.alloc (.map #[] 0)=y:=⟨_,rfl⟩;have hmk:(Instr.makeMap 76 none).run prog w=.ok (.map (some r)) w0:=by rw[<-hw0,<-hr];rfl
 have h0:w0.heap[r]? = some (.map #[] 0):=by rw[<-hw0,<-hr];exact World.alloc_heap_new w _
 have hS0:=aF hw0
 have key:∀(y:World) (es:Array MapEntry) (c:Nat) (o:Obj),y.heap[r]? = some (.map es c)->ak w y->(y.putObj r o).heap[r]? = some o/\ak w (y.putObj r o):=fun y es c o h hS =>
  ⟨World.putObj_heap_same (zQ3.1 h).1,⟨hS.below.os,hS.below.tape,hS.below.output,by rw[World.putObj_size];exact hS.size,fun k hk=>(World.putObj_heap_other (by omega)).trans (hS.below.block k hk)⟩⟩
 obtain⟨w1,hw1⟩:∃y,w0.putObj r (.map (Cx B 1) 1)=y:=⟨_,rfl⟩;obtain⟨h1,hS1⟩:=key w0 _ _ (.map (Cx B 1) 1) h0 hS0;rw[hw1]at h1 hS1;obtain⟨w2,hw2⟩:∃y,w1.putObj r (.map (Cx B 2) 2)=y:=⟨_,rfl⟩;obtain⟨h2,hS2⟩:=key w1 _ _ (.map (Cx B 2) 2) h1 hS1;rw[hw2]at h2 hS2;obtain⟨w3,hw3⟩:∃y,w2.putObj r (.map (Cx B 3) 3)=y:=⟨_,rfl⟩;obtain⟨h3,hS3⟩:=key w2 _ _ (.map (Cx B 3) 3) h2 hS2;rw[hw3]at h3 hS3;obtain⟨w4,hw4⟩:∃y,w3.putObj r (.map (Cx B 4) 4)=y:=⟨_,rfl⟩;obtain⟨h4,hS4⟩:=key w3 _ _ (.map (Cx B 4) 4) h3 hS3;rw[hw4]at h4 hS4;obtain⟨w5,hw5⟩:∃y,w4.putObj r (.map (Cx B 5) 5)=y:=⟨_,rfl⟩;obtain⟨h5,hS5⟩:=key w4 _ _ (.map (Cx B 5) 5) h4 hS4;rw[hw5]at h5 hS5;obtain⟨w6,hw6⟩:∃y,w5.putObj r (.map (ruE B) 6)=y:=⟨_,rfl⟩;obtain⟨h6,hS6⟩:=key w5 _ _ (.map (ruE B) 6) h5 hS5;rw[hw6]at h6 hS6;have u1:(Instr.mapUpdate 76 (.map (some r)) (.string ⟨#[115,101,110,100]⟩) (.agg #[.int .i64 2,.bool true,.func (.func 55) #[.pointer (some ⟨B,0,none⟩)] #[]])).run prog w0=.ok () w1:=by rw[<-hw1];exact uW kU h0 _ _ rfl
 have u2:(Instr.mapUpdate 76 (.map (some r)) (.string ⟨#[110,117,108,108]⟩) (.agg #[.int .i64 2,.bool false,.func (.func 56) #[.pointer (some ⟨B,0,none⟩)] #[]])).run prog w1=.ok () w2:=by rw[<-hw2];exact uW kU h1 _ _ rfl
 have u3:(Instr.mapUpdate 76 (.map (some r)) (.string ⟨#[109,111,118,101]⟩) (.agg #[.int .i64 2,.bool false,.func (.func 57) #[.pointer (some ⟨B,0,none⟩)] #[]])).run prog w2=.ok () w3:=by rw[<-hw3];exact uW kU h2 _ _ rfl
 have u4:(Instr.mapUpdate 76 (.map (some r)) (.string ⟨#[99,97,108,109]⟩) (.agg #[.int .i64 0,.bool false,.func (.func 58) #[.pointer (some ⟨B,0,none⟩)] #[]])).run prog w3=.ok () w4:=by rw[<-hw4];exact uW kU h3 _ _ rfl
 have u5:(Instr.mapUpdate 76 (.map (some r)) (.string ⟨#[116,111,108,100]⟩) (.agg #[.int .i64 1,.bool false,.func (.func 59) #[.pointer (some ⟨B,0,none⟩)] #[]])).run prog w4=.ok () w5:=by rw[<-hw5];exact uW kU h4 _ _ rfl
 have u6:(Instr.mapUpdate 76 (.map (some r)) (.string ⟨#[104,101,108,100]⟩) (.agg #[.int .i64 1,.bool false,.func (.func 60) #[.pointer (some ⟨B,0,none⟩)] #[]])).run prog w5=.ok () w6:=by rw[<-hw6];exact uW kU h5 _ _ rfl
 have HE:Hid (w.heap.size=r):=hr;have H6:Hid (w6.heap[r]? = some (.map (ruE B) 6)):=h6;clear h0 h1 h2 h3 h4 h5 h6 hw0 hw1 hw2 hw3 hw4 hw5 hw6 hS0 hS1 hS2 hS3 hS4 hS5 hr key
 go_enter func31,ntmps31
 go_wp2
 go_ret
 rw[HE.out];exact⟨rfl,H6.out,hS6⟩
end Go.Proofs.YtediempflagfkaaGreatDoor
set_option maxHeartbeats 1000000
namespace Go.Proofs.YtediempflagfkaaGreatDoor
open _root_.Go.Proofs.Tryz hiding checked
set_option maxRecDepth 8000
open Go.RowKit Go.Shelf
open Pu
set_option maxRecDepth 20000 in
theorem FY(p:Addr)(x:Value)(n:Nat)(hn:n<=1000)(w:World)(hT:Tb w)(hp:p.block < w.heap.size)(hx:w.cell? p=some x)(hz:w.frozen? p=false) :
  CallsDIn Fence.wide 0 prog 28 #[.pointer (some p)] (.panicking (pan n)) w fun r u' w' =>
   r=.returned (.tuple #[])/\u'=.panicking [{ v:=.iface 23 (.int .i64 n),recovered:=true }]/\∃w2,ak w w2/\w'=w2.setCell p (.string (bs (kP++dn n))):=by
 have hta:=rD n;have hit:=qK n (by omega) w hT;have hd:=mQ 9 n (by omega);have hsz:¬ 9223372036854775807 < 6+(bs (dn n)).size:=by rw[bX];omega
 have HX:Hid ((⟨#[101,114,114,111,114,32]⟩:ByteArray)++bs (dn n)=bs (kP++dn n)):=by unfold Hid;rw[show(⟨#[101,114,114,111,114,32]⟩:ByteArray)=bs kP from rfl,iP]
 have HC:Hid (∀y,ak w y->y.cell? p=some x/\y.frozen? p=false):=fun y hy=>⟨(hy.below.cell hp).trans hx,(hy.below.frozen hp).trans hz⟩;clear hd hx hz;refine callsDIn_of_wpSIn func28 rfl trivial fun c₀ cs hu=>?_;apply wpSIn_seq;apply wpSIn_region;simp[wpOpsSIn,go_sem,recoverD,hu,ntmps28,Exit.thenS];refine wpSIn_of_wpIn rfl ((wpIn_wide (n:=0)).2 ?_);simp only[Array.replicate_succ,Array.replicate_zero,List.push_toArray,List.append_toArray,List.nil_append,List.cons_append,zQ7,zQ9,zQ8]
 go_wp2_with (go_at_call 29;refine hit.mono ?_;rintro e w2 ⟨rfl,hS2⟩;obtain⟨q0,q1⟩:=HC.out w2 hS2)
 rw[HX.out];exact⟨rfl,_,rfl,_,results_none rfl _ _ _,rfl,rfl,_,hS2,rfl⟩
set_option maxRecDepth 20000 in
theorem Es(p:Addr)(w:World) :
  CallsDIn Fence.wide 0 prog 28 #[.pointer (some p)] .returning w fun r u' w'=>r=.returned (.tuple #[])/\u'=.returning/\w'=w:=by
 refine callsDIn_of_wpSIn func28 rfl trivial fun c₀ cs hu=>?_;apply wpSIn_seq;apply wpSIn_region;simp[wpOpsSIn,go_sem,recoverD,hu,ntmps28,Exit.thenS];refine wpSIn_of_wpIn rfl ((wpIn_wide (n:=0)).2 ?_);simp only[Array.replicate_succ,Array.replicate_zero,List.push_toArray,List.append_toArray,List.nil_append,List.cons_append,zQ7,zQ9,zQ8]
 go_wp2
 obtain⟨c1,c2,c3,c4,c5,c6,c7⟩:=c₀;subst hu;exact⟨rfl,_,rfl,_,results_none rfl _ _ _,rfl,rfl,rfl⟩
theorem xA(y:World)(bo:Nat)(tmps:Array Value)(h4:tmps[4]? = some (.pointer (some ⟨bo,0,none⟩)))(x:Value)(n:Nat)(hn:n<=1000)(hT:Tb y)(hp:bo < y.heap.size)(hx:y.cell? ⟨bo,0,none⟩=some x)(hz:y.frozen? ⟨bo,0,none⟩=false)
  (R:Ending->World->Prop) (hR:∀y2,ak y y2->R (.returned (.string (bs (kP++dn n)))) (y2.setCell ⟨bo,0,none⟩ (.string (bs (kP++dn n))))) :
  LeavesInM Fence.wide 0 prog Tryz.f11 tmps R [{ target:=.fn (.func 28) #[.pointer (some ⟨bo,0,none⟩)],args:=#[] }] (.panicking (pan n)) y:=by
 refine⟨by simp,.inr ⟨fun h=>(by cases h),_,_,28,#[.pointer (some ⟨bo,0,none⟩)],rfl,by simp[go_sem,invoke],fun _ _=>trivial, ?_⟩⟩;refine(FY ⟨bo,0,none⟩ x n hn y hT hp hx hz).mono ?_;rintro r u' w'' ⟨rfl,rfl,y2,hS,rfl⟩;refine⟨_, ?_,hR y2 hS⟩;have hc':(y2.setCell ⟨bo,0,none⟩ (.string (bs (kP++dn n)))).cell? ⟨bo,0,none⟩=some (.string (bs (kP++dn n))):=gN _ _ _ _ ((hS.av hp _).trans hx);simp[results,Tryz.f11,go_sem,h4,hc']
theorem Ei(y:World)(bo:Nat)(tmps:Array Value)(h4:tmps[4]? = some (.pointer (some ⟨bo,0,none⟩)))(s:ByteArray)(hx:y.cell? ⟨bo,0,none⟩=some (.string s))
  (R:Ending->World->Prop) (hR:R (.returned (.string s)) y) :
  LeavesInM Fence.wide 0 prog Tryz.f11 tmps R [{ target:=.fn (.func 28) #[.pointer (some ⟨bo,0,none⟩)],args:=#[] }] .returning y:=by
 refine⟨by simp,.inr ⟨fun h=>(by cases h),_,_,28,#[.pointer (some ⟨bo,0,none⟩)],rfl,by simp[go_sem,invoke],fun _ _=>trivial, ?_⟩⟩;refine(Es ⟨bo,0,none⟩ y).mono ?_;rintro r u' w'' ⟨rfl,rfl,rfl⟩;refine⟨_, ?_,hR⟩;simp[results,Tryz.f11,go_sem,h4,hx]
def Pq(Q:Exit->Act->World->Prop)(p:Value)(ds:List Deferred)(R:List PanicEntry->World->Prop):Exit->Act->World->Prop
 | .normal,a,w=>Q .normal a w
 | .panic ch,a,w=>a.tmps[4]? = some p/\a.defers=ds/\R ch w
 | _,_,_=>False
theorem sU{Q:Exit->Act->World->Prop}{p:Value}{ds:List Deferred}{R:List PanicEntry->World->Prop}{dst:Option Nat}(h:dst≠some 4):∀c a v w,Pq Q p ds R (.panic c) (a.put dst v) w->Pq Q p ds R (.panic c) a w:=by
 intro c a v w hq
 cases dst with
 | none=>exact hq
 | some i =>
  obtain⟨h1,h2,h3⟩:=hq;refine⟨?_,h2,h3⟩
  have:(a.put (some i) v).tmps[4]? = a.tmps[4]?:=by
   show(a.tmps.setIfInBounds i v)[4]? = _;rw[Array.getElem?_setIfInBounds_ne (fun e=>h (by rw[e]))]
  rw[this]at h1;exact h1
theorem Ls{P:Program}{Q:Exit->Act->World->Prop}{p:Value}{ds:List Deferred}{R:List PanicEntry->World->Prop}{c:Code}{a:Act}{w:World}(hP:∀ch a' w',a'.tmps[4]? = some p->a'.defers=ds->R ch w'->Q (.panic ch) a' w')(h:c.wp P (Pq Q p ds R) a w):c.wp P Q a w :=
 wp_mono h (fun e a w h=>by
  match e,h with
  | .normal,h=>exact h
  | .panic ch,⟨h1,h2,h3⟩=>exact hP ch a w h1 h2 h3)
end Go.Proofs.YtediempflagfkaaGreatDoor
set_option maxHeartbeats 2000000
namespace Go.Proofs.YtediempflagfkaaGreatDoor
open _root_.Go.Proofs.Tryz hiding checked
set_option maxRecDepth 8000
open Go.RowKit Go.Shelf
open Pu
set_option maxRecDepth 8000 in
theorem Jb(B:Nat)(x:WV)(d:Wd)(a b:Int)(t:List UInt8)(er:Int)(h0:er≠0)(w:World)(hB:Ck w B x)(hW:WAt w x d)(hr:checked d (lD d)=.error er):Calls prog 58 #[.pointer (some ⟨B,0,none⟩),.agg #[.int .i64 a,.int .i64 b,.string (bs t)]] w fun e w'=>e=.panicked (pan er)/\ak w w':=by
 have hcm:=fun y (hy:ak w y)=>xI x d y (hW.ay hy);rw[hr]at hcm;obtain⟨ga,gl,gc,na,nl,nc,wa,wl,wc⟩:=x;dsimp only at hcm;have hBl:=hB.lt;obtain⟨w1,hw1⟩:∃y,w.alloc (.cells #[.int .i64 a,.int .i64 b,.string (bs t)] 80)=y:=⟨_,rfl⟩;have hS1:=aF hw1;have hl1:w.heap.size < w1.heap.size:=by rw[<-hw1];simp
 have hB1:=hB.fr (hS1.fr fun _=>False) (fun x=>x);obtain⟨_,c0,c1,c2,_,_,_⟩:=hB1;dsimp only at c0 c1 c2;clear hr hW hB
 go_enter func58,ntmps58
 go_wp2_with (first
  | (go_at_call 78;refine(hcm w1 hS1).mono ?_;rintro e W1 hR;obtain⟨rfl,hSc⟩:=hR.out.1 er rfl;clear hR;dsimp only)
  | (go_at_call 73;refine(nI B _ _ _ rfl rfl rfl er h0 W1).mono ?_;rintro e W2 ⟨rfl,hS2⟩))
 exact⟨rfl,rfl,hS1.trans (hSc.trans hS2)⟩
set_option maxRecDepth 8000 in
theorem LA(B:Nat)(x:WV)(d d':Wd)(a b:Int)(t:List UInt8)(w:World)(hB:Ck w B x)(hW:WAt w x d)(hr:checked d (lD d)=.ok d'):Calls prog 58 #[.pointer (some ⟨B,0,none⟩),.agg #[.int .i64 a,.int .i64 b,.string (bs t)]] w fun e w'=>Hid (GvR B w d (.ok (d',bOk)) e w'):=by
 have hcm:=fun y (hy:ak w y)=>xI x d y (hW.ay hy);rw[hr]at hcm;obtain⟨ga,gl,gc,na,nl,nc,wa,wl,wc⟩:=x;dsimp only at hcm;have hBl:=hB.lt;obtain⟨w1,hw1⟩:∃y,w.alloc (.cells #[.int .i64 a,.int .i64 b,.string (bs t)] 80)=y:=⟨_,rfl⟩;have hS1:=aF hw1;have hl1:w.heap.size < w1.heap.size:=by rw[<-hw1];simp
 have hB1:=hB.fr (hS1.fr fun _=>False) (fun x=>x);have HB1:=(show Hid _ from hB1);obtain⟨_,c0,c1,c2,_,_,_⟩:=hB1;dsimp only at c0 c1 c2;clear hr hW hB
 go_enter func58,ntmps58
 go_wp2_with (first
  | (go_at_call 78;refine(hcm w1 hS1).mono ?_;rintro e W1 hR;obtain⟨L,rfl,hO,hSc⟩:=hR.out.2 d' rfl;clear hR;simp only[bF])
  | (go_at_call 73;refine(oZ B ⟨ga,gl,gc,na,nl,nc,wa,wl,wc⟩ (fE L d') W1 (HB1.out.fr (hSc.fr fun _=>False) (fun x=>x))).mono ?_;rintro e W2 ⟨rfl,hB2,hF2⟩))
 go_ret
 refine zV (t:=bOk) hB2 ((hO.fr hF2 (fun i hi e=>by have:=(hO.blk hi).1;omega)).mono hS1.size) (((hS1.trans hSc).fr _).trans hF2 (fun _ _ x=>x) (fun _ _ x=>x))
set_option maxRecDepth 8000 in
theorem Ja(B:Nat)(x:WV)(d:Wd)(a b:Int)(t:List UInt8)(er:Int)(h0:er≠0)(w:World)(hB:Ck w B x)(hW:WAt w x d)(hr:fC d a b=.error er):Calls prog 57 #[.pointer (some ⟨B,0,none⟩),.agg #[.int .i64 a,.int .i64 b,.string (bs t)]] w fun e w'=>e=.panicked (pan er)/\ak w w':=by
 have hcm:=fun y (hy:ak w y)=>tq x d a b y (hW.ay hy);rw[hr]at hcm;obtain⟨ga,gl,gc,na,nl,nc,wa,wl,wc⟩:=x;dsimp only at hcm;have hBl:=hB.lt;obtain⟨w1,hw1⟩:∃y,w.alloc (.cells #[.int .i64 a,.int .i64 b,.string (bs t)] 80)=y:=⟨_,rfl⟩;have hS1:=aF hw1;have hl1:w.heap.size < w1.heap.size:=by rw[<-hw1];simp
 have hB1:=hB.fr (hS1.fr fun _=>False) (fun x=>x);obtain⟨w2,hw2⟩:∃y,w1.alloc (.cells #[.slice none 0 0,.slice none 0 0,.slice none 0 0] 31)=y:=⟨_,rfl⟩;have hS2:=aF hw2;have hA2:Bx3 w2 w1.heap.size (.slice none 0 0) (.slice none 0 0) (.slice none 0 0):=by rw[<-hw2];exact Bx3.fresh w1 _
 have hA3:=hA2.all (.slice ga gl gc) (.slice na nl nc) (.slice wa wl wc);have hpf:=aS w2 w1.heap.size (.slice ga gl gc) (.slice na nl nc) (.slice wa wl wc);unfold iB at hpf;obtain⟨w3,hw3⟩:∃y,(((w2.setCell ⟨w1.heap.size,0,none⟩ (.slice ga gl gc)).setCell ⟨w1.heap.size,1,none⟩ (.slice na nl nc)).setCell ⟨w1.heap.size,2,none⟩ (.slice wa wl wc))=y:=⟨_,rfl⟩;rw[hw3]at hpf hA3;have hS3:ak w1 w3:=hpf.aI hS2 (fun i hi e=>by omega);have hB3:=hB1.fr (hS3.fr fun _=>False) (fun x=>x);have o0:w3.cell? ⟨w.heap.size,0,none⟩=some (.int .i64 a):=(hS3.av hl1 _).trans (by rw[<-hw1];simp[go_sem]);have o1:w3.cell? ⟨w.heap.size,1,none⟩=some (.int .i64 b):=(hS3.av hl1 _).trans (by rw[<-hw1];simp[go_sem]);have hl3:w1.heap.size < w3.heap.size:=hA3.lt;have QL:w.heap.size < w3.heap.size:=by omega
 have HS:Hid (ak w w3):=hS1.trans hS3;have HB3:=(show Hid _ from hB3);have HA3:=(show Hid _ from hA3);obtain⟨_,c0,c1,c2,_,_,_⟩:=hB1;obtain⟨_,n0,n1,n2,k0,k1,k2⟩:=hA2;obtain⟨_,a0,a1,a2,_,_,_⟩:=hA3;dsimp only at c0 c1 c2;clear hr hW hB hpf hS2
 go_enter func57,ntmps57
 go_wp2_with (first
  | (go_at_call 77;refine(hcm w3 HS.out).mono ?_;rintro e W1 hR;obtain⟨rfl,hSc⟩:=hR.out.1 er rfl;clear hR;dsimp only)
  | (go_at_call 73;refine(nI B _ _ _ rfl rfl rfl er h0 W1).mono ?_;rintro e W2 ⟨rfl,hSb⟩))
 exact⟨rfl,rfl,HS.out.trans (hSc.trans hSb)⟩
set_option maxRecDepth 8000 in
theorem Lx(B:Nat)(x:WV)(d d':Wd)(n:Nat)(a b:Int)(hbn:b=n)(hn9:n<=1000000000)(t:List UInt8)(w:World)(hB:Ck w B x)(hK:∀w',Fr (fun i=>i=B) w w'->WAt w' x d)(hT:Tb w)(hB4:4<=B)(hr:fC d a b=.ok d')(x0 x':Nd)(hx0:d.ah[n]? = some x0)(hx:d'.ah[n]? = some x')(ck:Nat)(hkx:x'.aG.length=x0.aG.length+ck)(hck:x'.aG.length<=1000000000):Calls prog 57 #[.pointer (some ⟨B,0,none⟩),.agg #[.int .i64 a,.int .i64 b,.string (bs t)]] w fun e w'=>Hid (GvR B w d (.ok (d',dn ck)) e w'):=by
 have HBN:Hid (b=n):=hbn;clear hbn
 have hwr:wrap64 ((x'.aG.length:Int) - (x0.aG.length:Int))=(ck:Int):=by
  rw[show(x'.aG.length:Int) - (x0.aG.length:Int)=ck by omega,IntWalk.wrap64_in _ (by omega)]
 have HWR:Hid (wrap64 ((x'.aG.length:Int) - (x0.aG.length:Int))=(ck:Int)):=hwr;have hit:=fun y (hy:Tb y)=>qK ck (by omega) y hy;clear hwr hkx hck;have hcm:=fun y (hy:ak w y)=>tq x d a b y (hK y (hy.fr _));rw[hr]at hcm;obtain⟨ga,gl,gc,na,nl,nc,wa,wl,wc⟩:=x;have HK:Hid _:=hK;obtain⟨b0,o0',rfl,n8,hb0,_,_,_⟩:=yL (hK w (Fr.refl _ _)) hx0;clear hK;dsimp only at hcm;have hBl:=hB.lt;obtain⟨w1,hw1⟩:∃y,w.alloc (.cells #[.int .i64 a,.int .i64 b,.string (bs t)] 80)=y:=⟨_,rfl⟩;have hS1:=aF hw1;have hl1:w.heap.size < w1.heap.size:=by rw[<-hw1];simp
 have hB1:=hB.fr (hS1.fr fun _=>False) (fun x=>x);obtain⟨w2,hw2⟩:∃y,w1.alloc (.cells #[.slice none 0 0,.slice none 0 0,.slice none 0 0] 31)=y:=⟨_,rfl⟩;have hS2:=aF hw2;have hA2:Bx3 w2 w1.heap.size (.slice none 0 0) (.slice none 0 0) (.slice none 0 0):=by rw[<-hw2];exact Bx3.fresh w1 _
 have hA3:=hA2.all (.slice ga gl gc) (.slice (some ⟨b0,o0',none⟩) nl nc) (.slice wa wl wc);have hpf:=aS w2 w1.heap.size (.slice ga gl gc) (.slice (some ⟨b0,o0',none⟩) nl nc) (.slice wa wl wc);unfold iB at hpf;obtain⟨w3,hw3⟩:∃y,(((w2.setCell ⟨w1.heap.size,0,none⟩ (.slice ga gl gc)).setCell ⟨w1.heap.size,1,none⟩ (.slice (some ⟨b0,o0',none⟩) nl nc)).setCell ⟨w1.heap.size,2,none⟩ (.slice wa wl wc))=y:=⟨_,rfl⟩;rw[hw3]at hpf hA3;have hS3:ak w1 w3:=hpf.aI hS2 (fun i hi e=>by omega);have hB3:=hB1.fr (hS3.fr fun _=>False) (fun x=>x);have o0:w3.cell? ⟨w.heap.size,0,none⟩=some (.int .i64 a):=(hS3.av hl1 _).trans (by rw[<-hw1];simp[go_sem]);have o1:w3.cell? ⟨w.heap.size,1,none⟩=some (.int .i64 b):=(hS3.av hl1 _).trans (by rw[<-hw1];simp[go_sem]);have hl3:w1.heap.size < w3.heap.size:=hA3.lt;have QL:w.heap.size < w3.heap.size:=by omega
 have HS:Hid (ak w w3):=hS1.trans hS3;have HB3:=(show Hid _ from hB3);have HA3:=(show Hid _ from hA3);obtain⟨_,c0,c1,c2,_,_,_⟩:=hB1;obtain⟨_,n0,n1,n2,k0,k1,k2⟩:=hA2;obtain⟨_,a0,a1,a2,_,_,_⟩:=hA3;dsimp only at c0 c1 c2;clear hr hB hpf hS2 hb0
 go_enter func57,ntmps57
 go_wp2_with (first
  | (go_at_call 77;refine(hcm w3 HS.out).mono ?_;rintro e W1 hR;obtain⟨L,rfl,hO,hSc⟩:=hR.out.2 d' rfl;clear hR;simp only[bF])
  | (go_at_call 73;refine(oZ B ⟨ga,gl,gc,some ⟨b0,o0',none⟩,nl,nc,wa,wl,wc⟩ (fE L d') W1 (HB3.out.fr (hSc.fr fun _=>False) (fun x=>x))).mono ?_;rintro e W2 ⟨rfl,hB2,hF2⟩))
 have xH:ak w W1:=HS.out.trans hSc;have hF:Fr (fun i=>i=B) w W2:=(xH.fr _).trans hF2 (fun _ _ x=>x) (fun _ _ x=>x);have hT2:Tb W2:=hT.fr hF (fun i hi e=>by omega);have hO2:bG w.heap.size W2 d' L:=(hO.fr hF2 (fun i hi e=>by have:=(hO.blk hi).1;have:=HB3.out.lt;omega)).mono HS.out.size;obtain⟨q0,p0,hq0,-,hqb,-,-,ta',tc',hq3,-⟩:=yL (HK.out W2 hF) hx0;cases hq0;obtain⟨b1,o1',hb1,m8,hbb,-,-,ta,tc,hm3,-⟩:=yL hO2.wat hx;have hB2':=hB2;obtain⟨hBz,e0,e1,e2,_,_,_⟩:=hB2';have e1':W2.cell? ⟨B,1,none⟩=some (.slice (some ⟨b1,o1',none⟩) d'.ah.length (L (1,0,0)).cap):=by rw[<-hb1];exact e1
 have m9:(n:Int) < (d'.ah.length:Int):=by have:=bT hx;omega
 have n9:(n:Int) < (nl:Int):=by omega
 obtain⟨q,hq⟩:∃y,w.heap.size=y:=⟨_,rfl⟩;obtain⟨r,hr⟩:∃y,w1.heap.size=y:=⟨_,rfl⟩
 have f0:W2.cell? ⟨q,1,none⟩=some (.int .i64 n):=by
  rw[<-hq,<-HBN.out];exact((hF2.cell (p:=⟨w.heap.size,1,none⟩) (zQ4 QL hSc.size) (by show ¬ w.heap.size=B;omega)).trans (hSc.av QL _)).trans o1
 have f1:W2.cell? ⟨r,1,none⟩=some (.slice (some ⟨b0,o0',none⟩) nl nc):=by
  rw[<-hr];exact((hF2.cell (p:=⟨w1.heap.size,1,none⟩) (zQ4 hl3 hSc.size) (by show ¬ w1.heap.size=B;omega)).trans (hSc.av hl3 _)).trans a1
 have hqz:q < W2.heap.size:=by have:=hSc.size;have:=hF2.size;omega
 have hrz:r < W2.heap.size:=by have:=hSc.size;have:=hF2.size;omega
 clear c0 c1 c2 n0 n1 n2 k0 k1 k2 a0 a1 a2 o0 o1 hw1 hw2 hw3
 try rw[hq]
 try rw[hr]
 clear hq hr;obtain⟨S0,hS0⟩:∃S0:World->Prop,∀w',S0 w'↔ak W2 w':=⟨_,fun _=>Iff.rfl⟩;have c1:∀y:aA S0,y.w.cell? ⟨B,1,none⟩=some (.slice (some ⟨b1,o1',none⟩) d'.ah.length (L (1,0,0)).cap):=fun y=>(((hS0 _).1 y.h).av hBz _).trans e1';have c2:∀y:aA S0,y.w.cell? ⟨q,1,none⟩=some (.int .i64 n):=fun y=>(((hS0 _).1 y.h).av hqz _).trans f0;have c3:∀y:aA S0,y.w.cell? ⟨r,1,none⟩=some (.slice (some ⟨b0,o0',none⟩) nl nc):=fun y=>(((hS0 _).1 y.h).av hrz _).trans f1;have c4:∀y:aA S0,y.w.cell? ⟨b1,o1'+n*4+3,none⟩=some (.slice ta x'.aG.length tc):=fun y=>(((hS0 _).1 y.h).av hbb _).trans hm3;have c5:∀y:aA S0,y.w.cell? ⟨b0,o0'+n*4+3,none⟩=some (.slice ta' x0.aG.length tc'):=fun y=>(((hS0 _).1 y.h).av hqb _).trans hq3;obtain⟨W3,hW3⟩:∃y,W2.drew=y:=⟨_,rfl⟩;have hs0:=aY hW3;have aC:=(hS0 W3).2 hs0;have hne:Nonempty (aA S0):=⟨⟨_,aC⟩⟩;have cB:=aO W3;refine aW (fun w'=>∃x:aA S0,w'=x.w) (by kernel_rfl) ?_;rw[hW3];clear hW3;refine tW 0 rfl ?_;go_big_quiet_op;refine tW 1 rfl ?_;go_big_quiet_op;refine tW 2 rfl ?_;go_big_quiet_op;refine tW 3 rfl ?_;go_big_quiet_op;refine tM 4 rfl (aj aC) ?_;go_big_quiet_op;refine tW 5 rfl ?_;go_big_quiet_op;refine tM 6 rfl (aj aC) ?_;go_big_quiet_op;refine tW 7 rfl ?_;go_big_quiet_op;refine tW 8 rfl ?_;go_big_quiet_op;refine tM 9 rfl (aj aC) ?_;go_big_quiet_op;refine tM 10 rfl (aj aC) ?_;go_big_quiet_op;refine tW 11 rfl ?_;go_big_quiet_op;refine tM 12 rfl (aj aC) ?_;go_big_quiet_op;refine tW 13 rfl ?_;go_big_quiet_op;refine tM 14 rfl (aj aC) ?_;go_big_quiet_op;refine tW 15 rfl ?_;go_big_quiet_op;refine tW 16 rfl ?_;go_big_quiet_op;refine tM 17 rfl (aj aC) ?_;go_big_quiet_op;refine tM 18 rfl (aj aC) ?_;go_big_quiet_op;refine tW 19 rfl ?_;go_big_quiet_op;refine aV 20 rfl (by kernel_rfl) ?_;intro K hK;go_simp;rw[HWR.out];refine(hit W3 (hT2.ay hs0)).mono ?_;rintro e W4 ⟨rfl,hS4⟩;dsimp only;refine hK _ _ (fun h=>absurd h (by decide +kernel)) ?_;clear hK K;refine tW 21 rfl ?_;go_big_quiet_op;refine bE (by kernel_rfl) ?_
 go_wp2_with fail
 go_ret
 exact zV (hB2.fr ((hs0.trans hS4).fr fun _=>False) (fun x=>x)) (hO2.ay (hs0.trans hS4)) (hF.trans ((hs0.trans hS4).fr _) (fun _ _ x=>x) (fun _ _ x=>x))
end Go.Proofs.YtediempflagfkaaGreatDoor
set_option maxHeartbeats 2000000
namespace Go.Proofs.YtediempflagfkaaGreatDoor
open _root_.Go.Proofs.Tryz hiding checked
set_option maxRecDepth 8000
open Go.RowKit Go.Shelf
open Pu
set_option maxRecDepth 8000 in
theorem I8(B:Nat)(x:WV)(d:Wd)(a b:Int)(t:List UInt8)(er:Int)(h0:er≠0)(w:World)(hB:Ck w B x)(hW:WAt w x d)(hr:checked d (dR d a b false (bs t))=.error er):Calls prog 55 #[.pointer (some ⟨B,0,none⟩),.agg #[.int .i64 a,.int .i64 b,.string (bs t)]] w fun e w'=>e=.panicked (pan er)/\ak w w':=by
 have hcm:=fun y (hy:ak w y)=>xG x d a b (bs t) y (hW.ay hy);rw[hr]at hcm;obtain⟨ga,gl,gc,na,nl,nc,wa,wl,wc⟩:=x;dsimp only at hcm;have hBl:=hB.lt;obtain⟨w1,hw1⟩:∃y,w.alloc (.cells #[.int .i64 a,.int .i64 b,.string (bs t)] 80)=y:=⟨_,rfl⟩;have hS1:=aF hw1;have hl1:w.heap.size < w1.heap.size:=by rw[<-hw1];simp
 have o0:w1.cell? ⟨w.heap.size,0,none⟩=some (.int .i64 a):=by rw[<-hw1];simp[go_sem]
 have o1:w1.cell? ⟨w.heap.size,1,none⟩=some (.int .i64 b):=by rw[<-hw1];simp[go_sem]
 have o2:w1.cell? ⟨w.heap.size,2,none⟩=some (.string (bs t)):=by rw[<-hw1];simp[go_sem]
 have hB1:=hB.fr (hS1.fr fun _=>False) (fun x=>x);obtain⟨q,hq⟩:∃y,w.heap.size=y:=⟨_,rfl⟩;have HQ:Hid (w.heap.size=q):=hq;clear hr hW hB
 go_enter func55,ntmps55
 go_wp2_with fail
 rw[hq]at o0 o1 o2 hl1 hBl;clear hw1 hq;obtain⟨S0,hS0⟩:∃S0:World->Prop,∀w',S0 w'↔ak w1 w':=⟨_,fun _=>Iff.rfl⟩;have c0:∀y:aA S0,y.w.cell? ⟨B,0,none⟩=some (.slice ga gl gc):=fun y=>(((hS0 _).1 y.h).av hB1.lt _).trans hB1.c0;have c1:∀y:aA S0,y.w.cell? ⟨B,1,none⟩=some (.slice na nl nc):=fun y=>(((hS0 _).1 y.h).av hB1.lt _).trans hB1.c1;have c2:∀y:aA S0,y.w.cell? ⟨B,2,none⟩=some (.slice wa wl wc):=fun y=>(((hS0 _).1 y.h).av hB1.lt _).trans hB1.c2;have c3:∀y:aA S0,y.w.cell? ⟨q,0,none⟩=some (.int .i64 a):=fun y=>(((hS0 _).1 y.h).av hl1 _).trans o0;have c4:∀y:aA S0,y.w.cell? ⟨q,1,none⟩=some (.int .i64 b):=fun y=>(((hS0 _).1 y.h).av hl1 _).trans o1;have c5:∀y:aA S0,y.w.cell? ⟨q,2,none⟩=some (.string (bs t)):=fun y=>(((hS0 _).1 y.h).av hl1 _).trans o2;obtain⟨W0,hW0⟩:∃y,w1.drew=y:=⟨_,rfl⟩;have hs0:=aY hW0;have aC:=(hS0 W0).2 hs0;have hne:Nonempty (aA S0):=⟨⟨_,aC⟩⟩;have cB:=aO W0;refine aW (fun w'=>∃x:aA S0,w'=x.w) (by kernel_rfl) ?_;rw[hW0];clear hW0;refine tW 0 rfl ?_;go_big_quiet_op;refine tW 1 rfl ?_;go_big_quiet_op;refine tW 2 rfl ?_;go_big_quiet_op;refine tW 3 rfl ?_;go_big_quiet_op;refine tM 4 rfl (aj aC) ?_;go_big_quiet_op;refine tW 5 rfl ?_;go_big_quiet_op;refine tM 6 rfl (aj aC) ?_;go_big_quiet_op;refine tW 7 rfl ?_;go_big_quiet_op;refine tM 8 rfl (aj aC) ?_;go_big_quiet_op;refine tW 9 rfl ?_;go_big_quiet_op;refine tM 10 rfl (aj aC) ?_;go_big_quiet_op;refine aV 11 rfl (by kernel_rfl) ?_;intro K hK;go_simp;refine(hcm W0 (hS1.trans hs0)).mono ?_;rintro e W1 hR;obtain⟨rfl,hSc⟩:=hR.out.1 er rfl;clear hR;dsimp only;refine hK _ _ (fun h=>absurd h (by decide +kernel)) ?_;clear hK K;refine tW 12 rfl ?_;go_big_quiet_op;refine tW 13 rfl ?_;go_big_quiet_op;refine aV 14 rfl (by kernel_rfl) ?_;intro K hK;go_simp;refine(nI B _ _ _ rfl rfl rfl er h0 W1).mono ?_;rintro e W2 ⟨rfl,hS2⟩;dsimp only;exact⟨rfl,rfl,hS1.trans (hs0.trans (hSc.trans hS2))⟩
set_option maxRecDepth 8000 in
theorem Lu(B:Nat)(x:WV)(d d':Wd)(n:Nat)(a b:Int)(han:a=n)(hn9:n<=1000000000)(t:List UInt8)(w:World)(hB:Ck w B x)(hW:WAt w x d)(hT:Tb w)(hB4:4<=B)(hr:checked d (dR d a b false (bs t))=.ok d')(x':Nd)(hx:d'.ah[n]? = some x')(ck:Nat)(hkx:x'.aK=ck)(hck:ck<=1000000000):Calls prog 55 #[.pointer (some ⟨B,0,none⟩),.agg #[.int .i64 a,.int .i64 b,.string (bs t)]] w fun e w'=>Hid (GvR B w d (.ok (d',dn ck)) e w'):=by
 have HAN:Hid (a=n):=han;clear han;have hcm:=fun y (hy:ak w y)=>xG x d a b (bs t) y (hW.ay hy);rw[hr]at hcm;obtain⟨ga,gl,gc,na,nl,nc,wa,wl,wc⟩:=x;dsimp only at hcm;have hBl:=hB.lt;obtain⟨w1,hw1⟩:∃y,w.alloc (.cells #[.int .i64 a,.int .i64 b,.string (bs t)] 80)=y:=⟨_,rfl⟩;have hS1:=aF hw1;have hl1:w.heap.size < w1.heap.size:=by rw[<-hw1];simp
 have o0:w1.cell? ⟨w.heap.size,0,none⟩=some (.int .i64 a):=by rw[<-hw1];simp[go_sem]
 have o1:w1.cell? ⟨w.heap.size,1,none⟩=some (.int .i64 b):=by rw[<-hw1];simp[go_sem]
 have o2:w1.cell? ⟨w.heap.size,2,none⟩=some (.string (bs t)):=by rw[<-hw1];simp[go_sem]
 have hB1:=hB.fr (hS1.fr fun _=>False) (fun x=>x);obtain⟨q,hq⟩:∃y,w.heap.size=y:=⟨_,rfl⟩;have HQ:Hid (w.heap.size=q):=hq;clear hr hW hB
 go_enter func55,ntmps55
 go_wp2_with fail
 rw[hq]at o0 o1 o2 hl1 hBl;clear hw1 hq;obtain⟨S0,hS0⟩:∃S0:World->Prop,∀w',S0 w'↔ak w1 w':=⟨_,fun _=>Iff.rfl⟩;have c0:∀y:aA S0,y.w.cell? ⟨B,0,none⟩=some (.slice ga gl gc):=fun y=>(((hS0 _).1 y.h).av hB1.lt _).trans hB1.c0;have c1:∀y:aA S0,y.w.cell? ⟨B,1,none⟩=some (.slice na nl nc):=fun y=>(((hS0 _).1 y.h).av hB1.lt _).trans hB1.c1;have c2:∀y:aA S0,y.w.cell? ⟨B,2,none⟩=some (.slice wa wl wc):=fun y=>(((hS0 _).1 y.h).av hB1.lt _).trans hB1.c2;have c3:∀y:aA S0,y.w.cell? ⟨q,0,none⟩=some (.int .i64 a):=fun y=>(((hS0 _).1 y.h).av hl1 _).trans o0;have c4:∀y:aA S0,y.w.cell? ⟨q,1,none⟩=some (.int .i64 b):=fun y=>(((hS0 _).1 y.h).av hl1 _).trans o1;have c5:∀y:aA S0,y.w.cell? ⟨q,2,none⟩=some (.string (bs t)):=fun y=>(((hS0 _).1 y.h).av hl1 _).trans o2;obtain⟨W0,hW0⟩:∃y,w1.drew=y:=⟨_,rfl⟩;have hs0:=aY hW0;have aC:=(hS0 W0).2 hs0;have hne:Nonempty (aA S0):=⟨⟨_,aC⟩⟩;have cB:=aO W0;refine aW (fun w'=>∃x:aA S0,w'=x.w) (by kernel_rfl) ?_;rw[hW0];clear hW0;refine tW 0 rfl ?_;go_big_quiet_op;refine tW 1 rfl ?_;go_big_quiet_op;refine tW 2 rfl ?_;go_big_quiet_op;refine tW 3 rfl ?_;go_big_quiet_op;refine tM 4 rfl (aj aC) ?_;go_big_quiet_op;refine tW 5 rfl ?_;go_big_quiet_op;refine tM 6 rfl (aj aC) ?_;go_big_quiet_op;refine tW 7 rfl ?_;go_big_quiet_op;refine tM 8 rfl (aj aC) ?_;go_big_quiet_op;refine tW 9 rfl ?_;go_big_quiet_op;refine tM 10 rfl (aj aC) ?_;go_big_quiet_op;refine aV 11 rfl (by kernel_rfl) ?_;intro K hK;go_simp;refine(hcm W0 (hS1.trans hs0)).mono ?_;rintro e W1 hR;obtain⟨L,rfl,hO,hSc⟩:=hR.out.2 d' rfl;clear hR;simp only[bF];refine hK _ _ (fun h=>absurd h (by decide +kernel)) ?_;clear hK K;refine tW 12 rfl ?_;go_big_quiet_op;refine tW 13 rfl ?_;go_big_quiet_op;refine aV 14 rfl (by kernel_rfl) ?_;intro K hK;go_simp;refine(oZ B ⟨ga,gl,gc,na,nl,nc,wa,wl,wc⟩ (fE L d') W1 (hB1.fr ((hs0.trans hSc).fr fun _=>False) (fun x=>x))).mono ?_;rintro e W2 ⟨rfl,hB2,hF2⟩;dsimp only;refine hK _ _ (fun h=>absurd h (by decide +kernel)) ?_;clear hK K;refine bE (by kernel_rfl) ?_;have xH:ak w W1:=hS1.trans (hs0.trans hSc);have hF:Fr (fun i=>i=B) w W2:=(xH.fr _).trans hF2 (fun _ _ x=>x) (fun _ _ x=>x);have hT2:Tb W2:=hT.fr hF (fun i hi e=>by omega);have hl0:B < W0.heap.size:=zQ4 hB1.lt hs0.size;have hO2:bG w.heap.size W2 d' L:=(hO.fr hF2 (fun i hi e=>by have:=(hO.blk hi).1;omega)).mono (hS1.trans hs0).size;have hqB:q≠B:=by omega
 have g0:W2.cell? ⟨q,0,none⟩=some (.int .i64 n):=by
  rw[<-HAN.out];exact((hF2.cell (p:=⟨q,0,none⟩) (zQ4 hl1 (hs0.trans hSc).size) hqB).trans ((hs0.trans hSc).av hl1 _)).trans o0
 have hst:=Dr B n ck (fE L d') d' x' W2 hB2 hO2.wat hx hkx hck hn9 hT2;clear c0 c1 c2 c3 c4 c5 hne cB aC hS0
 go_wp2_with (go_at_call 75;refine hst.mono ?_;rintro e W3 ⟨rfl,hS3⟩)
 go_ret
 exact zV (hB2.fr (hS3.fr fun _=>False) (fun x=>x)) (hO2.ay hS3) (hF.trans (hS3.fr _) (fun _ _ x=>x) (fun _ _ x=>x))
set_option maxRecDepth 8000 in
theorem I9(B:Nat)(x:WV)(d:Wd)(a b:Int)(t:List UInt8)(er:Int)(h0:er≠0)(w:World)(hB:Ck w B x)(hW:WAt w x d)(hr:checked d (dR d a b true ByteArray.empty)=.error er):Calls prog 56 #[.pointer (some ⟨B,0,none⟩),.agg #[.int .i64 a,.int .i64 b,.string (bs t)]] w fun e w'=>e=.panicked (pan er)/\ak w w':=by
 have hcm:=fun y (hy:ak w y)=>rA x d a b y (hW.ay hy);rw[hr]at hcm;obtain⟨ga,gl,gc,na,nl,nc,wa,wl,wc⟩:=x;dsimp only at hcm;have hBl:=hB.lt;obtain⟨w1,hw1⟩:∃y,w.alloc (.cells #[.int .i64 a,.int .i64 b,.string (bs t)] 80)=y:=⟨_,rfl⟩;have hS1:=aF hw1;have hl1:w.heap.size < w1.heap.size:=by rw[<-hw1];simp
 have o0:w1.cell? ⟨w.heap.size,0,none⟩=some (.int .i64 a):=by rw[<-hw1];simp[go_sem]
 have o1:w1.cell? ⟨w.heap.size,1,none⟩=some (.int .i64 b):=by rw[<-hw1];simp[go_sem]
 have o2:w1.cell? ⟨w.heap.size,2,none⟩=some (.string (bs t)):=by rw[<-hw1];simp[go_sem]
 have hB1:=hB.fr (hS1.fr fun _=>False) (fun x=>x);obtain⟨q,hq⟩:∃y,w.heap.size=y:=⟨_,rfl⟩;have HQ:Hid (w.heap.size=q):=hq;clear hr hW hB
 go_enter func56,ntmps56
 go_wp2_with fail
 rw[hq]at o0 o1 o2 hl1 hBl;clear hw1 hq;obtain⟨S0,hS0⟩:∃S0:World->Prop,∀w',S0 w'↔ak w1 w':=⟨_,fun _=>Iff.rfl⟩;have c0:∀y:aA S0,y.w.cell? ⟨B,0,none⟩=some (.slice ga gl gc):=fun y=>(((hS0 _).1 y.h).av hB1.lt _).trans hB1.c0;have c1:∀y:aA S0,y.w.cell? ⟨B,1,none⟩=some (.slice na nl nc):=fun y=>(((hS0 _).1 y.h).av hB1.lt _).trans hB1.c1;have c2:∀y:aA S0,y.w.cell? ⟨B,2,none⟩=some (.slice wa wl wc):=fun y=>(((hS0 _).1 y.h).av hB1.lt _).trans hB1.c2;have c3:∀y:aA S0,y.w.cell? ⟨q,0,none⟩=some (.int .i64 a):=fun y=>(((hS0 _).1 y.h).av hl1 _).trans o0;have c4:∀y:aA S0,y.w.cell? ⟨q,1,none⟩=some (.int .i64 b):=fun y=>(((hS0 _).1 y.h).av hl1 _).trans o1;have c5:∀y:aA S0,y.w.cell? ⟨q,2,none⟩=some (.string (bs t)):=fun y=>(((hS0 _).1 y.h).av hl1 _).trans o2;obtain⟨W0,hW0⟩:∃y,w1.drew=y:=⟨_,rfl⟩;have hs0:=aY hW0;have aC:=(hS0 W0).2 hs0;have hne:Nonempty (aA S0):=⟨⟨_,aC⟩⟩;have cB:=aO W0;refine aW (fun w'=>∃x:aA S0,w'=x.w) (by kernel_rfl) ?_;rw[hW0];clear hW0;refine tW 0 rfl ?_;go_big_quiet_op;refine tW 1 rfl ?_;go_big_quiet_op;refine tW 2 rfl ?_;go_big_quiet_op;refine tW 3 rfl ?_;go_big_quiet_op;refine tM 4 rfl (aj aC) ?_;go_big_quiet_op;refine tW 5 rfl ?_;go_big_quiet_op;refine tM 6 rfl (aj aC) ?_;go_big_quiet_op;refine tW 7 rfl ?_;go_big_quiet_op;refine tM 8 rfl (aj aC) ?_;go_big_quiet_op;refine aV 9 rfl (by kernel_rfl) ?_;intro K hK;go_simp;refine(hcm W0 (hS1.trans hs0)).mono ?_;rintro e W1 hR;obtain⟨rfl,hSc⟩:=hR.out.1 er rfl;clear hR;dsimp only;refine hK _ _ (fun h=>absurd h (by decide +kernel)) ?_;clear hK K;refine tW 10 rfl ?_;go_big_quiet_op;refine tW 11 rfl ?_;go_big_quiet_op;refine aV 12 rfl (by kernel_rfl) ?_;intro K hK;go_simp;refine(nI B _ _ _ rfl rfl rfl er h0 W1).mono ?_;rintro e W2 ⟨rfl,hS2⟩;dsimp only;exact⟨rfl,rfl,hS1.trans (hs0.trans (hSc.trans hS2))⟩
set_option maxRecDepth 8000 in
theorem Lv(B:Nat)(x:WV)(d d':Wd)(n:Nat)(a b:Int)(han:a=n)(hn9:n<=1000000000)(t:List UInt8)(w:World)(hB:Ck w B x)(hW:WAt w x d)(hT:Tb w)(hB4:4<=B)(hr:checked d (dR d a b true ByteArray.empty)=.ok d')(x':Nd)(hx:d'.ah[n]? = some x')(ck:Nat)(hkx:x'.aK=ck)(hck:ck<=1000000000):Calls prog 56 #[.pointer (some ⟨B,0,none⟩),.agg #[.int .i64 a,.int .i64 b,.string (bs t)]] w fun e w'=>Hid (GvR B w d (.ok (d',dn ck)) e w'):=by
 have HAN:Hid (a=n):=han;clear han;have hcm:=fun y (hy:ak w y)=>rA x d a b y (hW.ay hy);rw[hr]at hcm;obtain⟨ga,gl,gc,na,nl,nc,wa,wl,wc⟩:=x;dsimp only at hcm;have hBl:=hB.lt;obtain⟨w1,hw1⟩:∃y,w.alloc (.cells #[.int .i64 a,.int .i64 b,.string (bs t)] 80)=y:=⟨_,rfl⟩;have hS1:=aF hw1;have hl1:w.heap.size < w1.heap.size:=by rw[<-hw1];simp
 have o0:w1.cell? ⟨w.heap.size,0,none⟩=some (.int .i64 a):=by rw[<-hw1];simp[go_sem]
 have o1:w1.cell? ⟨w.heap.size,1,none⟩=some (.int .i64 b):=by rw[<-hw1];simp[go_sem]
 have o2:w1.cell? ⟨w.heap.size,2,none⟩=some (.string (bs t)):=by rw[<-hw1];simp[go_sem]
 have hB1:=hB.fr (hS1.fr fun _=>False) (fun x=>x);obtain⟨q,hq⟩:∃y,w.heap.size=y:=⟨_,rfl⟩;have HQ:Hid (w.heap.size=q):=hq;clear hr hW hB
 go_enter func56,ntmps56
 go_wp2_with fail
 rw[hq]at o0 o1 o2 hl1 hBl;clear hw1 hq;obtain⟨S0,hS0⟩:∃S0:World->Prop,∀w',S0 w'↔ak w1 w':=⟨_,fun _=>Iff.rfl⟩;have c0:∀y:aA S0,y.w.cell? ⟨B,0,none⟩=some (.slice ga gl gc):=fun y=>(((hS0 _).1 y.h).av hB1.lt _).trans hB1.c0;have c1:∀y:aA S0,y.w.cell? ⟨B,1,none⟩=some (.slice na nl nc):=fun y=>(((hS0 _).1 y.h).av hB1.lt _).trans hB1.c1;have c2:∀y:aA S0,y.w.cell? ⟨B,2,none⟩=some (.slice wa wl wc):=fun y=>(((hS0 _).1 y.h).av hB1.lt _).trans hB1.c2;have c3:∀y:aA S0,y.w.cell? ⟨q,0,none⟩=some (.int .i64 a):=fun y=>(((hS0 _).1 y.h).av hl1 _).trans o0;have c4:∀y:aA S0,y.w.cell? ⟨q,1,none⟩=some (.int .i64 b):=fun y=>(((hS0 _).1 y.h).av hl1 _).trans o1;have c5:∀y:aA S0,y.w.cell? ⟨q,2,none⟩=some (.string (bs t)):=fun y=>(((hS0 _).1 y.h).av hl1 _).trans o2;obtain⟨W0,hW0⟩:∃y,w1.drew=y:=⟨_,rfl⟩;have hs0:=aY hW0;have aC:=(hS0 W0).2 hs0;have hne:Nonempty (aA S0):=⟨⟨_,aC⟩⟩;have cB:=aO W0;refine aW (fun w'=>∃x:aA S0,w'=x.w) (by kernel_rfl) ?_;rw[hW0];clear hW0;refine tW 0 rfl ?_;go_big_quiet_op;refine tW 1 rfl ?_;go_big_quiet_op;refine tW 2 rfl ?_;go_big_quiet_op;refine tW 3 rfl ?_;go_big_quiet_op;refine tM 4 rfl (aj aC) ?_;go_big_quiet_op;refine tW 5 rfl ?_;go_big_quiet_op;refine tM 6 rfl (aj aC) ?_;go_big_quiet_op;refine tW 7 rfl ?_;go_big_quiet_op;refine tM 8 rfl (aj aC) ?_;go_big_quiet_op;refine aV 9 rfl (by kernel_rfl) ?_;intro K hK;go_simp;refine(hcm W0 (hS1.trans hs0)).mono ?_;rintro e W1 hR;obtain⟨L,rfl,hO,hSc⟩:=hR.out.2 d' rfl;clear hR;simp only[bF];refine hK _ _ (fun h=>absurd h (by decide +kernel)) ?_;clear hK K;refine tW 10 rfl ?_;go_big_quiet_op;refine tW 11 rfl ?_;go_big_quiet_op;refine aV 12 rfl (by kernel_rfl) ?_;intro K hK;go_simp;refine(oZ B ⟨ga,gl,gc,na,nl,nc,wa,wl,wc⟩ (fE L d') W1 (hB1.fr ((hs0.trans hSc).fr fun _=>False) (fun x=>x))).mono ?_;rintro e W2 ⟨rfl,hB2,hF2⟩;dsimp only;refine hK _ _ (fun h=>absurd h (by decide +kernel)) ?_;clear hK K;refine bE (by kernel_rfl) ?_;have xH:ak w W1:=hS1.trans (hs0.trans hSc);have hF:Fr (fun i=>i=B) w W2:=(xH.fr _).trans hF2 (fun _ _ x=>x) (fun _ _ x=>x);have hT2:Tb W2:=hT.fr hF (fun i hi e=>by omega);have hl0:B < W0.heap.size:=zQ4 hB1.lt hs0.size;have hO2:bG w.heap.size W2 d' L:=(hO.fr hF2 (fun i hi e=>by have:=(hO.blk hi).1;omega)).mono (hS1.trans hs0).size;have hqB:q≠B:=by omega
 have g0:W2.cell? ⟨q,0,none⟩=some (.int .i64 n):=by
  rw[<-HAN.out];exact((hF2.cell (p:=⟨q,0,none⟩) (zQ4 hl1 (hs0.trans hSc).size) hqB).trans ((hs0.trans hSc).av hl1 _)).trans o0
 have hst:=Dr B n ck (fE L d') d' x' W2 hB2 hO2.wat hx hkx hck hn9 hT2;clear c0 c1 c2 c3 c4 c5 hne cB aC hS0
 go_wp2_with (go_at_call 75;refine hst.mono ?_;rintro e W3 ⟨rfl,hS3⟩)
 go_ret
 exact zV (hB2.fr (hS3.fr fun _=>False) (fun x=>x)) (hO2.ay hS3) (hF.trans (hS3.fr _) (fun _ _ x=>x) (fun _ _ x=>x))
end Go.Proofs.YtediempflagfkaaGreatDoor
