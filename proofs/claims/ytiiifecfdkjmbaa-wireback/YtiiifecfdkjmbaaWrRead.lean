/- Lemmas. -/
import Derived.Laws.Strings
import Derived.Test.YtiiifecfdkjmbaaWrWorld
import Derived.Test.YtiiifecfdkjmbaaRCastX
set_option maxHeartbeats 4000000
namespace Go.Proofs.Ytiiifecfdkjmbaa
open _root_.Go.Proofs.Try hiding checked
set_option maxRecDepth 8000
open Go.RowKit Go.Shelf
open Pu
set_option linter.unusedVariables false
set_option linter.unusedSimpArgs false
set_option maxRecDepth 20000 in
theorem yT (p:Addr) (x e:Int) (w:World) (hc:w.cell? p=some (.int .i64 x)) (hz:w.frozen? p=false) :
  CallsDIn Fence.wide 0 prog 101 #[.pointer (some p)] (.panicking (pan e)) w fun r u' w' =>
   r=.returned (.tuple #[])/\u'=.panicking [{ v:=.iface 27 (.int .i64 e),recovered:=true }]/\w'=w.setCell p (.int .i64 e):=by
 have hta:=nU e
 refine callsDIn_of_wpSIn func101 rfl trivial fun c₀ cs hu=>?_
 apply wpSIn_seq
 apply wpSIn_region
 simp [wpOpsSIn,go_sem,recoverD,hu,ntmps101,Exit.thenS]
 refine wpSIn_of_wpIn rfl ((wpIn_wide (n:=0)).2 ?_)
 simp only [Array.replicate_succ,Array.replicate_zero,List.push_toArray,List.append_toArray,List.nil_append,List.cons_append,zQ7,zQ9,zQ8]
 go_wp2
 exact ⟨rfl,_,rfl,_,results_none rfl _ _ _,rfl,rfl,rfl⟩
theorem xC (p:Addr) (w:World) :
  CallsDIn Fence.wide 0 prog 101 #[.pointer (some p)] .returning w fun r u' w'=>r=.returned (.tuple #[])/\u'=.returning/\w'=w:=by
 refine callsDIn_of_wpSIn func101 rfl trivial fun c₀ cs hu=>?_
 apply wpSIn_seq
 apply wpSIn_region
 simp [wpOpsSIn,go_sem,recoverD,hu,ntmps101,Exit.thenS]
 refine wpSIn_of_wpIn rfl ((wpIn_wide (n:=0)).2 ?_)
 simp only [Array.replicate_succ,Array.replicate_zero,List.push_toArray,List.append_toArray,List.nil_append,List.cons_append,zQ7,zQ9,zQ8]
 go_wp2
 obtain ⟨c1,c2,c3,c4,c5,c6,c7⟩:=c₀
 subst hu
 exact ⟨rfl,_,rfl,_,results_none rfl _ _ _,rfl,rfl,rfl⟩
theorem pq (y:World) (bo be:Nat) (tmps:Array Value) (h4:tmps[2]? = some (.pointer (some ⟨bo,0,none⟩))) (h6:tmps[3]? = some (.pointer (some ⟨be,0,none⟩))) (x e:Int)
  (c0:y.cell? ⟨bo,0,none⟩=some (.slice none 0 0)) (c1:y.cell? ⟨bo,1,none⟩=some (.slice none 0 0)) (c2:y.cell? ⟨bo,2,none⟩=some (.slice none 0 0)) (hne:be≠bo) (hc:y.cell? ⟨be,0,none⟩=some (.int .i64 x)) (hz:y.frozen? ⟨be,0,none⟩=false)
  (R:Ending->World->Prop) (hR:R (.returned (.tuple #[.agg #[.slice none 0 0,.slice none 0 0,.slice none 0 0],.int .i64 e])) (y.setCell ⟨be,0,none⟩ (.int .i64 e))) :
  LeavesInM Fence.wide 0 prog Try.f72 tmps R [{ target:=.fn (.func 101) #[.pointer (some ⟨be,0,none⟩)],args:=#[] }] (.panicking (pan e)) y:=by
 refine ⟨by simp,.inr ⟨fun h=>(by cases h),_,_,101,#[.pointer (some ⟨be,0,none⟩)],rfl,by simp [go_sem,invoke],fun _ _=>trivial, ?_⟩⟩
 refine (yT ⟨be,0,none⟩ x e y hc hz).mono ?_
 rintro r u' w'' ⟨rfl,rfl,rfl⟩
 refine ⟨_, ?_,hR⟩
 have hc':(y.setCell ⟨be,0,none⟩ (.int .i64 e)).cell? ⟨be,0,none⟩=some (.int .i64 e):=World.cell?_setCell_same' _ _ _ (by rw [hc];rfl)
 have d0:(y.setCell ⟨be,0,none⟩ (.int .i64 e)).cell? ⟨bo,0,none⟩=some (.slice none 0 0):=(World.cell?_setCell_far y ⟨be,0,none⟩ ⟨bo,0,none⟩ _ hne).trans c0
 have d1:(y.setCell ⟨be,0,none⟩ (.int .i64 e)).cell? ⟨bo,1,none⟩=some (.slice none 0 0):=(World.cell?_setCell_far y ⟨be,0,none⟩ ⟨bo,1,none⟩ _ hne).trans c1
 have d2:(y.setCell ⟨be,0,none⟩ (.int .i64 e)).cell? ⟨bo,2,none⟩=some (.slice none 0 0):=(World.cell?_setCell_far y ⟨be,0,none⟩ ⟨bo,2,none⟩ _ hne).trans c2
 simp [results,Try.f72,go_sem,h4,h6,hc',d0,d1,d2]
theorem xG (y:World) (bo be:Nat) (tmps:Array Value) (a b c:Value) (s0:a.oneCell'=true) (s1:b.oneCell'=true) (s2:c.oneCell'=true) (h4:tmps[2]? = some (.pointer (some ⟨bo,0,none⟩))) (h6:tmps[3]? = some (.pointer (some ⟨be,0,none⟩)))
  (c0:y.cell? ⟨bo,0,none⟩=some a) (c1:y.cell? ⟨bo,1,none⟩=some b) (c2:y.cell? ⟨bo,2,none⟩=some c) (hc:y.cell? ⟨be,0,none⟩=some (.int .i64 0))
  (R:Ending->World->Prop) (hR:R (.returned (.tuple #[.agg #[a,b,c],.int .i64 0])) y) :
  LeavesInM Fence.wide 0 prog Try.f72 tmps R [{ target:=.fn (.func 101) #[.pointer (some ⟨be,0,none⟩)],args:=#[] }] .returning y:=by
 refine ⟨by simp,.inr ⟨fun h=>(by cases h),_,_,101,#[.pointer (some ⟨be,0,none⟩)],rfl,by simp [go_sem,invoke],fun _ _=>trivial, ?_⟩⟩
 refine (xC ⟨be,0,none⟩ y).mono ?_
 rintro r u' w'' ⟨rfl,rfl,rfl⟩
 refine ⟨_, ?_,hR⟩
 simp [results,Try.f72,go_sem,h4,h6,hc,c0,c1,c2]
theorem sZ (l:List UInt8):(bs l).toList=l:=by rw [ByteArray.toList_eq,Dp]
def rdE (s:List UInt8):Int:=match fU s with | some _=>0 | none=>1
def rdW (s:List UInt8):Wd:=match fU s with | some d=>d | none=>⟨[],[],[]⟩
theorem tK {s:List UInt8} (h:fU s=none):rdE s=1/\rdW s=⟨[],[],[]⟩:=by unfold rdE rdW;rw [h];exact ⟨rfl,rfl⟩
theorem rd_some {s:List UInt8} {d:Wd} (h:fU s=some d):rdE s=0/\rdW s=d:=by unfold rdE rdW;rw [h];exact ⟨rfl,rfl⟩
theorem p9 (w:World):WAt w ⟨none,0,0,none,0,0,none,0,0⟩ ⟨[],[],[]⟩ :=
 ⟨⟨rfl,by simp,fun h=>absurd h (by simp)⟩,Nat.le_refl _,⟨rfl,by simp,fun h=>absurd h (by simp)⟩,Nat.le_refl _,⟨rfl,by simp,fun h=>absurd h (by simp)⟩,Nat.le_refl _⟩
attribute [local go_sem] Oper.semAt_some
set_option maxRecDepth 8000 in
theorem uX (s:List UInt8) (w:World) (E:Int) (D:Wd) (hn:fU s=none->E=1/\D=⟨[],[],[]⟩) (hd:∀ d,fU s=some d->E=0/\D=d) :
  Calls prog 72 #[.string (bs s)] w fun e w'=>Since w w'/\∃ v:WV,e=.returned (.tuple #[.agg #[.slice v.ga v.gl v.gc,.slice v.na v.nl v.nc,.slice v.wa v.wl v.wc],.int .i64 E])/\Sg w.heap.size w'.heap.size (fun W=>WAt W v D) w':=by
 obtain ⟨wn,hwn⟩:∃ y,w.alloc (.cells #[.slice none 0 0,.slice none 0 0,.slice none 0 0] 26)=y:=⟨_,rfl⟩
 obtain ⟨w1,hw1⟩:∃ y,wn.alloc (.cells #[.int .i64 0] 27)=y:=⟨_,rfl⟩
 obtain ⟨w2,hw2⟩:∃ y,w1.alloc (.cells #[.string (bs s),.int .i64 0,.int .i64 0] 149)=y:=⟨_,rfl⟩
 have hSn:=au hwn
 have hS1:=au hw1
 have hS2:=au hw2
 have hln:w.heap.size < wn.heap.size:=by rw [<-hwn];simp
 have hl1:wn.heap.size < w1.heap.size:=by rw [<-hw1];simp
 have hA1:Bx3 w1 w.heap.size (.slice none 0 0) (.slice none 0 0) (.slice none 0 0):=by
  have h0:Bx3 wn w.heap.size (.slice none 0 0) (.slice none 0 0) (.slice none 0 0):=by rw [<-hwn];exact Bx3.fresh w _
  exact h0.fr (hS1.fr fun _=>False) (fun x=>x)
 have q0:w1.cell? ⟨wn.heap.size,0,none⟩=some (.int .i64 0):=by rw [<-hw1];simp [go_sem]
 have q1:w1.frozen? ⟨wn.heap.size,0,none⟩=false:=by rw [<-hw1];simp [go_sem]
 have hQ2:RdB w2 w1.heap.size s 0 0:=by rw [<-hw2];constructor <;> simp [go_sem]
 have QF:Hid (∀ y,Since w1 y->y.cell? ⟨wn.heap.size,0,none⟩=some (.int .i64 0)/\y.frozen? ⟨wn.heap.size,0,none⟩=false/\Bx3 y w.heap.size (.slice none 0 0) (.slice none 0 0) (.slice none 0 0)):=fun y hy =>
  ⟨(hy.cellAt hl1 _).trans q0,(hy.below.frozen (p:=⟨wn.heap.size,0,none⟩) hl1).trans q1,hA1.fr (hy.fr fun _=>False) (fun x=>x)⟩
 have SET:Hid (∀ y v,Since w1 y->Since w (y.setCell ⟨wn.heap.size,0,none⟩ v)):=fun y v hy=>⟨((hSn.trans hS1).trans hy).below.setCell (p:=⟨wn.heap.size,0,none⟩) (Nat.le_of_lt hln) v⟩
 have HNO:Hid (∀ (y:World),fU s=none->Since w1 y->Since w (y.setCell ⟨wn.heap.size,0,none⟩ (.int .i64 1))/\∃ v:WV,Ending.returned (.tuple #[.agg #[.slice none 0 0,.slice none 0 0,.slice none 0 0],.int .i64 1])=.returned (.tuple #[.agg #[.slice v.ga v.gl v.gc,.slice v.na v.nl v.nc,.slice v.wa v.wl v.wc],.int .i64 E])/\Sg w.heap.size (y.setCell ⟨wn.heap.size,0,none⟩ (.int .i64 1)).heap.size (fun W=>WAt W v D) (y.setCell ⟨wn.heap.size,0,none⟩ (.int .i64 1))):=by
  intro y hr hy
  obtain ⟨rfl,rfl⟩:=hn hr
  exact ⟨SET.out y _ hy,⟨none,0,0,none,0,0,none,0,0⟩,rfl,Nat.le_refl _,fun W _ _=>p9 W⟩
 have HOK:Hid (∀ d,fU s=some d->E=0/\D=d):=hd
 have hmf:∀ (fn:Fn) (first cap:Array Value) (w:World),(Instr.makeFunc fn first cap).run prog w=.ok (.func fn first cap) w:=fun _ _ _ _=>rfl
 have hrd:=xH w1.heap.size s w2 hQ2
 clear hn hd
 refine kI func72 rfl ?_
 simp only [ntmps72,List.size_toArray,List.length_cons,List.length_nil,Nat.reduceAdd,Nat.reduceSub,Array.replicate_succ,Array.replicate_zero,List.push_toArray,List.append_toArray,List.nil_append,List.cons_append]
 refine cu ?_
 go_wp2_with (first
  | (go_at_call 102;refine hrd.mono ?_;rintro e w3 ⟨hF3,(⟨hn,rfl⟩ | ⟨d,r,ga,gc,na,nc,wa,wc,g,n,hs,rfl,hSg,hQ3⟩)⟩;have HN:Hid (fU s=none):=(by unfold Hid fU;rw [hn]);have hSY:Since w1 w3:=hF3.aC hS2 (fun i hi e=>(by omega));rotate_left
    ;have hS3:Since w1 w3:=hF3.aC hS2 (fun i hi e=>(by omega));obtain ⟨w4,hw4⟩:∃ y,w3.alloc (.cells #[.slice ga d.groups.length gc,.slice na d.nodes.length nc,.slice wa d.wires.length wc] 26)=y:=⟨_,rfl⟩;have hS4:Since w3 w4:=(by rw [<-hw4];exact (Since.refl w3).alloc _);have hl4:w3.heap.size < w4.heap.size:=(by rw [<-hw4];simp);have b0:w4.cell? ⟨w3.heap.size,0,none⟩=some (.slice ga d.groups.length gc):=(by rw [<-hw4];simp [go_sem]);have b1:w4.cell? ⟨w3.heap.size,1,none⟩=some (.slice na d.nodes.length nc):=(by rw [<-hw4];simp [go_sem]);have b2:w4.cell? ⟨w3.heap.size,2,none⟩=some (.slice wa d.wires.length wc):=(by rw [<-hw4];simp [go_sem]);have c0:=(hQ3.since hS4).c0;have hW4:=hSg.out.since hS4;have nY:=hS3.trans hS4;rcases r with _ | ⟨a0,r⟩)
  | (go_at_call 103;rw [sZ];refine (kW _).mono ?_;rintro e w' ⟨rfl,hw'⟩;obtain rfl:=hw'.symm;have HN:Hid (fU s=none):=(by unfold Hid fU;rw [hs]);have hSY:=nY)
  | (go_at_call 103;rw [sZ];refine (kV _).mono ?_;rintro e w' ⟨rfl,hw'⟩;obtain rfl:=hw'.symm)
  | (go_at_call 17;refine (jK ⟨ga,d.groups.length,gc,na,d.nodes.length,nc,wa,d.wires.length,wc⟩ d w4 hW4).mono ?_;rintro e w5 ⟨rfl,hS5⟩;have f0:=(hS5.cellAt hl4 _).trans b0;have f1:=(hS5.cellAt hl4 _).trans b1;have f2:=(hS5.cellAt hl4 _).trans b2;have hW5:=hW4.since hS5;have mG:=nY.trans hS5))
 all_goals first | (obtain ⟨e0,e1,e2⟩:=QF.out _ hSY;exact pq _ _ _ _ rfl rfl 0 1 e2.c0 e2.c1 e2.c2 (by omega) e0 e1 _ (HNO.out _ HN.out hSY)) | skip
 cases hE:(aA d == 0)
 ·have HN:Hid (fU s=none):=by
   have:¬ aA d=0:=by simpa using hE
   unfold Hid fU;rw [hs];simp only [if_neg this]
  refine (kW _).mono ?_
  rintro e w' ⟨rfl,hw'⟩
  obtain rfl:=hw'.symm
  go_wp2_with fail
  obtain ⟨e0,e1,e2⟩:=QF.out _ mG
  exact pq _ _ _ _ rfl rfl 0 1 e2.c0 e2.c1 e2.c2 (by omega) e0 e1 _ (HNO.out _ HN.out mG)
 ·have HD:Hid (fU s=some d):=by
   have:aA d=0:=by simpa using hE
   exact oz.2 ⟨hs,this⟩
  refine (kV _).mono ?_
  rintro e w' ⟨rfl,hw'⟩
  obtain rfl:=hw'.symm
  obtain ⟨e0,e1,hA5⟩:=QF.out _ mG
  have hAV:=hA5.all (.slice ga d.groups.length gc) (.slice na d.nodes.length nc) (.slice wa d.wires.length wc)
  have hpf:=pU w5 w.heap.size (.slice ga d.groups.length gc) (.slice na d.nodes.length nc) (.slice wa d.wires.length wc)
  unfold Ci at hpf
  obtain ⟨V,hV⟩:∃ y,(((w5.setCell ⟨w.heap.size,0,none⟩ (.slice ga d.groups.length gc)).setCell ⟨w.heap.size,1,none⟩ (.slice na d.nodes.length nc)).setCell ⟨w.heap.size,2,none⟩ (.slice wa d.wires.length wc))=y:=⟨_,rfl⟩
  rw [hV] at hAV hpf
  have G9:wn.heap.size < w5.heap.size:=by have:=mG.size;omega
  have k0:=(hpf.cell (p:=⟨wn.heap.size,0,none⟩) G9 (by show ¬ wn.heap.size=_;omega)).trans e0
  have k1:=(hpf.frozen (p:=⟨wn.heap.size,0,none⟩) G9 (by show ¬ wn.heap.size=_;omega)).trans e1
  have hSV:Since w (V.setCell ⟨wn.heap.size,0,none⟩ (.int .i64 0)):=by
   have h1:Since w w5:=(hSn.trans hS1).trans mG
   have h2:Since w V:=hpf.aC h1 (fun i hi e=>by omega)
   exact ⟨h2.below.setCell (p:=⟨wn.heap.size,0,none⟩) (Nat.le_of_lt hln) _⟩
  obtain ⟨a,a0,a1,a2,y0,y1,y2⟩:=hA5
  have zG:=eD V wn.heap.size 0 (.int .i64 0)
  have hA9:=hAV.fr zG (by show ¬ w.heap.size=_;omega)
  have k2:(V.setCell ⟨wn.heap.size,0,none⟩ (.int .i64 0)).cell? ⟨wn.heap.size,0,none⟩=some (.int .i64 0):=dP _ _ _ _ k0
  have hW9:Sg w.heap.size (V.setCell ⟨wn.heap.size,0,none⟩ (.int .i64 0)).heap.size (fun W=>WAt W ⟨ga,d.groups.length,gc,na,d.nodes.length,nc,wa,d.wires.length,wc⟩ d) (V.setCell ⟨wn.heap.size,0,none⟩ (.int .i64 0)):=by
   have h2:=w2.heap.size
   have g:=hSg.mono (Nat.le_refl _) (Nat.le_refl _) (Nat.le_refl _)
   have g4:=(g.fr (hS4.fr (fun _=>False)) (fun _ _ _ x=>x)).fr (hS5.fr (fun _=>False)) (fun _ _ _ x=>x)
   have h12:=hS2.size
   have g9:=(g4.fr hpf (fun i a _ e=>by omega)).fr zG (fun i a _ e=>by omega)
   exact g9.mono (by omega) g9.1 (Nat.le_refl _)
  go_wp2_with fail
  refine xG _ _ _ _ _ _ _ rfl rfl rfl rfl rfl hA9.c0 hA9.c1 hA9.c2 k2 _ ?_
  obtain ⟨rfl,rfl⟩:=HOK.out d HD.out
  exact ⟨hSV,_,rfl,hW9⟩
theorem uY (s:List UInt8) (w:World) :
  Calls prog 72 #[.string (bs s)] w fun e w'=>Since w w'/\∃ v:WV,e=.returned (.tuple #[.agg #[.slice v.ga v.gl v.gc,.slice v.na v.nl v.nc,.slice v.wa v.wl v.wc],.int .i64 (rdE s)])/\Sg w.heap.size w'.heap.size (fun W=>WAt W v (rdW s)) w' :=
 uX s w _ _ (fun h=>tK h) (fun d h=>rd_some h)
def rC (s:List UInt8):Int:=if s.length<=4096 then rdE s else 2
def rD (s:List UInt8):Wd:=if s.length<=4096 then rdW s else ⟨[],[],[]⟩
theorem yU (s:List UInt8) (w:World) (E:Int) (D:Wd) (hn:¬ s.length<=4096->E=2/\D=⟨[],[],[]⟩) (hd:s.length<=4096->E=rdE s/\D=rdW s) :
  Calls prog 36 #[.string (bs s)] w fun e w'=>Since w w'/\∃ v:WV,e=.returned (.tuple #[.agg #[.slice v.ga v.gl v.gc,.slice v.na v.nl v.nc,.slice v.wa v.wl v.wc],.int .i64 E])/\WAt w' v D:=by
 obtain ⟨w1,hw1⟩:∃ y,w.alloc (.cells #[.slice none 0 0,.slice none 0 0,.slice none 0 0] 26)=y:=⟨_,rfl⟩
 have hS1:=au hw1
 have hA1:Bx3 w1 w.heap.size (.slice none 0 0) (.slice none 0 0) (.slice none 0 0):=by rw [<-hw1];exact Bx3.fresh w _
 by_cases hl:s.length<=4096
 ·have hd0:decide (4096 < ((bs s).size:Int))=false:=by rw [iL];simp;omega
  obtain ⟨HE,HD⟩:=hd hl
  subst HE HD
  have hrd:=uY s w1
  have hlw:w.heap.size < w1.heap.size:=by rw [<-hw1];simp
  clear hn hd
  go_enter func36,ntmps36
  go_wp2_with (go_at_call 72;refine hrd.mono ?_;rintro e w2 ⟨hS2,v,rfl,hW2⟩;have hA2:=hA1.fr (hS2.fr fun _=>False) (fun x=>x);have hAV:=hA2.all (.slice v.ga v.gl v.gc) (.slice v.na v.nl v.nc) (.slice v.wa v.wl v.wc);have hpf:=pU w2 w.heap.size (.slice v.ga v.gl v.gc) (.slice v.na v.nl v.nc) (.slice v.wa v.wl v.wc);unfold Ci at hpf;obtain ⟨V,hV⟩:∃ y,(((w2.setCell ⟨w.heap.size,0,none⟩ (.slice v.ga v.gl v.gc)).setCell ⟨w.heap.size,1,none⟩ (.slice v.na v.nl v.nc)).setCell ⟨w.heap.size,2,none⟩ (.slice v.wa v.wl v.wc))=y:=⟨_,rfl⟩;rw [hV] at hAV hpf;obtain ⟨_,a0,a1,a2,y0,y1,y2⟩:=hA2;obtain ⟨_,v0,v1,v2,_,_,_⟩:=hAV)
  refine bodyPost_ret (v:=.tuple #[.agg #[.slice v.ga v.gl v.gc,.slice v.na v.nl v.nc,.slice v.wa v.wl v.wc],.int .i64 (rdE s)]) ?_ rfl ?_
  ·simp [results,results36,go_sem,v0,v1,v2]
  exact ⟨hpf.aC (hS1.trans hS2) (fun i hi e=>by omega),v,rfl,(hW2.fr hpf (fun i a _ e=>by omega)).out⟩
 ·have hd0:decide (4096 < ((bs s).size:Int))=true:=by rw [iL];simp;omega
  obtain ⟨HE,HD⟩:=hn hl
  subst HE HD
  have hAV:=hA1.all (.slice none 0 0) (.slice none 0 0) (.slice none 0 0)
  have hpf:=pU w1 w.heap.size (.slice none 0 0) (.slice none 0 0) (.slice none 0 0)
  unfold Ci at hpf
  obtain ⟨V,hV⟩:∃ y,(((w1.setCell ⟨w.heap.size,0,none⟩ (.slice none 0 0)).setCell ⟨w.heap.size,1,none⟩ (.slice none 0 0)).setCell ⟨w.heap.size,2,none⟩ (.slice none 0 0))=y:=⟨_,rfl⟩
  rw [hV] at hAV hpf
  obtain ⟨_,a0,a1,a2,y0,y1,y2⟩:=hA1
  obtain ⟨_,v0,v1,v2,_,_,_⟩:=hAV
  clear hn hd
  go_enter func36,ntmps36
  go_wp2
  refine bodyPost_ret (v:=.tuple #[.agg #[.slice none 0 0,.slice none 0 0,.slice none 0 0],.int .i64 2]) ?_ rfl ?_
  ·simp [results,results36,go_sem,v0,v1,v2]
  exact ⟨hpf.aC hS1 (fun i hi e=>by omega),⟨none,0,0,none,0,0,none,0,0⟩,rfl,p9 _⟩
theorem kG (s:List UInt8) (w:World) :
  Calls prog 36 #[.string (bs s)] w fun e w'=>Since w w'/\∃ v:WV,e=.returned (.tuple #[.agg #[.slice v.ga v.gl v.gc,.slice v.na v.nl v.nc,.slice v.wa v.wl v.wc],.int .i64 (rC s)])/\WAt w' v (rD s) :=
 yU s w _ _ (fun h=>by unfold rC rD;rw [if_neg h,if_neg h];exact ⟨rfl,rfl⟩) (fun h=>by unfold rC rD;rw [if_pos h,if_pos h];exact ⟨rfl,rfl⟩)
end Go.Proofs.Ytiiifecfdkjmbaa
