/- Lemmas. -/
import Derived.RecoverIn
import Derived.Test.YtiiifecfdkjmbaaNodeX
import Derived.Test.YtiiifecfdkjmbaaLists
set_option maxHeartbeats 2000000
namespace Go.Proofs.Ytiiifecfdkjmbaa
open _root_.Go.Proofs.Try hiding checked
set_option maxRecDepth 8000
open Go.RowKit Go.Shelf
theorem nU (e:Int) (w:World):(Instr.typeAssert (.iface 27 (.int .i64 e)) 20 27 false).run prog w=.ok (.int .i64 e) w:=by kernel_rfl
set_option maxRecDepth 20000 in
theorem Cm (p:Addr) (x e:Int) (w:World) (hc:w.cell? p=some (.int .i64 x)) (hz:w.frozen? p=false) :
  CallsDIn Fence.wide 0 prog 76 #[.pointer (some p)] (.panicking (pan e)) w fun r u' w' =>
   r=.returned (.tuple #[])/\u'=.panicking [{ v:=.iface 27 (.int .i64 e),recovered:=true }]/\w'=w.setCell p (.int .i64 e):=by
 have hta:=nU e
 refine callsDIn_of_wpSIn func76 rfl trivial fun c₀ cs hu=>?_
 apply wpSIn_seq
 apply wpSIn_region
 simp [wpOpsSIn,go_sem,recoverD,hu,ntmps76,Exit.thenS]
 refine wpSIn_of_wpIn rfl ((wpIn_wide (n:=0)).2 ?_)
 simp only [Array.replicate_succ,Array.replicate_zero,List.push_toArray,List.append_toArray,List.nil_append,List.cons_append,zQ7,zQ9,zQ8]
 go_wp2
 exact ⟨rfl,_,rfl,_,results_none rfl _ _ _,rfl,rfl,rfl⟩
theorem Aq (p:Addr) (w:World) :
  CallsDIn Fence.wide 0 prog 76 #[.pointer (some p)] .returning w fun r u' w'=>r=.returned (.tuple #[])/\u'=.returning/\w'=w:=by
 refine callsDIn_of_wpSIn func76 rfl trivial fun c₀ cs hu=>?_
 apply wpSIn_seq
 apply wpSIn_region
 simp [wpOpsSIn,go_sem,recoverD,hu,ntmps76,Exit.thenS]
 refine wpSIn_of_wpIn rfl ((wpIn_wide (n:=0)).2 ?_)
 simp only [Array.replicate_succ,Array.replicate_zero,List.push_toArray,List.append_toArray,List.nil_append,List.cons_append,zQ7,zQ9,zQ8]
 go_wp2
 obtain ⟨c1,c2,c3,c4,c5,c6,c7⟩:=c₀
 subst hu
 exact ⟨rfl,_,rfl,_,results_none rfl _ _ _,rfl,rfl,rfl⟩
theorem mE (y:World) (b:Nat) (tmps:Array Value) (h2:tmps[2]? = some (.pointer (some ⟨b,0,none⟩))) (x e:Int) (hc:y.cell? ⟨b,0,none⟩=some (.int .i64 x)) (hz:y.frozen? ⟨b,0,none⟩=false)
  (R:Ending->World->Prop) (hR:R (.returned (.int .i64 e)) (y.setCell ⟨b,0,none⟩ (.int .i64 e))) :
  LeavesInM Fence.wide 0 prog Try.f47 tmps R [{ target:=.fn (.func 76) #[.pointer (some ⟨b,0,none⟩)],args:=#[] }] (.panicking (pan e)) y:=by
 refine ⟨by simp,.inr ⟨fun h=>(by cases h),_,_,76,#[.pointer (some ⟨b,0,none⟩)],rfl,by simp [go_sem,invoke],fun _ _=>trivial, ?_⟩⟩
 refine (Cm ⟨b,0,none⟩ x e y hc hz).mono ?_
 rintro r u' w'' ⟨rfl,rfl,rfl⟩
 refine ⟨_, ?_,hR⟩
 have hc':(y.setCell ⟨b,0,none⟩ (.int .i64 e)).cell? ⟨b,0,none⟩=some (.int .i64 e):=World.cell?_setCell_same' _ _ _ (by rw [hc];rfl)
 simp [results,Try.f47,go_sem,h2,hc']
theorem Ar (y:World) (b:Nat) (tmps:Array Value) (h2:tmps[2]? = some (.pointer (some ⟨b,0,none⟩))) (e:Int) (hc:y.cell? ⟨b,0,none⟩=some (.int .i64 e))
  (R:Ending->World->Prop) (hR:R (.returned (.int .i64 e)) y) :
  LeavesInM Fence.wide 0 prog Try.f47 tmps R [{ target:=.fn (.func 76) #[.pointer (some ⟨b,0,none⟩)],args:=#[] }] .returning y:=by
 refine ⟨by simp,.inr ⟨fun h=>(by cases h),_,_,76,#[.pointer (some ⟨b,0,none⟩)],rfl,by simp [go_sem,invoke],fun _ _=>trivial, ?_⟩⟩
 refine (Aq ⟨b,0,none⟩ y).mono ?_
 rintro r u' w'' ⟨rfl,rfl,rfl⟩
 refine ⟨_, ?_,hR⟩
 simp [results,Try.f47,go_sem,h2,hc]
def gM (d:Wd):Bool:=(List.range d.nodes.length).all fun n=>match d.nodes[n]? with | some nd=>av d n nd | none=>true
def fq (d:Wd):Bool:=(dF d).all fun k=>decide (k<=40)
def aA (d:Wd):Int:=if bP d.nodes.length d.groups=0 then (if fq d then (if gM d && bM d then 0 else 1) else 2) else bP d.nodes.length d.groups
theorem EX (w0:World) (x:WV) (d:Wd) (n:Nat) (nd:Nd) (hv:av d n nd=true) (hW:WAt w0 x d) (hn:d.nodes[n]? = some nd) (w:World) (h:Since w0 w) :
  Calls prog 79 #[.agg #[.slice x.ga x.gl x.gc,.slice x.na x.nl x.nc,.slice x.wa x.wl x.wc],.int .i64 n] w fun e w'=>e=.returned (.tuple #[])/\Since w0 w' :=
 (vQ x d n nd w (hW.since h) hn).mono fun _ _ ⟨he,hw⟩=>⟨by rw [he,hv];rfl,h.trans hw⟩
theorem EY (w0:World) (x:WV) (d:Wd) (n:Nat) (nd:Nd) (hv:av d n nd=false) (hW:WAt w0 x d) (hn:d.nodes[n]? = some nd) (w:World) (h:Since w0 w) :
  Calls prog 79 #[.agg #[.slice x.ga x.gl x.gc,.slice x.na x.nl x.nc,.slice x.wa x.wl x.wc],.int .i64 n] w fun e w'=>e=.panicked (pan 1)/\Since w0 w' :=
 (vQ x d n nd w (hW.since h) hn).mono fun _ _ ⟨he,hw⟩=>⟨by rw [he,hv];rfl,h.trans hw⟩
theorem Dk (w0:World) (x:WV) (d:Wd) (hv:bM d=true) (hW:WAt w0 x d) (w:World) (h:Since w0 w) :
  Calls prog 80 #[.agg #[.slice x.ga x.gl x.gc,.slice x.na x.nl x.nc,.slice x.wa x.wl x.wc]] w fun e w'=>e=.returned (.tuple #[])/\Since w0 w' :=
 (rZ x d w (hW.since h)).mono fun _ _ ⟨he,hw⟩=>⟨by rw [he,hv];rfl,h.trans hw⟩
theorem Dl (w0:World) (x:WV) (d:Wd) (hv:bM d=false) (hW:WAt w0 x d) (w:World) (h:Since w0 w) :
  Calls prog 80 #[.agg #[.slice x.ga x.gl x.gc,.slice x.na x.nl x.nc,.slice x.wa x.wl x.wc]] w fun e w'=>e=.panicked (pan 1)/\Since w0 w' :=
 (rZ x d w (hW.since h)).mono fun _ _ ⟨he,hw⟩=>⟨by rw [he,hv];rfl,h.trans hw⟩
attribute [local go_sem] Oper.semAt_some
set_option maxRecDepth 8000 in
theorem wQ (x:WV) (d:Wd) (w:World) (hW:WAt w x d) :
  Calls prog 47 #[.agg #[.slice x.ga x.gl x.gc,.slice x.na x.nl x.nc,.slice x.wa x.wl x.wc]] w fun e w'=>e=.returned (.int .i64 (aA d))/\Since w w':=by
 obtain ⟨ga,gl,gc,na,nl,nc,wa,wl,wc⟩:=x
 have hwl:=hW.r.hlen
 have hnl:=hW.n.hlen
 have hnm:=hW.n.hmax
 dsimp only at hwl hnl hnm ⊢
 subst hwl hnl
 obtain ⟨w1,hw1⟩:∃ w1,(w.alloc (.cells #[.slice ga gl gc,.slice na d.nodes.length nc,.slice wa d.wires.length wc] 77)).alloc (.cells #[.int .i64 0] 27)=w1:=⟨_,rfl⟩
 have hS1:Since w w1:=by rw [<-hw1];exact ((Since.refl w).alloc _).alloc _
 have hsz:w.heap.size+1 < w1.heap.size:=by rw [<-hw1];simp
 have b0:w1.cell? ⟨w.heap.size,0,none⟩=some (.slice ga gl gc):=by rw [<-hw1];simp [go_sem]
 have b1:w1.cell? ⟨w.heap.size,1,none⟩=some (.slice na d.nodes.length nc):=by rw [<-hw1];simp [go_sem]
 have b2:w1.cell? ⟨w.heap.size,2,none⟩=some (.slice wa d.wires.length wc):=by rw [<-hw1];simp [go_sem]
 have b3:w1.cell? ⟨w.heap.size+1,0,none⟩=some (.int .i64 0):=by rw [<-hw1];simp [go_sem]
 have b4:w1.frozen? ⟨w.heap.size+1,0,none⟩=false:=by rw [<-hw1];simp [go_sem]
 have hW1:=hW.since hS1
 have RF:Hid (∀ y,Since w1 y->y.cell? ⟨w.heap.size,0,none⟩=some (.slice ga gl gc)/\y.cell? ⟨w.heap.size,1,none⟩=some (.slice na d.nodes.length nc)/\y.cell? ⟨w.heap.size,2,none⟩=some (.slice wa d.wires.length wc)
   /\ y.cell? ⟨w.heap.size+1,0,none⟩=some (.int .i64 0)/\y.frozen? ⟨w.heap.size+1,0,none⟩=false):=fun y hy =>
  ⟨(hy.cellAt (by omega) _).trans b0,(hy.cellAt (by omega) _).trans b1,(hy.cellAt (by omega) _).trans b2,(hy.cellAt (by omega) _).trans b3,(hy.below.frozen (p:=⟨w.heap.size+1,0,none⟩) (by show w.heap.size+1 < _;omega)).trans b4⟩
 have SET:Hid (∀ y v,Since w1 y->Since w (y.setCell ⟨w.heap.size+1,0,none⟩ v)):=fun y v hy=>⟨(hS1.trans hy).below.setCell (p:=⟨w.heap.size+1,0,none⟩) (Nat.le_succ _) v⟩
 have hmf:∀ (fn:Fn) (first cap:Array Value) (w:World),(Instr.makeFunc fn first cap).run prog w=.ok (.func fn first cap) w:=fun _ _ _ _=>rfl
 have HE:Hid (aA d=if bP d.nodes.length d.groups=0 then (if fq d then (if gM d && bM d then 0 else 1) else 2) else bP d.nodes.length d.groups):=rfl
 refine kI func47 rfl ?_
 simp only [ntmps47,List.size_toArray,List.length_cons,List.length_nil,Nat.reduceAdd,Nat.reduceSub,Array.replicate_succ,Array.replicate_zero,List.push_toArray,List.append_toArray,List.nil_append,List.cons_append]
 refine fK (cu ?_)
 go_wp2
 refine fK (cu ?_)
 go_wp2
 clear hw1
 refine fK (cu ?_)
 go_wp2_with (go_at_call 38;refine (rU _ _ _ _ d.groups _ hW1.g).mono ?_;rintro e w2 ⟨rfl,hw2⟩;have hS2:Since w1 w2:=(by rw [hw2];exact (Since.refl _).alloc _);obtain ⟨c0,c1,c2,c3,c4⟩:=RF.out _ hS2;clear hw2)
 cases h1:(bP d.nodes.length d.groups == 0)
 ·have H1:Hid ((bP d.nodes.length d.groups == 0)=false):=h1
  have HF:Hid (aA d=bP d.nodes.length d.groups):=by
   have:¬ bP d.nodes.length d.groups=0:=by simpa using h1
   unfold Hid;rw [HE.out,if_neg this]
  clear h1
  refine fK (cu ?_)
  go_wp2_with (go_at_call 77;refine (dO _ _ H1.out _).mono ?_;rintro e w' ⟨rfl,hw3⟩;have hS3:Since w1 w':=(by rw [hw3];exact Since.alloc (by assumption) _);obtain ⟨f0,f1,f2,f3,f4⟩:=RF.out _ hS3;clear hw3)
  exact mE _ _ _ rfl 0 _ (by assumption) (by assumption) _ ⟨by rw [HF.out],SET.out _ _ (by assumption)⟩
 have H1:Hid ((bP d.nodes.length d.groups == 0)=true):=h1
 have HE1:Hid (aA d=if fq d then (if gM d && bM d then 0 else 1) else 2):=by
  have:bP d.nodes.length d.groups=0:=by simpa using h1
  unfold Hid;rw [HE.out,if_pos this]
 clear h1 HE
 refine fK (cu ?_)
 go_wp2_with (go_at_call 77;refine (cK _ _ H1.out _).mono ?_;rintro e w3 ⟨rfl,hw3⟩;have hS3:Since w1 w3:=(by rw [hw3];exact Since.alloc (by assumption) _);obtain ⟨f0,f1,f2,f3,f4⟩:=RF.out _ hS3;clear hw3)
 refine fK (fK (cu ?_))
 go_wp2_with (go_at_call 78;refine (zP ⟨ga,gl,gc,na,d.nodes.length,nc,wa,d.wires.length,wc⟩ _).mono ?_;rintro e w' ⟨rfl,rfl⟩)
 obtain ⟨w4,hw4⟩:∃ w4,w3.alloc (.cells #[.slice ga gl gc,.slice na d.nodes.length nc,.slice wa d.wires.length wc] 77)=w4:=⟨_,rfl⟩
 have hS4:Since w1 w4:=by rw [<-hw4];exact Since.alloc (by assumption) _
 have z1:w4.cell? ⟨w3.heap.size,1,none⟩=some (.slice na d.nodes.length nc):=by rw [<-hw4];simp [go_sem]
 have z2:w4.cell? ⟨w3.heap.size,2,none⟩=some (.slice wa d.wires.length wc):=by rw [<-hw4];simp [go_sem]
 have Ja:w3.heap.size < w4.heap.size:=by rw [<-hw4];simp
 rw [hw4]
 clear hw4
 refine sD ?_
 refine sF (m:=1) func47 (gf:=107) (lb:=#[.pointer (some ⟨w3.heap.size,0,none⟩)]) rfl (enters_of func107 (by kernel_rfl) rfl) (Nat.le_refl _)
  (zQ 1 w3.heap.size w4 Ja ⟨ga,gl,gc,na,d.nodes.length,nc,wa,d.wires.length,wc⟩ d (hW1.since hS4) z1 z2) (fun _=>rfl)
  (fun i W=>Since w1 W/\((dF d).take i).all (fun k=>decide (k<=40))=true)
  (fun ch W=>ch=pan 2/\Since w1 W/\fq d=false)
  (fun i A B hA hk=>⟨⟨hA.1.below.trans (hk.below.mono hS4.size)⟩,hA.2⟩) (fun _ _ _ _ h=>h.elim) ⟨hS4,rfl⟩ ?round ?done ?pan
 case pan =>
  rintro D ch W hD ⟨rfl,hSW,hF⟩ hK
  have hS9:Since w1 (W.putObj D (.deferred none)):=⟨hSW.below.trans ((KX.put (X:=none) (.deferred none) hK rfl hD).below.mono hS4.size)⟩
  obtain ⟨f0,f1,f2,f3,f4⟩:=RF.out _ hS9
  have HF:Hid (aA d=2):=by unfold Hid;rw [HE1.out,hF];rfl
  exact ⟨by simp,.inl ⟨_,_,rfl,run_takeDeferred hK,mE _ _ _ rfl 0 _ f3 f4 _ ⟨by rw [HF.out],SET.out _ _ hS9⟩⟩⟩
 case round =>
  rintro l i ⟨sa,sl,sc⟩ W W' hsz' ⟨hSW,hall⟩ hiN hx
  have HX:Hid ((dF d)[i]? = some sl):=hx
  have HA:Hid (((dF d).take i).all (fun k=>decide (k<=40))=true):=hall
  have HD:Hid (decide (sl<=40)=decide ((sl:Int)<=40)):=by unfold Hid;rw [Bool.eq_iff_iff];simp;omega
  clear hx hall
  gi_wp2
  refine ⟨trivial, ?_⟩
  cases h2:decide ((sl:Int)<=40)
  ·have HF:Hid (fq d=false):=iV HX.out (by rw [HD.out];exact h2)
   gi_wp2_with (refine ⟨trivial,rfl, ?_⟩;gi_at_call 77;refine (oo (dO _ _ (by first | exact h2 | rfl) _)).mono ?_;rintro e w' ⟨rfl,rfl⟩)
   exact ⟨rfl,NC.ig ((Since.refl W').alloc _),rfl,hSW.alloc _,HF.out⟩
  ·have HF:Hid (((dF d).take (i+1)).all (fun k=>decide (k<=40))=true):=eX HX.out HA.out (by rw [HD.out];exact h2)
   gi_wp2_with (refine ⟨trivial,rfl, ?_⟩;gi_at_call 77;refine (oo (cK _ _ (by first | exact h2 | rfl) _)).mono ?_;rintro e w' ⟨rfl,rfl⟩)
   exact ⟨NC.ig ((Since.refl W').alloc _),KX.ig ((Since.refl W').alloc _) hsz',hSW.alloc _,HF.out⟩
 case done =>
  rintro D W hD ⟨hSW,hall⟩ hK
  have HE2:Hid (aA d=if gM d && bM d then 0 else 1):=by
   have:fq d=true:=by rw [List.take_of_length_le (Nat.le_refl _)] at hall;exact hall
   unfold Hid;rw [HE1.out,this];rfl
  have OUT:Hid (∀ y,Since W y->y.heap[D]? = some (.deferred (some []))/\Since w1 y/\Since w1 (y.putObj D (.deferred none))/\(y.putObj D (.deferred none)).cell? ⟨w.heap.size+1,0,none⟩=some (.int .i64 0)/\(y.putObj D (.deferred none)).frozen? ⟨w.heap.size+1,0,none⟩=false):=by
   intro y hy
   have hk:=hy.block hK
   have hs:Since w1 (y.putObj D (.deferred none)):=⟨(hSW.trans hy).below.trans ((KX.put (X:=none) (.deferred none) hk rfl hD).below.mono hS4.size)⟩
   exact ⟨hk,hSW.trans hy,hs,(RF.out _ hs).2.2.2.1,(RF.out _ hs).2.2.2.2⟩
  obtain ⟨f0,f1,f2,f3,f4⟩:=RF.out _ hSW
  have hWW:=hW1.since hSW
  clear hall hK
  refine cu ?_
  go_wp2_with fail
  go_loopw [32] (fun i wr=>(∃ k:Nat,k<=d.nodes.length/\i=.int .i64 k/\(List.range k).all (fun n=>match d.nodes[n]? with | some nd=>av d n nd | none=>true)=true)/\Since W wr) (fun i _=>d.nodes.length - (intOf i).toNat)
  case atStart=>exact ⟨⟨0,Nat.zero_le _,rfl,rfl⟩,Since.refl _⟩
  case round =>
   obtain ⟨⟨k,hk,rfl,hn⟩,hS⟩:=hrel
   have HN:Hid ((List.range k).all (fun n=>match d.nodes[n]? with | some nd=>av d n nd | none=>true)=true):=hn
   clear hn
   obtain ⟨g0,g1,g2,g3,g4⟩:=RF.out _ (hSW.trans hS)
   by_cases hlt:k < d.nodes.length
   ·obtain ⟨nd,hnd⟩:∃ nd,d.nodes[k]? = some nd:=⟨_,zQ1 hlt⟩
    have HND:Hid (d.nodes[k]? = some nd):=hnd
    clear hnd
    cases h5:av d k nd
    ·have HF:Hid (aA d=1):=by
      have:gM d=false:=jh hlt (by rw [HND.out];exact h5)
      unfold Hid;rw [HE2.out,this];rfl
     have H5:Hid (av d k nd=false):=h5
     clear h5
     go_wp2_with (go_at_call 79;refine (EY W ⟨ga,gl,gc,na,d.nodes.length,nc,wa,d.wires.length,wc⟩ d k nd H5.out hWW HND.out _ hS).mono ?_;rintro e w' ⟨rfl,hS6⟩)
     obtain ⟨o1,o2,o3,o4,o5⟩:=OUT.out _ (by assumption)
     exact ⟨by simp,.inl ⟨_,_,rfl,run_takeDeferred o1,mE _ _ _ rfl 0 _ o4 o5 _ ⟨by rw [HF.out],SET.out _ _ o3⟩⟩⟩
    ·have H5:Hid (av d k nd=true):=h5
     clear h5
     go_wp2_with (go_at_call 79;refine (EX W ⟨ga,gl,gc,na,d.nodes.length,nc,wa,d.wires.length,wc⟩ d k nd H5.out hWW HND.out _ hS).mono ?_;rintro e w' ⟨rfl,hS6⟩)
     go_roundw
     case rel=>exact ⟨⟨k+1,by omega,by go_num,fJ HN.out (by rw [HND.out];exact H5.out)⟩,by assumption⟩
     case measure=>simp [intOf];omega
   ·have HNB:Hid (gM d=true):=by
     have:=HN.out
     rw [show k=d.nodes.length from by omega] at this
     exact this
    cases h6:bM d
    ·have HF:Hid (aA d=1):=by unfold Hid;rw [HE2.out,h6];simp
     have H6:Hid (bM d=false):=h6
     clear h6
     go_wp2_with (go_at_call 80;refine (Dl W ⟨ga,gl,gc,na,d.nodes.length,nc,wa,d.wires.length,wc⟩ d H6.out hWW _ hS).mono ?_;rintro e w' ⟨rfl,hS6⟩)
     obtain ⟨o1,o2,o3,o4,o5⟩:=OUT.out _ (by assumption)
     exact ⟨by simp,.inl ⟨_,_,rfl,run_takeDeferred o1,mE _ _ _ rfl 0 _ o4 o5 _ ⟨by rw [HF.out],SET.out _ _ o3⟩⟩⟩
    ·have HF:Hid (aA d=0):=by unfold Hid;rw [HE2.out,h6,HNB.out];rfl
     have H6:Hid (bM d=true):=h6
     clear h6
     go_wp2_with (go_at_call 80;refine (Dk W ⟨ga,gl,gc,na,d.nodes.length,nc,wa,d.wires.length,wc⟩ d H6.out hWW _ hS).mono ?_;rintro e w6 ⟨rfl,hS6⟩;obtain ⟨m0,m1,m2,m3,m4⟩:=RF.out _ (hSW.trans hS6))
     obtain ⟨o1,o2,o3,o4,o5⟩:=OUT.out _ hS6
     have hDX:D≠w.heap.size+1:=by have:=hS4.size;omega
     have o6:(w6.setCell ⟨w.heap.size+1,0,none⟩ (.int .i64 0)).heap[D]? = some (.deferred (some [])):=(Below.heap_setCell _ _ _ _ hDX).trans o1
     have o7:((w6.setCell ⟨w.heap.size+1,0,none⟩ (.int .i64 0)).putObj D (.deferred none)).cell? ⟨w.heap.size+1,0,none⟩=some (.int .i64 0) :=
      (World.cell?_of_block (w:=w6.setCell ⟨w.heap.size+1,0,none⟩ (.int .i64 0)) (World.putObj_heap_other (Ne.symm hDX))).trans (World.cell?_setCell_same' _ _ _ (by rw [m3];rfl))
     have o8:Since w ((w6.setCell ⟨w.heap.size+1,0,none⟩ (.int .i64 0)).putObj D (.deferred none)):=by
      refine ⟨(SET.out w6 (.int .i64 0) o2).below.trans ?_⟩
      exact (KX.put (X:=none) (n:=w.heap.size) (.deferred none) o6 rfl (by have:=hS1.size;have:=hS4.size;omega)).below
     exact ⟨by simp,.inl ⟨_,_,rfl,run_takeDeferred o6,Ar _ _ _ rfl 0 o7 _ ⟨by rw [HF.out],o8⟩⟩⟩
theorem jK (x:WV) (d:Wd) (w:World) (hW:WAt w x d) :
  Calls prog 17 #[.agg #[.slice x.ga x.gl x.gc,.slice x.na x.nl x.nc,.slice x.wa x.wl x.wc]] w fun e w'=>e=.returned (.int .i64 (aA d))/\Since w w':=by
 have hS1:Since w (w.alloc (.cells #[.slice x.ga x.gl x.gc,.slice x.na x.nl x.nc,.slice x.wa x.wl x.wc] 26)):=(Since.refl w).alloc _
 go_enter func17,ntmps17
 go_wp2_with (go_at_call 47;refine (wQ x d _ (hW.since hS1)).mono ?_;rintro e w' ⟨rfl,hS2⟩)
 go_ret
 exact ⟨rfl,hS1.trans (by assumption)⟩
end Go.Proofs.Ytiiifecfdkjmbaa
