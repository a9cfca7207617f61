/- Lemmas. Lemmas. Lemmas. -/
import Derived.RecoverIn
import Derived.Test.YtediempflagfkaaGreatDoorNodeX
import Derived.Test.YtediempflagfkaaGreatDoorLists
set_option linter.unusedVariables false
set_option linter.unusedSimpArgs false
set_option linter.unnecessarySimpa false
set_option maxHeartbeats 2000000
namespace Go.Proofs.YtediempflagfkaaGreatDoor
open _root_.Go.Proofs.Tryz hiding checked
set_option maxRecDepth 8000
open Go.RowKit Go.Shelf
theorem rD(e:Int)(w:World):(Instr.typeAssert (.iface 23 (.int .i64 e)) 20 23 false).run prog w=.ok (.int .i64 e) w:=by kernel_rfl
set_option maxRecDepth 20000 in
theorem Pe(p:Addr)(x e:Int)(w:World)(hc:w.cell? p=some (.int .i64 x))(hz:w.frozen? p=false) :
  CallsDIn Fence.wide 0 prog 170 #[.pointer (some p)] (.panicking (pan e)) w fun r u' w' =>
   r=.returned (.tuple #[])/\u'=.panicking [{ v:=.iface 23 (.int .i64 e),recovered:=true }]/\w'=w.setCell p (.int .i64 e):=by
 have hta:=rD e;refine callsDIn_of_wpSIn func170 rfl trivial fun c₀ cs hu=>?_;apply wpSIn_seq;apply wpSIn_region;simp[wpOpsSIn,go_sem,recoverD,hu,ntmps170,Exit.thenS];refine wpSIn_of_wpIn rfl ((wpIn_wide (n:=0)).2 ?_);simp only[Array.replicate_succ,Array.replicate_zero,List.push_toArray,List.append_toArray,List.nil_append,List.cons_append,zQ7,zQ9,zQ8]
 go_wp2
 exact⟨rfl,_,rfl,_,results_none rfl _ _ _,rfl,rfl,rfl⟩
theorem Nh(p:Addr)(w:World) :
  CallsDIn Fence.wide 0 prog 170 #[.pointer (some p)] .returning w fun r u' w'=>r=.returned (.tuple #[])/\u'=.returning/\w'=w:=by
 refine callsDIn_of_wpSIn func170 rfl trivial fun c₀ cs hu=>?_;apply wpSIn_seq;apply wpSIn_region;simp[wpOpsSIn,go_sem,recoverD,hu,ntmps170,Exit.thenS];refine wpSIn_of_wpIn rfl ((wpIn_wide (n:=0)).2 ?_);simp only[Array.replicate_succ,Array.replicate_zero,List.push_toArray,List.append_toArray,List.nil_append,List.cons_append,zQ7,zQ9,zQ8]
 go_wp2
 obtain⟨c1,c2,c3,c4,c5,c6,c7⟩:=c₀;subst hu;exact⟨rfl,_,rfl,_,results_none rfl _ _ _,rfl,rfl,rfl⟩
theorem vC(y:World)(b:Nat)(tmps:Array Value)(h2:tmps[2]? = some (.pointer (some ⟨b,0,none⟩)))(x e:Int)(hc:y.cell? ⟨b,0,none⟩=some (.int .i64 x))(hz:y.frozen? ⟨b,0,none⟩=false)
  (R:Ending->World->Prop) (hR:R (.returned (.int .i64 e)) (y.setCell ⟨b,0,none⟩ (.int .i64 e))) :
  LeavesInM Fence.wide 0 prog Tryz.f153 tmps R [{ target:=.fn (.func 170) #[.pointer (some ⟨b,0,none⟩)],args:=#[] }] (.panicking (pan e)) y:=by
 refine⟨by simp,.inr ⟨fun h=>(by cases h),_,_,170,#[.pointer (some ⟨b,0,none⟩)],rfl,by simp[go_sem,invoke],fun _ _=>trivial, ?_⟩⟩;refine(Pe ⟨b,0,none⟩ x e y hc hz).mono ?_;rintro r u' w'' ⟨rfl,rfl,rfl⟩;refine⟨_, ?_,hR⟩;have hc':(y.setCell ⟨b,0,none⟩ (.int .i64 e)).cell? ⟨b,0,none⟩=some (.int .i64 e):=World.cell?_setCell_same' _ _ _ (by rw[hc];rfl);simp[results,Tryz.f153,go_sem,h2,hc']
theorem Ni(y:World)(b:Nat)(tmps:Array Value)(h2:tmps[2]? = some (.pointer (some ⟨b,0,none⟩)))(e:Int)(hc:y.cell? ⟨b,0,none⟩=some (.int .i64 e))
  (R:Ending->World->Prop) (hR:R (.returned (.int .i64 e)) y) :
  LeavesInM Fence.wide 0 prog Tryz.f153 tmps R [{ target:=.fn (.func 170) #[.pointer (some ⟨b,0,none⟩)],args:=#[] }] .returning y:=by
 refine⟨by simp,.inr ⟨fun h=>(by cases h),_,_,170,#[.pointer (some ⟨b,0,none⟩)],rfl,by simp[go_sem,invoke],fun _ _=>trivial, ?_⟩⟩;refine(Nh ⟨b,0,none⟩ y).mono ?_;rintro r u' w'' ⟨rfl,rfl,rfl⟩;refine⟨_, ?_,hR⟩;simp[results,Tryz.f153,go_sem,h2,hc]
def jy(d:Wd):Bool:=(List.range d.ah.length).all fun n=>match d.ah[n]? with | some nd=>aX d n nd | none=>true
def iM(d:Wd):Bool:=(iE d).all fun k=>decide (k<=40)
def aZ(d:Wd):Int:=if dS d.ah.length d.au=0 then (if iM d then (if jy d && fF d then 0 else 1) else 2) else dS d.ah.length d.au
theorem RV(w0:World)(x:WV)(d:Wd)(n:Nat)(nd:Nd)(hv:aX d n nd=true)(hW:WAt w0 x d)(hn:d.ah[n]? = some nd)(w:World)(h:ak w0 w) :
  Calls prog 173 #[.agg #[.slice x.ga x.gl x.gc,.slice x.na x.nl x.nc,.slice x.wa x.wl x.wc],.int .i64 n] w fun e w'=>e=.returned (.tuple #[])/\ak w0 w' :=
 (GI x d n nd w (hW.ay h) hn).mono fun _ _ ⟨he,hw⟩=>⟨by rw[he,hv];rfl,h.trans hw⟩
theorem RX(w0:World)(x:WV)(d:Wd)(n:Nat)(nd:Nd)(hv:aX d n nd=false)(hW:WAt w0 x d)(hn:d.ah[n]? = some nd)(w:World)(h:ak w0 w) :
  Calls prog 173 #[.agg #[.slice x.ga x.gl x.gc,.slice x.na x.nl x.nc,.slice x.wa x.wl x.wc],.int .i64 n] w fun e w'=>e=.panicked (pan 1)/\ak w0 w' :=
 (GI x d n nd w (hW.ay h) hn).mono fun _ _ ⟨he,hw⟩=>⟨by rw[he,hv];rfl,h.trans hw⟩
theorem Qf(w0:World)(x:WV)(d:Wd)(hv:fF d=true)(hW:WAt w0 x d)(w:World)(h:ak w0 w) :
  Calls prog 174 #[.agg #[.slice x.ga x.gl x.gc,.slice x.na x.nl x.nc,.slice x.wa x.wl x.wc]] w fun e w'=>e=.returned (.tuple #[])/\ak w0 w' :=
 (DN x d w (hW.ay h)).mono fun _ _ ⟨he,hw⟩=>⟨by rw[he,hv];rfl,h.trans hw⟩
theorem Qg(w0:World)(x:WV)(d:Wd)(hv:fF d=false)(hW:WAt w0 x d)(w:World)(h:ak w0 w) :
  Calls prog 174 #[.agg #[.slice x.ga x.gl x.gc,.slice x.na x.nl x.nc,.slice x.wa x.wl x.wc]] w fun e w'=>e=.panicked (pan 1)/\ak w0 w' :=
 (DN x d w (hW.ay h)).mono fun _ _ ⟨he,hw⟩=>⟨by rw[he,hv];rfl,h.trans hw⟩
attribute [local go_sem] Oper.semAt_some
set_option maxRecDepth 8000 in
theorem II(x:WV)(d:Wd)(w:World)(hW:WAt w x d) :
  Calls prog 153 #[.agg #[.slice x.ga x.gl x.gc,.slice x.na x.nl x.nc,.slice x.wa x.wl x.wc]] w fun e w'=>e=.returned (.int .i64 (aZ d))/\ak w w':=by
 obtain⟨ga,gl,gc,na,nl,nc,wa,wl,wc⟩:=x;have hwl:=hW.r.bq;have hnl:=hW.n.bq;have hnm:=hW.n.dY;dsimp only at hwl hnl hnm ⊢;subst hwl hnl;obtain⟨w1,hw1⟩:∃w1,(w.alloc (.cells #[.slice ga gl gc,.slice na d.ah.length nc,.slice wa d.aB.length wc] 175)).alloc (.cells #[.int .i64 0] 23)=w1:=⟨_,rfl⟩;have hS1:ak w w1:=by rw[<-hw1];exact((ak.refl w).alloc _).alloc _
 have hsz:w.heap.size+1 < w1.heap.size:=by rw[<-hw1];simp
 have b0:w1.cell? ⟨w.heap.size,0,none⟩=some (.slice ga gl gc):=by rw[<-hw1];simp[go_sem]
 have b1:w1.cell? ⟨w.heap.size,1,none⟩=some (.slice na d.ah.length nc):=by rw[<-hw1];simp[go_sem]
 have b2:w1.cell? ⟨w.heap.size,2,none⟩=some (.slice wa d.aB.length wc):=by rw[<-hw1];simp[go_sem]
 have b3:w1.cell? ⟨w.heap.size+1,0,none⟩=some (.int .i64 0):=by rw[<-hw1];simp[go_sem]
 have b4:w1.frozen? ⟨w.heap.size+1,0,none⟩=false:=by rw[<-hw1];simp[go_sem]
 have hW1:=hW.ay hS1
 have RF:Hid (∀y,ak w1 y->y.cell? ⟨w.heap.size,0,none⟩=some (.slice ga gl gc)/\y.cell? ⟨w.heap.size,1,none⟩=some (.slice na d.ah.length nc)/\y.cell? ⟨w.heap.size,2,none⟩=some (.slice wa d.aB.length wc)
   /\ y.cell? ⟨w.heap.size+1,0,none⟩=some (.int .i64 0)/\y.frozen? ⟨w.heap.size+1,0,none⟩=false):=fun y hy =>
  ⟨(hy.av (by omega) _).trans b0,(hy.av (by omega) _).trans b1,(hy.av (by omega) _).trans b2,(hy.av (by omega) _).trans b3,(hy.below.frozen (p:=⟨w.heap.size+1,0,none⟩) (by show w.heap.size+1 < _;omega)).trans b4⟩
 have SET:Hid (∀y v,ak w1 y->ak w (y.setCell ⟨w.heap.size+1,0,none⟩ v)):=fun y v hy=>⟨(hS1.trans hy).below.setCell (p:=⟨w.heap.size+1,0,none⟩) (Nat.le_succ _) v⟩
 have hmf:∀(fn:Fn) (first cap:Array Value) (w:World),(Instr.makeFunc fn first cap).run prog w=.ok (.func fn first cap) w:=fun _ _ _ _=>rfl
 have HE:Hid (aZ d=if dS d.ah.length d.au=0 then (if iM d then (if jy d && fF d then 0 else 1) else 2) else dS d.ah.length d.au):=rfl;refine iY func153 rfl ?_;simp only[ntmps153,List.size_toArray,List.length_cons,List.length_nil,Nat.reduceAdd,Nat.reduceSub,Array.replicate_succ,Array.replicate_zero,List.push_toArray,List.append_toArray,List.nil_append,List.cons_append];refine eY (dw ?_)
 go_wp2
 refine eY (dw ?_)
 go_wp2
 clear hw1;refine eY (dw ?_)
 go_wp2_with (go_at_call 20;refine(u7 _ _ _ _ d.au _ hW1.g).mono ?_;rintro e w2 ⟨rfl,hw2⟩;have hS2:ak w1 w2:=(by rw[hw2];exact(ak.refl _).alloc _);obtain⟨c0,c1,c2,c3,c4⟩:=RF.out _ hS2;clear hw2)
 cases h1:(dS d.ah.length d.au == 0)
 ·have H1:Hid ((dS d.ah.length d.au == 0)=false):=h1
  have HF:Hid (aZ d=dS d.ah.length d.au):=by
   have:¬ dS d.ah.length d.au=0:=by simpa using h1
   unfold Hid;rw[HE.out,if_neg this]
  clear h1;refine eY (dw ?_)
  go_wp2_with (go_at_call 171;refine(iL _ _ H1.out _).mono ?_;rintro e w' ⟨rfl,hw3⟩;have hS3:ak w1 w':=(by rw[hw3];exact ak.alloc (by assumption) _);obtain⟨f0,f1,f2,f3,f4⟩:=RF.out _ hS3;clear hw3)
  exact vC _ _ _ rfl 0 _ (by assumption) (by assumption) _ ⟨by rw[HF.out],SET.out _ _ (by assumption)⟩
 have H1:Hid ((dS d.ah.length d.au == 0)=true):=h1
 have HE1:Hid (aZ d=if iM d then (if jy d && fF d then 0 else 1) else 2):=by
  have:dS d.ah.length d.au=0:=by simpa using h1
  unfold Hid;rw[HE.out,if_pos this]
 clear h1 HE;refine eY (dw ?_)
 go_wp2_with (go_at_call 171;refine(gI _ _ H1.out _).mono ?_;rintro e w3 ⟨rfl,hw3⟩;have hS3:ak w1 w3:=(by rw[hw3];exact ak.alloc (by assumption) _);obtain⟨f0,f1,f2,f3,f4⟩:=RF.out _ hS3;clear hw3)
 refine eY (eY (dw ?_))
 go_wp2_with (go_at_call 172;refine(Mk ⟨ga,gl,gc,na,d.ah.length,nc,wa,d.aB.length,wc⟩ _).mono ?_;rintro e w' ⟨rfl,rfl⟩)
 obtain⟨w4,hw4⟩:∃w4,w3.alloc (.cells #[.slice ga gl gc,.slice na d.ah.length nc,.slice wa d.aB.length wc] 175)=w4:=⟨_,rfl⟩;have hS4:ak w1 w4:=by rw[<-hw4];exact ak.alloc (by assumption) _
 have z1:w4.cell? ⟨w3.heap.size,1,none⟩=some (.slice na d.ah.length nc):=by rw[<-hw4];simp[go_sem]
 have z2:w4.cell? ⟨w3.heap.size,2,none⟩=some (.slice wa d.aB.length wc):=by rw[<-hw4];simp[go_sem]
 have VU:w3.heap.size < w4.heap.size:=by rw[<-hw4];simp
 rw[hw4];clear hw4;refine uZ ?_
 refine yP (m:=1) func153 (gf:=180) (lb:=#[.pointer (some ⟨w3.heap.size,0,none⟩)]) rfl (enters_of func180 (by kernel_rfl) rfl) (Nat.le_refl _)
  (Ml 1 w3.heap.size w4 VU ⟨ga,gl,gc,na,d.ah.length,nc,wa,d.aB.length,wc⟩ d (hW1.ay hS4) z1 z2) (fun _=>rfl)
  (fun i W=>ak w1 W/\((iE d).take i).all (fun k=>decide (k<=40))=true)
  (fun ch W=>ch=pan 2/\ak w1 W/\iM d=false)
  (fun i A B hA hk=>⟨⟨hA.1.below.trans (hk.below.mono hS4.size)⟩,hA.2⟩) (fun _ _ _ _ h=>h.elim) ⟨hS4,rfl⟩ ?round ?done ?pan
 case pan =>
  rintro D ch W hD ⟨rfl,hSW,hF⟩ hK;have hS9:ak w1 (W.putObj D (.deferred none)):=⟨hSW.below.trans ((KX.put (X:=none) (.deferred none) hK rfl hD).below.mono hS4.size)⟩;obtain⟨f0,f1,f2,f3,f4⟩:=RF.out _ hS9;have HF:Hid (aZ d=2):=by unfold Hid;rw[HE1.out,hF];rfl
  exact⟨by simp,.inl ⟨_,_,rfl,run_takeDeferred hK,vC _ _ _ rfl 0 _ f3 f4 _ ⟨by rw[HF.out],SET.out _ _ hS9⟩⟩⟩
 case round =>
  rintro l i ⟨sa,sl,sc⟩ W W' hsz' ⟨hSW,hall⟩ hiN hx;have HX:Hid ((iE d)[i]? = some sl):=hx;have HA:Hid (((iE d).take i).all (fun k=>decide (k<=40))=true):=hall;have HD:Hid (decide (sl<=40)=decide ((sl:Int)<=40)):=by unfold Hid;rw[Bool.eq_iff_iff];simp;omega
  clear hx hall
  gi_wp2
  refine⟨trivial, ?_⟩;cases h2:decide ((sl:Int)<=40)
  ·have HF:Hid (iM d=false):=ni HX.out (by rw[HD.out];exact h2)
   gi_wp2_with (refine⟨trivial,rfl, ?_⟩;gi_at_call 171;refine(ng (iL _ _ (by first | exact h2 | rfl) _)).mono ?_;rintro e w' ⟨rfl,rfl⟩)
   exact⟨rfl,NC.iD ((ak.refl W').alloc _),rfl,hSW.alloc _,HF.out⟩
  ·have HF:Hid (((iE d).take (i+1)).all (fun k=>decide (k<=40))=true):=jI HX.out HA.out (by rw[HD.out];exact h2)
   gi_wp2_with (refine⟨trivial,rfl, ?_⟩;gi_at_call 171;refine(ng (gI _ _ (by first | exact h2 | rfl) _)).mono ?_;rintro e w' ⟨rfl,rfl⟩)
   exact⟨NC.iD ((ak.refl W').alloc _),KX.iD ((ak.refl W').alloc _) hsz',hSW.alloc _,HF.out⟩
 case done =>
  rintro D W hD ⟨hSW,hall⟩ hK
  have HE2:Hid (aZ d=if jy d && fF d then 0 else 1):=by
   have:iM d=true:=by rw[List.take_of_length_le (Nat.le_refl _)]at hall;exact hall
   unfold Hid;rw[HE1.out,this];rfl
  have OUT:Hid (∀y,ak W y->y.heap[D]? = some (.deferred (some []))/\ak w1 y/\ak w1 (y.putObj D (.deferred none))/\(y.putObj D (.deferred none)).cell? ⟨w.heap.size+1,0,none⟩=some (.int .i64 0)/\(y.putObj D (.deferred none)).frozen? ⟨w.heap.size+1,0,none⟩=false):=by
   intro y hy;have hk:=hy.block hK;have hs:ak w1 (y.putObj D (.deferred none)):=⟨(hSW.trans hy).below.trans ((KX.put (X:=none) (.deferred none) hk rfl hD).below.mono hS4.size)⟩;exact⟨hk,hSW.trans hy,hs,(RF.out _ hs).2.2.2.1,(RF.out _ hs).2.2.2.2⟩
  obtain⟨f0,f1,f2,f3,f4⟩:=RF.out _ hSW;have hWW:=hW1.ay hSW;clear hall hK;refine dw ?_
  go_wp2_with fail
  go_loopw [32] (fun i wr=>(∃k:Nat,k<=d.ah.length/\i=.int .i64 k/\(List.range k).all (fun n=>match d.ah[n]? with | some nd=>aX d n nd | none=>true)=true)/\ak W wr) (fun i _=>d.ah.length - (intOf i).toNat)
  case atStart=>exact⟨⟨0,Nat.zero_le _,rfl,rfl⟩,ak.refl _⟩
  case round =>
   obtain⟨⟨k,hk,rfl,hn⟩,hS⟩:=hrel
   have HN:Hid ((List.range k).all (fun n=>match d.ah[n]? with | some nd=>aX d n nd | none=>true)=true):=hn
   clear hn;obtain⟨g0,g1,g2,g3,g4⟩:=RF.out _ (hSW.trans hS);by_cases hlt:k < d.ah.length
   ·obtain⟨nd,hnd⟩:∃nd,d.ah[k]? = some nd:=⟨_,zQ1 hlt⟩;have HND:Hid (d.ah[k]? = some nd):=hnd;clear hnd;cases h5:aX d k nd
    ·have HF:Hid (aZ d=1):=by
      have:jy d=false:=nK hlt (by rw[HND.out];exact h5);unfold Hid;rw[HE2.out,this];rfl
     have H5:Hid (aX d k nd=false):=h5;clear h5
     go_wp2_with (go_at_call 173;refine(RX W ⟨ga,gl,gc,na,d.ah.length,nc,wa,d.aB.length,wc⟩ d k nd H5.out hWW HND.out _ hS).mono ?_;rintro e w' ⟨rfl,hS6⟩)
     obtain⟨o1,o2,o3,o4,o5⟩:=OUT.out _ (by assumption);exact⟨by simp,.inl ⟨_,_,rfl,run_takeDeferred o1,vC _ _ _ rfl 0 _ o4 o5 _ ⟨by rw[HF.out],SET.out _ _ o3⟩⟩⟩
    ·have H5:Hid (aX d k nd=true):=h5;clear h5
     go_wp2_with (go_at_call 173;refine(RV W ⟨ga,gl,gc,na,d.ah.length,nc,wa,d.aB.length,wc⟩ d k nd H5.out hWW HND.out _ hS).mono ?_;rintro e w' ⟨rfl,hS6⟩)
     go_roundw
     case rel=>exact⟨⟨k+1,by omega,by go_num,jS HN.out (by rw[HND.out];exact H5.out)⟩,by assumption⟩
     case measure=>simp[intOf];omega
   ·have HNB:Hid (jy d=true):=by
     have:=HN.out;rw[show k=d.ah.length from by omega]at this;exact this
    cases h6:fF d
    ·have HF:Hid (aZ d=1):=by unfold Hid;rw[HE2.out,h6];simp
     have H6:Hid (fF d=false):=h6;clear h6
     go_wp2_with (go_at_call 174;refine(Qg W ⟨ga,gl,gc,na,d.ah.length,nc,wa,d.aB.length,wc⟩ d H6.out hWW _ hS).mono ?_;rintro e w' ⟨rfl,hS6⟩)
     obtain⟨o1,o2,o3,o4,o5⟩:=OUT.out _ (by assumption);exact⟨by simp,.inl ⟨_,_,rfl,run_takeDeferred o1,vC _ _ _ rfl 0 _ o4 o5 _ ⟨by rw[HF.out],SET.out _ _ o3⟩⟩⟩
    ·have HF:Hid (aZ d=0):=by unfold Hid;rw[HE2.out,h6,HNB.out];rfl
     have H6:Hid (fF d=true):=h6;clear h6
     go_wp2_with (go_at_call 174;refine(Qf W ⟨ga,gl,gc,na,d.ah.length,nc,wa,d.aB.length,wc⟩ d H6.out hWW _ hS).mono ?_;rintro e w6 ⟨rfl,hS6⟩;obtain⟨m0,m1,m2,m3,m4⟩:=RF.out _ (hSW.trans hS6))
     obtain⟨o1,o2,o3,o4,o5⟩:=OUT.out _ hS6;have hDX:D≠w.heap.size+1:=by have:=hS4.size;omega
     have o6:(w6.setCell ⟨w.heap.size+1,0,none⟩ (.int .i64 0)).heap[D]? = some (.deferred (some [])):=(Below.heap_setCell _ _ _ _ hDX).trans o1
     have o7:((w6.setCell ⟨w.heap.size+1,0,none⟩ (.int .i64 0)).putObj D (.deferred none)).cell? ⟨w.heap.size+1,0,none⟩=some (.int .i64 0) :=
      (World.cell?_of_block (w:=w6.setCell ⟨w.heap.size+1,0,none⟩ (.int .i64 0)) (World.putObj_heap_other (Ne.symm hDX))).trans (World.cell?_setCell_same' _ _ _ (by rw[m3];rfl))
     have o8:ak w ((w6.setCell ⟨w.heap.size+1,0,none⟩ (.int .i64 0)).putObj D (.deferred none)):=by
      refine⟨(SET.out w6 (.int .i64 0) o2).below.trans ?_⟩;exact(KX.put (X:=none) (n:=w.heap.size) (.deferred none) o6 rfl (by have:=hS1.size;have:=hS4.size;omega)).below
     exact⟨by simp,.inl ⟨_,_,rfl,run_takeDeferred o6,Ni _ _ _ rfl 0 o7 _ ⟨by rw[HF.out],o8⟩⟩⟩
theorem nV(x:WV)(d:Wd)(w:World)(hW:WAt w x d) :
  Calls prog 129 #[.agg #[.slice x.ga x.gl x.gc,.slice x.na x.nl x.nc,.slice x.wa x.wl x.wc]] w fun e w'=>e=.returned (.int .i64 (aZ d))/\ak w w':=by
 have hS1:ak w (w.alloc (.cells #[.slice x.ga x.gl x.gc,.slice x.na x.nl x.nc,.slice x.wa x.wl x.wc] 31)):=(ak.refl w).alloc _
 go_enter func129,ntmps129
 go_wp2_with (go_at_call 153;refine(II x d _ (hW.ay hS1)).mono ?_;rintro e w' ⟨rfl,hS2⟩)
 go_ret
 exact⟨rfl,hS1.trans (by assumption)⟩
end Go.Proofs.YtediempflagfkaaGreatDoor
set_option maxHeartbeats 8000000
namespace Go.Proofs.YtediempflagfkaaGreatDoor
open _root_.Go.Proofs.Tryz hiding checked
set_option maxRecDepth 8000
open Go.RowKit Go.Shelf
def qd(nd:Nd):Bool:=decide (nd.held.length<=40) && decide (nd.aG.length<=40)
def wV(row:List (List Mg)):Bool:=row.all fun l=>decide (l.length<=40)
theorem uR(d:Wd):iM d=(d.ah.all qd && d.aB.all wV):=by
 unfold iM iE jl kD qd wV;rw[List.all_append,List.all_flatMap,List.all_flatMap]
 congr 1
 ·congr 1;funext nd;simp
 ·congr 1;funext row;rw[List.all_map];rfl
def jM(d:Wd)(n:Nat):Bool:=decide ((d.aB[n]?.getD []).length=d.ah.length) && (match d.ah[n]? with | some nd=>aX d n nd | none=>true)
def kN(d:Wd)(f t:Nat):Bool:=bA d f t ((d.aB[f]?.getD [])[t]?.getD [])
theorem Ld(d:Wd):(jy d && fF d)=(decide (d.aB.length=d.ah.length) && ((List.range d.ah.length).all (jM d) && (List.range d.ah.length).all fun f=>(List.range d.ah.length).all fun t=>kN d f t)):=by
 by_cases hl:d.aB.length=d.ah.length
 ·rw[Bool.eq_iff_iff];unfold jy fF sI jM kN;rw[hl];simp only[Bool.and_eq_true,List.all_eq_true,List.mem_range,decide_eq_true_eq,decide_true,true_and];constructor
  ·rintro⟨h1,h2⟩;refine⟨fun n hn=>⟨(h2 n hn).1,h1 n hn⟩,fun f hf t ht=>(h2 f hf).2 t (by rw[(h2 f hf).1];exact ht)⟩
  ·rintro⟨h1,h2⟩;refine⟨fun n hn=>(h1 n hn).2,fun f hf=>⟨(h1 f hf).1,fun t ht=>h2 f hf t (by rw[(h1 f hf).1]at ht;exact ht)⟩⟩
 ·have:fF d=false:=by unfold fF;simp[hl]
  rw[this];simp[hl]
theorem Cm(w0:World)(x:WV)(d:Wd)(n:Nat)(nd:Nd)(v:Bool)(hv:aX d n nd=v)(hW:WAt w0 x d)(hn:d.ah[n]? = some nd)(w:World)(h:ak w0 w) :
  Calls prog 83 #[.agg #[.slice x.ga x.gl x.gc,.slice x.na x.nl x.nc,.slice x.wa x.wl x.wc],.int .i64 n] w fun e w'=>e=.returned (.bool v)/\ak w0 w' :=
 (FH x d n nd w (hW.ay h) hn).mono fun _ _ ⟨he,hw⟩=>⟨by rw[<-hv];exact he,h.trans hw⟩
theorem Cn(w0:World)(x:WV)(d:Wd)(f t:Nat)(row:List (List Mg))(l:List Mg)(v:Bool)(hv:bA d f t l=v)(hW:WAt w0 x d)(hr:d.aB[f]? = some row)(hl:row[t]? = some l)(w:World)(h:ak w0 w) :
  Calls prog 84 #[.agg #[.slice x.ga x.gl x.gc,.slice x.na x.nl x.nc,.slice x.wa x.wl x.wc],.int .i64 f,.int .i64 t] w fun e w'=>e=.returned (.bool v)/\ak w0 w' :=
 (FI x d f t row l w (hW.ay h) hr hl).mono fun _ _ ⟨he,hw⟩=>⟨by rw[<-hv];exact he,h.trans hw⟩
set_option maxRecDepth 40000 in
theorem sO(x:WV)(d:Wd)(w:World)(hW:WAt w x d) :
  Calls prog 64 #[.agg #[.slice x.ga x.gl x.gc,.slice x.na x.nl x.nc,.slice x.wa x.wl x.wc]] w fun e w'=>e=.returned (.int .i64 (aZ d))/\ak w w':=by
 obtain⟨ga,gl,gc,na,nl,nc,wa,wl,wc⟩:=x;have hwl:=hW.r.bq;have hwm:=hW.r.dY;have hnl:=hW.n.bq;have hnm:=hW.n.dY;dsimp only at hwl hwm hnl hnm ⊢;subst hwl hnl;obtain⟨w1,hw1⟩:∃w1,w.alloc (.cells #[.slice ga gl gc,.slice na d.ah.length nc,.slice wa d.aB.length wc] 31)=w1:=⟨_,rfl⟩;have hS1:=aF hw1;have hsz:w.heap.size < w1.heap.size:=by rw[<-hw1];simp
 have b0:w1.cell? ⟨w.heap.size,0,none⟩=some (.slice ga gl gc):=by rw[<-hw1];simp[go_sem]
 have b1:w1.cell? ⟨w.heap.size,1,none⟩=some (.slice na d.ah.length nc):=by rw[<-hw1];simp[go_sem]
 have b2:w1.cell? ⟨w.heap.size,2,none⟩=some (.slice wa d.aB.length wc):=by rw[<-hw1];simp[go_sem]
 have hW1:=hW.ay hS1;have hG1:=hW1.g;have hR1:=hW1.r;have hN1:=hW1.n
 have RF:Hid (∀y,ak w1 y->y.cell? ⟨w.heap.size,0,none⟩=some (.slice ga gl gc)/\y.cell? ⟨w.heap.size,1,none⟩=some (.slice na d.ah.length nc)/\y.cell? ⟨w.heap.size,2,none⟩=some (.slice wa d.aB.length wc)):=fun y hy =>
  ⟨(hy.av (by omega) _).trans b0,(hy.av (by omega) _).trans b1,(hy.av (by omega) _).trans b2⟩
 have HE:Hid (aZ d=if dS d.ah.length d.au=0 then (if iM d then (if jy d && fF d then 0 else 1) else 2) else dS d.ah.length d.au):=rfl;cases h1:(dS d.ah.length d.au != 0)
 rotate_left
 ·have HF:Hid (aZ d=dS d.ah.length d.au):=by
   have:¬ dS d.ah.length d.au=0:=by simpa using h1
   unfold Hid;rw[HE.out,if_neg this]
  go_enter func64,ntmps64
  go_wp2_with (go_at_call 15;refine(xM w1 _ _ _ _ _ d.au hG1 (ak.refl _)).mono ?_;rintro e w2 ⟨rfl,hS2⟩)
  go_ret
  exact⟨by rw[HF.out];rfl,hS1.trans (by assumption)⟩
 have HE1:Hid (aZ d=if iM d then (if jy d && fF d then 0 else 1) else 2):=by
  have:dS d.ah.length d.au=0:=by simpa using h1
  unfold Hid;rw[HE.out,if_pos this]
 clear HE
 go_enter func64,ntmps64
 go_wp2_with (go_at_call 15;refine(xM w1 _ _ _ _ _ d.au hG1 (ak.refl _)).mono ?_;rintro e w2 ⟨rfl,hS2⟩)
 clear hw1 h1
 go_loopw [4] (fun i wr=>(∃k:Nat,k<=d.ah.length/\i=.int .i64 k/\(d.ah.take k).all qd=true)/\ak w1 wr) (fun i _=>d.ah.length - (intOf i).toNat)
 case atStart=>exact⟨⟨0,Nat.zero_le _,rfl,rfl⟩,by assumption⟩
 case round =>
  obtain⟨⟨k,hk,rfl,hn⟩,hS⟩:=hrel;have HN:Hid ((d.ah.take k).all qd=true):=hn;clear hn;obtain⟨f0,f1,f2⟩:=RF.out _ hS;by_cases hlt:k < d.ah.length
  ·obtain⟨nd,hnd⟩:∃nd,d.ah[k]? = some nd:=⟨_,zQ1 hlt⟩;obtain⟨bn,on,rfl,hbn,hcn⟩:=hN1.cells (by omega);obtain⟨k0,-,⟨v2,k2,ha,hc,rfl,hhc,hH⟩,⟨v3,k3,ta,tc,rfl,htc,hT⟩⟩:=hcn k nd hnd;have j2:wr.cell? ⟨bn,on+k*4+2,none⟩=_:=(hS.av hbn _).trans k2;have j3:wr.cell? ⟨bn,on+k*4+3,none⟩=_:=(hS.av hbn _).trans k3;have HND:Hid (d.ah[k]? = some nd):=hnd;have n1:(k:Int) < (d.ah.length:Int):=by omega
   clear hcn k0 k2 k3 hH hT hnd
   have HD:Hid (qd nd=(!(decide ((40:Int) < nd.held.length)) && !(decide ((40:Int) < nd.aG.length)))):=by
    unfold Hid qd;rw[Bool.eq_iff_iff];simp;omega
   have HBAD:Hid (qd nd=false->aZ d=2):=by
    intro h;have:iM d=false:=by rw[uR,ni HND.out h];rfl
    rw[HE1.out,this];rfl
   cases h2:decide ((40:Int) < nd.held.length)
   ·cases h3:decide ((40:Int) < nd.aG.length)
    ·have HF:Hid ((d.ah.take (k+1)).all qd=true):=jI HND.out HN.out (by rw[HD.out,h2,h3];rfl)
     go_wp2
     go_roundw
     case rel=>exact⟨⟨k+1,by omega,by go_num,HF.out⟩,hS⟩
     case measure=>simp[intOf];omega
    ·have HF:Hid (aZ d=2):=HBAD.out (by rw[HD.out,h3];simp)
     go_wp2
     go_ret
     exact⟨by rw[HF.out];rfl,hS1.trans hS⟩
   ·have HF:Hid (aZ d=2):=HBAD.out (by rw[HD.out,h2];simp)
    go_wp2
    go_ret
    exact⟨by rw[HF.out];rfl,hS1.trans hS⟩
  ·have HSN:Hid (d.ah.all qd=true):=by
    have:=HN.out;rw[List.take_of_length_le (by omega)]at this;exact this
   clear HN
   go_wp2_with fail
   clear hlt
   go_loopw [5,6] (fun i _ wr=>(∃k:Nat,k<=d.aB.length/\i=.int .i64 k/\(d.aB.take k).all wV=true)/\ak w1 wr) (fun i _ _=>d.aB.length - (intOf i).toNat)
   case atStart=>exact⟨⟨0,Nat.zero_le _,rfl,rfl⟩,by assumption⟩
   case round =>
    clear hS f0 f1 f2;obtain⟨⟨k,hk,rfl,hn⟩,hS⟩:=hrel;have HN:Hid ((d.aB.take k).all wV=true):=hn;clear hn;obtain⟨f0,f1,f2⟩:=RF.out _ hS;by_cases hlt:k < d.aB.length
    ·obtain⟨row,hrow⟩:∃row,d.aB[k]? = some row:=⟨_,zQ1 hlt⟩;obtain⟨bL,oL,rfl,hbL,hcL⟩:=hR1.cells (by omega);obtain⟨v4,k4,ra,rc,rfl,hrc,hR⟩:=hcL k row hrow;have hRm:=hR.dY;have nT:Hid (d.aB[k]? = some row):=hrow;have n1:(k:Int) < (d.aB.length:Int):=by omega
     clear hcL hrow
     go_wp2_with fail
     go_loopw [6] (fun i wr=>(∃j:Nat,j<=row.length/\i=.int .i64 j/\(row.take j).all (fun l=>decide (l.length<=40))=true)/\ak w1 wr) (fun i _=>row.length - (intOf i).toNat)
     case atStart=>exact⟨⟨0,Nat.zero_le _,rfl,rfl⟩,by assumption⟩
     case round =>
      clear hS f0 f1 f2;obtain⟨⟨j,hj,rfl,hnj⟩,hS⟩:=hrel;have HNJ:Hid ((row.take j).all (fun l=>decide (l.length<=40))=true):=hnj;clear hnj;obtain⟨f0,f1,f2⟩:=RF.out _ hS;have k5:wr.cell? ⟨bL,oL+k,none⟩=_:=(hS.av hbL _).trans k4;by_cases hjl:j < row.length
      ·obtain⟨l,hl⟩:∃l,row[j]? = some l:=⟨_,zQ1 hjl⟩;obtain⟨bR,oR,rfl,hbR,hcR⟩:=hR.cells (by omega);obtain⟨v6,k6,la,lc,rfl,hlc,hM⟩:=hcR j l hl;have k7:wr.cell? ⟨bR,oR+j,none⟩=_:=(hS.av hbR _).trans k6;have HL:Hid (row[j]? = some l):=hl;have n2:(j:Int) < (row.length:Int):=by omega
       have HD:Hid (decide (l.length<=40)=!(decide ((40:Int) < l.length))):=by unfold Hid;rw[Bool.eq_iff_iff];simp;omega
       clear hcR hl k6 hM;cases h8:decide ((40:Int) < l.length)
       ·have HF:Hid ((row.take (j+1)).all (fun l=>decide (l.length<=40))=true):=jI HL.out HNJ.out (by rw[HD.out,h8];rfl)
        go_wp2
        go_roundw
        case rel=>exact⟨⟨j+1,by omega,by go_num,HF.out⟩,hS⟩
        case measure=>simp[intOf];omega
       ·have HF:Hid (aZ d=2):=by
         have h9:wV row=false:=ni HL.out (by rw[HD.out,h8];rfl);have:iM d=false:=by rw[uR,ni nT.out h9];simp
         unfold Hid;rw[HE1.out,this];rfl
        go_wp2
        go_ret
        exact⟨by rw[HF.out];rfl,hS1.trans hS⟩
      ·have HF:Hid (wV row=true):=by
        have:=HNJ.out;rw[List.take_of_length_le (by omega)]at this;exact this
       go_wp2_with fail
       go_roundw
       case rel=>exact⟨⟨k+1,by omega,by go_num,jI nT.out HN.out HF.out⟩,hS⟩
       case measure=>simp[intOf];omega
    ·have HE2:Hid (aZ d=if jy d && fF d then 0 else 1):=by
      have h9:d.aB.all wV=true:=by
       have:=HN.out;rw[List.take_of_length_le (by omega)]at this;exact this
      have:iM d=true:=by rw[uR,HSN.out,h9];rfl
      unfold Hid;rw[HE1.out,this];rfl
     clear HN HE1 HSN;cases h4:((d.aB.length:Int) != (d.ah.length:Int))
     rotate_left
     ·have HF:Hid (aZ d=1):=by
       have:¬ d.aB.length=d.ah.length:=by have h:=h4;simp at h;omega
       unfold Hid;rw[HE2.out,Ld];simp[this]
      go_wp2
      go_ret
      exact⟨by rw[HF.out];rfl,hS1.trans hS⟩
     have HWN:Hid (d.aB.length=d.ah.length):=by unfold Hid;have h:=h4;simp at h;omega
     have HE3:Hid (aZ d=if ((List.range d.ah.length).all (jM d) && (List.range d.ah.length).all fun f=>(List.range d.ah.length).all fun t=>kN d f t) then 0 else 1):=by
      unfold Hid;rw[HE2.out,Ld];simp[HWN.out]
     clear HE2
     go_wp2_with fail
     clear h4 hlt
     go_loopw [7] (fun i wr=>(∃k:Nat,k<=d.ah.length/\i=.int .i64 k/\(List.range k).all (jM d)=true)/\ak w1 wr) (fun i _=>d.ah.length - (intOf i).toNat)
     case atStart=>exact⟨⟨0,Nat.zero_le _,rfl,rfl⟩,by assumption⟩
     case round =>
      clear hS f0 f1 f2;obtain⟨⟨k,hk,rfl,hn⟩,hS⟩:=hrel;have HN:Hid ((List.range k).all (jM d)=true):=hn;clear hn;obtain⟨f0,f1,f2⟩:=RF.out _ hS;by_cases hlt:k < d.ah.length
      ·obtain⟨row,hrow⟩:∃row,d.aB[k]? = some row:=⟨_,zQ1 (by have:=HWN.out;omega)⟩;obtain⟨nd,hnd⟩:∃nd,d.ah[k]? = some nd:=⟨_,zQ1 hlt⟩;obtain⟨bL,oL,rfl,hbL,hcL⟩:=hR1.cells (by have:=HWN.out;omega);obtain⟨v4,k4,ra,rc,rfl,hrc,hR⟩:=hcL k row hrow
       have HRN:Hid (jM d k=(!((row.length:Int) != (d.ah.length:Int)) && aX d k nd)):=by
        unfold Hid jM;rw[hrow,hnd,Option.getD_some];congr 1;rw[Bool.eq_iff_iff];simp;omega
       have HND:Hid (d.ah[k]? = some nd):=hnd;have n1:(k:Int) < (d.aB.length:Int):=by have:=HWN.out;omega
       have HBAD:Hid (jM d k=false->aZ d=1):=by
        intro h;rw[HE3.out,nK hlt h];rfl
       have hne:Nonempty (Later w1):=⟨⟨w1,ak.refl w1⟩⟩;have gw:∀(y:Later w1) (o:Nat),y.w.cell? ⟨w.heap.size,o,none⟩=w1.cell? ⟨w.heap.size,o,none⟩:=fun y o=>y.cell (by omega);have gL:∀(y:Later w1) (o:Nat),y.w.cell? ⟨bL,o,none⟩=w1.cell? ⟨bL,o,none⟩:=fun y o=>y.cell hbL;clear hcL hrow hnd hR;cases c3:((row.length:Int) != (d.ah.length:Int))
       rotate_left
       ·have HF:Hid (aZ d=1):=HBAD.out (by rw[HRN.out,c3];rfl)
        go_wp2_with fail
        refine aH (by kernel_rfl) (by kernel_rfl) hS ?_
        repeat (go_big_quiet_step (fail))
        refine wpQuiet_nil ?_;intro w9 hS9
        go_wp2
        go_ret
        exact⟨by rw[HF.out];rfl,hS1.trans hS9⟩
       cases c4:aX d k nd
       ·have HF:Hid (aZ d=1):=HBAD.out (by rw[HRN.out,c4];simp);have C4:Hid (aX d k nd=false):=c4;clear c4
        go_wp2_with fail
        refine aH (by kernel_rfl) (by kernel_rfl) hS ?_
        repeat (go_big_quiet_step ((go_at_call 83;exact Later.call (Cm w1 ⟨ga,gl,gc,na,d.ah.length,nc,_,d.aB.length,wc⟩ d k nd _ C4.out hW1 HND.out))))
        refine wpQuiet_nil ?_;intro w9 hS9
        go_wp2
        go_ret
        exact⟨by rw[HF.out];rfl,hS1.trans hS9⟩
       ·have HF:Hid ((List.range (k+1)).all (jM d)=true):=jS HN.out (by rw[HRN.out,c3,c4];rfl);have C4:Hid (aX d k nd=true):=c4;clear c4
        go_wp2_with fail
        refine aH (by kernel_rfl) (by kernel_rfl) hS ?_
        repeat (go_big_quiet_step ((go_at_call 83;exact Later.call (Cm w1 ⟨ga,gl,gc,na,d.ah.length,nc,_,d.aB.length,wc⟩ d k nd _ C4.out hW1 HND.out))))
        refine wpQuiet_nil ?_;intro w9 hS9
        go_wp2
        go_roundw
        case rel=>exact⟨⟨k+1,by omega,by go_num,HF.out⟩,hS9⟩
        case measure=>simp[intOf];omega
      ·have HRA:Hid ((List.range d.ah.length).all (jM d)=true):=by
        have:=HN.out;rw[show k=d.ah.length from by omega]at this;exact this
       have HE4:Hid (aZ d=if ((List.range d.ah.length).all fun f=>(List.range d.ah.length).all fun t=>kN d f t) then 0 else 1):=by
        unfold Hid;rw[HE3.out,HRA.out];rfl
       clear HE3 HN
       go_wp2_with fail
       clear hlt
       go_loopw [8,9] (fun i _ wr=>(∃k:Nat,k<=d.ah.length/\i=.int .i64 k/\(List.range k).all (fun f=>(List.range d.ah.length).all fun t=>kN d f t)=true)/\ak w1 wr) (fun i _ _=>d.ah.length - (intOf i).toNat)
       case atStart=>exact⟨⟨0,Nat.zero_le _,rfl,rfl⟩,by assumption⟩
       case round =>
        clear hS f0 f1 f2;obtain⟨⟨k,hk,rfl,hn⟩,hS⟩:=hrel;have HN:Hid ((List.range k).all (fun f=>(List.range d.ah.length).all fun t=>kN d f t)=true):=hn;clear hn;obtain⟨f0,f1,f2⟩:=RF.out _ hS;by_cases hlt:k < d.ah.length
        ·obtain⟨row,hrow⟩:∃row,d.aB[k]? = some row:=⟨_,zQ1 (by have:=HWN.out;omega)⟩;have nT:Hid (d.aB[k]? = some row):=hrow
         have HRL:Hid (row.length=d.ah.length):=by
          have:=HRA.out;rw[List.all_eq_true]at this;have:=this k (by simpa using hlt);unfold jM at this;rw[hrow,Bool.and_eq_true]at this;unfold Hid;simpa using this.1
         clear hrow
         go_wp2_with fail
         go_loopw [9] (fun i wr=>(∃j:Nat,j<=d.ah.length/\i=.int .i64 j/\(List.range j).all (fun t=>kN d k t)=true)/\ak w1 wr) (fun i _=>d.ah.length - (intOf i).toNat)
         case atStart=>exact⟨⟨0,Nat.zero_le _,rfl,rfl⟩,by assumption⟩
         case round =>
          clear hS f0 f1 f2;obtain⟨⟨j,hj,rfl,hnj⟩,hS⟩:=hrel;have HNJ:Hid ((List.range j).all (fun t=>kN d k t)=true):=hnj;clear hnj;obtain⟨f0,f1,f2⟩:=RF.out _ hS;by_cases hjl:j < d.ah.length
          ·obtain⟨l,hl⟩:∃l,row[j]? = some l:=⟨_,zQ1 (by have:=HRL.out;omega)⟩;have HL:Hid (row[j]? = some l):=hl;have HWA:Hid (kN d k j=bA d k j l):=by unfold Hid kN;rw[nT.out,Option.getD_some,hl];rfl
           clear hl;cases h8:bA d k j l
           ·have HF:Hid (aZ d=1):=by
             have:((List.range d.ah.length).all fun f=>(List.range d.ah.length).all fun t=>kN d f t)=false:=nK hlt (nK hjl (by rw[HWA.out];exact h8));unfold Hid;rw[HE4.out,this];rfl
            have H8:Hid (bA d k j l=false):=h8;clear h8
            go_wp2_with (go_at_call 84;refine(Cn w1 ⟨ga,gl,gc,na,d.ah.length,nc,wa,d.aB.length,wc⟩ d k j row l _ H8.out hW1 nT.out HL.out _ hS).mono ?_;rintro e w9 ⟨rfl,hS9⟩)
            go_ret
            exact⟨by rw[HF.out];rfl,hS1.trans (by assumption)⟩
           ·have H8:Hid (bA d k j l=true):=h8;clear h8
            go_wp2_with (go_at_call 84;refine(Cn w1 ⟨ga,gl,gc,na,d.ah.length,nc,wa,d.aB.length,wc⟩ d k j row l _ H8.out hW1 nT.out HL.out _ hS).mono ?_;rintro e w9 ⟨rfl,hS9⟩)
            go_roundw
            case rel=>exact⟨⟨j+1,by omega,by go_num,jS HNJ.out (by rw[HWA.out];exact H8.out)⟩,by assumption⟩
            case measure=>simp[intOf];omega
          ·have HF:Hid ((List.range d.ah.length).all (fun t=>kN d k t)=true):=by
            have:=HNJ.out;rw[show j=d.ah.length from by omega]at this;exact this
           go_wp2_with fail
           go_roundw
           case rel=>exact⟨⟨k+1,by omega,by go_num,jS HN.out HF.out⟩,hS⟩
           case measure=>simp[intOf];omega
        ·have HF:Hid (aZ d=0):=by
          have:=HN.out;rw[show k=d.ah.length from by omega]at this;unfold Hid;rw[HE4.out,this];rfl
         go_wp2
         go_ret
         exact⟨by rw[HF.out];rfl,hS1.trans hS⟩
end Go.Proofs.YtediempflagfkaaGreatDoor
set_option maxHeartbeats 2000000
namespace Go.Proofs.YtediempflagfkaaGreatDoor
open _root_.Go.Proofs.Tryz hiding checked
set_option maxRecDepth 8000
open Go.RowKit Go.Shelf
def kZ(d:Wd)(n:Nat)(p:Nat × Nat):Bool:=((p.2:Int) != (n:Int)) && (hasB d.au p.1 n && hasB d.au p.1 p.2)
def oV(d:Wd)(n:Nat)(nd:Nd)(acc:Int)(p:Nat × Nat):Int:=if kZ d n p then (if eX nd.last p.1 p.2 < acc then eX nd.last p.1 p.2 else acc) else acc
def kr(d:Wd)(n:Nat)(nd:Nd)(i:Nat):Int:=((pairs d.au.length d.ah.length).take i).foldl (oV d n nd) nd.aK
def p8(d:Wd)(n:Nat)(nd:Nd):Int:=(pairs d.au.length d.ah.length).foldl (oV d n nd) nd.aK
theorem vT{d:Wd}{n:Nat}{nd:Nd}{i:Nat}{p:Nat × Nat}(h:(pairs d.au.length d.ah.length)[i]? = some p):kr d n nd (i+1)=oV d n nd (kr d n nd i) p:=by
 unfold kr;rw[List.take_add_one,h,List.foldl_append];rfl
theorem Dj(d:Wd)(n:Nat)(nd:Nd):kr d n nd (d.au.length*d.ah.length)=p8 d n nd:=by
 unfold kr p8;rw[List.take_of_length_le (by rw[kT];exact Nat.le_refl _)]
def aM(d:Wd)(n:Int):Int:=if aZ d=0 then (if inB n 0 ((d.ah.length:Int) - 1) then 0 else 4) else aZ d
theorem jO(w0 w:World)(x:WV)(d:Wd)(hW:WAt w x d)(h:ak w0 w) :
  Calls prog 64 #[.agg #[.slice x.ga x.gl x.gc,.slice x.na x.nl x.nc,.slice x.wa x.wl x.wc]] w fun e w'=>e=.returned (.int .i64 (aZ d))/\ak w0 w' :=
 (sO x d w hW).mono fun _ _ ⟨he,hw⟩=>⟨he,h.trans hw⟩
theorem iJ(x:WV)(d:Wd)(n:Int)(w:World)(hW:WAt w x d) :
  Calls prog 43 #[.agg #[.slice x.ga x.gl x.gc,.slice x.na x.nl x.nc,.slice x.wa x.wl x.wc],.int .i64 n] w fun e w'=>e=.returned (.int .i64 (aM d n))/\ak w w':=by
 obtain⟨ga,gl,gc,na,nl,nc,wa,wl,wc⟩:=x;have hnl:=hW.n.bq;have hnm:=hW.n.dY;dsimp only at hnl hnm ⊢;subst hnl;obtain⟨w1,hw1⟩:∃w1,w.alloc (.cells #[.slice ga gl gc,.slice na d.ah.length nc,.slice wa wl wc] 31)=w1:=⟨_,rfl⟩;have hS1:=aF hw1;have hsz:w.heap.size < w1.heap.size:=by rw[<-hw1];simp
 have b0:w1.cell? ⟨w.heap.size,0,none⟩=some (.slice ga gl gc):=by rw[<-hw1];simp[go_sem]
 have b1:w1.cell? ⟨w.heap.size,1,none⟩=some (.slice na d.ah.length nc):=by rw[<-hw1];simp[go_sem]
 have b2:w1.cell? ⟨w.heap.size,2,none⟩=some (.slice wa wl wc):=by rw[<-hw1];simp[go_sem]
 have hW1:=hW.ay hS1;have RF:Hid (∀y,ak w1 y->y.cell? ⟨w.heap.size,1,none⟩=some (.slice na d.ah.length nc)):=fun y hy=>(hy.av (by omega) _).trans b1;have hwk:IntKind.i64.wrap ((d.ah.length:Int) - 1)=(d.ah.length:Int) - 1:=IntWalk.i64_in _ (by omega);cases h1:(aZ d != 0)
 rotate_left
 ·have HF:Hid (aM d n=aZ d):=by
   have:¬ aZ d=0:=by simpa using h1
   unfold Hid aM;rw[if_neg this]
  go_enter func43,ntmps43
  go_wp2_with (go_at_call 64;refine(jO w1 _ ⟨ga,gl,gc,na,d.ah.length,nc,wa,wl,wc⟩ d hW1 (ak.refl _)).mono ?_;rintro e w2 ⟨rfl,hS2⟩;have f1:=RF.out _ hS2)
  go_ret
  exact⟨by rw[HF.out];rfl,hS1.trans (by assumption)⟩
 have HF:Hid (aM d n=if inB n 0 ((d.ah.length:Int) - 1) then 0 else 4):=by
  have:aZ d=0:=by simpa using h1
  unfold Hid aM;rw[if_pos this]
 cases h2:inB n 0 ((d.ah.length:Int) - 1)
 ·have HG:Hid (aM d n=4):=by unfold Hid;rw[HF.out,h2];rfl
  have H2:Hid (inB n 0 ((d.ah.length:Int) - 1)=false):=h2;clear h2
  go_enter func43,ntmps43
  go_wp2_with (first
   | (go_at_call 64;refine(jO w1 _ ⟨ga,gl,gc,na,d.ah.length,nc,wa,wl,wc⟩ d hW1 (ak.refl _)).mono ?_;rintro e w2 ⟨rfl,hS2⟩;have f1:=RF.out _ hS2)
   | (go_at_call 35;refine(bJ _ _ _ _).mono ?_;rw[H2.out];rintro e w' ⟨rfl,hw⟩;obtain rfl:=hw.symm))
  go_ret
  exact⟨by rw[HG.out];rfl,hS1.trans (by assumption)⟩
 ·have HG:Hid (aM d n=0):=by unfold Hid;rw[HF.out,h2];rfl
  have H2:Hid (inB n 0 ((d.ah.length:Int) - 1)=true):=h2;clear h2
  go_enter func43,ntmps43
  go_wp2_with (first
   | (go_at_call 64;refine(jO w1 _ ⟨ga,gl,gc,na,d.ah.length,nc,wa,wl,wc⟩ d hW1 (ak.refl _)).mono ?_;rintro e w2 ⟨rfl,hS2⟩;have f1:=RF.out _ hS2)
   | (go_at_call 35;refine(bJ _ _ _ _).mono ?_;rw[H2.out];rintro e w' ⟨rfl,hw⟩;obtain rfl:=hw.symm))
  go_ret
  exact⟨by rw[HG.out];rfl,hS1.trans (by assumption)⟩
structure j5 (d:Wd) (nd:Nd):Prop where
 len:nd.last.length=d.au.length
 rows:∀(g:Nat) (row:List Int),nd.last[g]? = some row->row.length=d.ah.length
set_option maxRecDepth 4000 in
theorem wY(x:WV)(d:Wd)(n:Nat)(nd:Nd)(w:World)(hW:WAt w x d)(hn:d.ah[n]? = some nd)(hL0:j5 d nd) :
  Calls prog 44 #[.agg #[.slice x.ga x.gl x.gc,.slice x.na x.nl x.nc,.slice x.wa x.wl x.wc],.int .i64 n] w fun e w'=>e=.returned (.int .i64 (p8 d n nd))/\ak w w':=by
 have hnl:=(zQ2.1 hn).1;obtain⟨ga,gl,gc,na,nl,nc,wa,wl,wc⟩:=x;have p9:=hW.n.bq;have hnm:=hW.n.dY;have hgl:=hW.g.bq;have hgm:=hW.g.dY;dsimp only at p9 hnm hgl hgm ⊢;subst p9 hgl;obtain⟨bn,on,rfl,hbn,hcn⟩:=hW.n.cells (by dsimp only;omega);obtain⟨k0,⟨v1,k1,la,lc,rfl,hlc,hL⟩,⟨v2,k2,ha,hc,rfl,hhc,hH⟩,⟨v3,k3,ta,tc,rfl,htc,hT⟩⟩:=hcn n nd hn;have hlm:=hL.dY;obtain⟨w1,hw1⟩:∃w1,(w.alloc (.cells #[.slice ga d.au.length gc,.slice (some ⟨bn,on,none⟩) d.ah.length nc,.slice wa wl wc] 31)).alloc (.cells #[.int .i64 nd.aK,.slice la nd.last.length lc,.slice ha nd.held.length hc,.slice ta nd.aG.length tc] 64)=w1:=⟨_,rfl⟩;have hS1:ak w w1:=by rw[<-hw1];exact((ak.refl w).alloc _).alloc _
 have hsz:w.heap.size+1 < w1.heap.size:=by rw[<-hw1];simp
 have b0:w1.cell? ⟨w.heap.size,0,none⟩=some (.slice ga d.au.length gc):=by rw[<-hw1];simp[go_sem]
 have b1:w1.cell? ⟨w.heap.size,1,none⟩=some (.slice (some ⟨bn,on,none⟩) d.ah.length nc):=by rw[<-hw1];simp[go_sem]
 have b3:w1.cell? ⟨w.heap.size+1,0,none⟩=some (.int .i64 nd.aK):=by rw[<-hw1];simp[go_sem]
 have b4:w1.cell? ⟨w.heap.size+1,1,none⟩=some (.slice la nd.last.length lc):=by rw[<-hw1];simp[go_sem]
 have hG1:Ints w1 ga d.au.length d.au:=hW.g.ay hS1;have hL1:=hL.ay lg hS1;have n1:(n:Int) < (d.ah.length:Int):=by omega
 clear hcn
 go_enter func44,ntmps44
 go_wp2
 clear hw1 k0 k1 k2 k3
 go_loopw [6,7,8] (fun o g _ wr=>(∃k:Nat,k<=d.au.length/\g=.int .i64 k/\o=.int .i64 (kr d n nd (k*d.ah.length)))/\wr=w1) (fun _ g _ _=>d.au.length - (intOf g).toNat)
 case atStart=>exact⟨⟨0,Nat.zero_le _,rfl,by unfold kr;simp⟩,rfl⟩
 case round =>
  obtain⟨⟨g,hg,rfl,rfl⟩,hwr⟩:=hrel;obtain rfl:=hwr.symm;clear hwr;by_cases hlt:g < d.au.length
  ·obtain⟨row,hrow⟩:∃row,nd.last[g]? = some row:=⟨_,zQ1 (by have:=hL0.len;omega)⟩;have hrl:=hL0.rows g row hrow;obtain⟨bL,oL,rfl,hbL,hcL⟩:=hL1.cells (by have:=hL0.len;omega);obtain⟨v4,k4,ra,rc,rfl,hrc,hR⟩:=hcL g row hrow;have hRm:=hR.dY;have hRc:=hR.cells;have nT:Hid (nd.last[g]? = some row):=hrow;have HRL:Hid (row.length=d.ah.length):=hrl;have g1:(g:Int) < (nd.last.length:Int):=by have:=hL0.len;omega
   clear hcL hrow hR hrl
   go_wp2_with fail
   go_loopw [6,8] (fun o i wr=>(∃k:Nat,k<=d.ah.length/\i=.int .i64 k/\o=.int .i64 (kr d n nd (g*d.ah.length+k)))/\wr=w1) (fun _ i _=>d.ah.length - (intOf i).toNat)
   case atStart=>exact⟨⟨0,Nat.zero_le _,rfl,rfl⟩,rfl⟩
   case round =>
    obtain⟨⟨k,hk,rfl,rfl⟩,hwr⟩:=hrel;obtain rfl:=hwr.symm;clear hwr;by_cases hkl:k < d.ah.length
    ·obtain⟨v,hv⟩:∃v,row[k]? = some v:=⟨_,zQ1 (by have:=HRL.out;omega)⟩;obtain⟨bR,oR,rfl,hbR,hcR⟩:=hRc (by have:=HRL.out;omega);have k6:w1.cell? ⟨bR,oR+k,none⟩=some (.int .i64 v):=by have:=hcR k (by have:=HRL.out;omega);rw[hv]at this;exact this
     have g2:(k:Int) < (row.length:Int):=by have:=HRL.out;omega
     have HV:Hid (eX nd.last g k=v):=by unfold Hid eX;rw[nT.out,Option.getD_some,hv];rfl
     have HS:Hid (kr d n nd (g*d.ah.length+(k+1))=if kZ d n (g,k) then (if v < kr d n nd (g*d.ah.length+k) then v else kr d n nd (g*d.ah.length+k)) else kr d n nd (g*d.ah.length+k)):=by
      have:=vT (n:=n) (nd:=nd) (lq hlt hkl);unfold oV at this;rw[HV.out]at this;exact this
     have HO:Hid (kZ d n (g,k)=(((k:Int) != (n:Int)) && (hasB d.au g n && hasB d.au g k))):=rfl;obtain⟨acc,hacc⟩:∃acc,kr d n nd (g*d.ah.length+k)=acc:=⟨_,rfl⟩;rw[hacc];have Uz:Hid (kr d n nd (g*d.ah.length+k)=acc):=hacc;clear hv hcR hRc hacc;cases h1:((k:Int) != (n:Int))
     all_goals cases h2:hasB d.au g n
     all_goals cases h3:hasB d.au g k
     all_goals
      have HO1:=HO.out;rw[h1,h2,h3]at HO1;have HS1:=HS.out;rw[HO1,Uz.out]at HS1;have HS2:Hid (kr d n nd (g*d.ah.length+(k+1))=_):=HS1;clear HO1 HS1;have H3:Hid (hasB d.au g k=_):=h3;clear h3
      go_wp2_with (go_at_call 68;refine(eu _ _ _ d.au _ _ _ hG1).mono ?_;(first | rw[h2] | rw[H3.out]);rintro e w' ⟨rfl,hw⟩;obtain rfl:=hw.symm)
     all_goals exact⟨⟨⟨k+1,by omega,by go_num,by rw[HS2.out];rfl⟩,trivial⟩,by simp[intOf];omega⟩
    ·obtain rfl:k=d.ah.length:=by omega
     go_wp2_with fail
     exact⟨⟨⟨g+1,by omega,by go_num,by rw[Nat.succ_mul]⟩,trivial⟩,by simp[intOf];omega⟩
  ·obtain rfl:g=d.au.length:=by omega
   go_wp2
   go_ret
   exact⟨by rw[Dj];rfl,hS1⟩
theorem Dk{d:Wd}(h:aZ d=0){n:Nat}{nd:Nd}(hn:d.ah[n]? = some nd):j5 d nd:=by
 have hk:=(zQ2.1 hn).1
 have h1:jy d=true:=by
  unfold aZ at h;by_cases c:dS d.ah.length d.au=0
  ·rw[if_pos c]at h;cases hs:iM d
   ·rw[hs]at h;simp at h
   ·rw[hs]at h;simp only[if_true]at h;cases hb:jy d
    ·rw[hb]at h;simp at h
    ·rfl
  ·rw[if_neg c]at h;exact absurd h c
 unfold jy at h1;rw[List.all_eq_true]at h1;have h2:=h1 n (by simpa using hk);rw[hn]at h2;have h2:aX d n nd=true:=h2;unfold aX nE at h2;simp only[Bool.and_eq_true,decide_eq_true_eq]at h2;obtain⟨⟨_,hl⟩,hlo,_⟩:=h2;refine⟨hl,fun g row hrow=>?_⟩;unfold fu at hlo;rw[List.all_eq_true]at hlo;have:=hlo g (by simpa using (zQ2.1 hrow).1);rw[hrow]at this;unfold lY at this;simp only[Bool.and_eq_true,decide_eq_true_eq]at this;exact this.1
def nU(d:Wd)(n:Int):Int:=if aM d n=0 then (match d.ah[n.toNat]? with | some nd=>p8 d n.toNat nd | none=>0) else 0
theorem wZ{d:Wd}{n:Int}(h:aM d n=0):aZ d=0/\∃(k:Nat) (nd:Nd),n=(k:Int)/\d.ah[k]? = some nd:=by
 unfold aM at h;by_cases c:aZ d=0
 ·rw[if_pos c]at h;refine⟨c, ?_⟩;cases hi:inB n 0 ((d.ah.length:Int) - 1)
  ·rw[hi]at h;simp at h
  ·have:0<=n/\n<=(d.ah.length:Int) - 1:=by simpa[inB] using hi
   exact⟨n.toNat,d.ah[n.toNat]'(by omega),by omega,zQ1 (by omega)⟩
 ·rw[if_neg c]at h;exact absurd h c
end Go.Proofs.YtediempflagfkaaGreatDoor
