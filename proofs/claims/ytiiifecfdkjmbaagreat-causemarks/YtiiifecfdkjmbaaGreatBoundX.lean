/- Lemmas. Lemmas. -/
import Derived.RegionIn
import Derived.BigRegionIn
import Derived.Test.YtiiifecfdkjmbaaGreatOthers
set_option maxHeartbeats 2000000
namespace Go.Proofs.YtiiifecfdkjmbaaGreat
open _root_.Go.Proofs.Tryz hiding checked
set_option maxRecDepth 8000
open Go.RowKit Go.Shelf
attribute [local go_sem] Oper.semAt_some
theorem Ia (x:WV) (n:Int) (w:World) :
  Calls prog 172 #[.agg #[.slice x.ga x.gl x.gc,.slice x.na x.nl x.nc,.slice x.wa x.wl x.wc,.int .i64 n]] w fun e w'=>e=.returned (.func (.func 207) #[] #[.pointer (some ⟨w.heap.size,0,none⟩)])/\w'=w.alloc (.cells #[.slice x.ga x.gl x.gc,.slice x.na x.nl x.nc,.slice x.wa x.wl x.wc,.int .i64 n] 130):=by
 go_enter func172,ntmps172
 go_wp2
 go_ret
 exact ⟨rfl,rfl⟩
theorem KX.same {n:Nat} {X:Option Nat} {A B:World} (h:KX n X A B) {p:Addr} {v:Value} (hc:A.cell? p=some v) (hX:some p.block≠X):B.heap[p.block]? = A.heap[p.block]?:=by
 have:∃ o,A.heap[p.block]? = some o/\o.isCells=true:=by
  unfold World.cell? at hc;split at hc
  ·rename_i c e z hb;exact ⟨_,hb,rfl⟩
  ·cases hc
 obtain ⟨o,ho,hoc⟩:=this;exact (h.cells _ _ ho hoc hX).trans ho.symm
set_option maxRecDepth 8000 in
theorem OA (x:WV) (d:Wd) (n:Nat) (nd:Nd) (w:World) (hW:WAt w x d) (hn:d.nodes[n]? = some nd) (hL0:kJ d nd) :
  Calls prog 118 #[.agg #[.slice x.ga x.gl x.gc,.slice x.na x.nl x.nc,.slice x.wa x.wl x.wc,.int .i64 n]] w fun e w'=>e=.returned (.int .i64 (uE d n nd))/\Since w w':=by
 have hnl:=(zQ2.1 hn).1;obtain ⟨ga,gl,gc,na,nl,nc,wa,wl,wc⟩:=x;have pE:=hW.n.hlen;have hnm:=hW.n.hmax;have hgl:=hW.g.hlen;have hgm:=hW.g.hmax;have hGw:=hW.g;dsimp only at pE hnm hgl hgm hGw ⊢;subst pE hgl;obtain ⟨bn,on,rfl,hbn,hcn⟩:=hW.n.cells (by dsimp only;omega);obtain ⟨k0,⟨v1,k1,la,lc,rfl,hlc,hL⟩,⟨v2,k2,ha,hc,rfl,hhc,hH⟩,⟨v3,k3,ta,tc,rfl,htc,hT⟩⟩:=hcn n nd hn;obtain ⟨w1,hw1⟩:∃ w1,((w.alloc (.cells #[.slice ga d.groups.length gc,.slice (some ⟨bn,on,none⟩) d.nodes.length nc,.slice wa wl wc,.int .i64 n] 130)).alloc (.cells #[.int .i64 nd.clock,.slice la nd.last.length lc,.slice ha nd.held.length hc,.slice ta nd.told.length tc] 45)).alloc (.cells #[.int .i64 nd.clock] 3)=w1:=⟨_,rfl⟩;have hS1:Since w w1:=by rw [<-hw1];exact (((Since.refl w).alloc _).alloc _).alloc _
 have hsz:w.heap.size+2 < w1.heap.size:=by rw [<-hw1];simp
 have b0:w1.cell? ⟨w.heap.size,0,none⟩=some (.slice ga d.groups.length gc):=by rw [<-hw1];simp [go_sem]
 have b1:w1.cell? ⟨w.heap.size,1,none⟩=some (.slice (some ⟨bn,on,none⟩) d.nodes.length nc):=by rw [<-hw1];simp [go_sem]
 have b2:w1.cell? ⟨w.heap.size,2,none⟩=some (.slice wa wl wc):=by rw [<-hw1];simp [go_sem]
 have b3:w1.cell? ⟨w.heap.size,3,none⟩=some (.int .i64 n):=by rw [<-hw1];simp [go_sem]
 have b4:w1.cell? ⟨w.heap.size+1,1,none⟩=some (.slice la nd.last.length lc):=by rw [<-hw1];simp [go_sem]
 have b5:w1.cell? ⟨w.heap.size+2,0,none⟩=some (.int .i64 nd.clock):=by rw [<-hw1];simp [go_sem]
 have b6:w1.frozen? ⟨w.heap.size+2,0,none⟩=false:=by rw [<-hw1];simp [go_sem]
 have n1:(n:Int) < (d.nodes.length:Int):=by omega
 clear hcn;refine lg func118 rfl ?_;simp only [ntmps118,List.size_toArray,List.length_cons,List.length_nil,Nat.reduceAdd,Nat.reduceSub,Array.replicate_succ,Array.replicate_zero,List.push_toArray,List.append_toArray,List.nil_append,List.cons_append];refine eG (cK ?_)
 go_wp2
 refine eG (cK ?_)
 go_wp2
 refine eG (cK ?_)
 go_wp2
 refine eG (eG (cK ?_))
 go_wp2_with (go_at_call 172;refine (Ia ⟨ga,d.groups.length,gc,_,d.nodes.length,nc,wa,wl,wc⟩ n _).mono ?_;rintro e w' ⟨rfl,rfl⟩)
 refine ug ?_;obtain ⟨w5,hw5⟩:∃ w5,w1.alloc (.cells #[.slice ga d.groups.length gc,.slice (some ⟨bn,on,none⟩) d.nodes.length nc,.slice wa wl wc,.int .i64 n] 130)=w5:=⟨_,rfl⟩;have wR:=ay hw5;have hS5:=hS1.trans wR;have z0:w5.cell? ⟨w1.heap.size,0,none⟩=some (.slice ga d.groups.length gc):=by rw [<-hw5];simp [go_sem]
 have z1:w5.cell? ⟨w1.heap.size,1,none⟩=some (.slice (some ⟨bn,on,none⟩) d.nodes.length nc):=by rw [<-hw5];simp [go_sem]
 have z3:w5.cell? ⟨w1.heap.size,3,none⟩=some (.int .i64 n):=by rw [<-hw5];simp [go_sem]
 have y4:w5.cell? ⟨w.heap.size+1,1,none⟩=some (.slice la nd.last.length lc):=(wR.cellAt (by omega) _).trans b4;have y5:w5.cell? ⟨w.heap.size+2,0,none⟩=some (.int .i64 nd.clock):=(wR.cellAt (by omega) _).trans b5;have y6:w5.frozen? ⟨w.heap.size+2,0,none⟩=false:=(wR.below.frozen (p:=⟨w.heap.size+2,0,none⟩) (by show w.heap.size+2 < _;omega)).trans b6;rw [hw5];clear hw5 hw1
 refine xZ (m:=1) func118 (gf:=207) (lb:=#[.pointer (some ⟨w1.heap.size,0,none⟩)]) rfl (enters_of func207 (by kernel_rfl) rfl) hS5.size
  (Ib 1 w1.heap.size (w.heap.size+2) w w5 hS5 (by omega) (by have:=wR.size;omega) ga gc _ nc d n hGw (by omega) z0 z1 z3) (fun _=>rfl)
  (fun i W=>Since w W/\W.cell? ⟨w.heap.size+2,0,none⟩=some (.int .i64 (jY d n nd i))/\W.frozen? ⟨w.heap.size+2,0,none⟩=false/\W.cell? ⟨w.heap.size+1,1,none⟩=some (.slice la nd.last.length lc))
  (fun _ _=>False)
  (fun i A B hA hk=>⟨⟨hA.1.below.trans (hk.below.mono hS5.size)⟩,hk.cell hA.2.1 (by simp),(World.frozen?_of_block (w:=A) (hk.same hA.2.1 (by simp))).trans hA.2.2.1,hk.cell hA.2.2.2 (by simp)⟩)
  (fun i A hA hi hs=>by
   obtain ⟨p,hp,ho⟩:=hs;refine ⟨hA.1, ?_,hA.2.2⟩;rw [vo hp];unfold oz;rw [ho];exact hA.2.1)
  ⟨hS5,by rw [y5];simp [jY],y6,y4⟩ ?round ?done ?pan
 case pan =>
  rintro D ch W hD h hK;exact h.elim
 case done =>
  rintro D W hD ⟨hSW,hc1,hf1,-⟩ hK;have HF:Hid (jY d n nd (d.groups.length*d.nodes.length)=uE d n nd):=Cj d n nd;refine cK ?_
  go_wp2
  refine ⟨by simp,.inl ⟨_,_,rfl,run_takeDeferred hK, ?_⟩⟩;refine ⟨_,results_tmp rfl _ _ _,by rw [<-HF.out];rfl,⟨hSW.below.trans ((KX.put (X:=none) (.deferred none) hK rfl hD).below.mono hS5.size)⟩⟩
 case round =>
  rintro l i ⟨g,k⟩ W W' hsz' ⟨hSW,hc1,hf1,hc2⟩ hiN ⟨hx,ho⟩;obtain ⟨hgl,hkl⟩:=Cx hx;obtain ⟨row,hrow⟩:∃ row,nd.last[g]? = some row:=⟨_,zQ1 (by have:=hL0.len;omega)⟩;have hrl:=hL0.rows g row hrow;obtain ⟨v,hv⟩:∃ v,row[k]? = some v:=⟨_,zQ1 (by omega)⟩;obtain ⟨bL,oL,rfl,hbL,hcL⟩:=hL.cells (by have:=hL0.len;omega);obtain ⟨v4,k4,ra,rc,rfl,hrc,hR⟩:=hcL g row hrow;obtain ⟨bR,oR,rfl,hbR,hcR⟩:=hR.cells (by omega);have k5:W'.cell? ⟨bL,oL+g,none⟩=_:=(hSW.cellAt hbL _).trans k4;have k6:W'.cell? ⟨bR,oR+k,none⟩=some (.int .i64 v):=(hSW.cellAt hbR _).trans (by have:=hcR k (by omega);rw [hv] at this;exact this);have g1:(g:Int) < (nd.last.length:Int):=by have:=hL0.len;omega
  have g2:(k:Int) < (row.length:Int):=by omega
  obtain ⟨acc,hacc⟩:∃ acc,jY d n nd i=acc:=⟨_,rfl⟩
  have HV:Hid (jY d n nd (i+1)=if v < acc then v else acc):=by
   unfold Hid;rw [vo hx,hacc];unfold oz;rw [ho];have:dW nd.last g k=v:=by unfold dW;rw [hrow,Option.getD_some,hv];rfl
   dsimp only;rw [this];rfl
  rw [hacc] at hc1;clear hcL hcR hrow hv hx ho k4 hacc hrl hR
  have Dn:NC W' ((W'.setCell ⟨w.heap.size+1+1,0,none⟩ (.int .i64 (if v < acc then v else acc))).drew)/\KX w.heap.size (some (w.heap.size+2)) W' ((W'.setCell ⟨w.heap.size+1+1,0,none⟩ (.int .i64 (if v < acc then v else acc))).drew) /\
    (Since w ((W'.setCell ⟨w.heap.size+1+1,0,none⟩ (.int .i64 (if v < acc then v else acc))).drew)/\((W'.setCell ⟨w.heap.size+1+1,0,none⟩ (.int .i64 (if v < acc then v else acc))).drew).cell? ⟨w.heap.size+2,0,none⟩=some (.int .i64 (jY d n nd (i+1)))
     /\ ((W'.setCell ⟨w.heap.size+1+1,0,none⟩ (.int .i64 (if v < acc then v else acc))).drew).frozen? ⟨w.heap.size+2,0,none⟩=false/\((W'.setCell ⟨w.heap.size+1+1,0,none⟩ (.int .i64 (if v < acc then v else acc))).drew).cell? ⟨w.heap.size+1,1,none⟩=some (.slice (some ⟨bL,oL,none⟩) nd.last.length lc)):=by
   rw [HV.out];obtain ⟨u,hu⟩:∃ u,(Value.int .i64 (if v < acc then v else acc))=u:=⟨_,rfl⟩;rw [hu];have hob:∀ j,j≠w.heap.size+2->((W'.setCell ⟨w.heap.size+2,0,none⟩ u).drew).heap[j]? = W'.heap[j]?:=fun j hj=>Below.heap_setCell W' ⟨w.heap.size+2,0,none⟩ u j hj
   have hcl:∃ o,W'.heap[w.heap.size+2]? = some o/\o.isCells=true:=by
    have:=hc1;unfold World.cell? at this;split at this
    ·rename_i hb;exact ⟨_,hb,rfl⟩
    ·cases this
   obtain ⟨o,Vf,hoc⟩:=hcl;refine ⟨fun j o' hj ho'=>?_,⟨?_,fun j o' hj ho' hX=>?_⟩,⟨?_⟩, ?_, ?_, ?_⟩
   ·refine (hob j ?_).trans hj;rintro rfl;rw [Vf] at hj;cases hj;rw [hoc] at ho';cases ho'
   ·exact (((Below.refl w.heap.size W').setCell (p:=⟨w.heap.size+2,0,none⟩) (by show w.heap.size<=w.heap.size+2;omega) u)).drew
   ·exact (hob j (by simpa using hX)).trans hj
   ·exact ((hSW.below.setCell (p:=⟨w.heap.size+2,0,none⟩) (by show w.heap.size<=w.heap.size+2;omega) u)).drew
   ·exact World.cell?_setCell_same' W' ⟨w.heap.size+2,0,none⟩ u (by rw [hc1];rfl)
   ·show (W'.setCell ⟨w.heap.size+2,0,none⟩ u).frozen? _=false;rw [World.frozen?_setCell];exact hf1
   ·exact (World.cell?_of_block (w:=W') (hob (w.heap.size+1) (by omega))).trans hc2
  clear hW hn hL0 hL hH hT hS1 wR hS5 z0 z1 z3 y4 y5 y6 b0 b1 b2 b3 b4 b5 b6 n1 hGw k0 k1 k2 k3 hnl hnm hgm hlc hhc htc hbn hsz hiN hSW hbL hbR hrc HV hgl hkl
  gi_wp2
  refine ⟨trivial, ?_⟩
  gi_wp2
  gi_region
  all_goals exact Dn
end Go.Proofs.YtiiifecfdkjmbaaGreat
set_option maxHeartbeats 2000000
namespace Go.Proofs.YtiiifecfdkjmbaaGreat
open _root_.Go.Proofs.Tryz hiding checked
set_option maxRecDepth 8000
open Go.RowKit Go.Shelf
theorem mY (w0 w:World) (x:WV) (d:Wd) (hW:WAt w x d) (h:Since w0 w) :
  Calls prog 39 #[.agg #[.slice x.ga x.gl x.gc,.slice x.na x.nl x.nc,.slice x.wa x.wl x.wc]] w fun e w'=>e=.returned (.int .i64 (aL d))/\Since w0 w' :=
 (nL x d w hW).mono fun _ _ ⟨he,hw⟩=>⟨he,h.trans hw⟩
theorem Ko (n:Int) (N:Nat):inB n 0 ((N:Int) - 1)=(!(decide (n < 0)) && !(decide ((N:Int)<=n))):=by
 unfold inB;rw [Bool.eq_iff_iff];simp;omega
def BH (x:WV) (d:Wd) (n:Int):Value:=if aV d n=0 then .agg #[.slice x.ga x.gl x.gc,.slice x.na x.nl x.nc,.slice x.wa x.wl x.wc,.int .i64 n] else .agg #[.slice none 0 0,.slice none 0 0,.slice none 0 0,.int .i64 0]
theorem wH (y:World) (b:Nat) (tmps:Array Value) (v5 a0 a1 a2 a3 o0 o1 o2 o3:Value) (h4:tmps[4]? = some (.pointer (some ⟨b,0,none⟩))) (h5:tmps[5]? = some v5)
  (r0:y.cell? ⟨b,0,none⟩=some o0) (r1:y.cell? ⟨b,1,none⟩=some o1) (r2:y.cell? ⟨b,2,none⟩=some o2) (r3:y.cell? ⟨b,3,none⟩=some o3) :
  (results Tryz.f117 tmps).run prog ((((y.setCell ⟨b,0,none⟩ a0).setCell ⟨b,1,none⟩ a1).setCell ⟨b,2,none⟩ a2).setCell ⟨b,3,none⟩ a3)=.ok (.tuple #[.agg #[a0,a1,a2,a3],v5]) ((((y.setCell ⟨b,0,none⟩ a0).setCell ⟨b,1,none⟩ a1).setCell ⟨b,2,none⟩ a2).setCell ⟨b,3,none⟩ a3):=by
 obtain ⟨Y,hY⟩:∃ Y,(((y.setCell ⟨b,0,none⟩ a0).setCell ⟨b,1,none⟩ a1).setCell ⟨b,2,none⟩ a2).setCell ⟨b,3,none⟩ a3=Y:=⟨_,rfl⟩;have c0:Y.cell? ⟨b,0,none⟩=some a0:=by rw [<-hY];simp [go_sem,r0]
 have c1:Y.cell? ⟨b,1,none⟩=some a1:=by rw [<-hY];simp [go_sem,r1]
 have c2:Y.cell? ⟨b,2,none⟩=some a2:=by rw [<-hY];simp [go_sem,r2]
 have c3:Y.cell? ⟨b,3,none⟩=some a3:=by rw [<-hY];simp [go_sem,r3]
 rw [hY];simp [results,Tryz.f117,go_sem,h4,h5,c0,c1,c2,c3]
set_option maxRecDepth 8000 in
theorem Oz (x:WV) (d:Wd) (n:Int) (w:World) (hW:WAt w x d) :
  Calls prog 117 #[.agg #[.slice x.ga x.gl x.gc,.slice x.na x.nl x.nc,.slice x.wa x.wl x.wc],.int .i64 n] w fun e w'=>e=.returned (.tuple #[BH x d n,.int .i64 (aV d n)])/\Since w w':=by
 obtain ⟨ga,gl,gc,na,nl,nc,wa,wl,wc⟩:=x;have hnl:=hW.n.hlen;have hnm:=hW.n.hmax;dsimp only at hnl hnm ⊢;subst hnl;obtain ⟨w1,hw1⟩:∃ w1,(w.alloc (.cells #[.slice ga gl gc,.slice na d.nodes.length nc,.slice wa wl wc] 26)).alloc (.cells #[.slice none 0 0,.slice none 0 0,.slice none 0 0,.int .i64 0] 130)=w1:=⟨_,rfl⟩;have hS1:Since w w1:=by rw [<-hw1];exact ((Since.refl w).alloc _).alloc _
 have hsz:w.heap.size+1 < w1.heap.size:=by rw [<-hw1];simp
 have b0:w1.cell? ⟨w.heap.size,0,none⟩=some (.slice ga gl gc):=by rw [<-hw1];simp [go_sem]
 have b1:w1.cell? ⟨w.heap.size,1,none⟩=some (.slice na d.nodes.length nc):=by rw [<-hw1];simp [go_sem]
 have b2:w1.cell? ⟨w.heap.size,2,none⟩=some (.slice wa wl wc):=by rw [<-hw1];simp [go_sem]
 have q0:w1.cell? ⟨w.heap.size+1,0,none⟩=some (.slice none 0 0):=by rw [<-hw1];simp [go_sem]
 have q1:w1.cell? ⟨w.heap.size+1,1,none⟩=some (.slice none 0 0):=by rw [<-hw1];simp [go_sem]
 have q2:w1.cell? ⟨w.heap.size+1,2,none⟩=some (.slice none 0 0):=by rw [<-hw1];simp [go_sem]
 have q3:w1.cell? ⟨w.heap.size+1,3,none⟩=some (.int .i64 0):=by rw [<-hw1];simp [go_sem]
 have hf:∀ o:Nat,w1.frozen? ⟨w.heap.size+1,o,none⟩=false:=by intro o;rw [<-hw1];simp [go_sem]
 have hW1:=hW.since hS1;have hSr:=Since.refl w1
 have RF:Hid (∀ y,Since w1 y->(y.cell? ⟨w.heap.size,0,none⟩=some (.slice ga gl gc)/\y.cell? ⟨w.heap.size,1,none⟩=some (.slice na d.nodes.length nc)/\y.cell? ⟨w.heap.size,2,none⟩=some (.slice wa wl wc))
   /\ (y.cell? ⟨w.heap.size+1,0,none⟩=some (.slice none 0 0)/\y.cell? ⟨w.heap.size+1,1,none⟩=some (.slice none 0 0)/\y.cell? ⟨w.heap.size+1,2,none⟩=some (.slice none 0 0)/\y.cell? ⟨w.heap.size+1,3,none⟩=some (.int .i64 0))
   /\ ∀ o:Nat,y.frozen? ⟨w.heap.size+1,o,none⟩=false):=fun y hy =>
  ⟨⟨(hy.cellAt (by omega) _).trans b0,(hy.cellAt (by omega) _).trans b1,(hy.cellAt (by omega) _).trans b2⟩,
   ⟨(hy.cellAt (by omega) _).trans q0,(hy.cellAt (by omega) _).trans q1,(hy.cellAt (by omega) _).trans q2,(hy.cellAt (by omega) _).trans q3⟩,
   fun o=>(hy.below.frozen (p:=⟨w.heap.size+1,o,none⟩) (by show w.heap.size+1 < _;omega)).trans (hf o)⟩
 have SET:Hid (∀ y a b c e,Since w1 y->Since w ((((y.setCell ⟨w.heap.size+1,0,none⟩ a).setCell ⟨w.heap.size+1,1,none⟩ b).setCell ⟨w.heap.size+1,2,none⟩ c).setCell ⟨w.heap.size+1,3,none⟩ e)):=fun y a b c e hy =>
  ⟨((((hS1.trans hy).below.setCell (p:=⟨w.heap.size+1,0,none⟩) (Nat.le_succ _) a).setCell (p:=⟨w.heap.size+1,1,none⟩) (Nat.le_succ _) b).setCell (p:=⟨w.heap.size+1,2,none⟩) (Nat.le_succ _) c).setCell (p:=⟨w.heap.size+1,3,none⟩) (Nat.le_succ _) e⟩
 cases h1:(aL d != 0)
 rotate_left
 ·have HE:Hid (¬ aV d n=0/\aV d n=aL d):=by
   have:¬ aL d=0:=by simpa using h1
   have e:aV d n=aL d:=by unfold aV;rw [if_neg this]
   exact ⟨by rw [e];exact this,e⟩
  go_enter func117,ntmps117
  go_wp2_with (go_at_call 39;refine (mY w1 _ ⟨ga,gl,gc,na,d.nodes.length,nc,wa,wl,wc⟩ d hW1 hSr).mono ?_;rintro e w2 ⟨rfl,hS2⟩;obtain ⟨⟨f0,f1,f2⟩,⟨r0,r1,r2,r3⟩,rf⟩:=RF.out _ hS2)
  refine bodyPost_ret (wH _ _ _ (.int .i64 (aL d)) _ _ _ _ _ _ _ _ rfl rfl r0 r1 r2 r3) rfl ⟨?_,SET.out _ _ _ _ _ (by assumption)⟩;unfold BH;rw [if_neg HE.out.1,HE.out.2]
 have h0:aL d=0:=by simpa using h1
 have HR:Hid (inB n 0 ((d.nodes.length:Int) - 1)=(!(decide (n < 0)) && !(decide ((d.nodes.length:Int)<=n)))):=Ko n _;have HE:Hid (aV d n=if inB n 0 ((d.nodes.length:Int) - 1) then 0 else 4):=by unfold Hid aV;rw [if_pos h0]
 clear h0;cases h2:decide (n < 0)
 rotate_left
 ·have HB:Hid (aV d n=4):=by unfold Hid;rw [HE.out,HR.out,h2];rfl
  go_enter func117,ntmps117
  go_wp2_with (go_at_call 39;refine (mY w1 _ ⟨ga,gl,gc,na,d.nodes.length,nc,wa,wl,wc⟩ d hW1 hSr).mono ?_;rintro e w2 ⟨rfl,hS2⟩;obtain ⟨⟨f0,f1,f2⟩,⟨r0,r1,r2,r3⟩,rf⟩:=RF.out _ hS2)
  refine bodyPost_ret (wH _ _ _ (.int .i64 4) _ _ _ _ _ _ _ _ rfl rfl r0 r1 r2 r3) rfl ⟨?_,SET.out _ _ _ _ _ (by assumption)⟩;unfold BH;rw [HB.out];rfl
 cases h3:decide ((d.nodes.length:Int)<=n)
 rotate_left
 ·have HB:Hid (aV d n=4):=by unfold Hid;rw [HE.out,HR.out,h3];simp
  go_enter func117,ntmps117
  go_wp2_with (go_at_call 39;refine (mY w1 _ ⟨ga,gl,gc,na,d.nodes.length,nc,wa,wl,wc⟩ d hW1 hSr).mono ?_;rintro e w2 ⟨rfl,hS2⟩;obtain ⟨⟨f0,f1,f2⟩,⟨r0,r1,r2,r3⟩,rf⟩:=RF.out _ hS2)
  refine bodyPost_ret (wH _ _ _ (.int .i64 4) _ _ _ _ _ _ _ _ rfl rfl r0 r1 r2 r3) rfl ⟨?_,SET.out _ _ _ _ _ (by assumption)⟩;unfold BH;rw [HB.out];rfl
 ·have HB:Hid (aV d n=0):=by unfold Hid;rw [HE.out,HR.out,h2,h3];rfl
  go_enter func117,ntmps117
  go_wp2_with (go_at_call 39;refine (mY w1 _ ⟨ga,gl,gc,na,d.nodes.length,nc,wa,wl,wc⟩ d hW1 hSr).mono ?_;rintro e w2 ⟨rfl,hS2⟩;obtain ⟨⟨f0,f1,f2⟩,⟨r0,r1,r2,r3⟩,rf⟩:=RF.out _ hS2)
  refine bodyPost_ret (wH _ _ _ (.int .i64 0) _ _ _ _ _ _ _ _ rfl rfl r0 r1 r2 r3) rfl ⟨?_,SET.out _ _ _ _ _ (by assumption)⟩;unfold BH;rw [HB.out];rfl
theorem PG (w0 w:World) (x:WV) (d:Wd) (n:Int) (v:Value) (e0:Int) (hv:BH x d n=v) (he:aV d n=e0) (hW:WAt w x d) (h:Since w0 w) :
  Calls prog 117 #[.agg #[.slice x.ga x.gl x.gc,.slice x.na x.nl x.nc,.slice x.wa x.wl x.wc],.int .i64 n] w fun e w'=>e=.returned (.tuple #[v,.int .i64 e0])/\Since w0 w' :=
 (Oz x d n w hW).mono fun _ _ ⟨e1,hw⟩=>⟨by rw [<-hv,<-he];exact e1,h.trans hw⟩
theorem Sq (w0 w:World) (x:WV) (d:Wd) (n:Nat) (nd:Nd) (hW:WAt w x d) (hn:d.nodes[n]? = some nd) (hL0:kJ d nd) (h:Since w0 w) :
  Calls prog 118 #[.agg #[.slice x.ga x.gl x.gc,.slice x.na x.nl x.nc,.slice x.wa x.wl x.wc,.int .i64 n]] w fun e w'=>e=.returned (.int .i64 (uE d n nd))/\Since w0 w' :=
 (OA x d n nd w hW hn hL0).mono fun _ _ ⟨he,hw⟩=>⟨he,h.trans hw⟩
set_option maxRecDepth 8000 in
theorem Kq (x:WV) (d:Wd) (n:Nat) (nd:Nd) (w:World) (hW:WAt w x d) (hn:d.nodes[n]? = some nd) (hL0:kJ d nd) (hsh:nd.held.length<=40) :
  Calls prog 171 #[.agg #[.slice x.ga x.gl x.gc,.slice x.na x.nl x.nc,.slice x.wa x.wl x.wc,.int .i64 n]] w fun e w'=>∃ v,e=.returned v/\w'.ownsRow w.heap.size 42 5 v (bX d n nd).length (flat (bX d n nd))/\Since w w':=by
 obtain ⟨i0,hi,hz0,hz1,hz2⟩:=info_parts Tryz.uf;have hnl:=(zQ2.1 hn).1;obtain ⟨ga,gl,gc,na,nl,nc,wa,wl,wc⟩:=x;have pE:=hW.n.hlen;have hnm:=hW.n.hmax;dsimp only at pE hnm ⊢;subst pE;obtain ⟨bn,on,rfl,hbn,hcn⟩:=hW.n.cells (by dsimp only;omega);obtain ⟨k0,-,⟨v2,k2,ha,hc,rfl,hhc,hH⟩,-⟩:=hcn n nd hn;obtain ⟨w1,hw1⟩:∃ w1,w.alloc (.cells #[.slice ga gl gc,.slice (some ⟨bn,on,none⟩) d.nodes.length nc,.slice wa wl wc,.int .i64 n] 130)=w1:=⟨_,rfl⟩;have hS1:=ay hw1;have hsz:w.heap.size < w1.heap.size:=by rw [<-hw1];simp
 have b0:w1.cell? ⟨w.heap.size,0,none⟩=some (.slice ga gl gc):=by rw [<-hw1];simp [go_sem]
 have b1:w1.cell? ⟨w.heap.size,1,none⟩=some (.slice (some ⟨bn,on,none⟩) d.nodes.length nc):=by rw [<-hw1];simp [go_sem]
 have b2:w1.cell? ⟨w.heap.size,2,none⟩=some (.slice wa wl wc):=by rw [<-hw1];simp [go_sem]
 have b3:w1.cell? ⟨w.heap.size,3,none⟩=some (.int .i64 n):=by rw [<-hw1];simp [go_sem]
 have hW1:=hW.since hS1;have n1:(n:Int) < (d.nodes.length:Int):=by omega
 obtain ⟨far,Ho⟩:∃ far,uE d n nd=far:=⟨_,rfl⟩;have HRL:Hid (bX d n nd=nd.held.filter fun m=>decide (m.st<=far)):=by unfold Hid bX;rw [Ho]
 clear hcn k0
 have RF:Hid (∀ y,Since w1 y->y.cell? ⟨w.heap.size,0,none⟩=some (.slice ga gl gc)/\y.cell? ⟨w.heap.size,1,none⟩=some (.slice (some ⟨bn,on,none⟩) d.nodes.length nc)/\y.cell? ⟨w.heap.size,2,none⟩=some (.slice wa wl wc)/\y.cell? ⟨w.heap.size,3,none⟩=some (.int .i64 n)/\y.cell? ⟨bn,on+n*4+2,none⟩=some (.slice ha nd.held.length hc)):=fun y hy =>
  ⟨(hy.cellAt (by omega) _).trans b0,(hy.cellAt (by omega) _).trans b1,(hy.cellAt (by omega) _).trans b2,(hy.cellAt (by omega) _).trans b3,((hS1.trans hy).cellAt hbn _).trans k2⟩
 obtain ⟨_,hHm,hHc⟩:=hH;have HFZ:Hid (uE d n nd=far):=Ho;clear Ho
 go_enter func171,ntmps171
 go_wp2_with (go_at_call 118;refine (Sq w1 _ ⟨ga,gl,gc,_,d.nodes.length,nc,wa,wl,wc⟩ d n nd hW1 hn hL0 (Since.refl _)).mono ?_;rw [HFZ.out];rintro e w2 ⟨rfl,hS2⟩;obtain ⟨f0,f1,f2,f3,f4⟩:=RF.out _ hS2)
 clear hw1
 go_loopw [4,18] (fun v i wr=>(∃ k:Nat,k<=nd.held.length/\i=.int .i64 k/\wr.ownsRow w1.heap.size 42 5 v ((nd.held.take k).filter fun m=>decide (m.st<=far)).length (flat ((nd.held.take k).filter fun m=>decide (m.st<=far))))/\Since w1 wr) (fun _ i _=>nd.held.length - (intOf i).toNat)
 case atStart=>exact ⟨⟨0,by omega,rfl,World.ownsRow_nil _ _ _ _⟩,by assumption⟩
 case round =>
  obtain ⟨⟨k,hk,rfl,hown⟩,hS⟩:=hrel;obtain ⟨va,Oy,rfl,hvc⟩:=ownsRow_form hown;by_cases hlt:k < nd.held.length
  ·obtain ⟨b,off,rfl,hb,hcell⟩:=hHc (by omega);obtain ⟨m,hm⟩:∃ m,nd.held[k]? = some m:=⟨_,zQ1 hlt⟩;have hS0:=hS1.trans hS;obtain ⟨d0,d1,d2,d3,d4⟩:=bP (w:=wr) (fun i u hi=>(hS0.cellAt hb _).trans (hcell i u hi)) k m hm;have HM:Hid (nd.held[k]? = some m):=hm;obtain ⟨L,hL⟩:∃ L,((nd.held.take k).filter fun m=>decide (m.st<=far))=L:=⟨_,rfl⟩;have hLk:L.length<=k:=by rw [<-hL];exact yJ _ _ _
   rw [hL] at hown hvc ⊢;have HL:Hid (((nd.held.take k).filter fun m=>decide (m.st<=far))=L):=hL;obtain ⟨w9,hw9⟩:∃ w9,wr.alloc (.cells #[.int .i64 m.fr,.int .i64 m.gr,.int .i64 m.st,.bool m.nul,.string m.body] 42)=w9:=⟨_,rfl⟩;have hS9:=ay hw9
   have hQ:bF w9 wr.heap.size 0 m:=by rw [<-hw9];constructor <;> simp [go_sem]
   obtain ⟨p0,p1,p2,p3,p4⟩:=hQ;simp only [Nat.zero_add] at p0 p1 p2 p3 p4;have lN:=gY hS9 hown;have BG:Since w1 w9:=hS.trans hS9;clear hm hcell hHc hL hown;cases h6:decide (m.st<=far)
   ·have HF:Hid (((nd.held.take (k+1)).filter fun m=>decide (m.st<=far))=L):=by
     unfold Hid;rw [List.take_add_one,HM.out,List.filter_append,HL.out];simp [h6]
    go_wp2
    go_roundw
    case rel=>exact ⟨⟨k+1,by omega,by go_num,by rw [HF.out];exact lN⟩,BG⟩
    case measure=>simp [intOf];omega
   ·have HF:Hid (((nd.held.take (k+1)).filter fun m=>decide (m.st<=far))=L++[m]):=by
     unfold Hid;rw [List.take_add_one,HM.out,List.filter_append,HL.out];simp [h6]
    go_wp2_with (at_builtin;refine wpList_append_own _ rfl _ _ 39 rfl w1.heap.size 42 i0 (.agg #[.int .i64 0,.int .i64 0,.int .i64 0,.bool false,.string ByteArray.empty]) 5 48 underlying39 hi hz0 hz1 hz2 rfl (by decide) _ _ _ rfl (lN.alloc _) ⟨w9.heap.size,0,none⟩ 1 1 m.cells rfl rfl (iT _ _ _) (fun u hu=>dG u [m] (by simpa [flat] using hu)) (by unfold maxLen;omega) (by omega) (by have:=BG.size;simp;omega) ?_;intro v3 w12 hown3 kY _;have dn:Since w1 w12:=(BG.alloc _).grown kY (aY lN))
    go_roundw
    case rel=>exact ⟨⟨k+1,by omega,by go_num,by rw [HF.out,List.length_append,fG];simpa [flat] using hown3⟩,by assumption⟩
    case measure=>simp [intOf];omega
  ·obtain rfl:k=nd.held.length:=by omega
   rw [List.take_of_length_le (Nat.le_refl _)] at hown
   have hown':wr.ownsRow w1.heap.size 42 5 (.slice va ((nd.held.take nd.held.length).filter fun m=>decide (m.st<=far)).length Oy) (bX d n nd).length (flat (bX d n nd)):=by
    rw [HRL.out];rw [List.take_of_length_le (Nat.le_refl _)];exact hown
   go_wp2
   go_ret
   exact ⟨_,rfl,kZ (by omega) hown',hS1.trans hS⟩
def qJ (d:Wd) (n:Int):List Mg:=if aV d n=0 then (match d.nodes[n.toNat]? with | some nd=>bX d n.toNat nd | none=>[]) else []
theorem Ck {d:Wd} {n:Nat} {nd:Nd} (h:aV d n=0) (hn:d.nodes[n]? = some nd):qJ d n=bX d n nd:=by
 unfold qJ;rw [if_pos h,Int.toNat_natCast,hn]
theorem Kr {d:Wd} {n:Int} (h:¬ aV d n=0):qJ d n=[]:=by unfold qJ;rw [if_neg h]
set_option maxRecDepth 8000 in
theorem rO (x:WV) (d:Wd) (n:Int) (w:World) (hW:WAt w x d) :
  Calls prog 116 #[.agg #[.slice x.ga x.gl x.gc,.slice x.na x.nl x.nc,.slice x.wa x.wl x.wc],.int .i64 n] w fun e w'=>∃ v,e=.returned (.tuple #[v,.int .i64 (aV d n)])/\w'.ownsRow w.heap.size 42 5 v (qJ d n).length (flat (qJ d n))/\Since w w':=by
 have hS1:Since w (w.alloc (.cells #[.slice x.ga x.gl x.gc,.slice x.na x.nl x.nc,.slice x.wa x.wl x.wc] 26)):=(Since.refl w).alloc _;have hW1:=hW.since hS1;cases h1:(aV d n != 0)
 ·have h0:aV d n=0:=by simpa using h1
  obtain ⟨hE,k,nd,rfl,hn⟩:=Dg h0;have HE:Hid (aV d (k:Int)=0):=h0;have HB:Hid (qJ d (k:Int)=bX d k nd):=Ck h0 hn;have HA:Hid (BH x d (k:Int)=.agg #[.slice x.ga x.gl x.gc,.slice x.na x.nl x.nc,.slice x.wa x.wl x.wc,.int .i64 (k:Int)]):=by unfold Hid BH;rw [if_pos h0]
  have hL0:=Kn hE hn;have hsh:=Hl hE hn;clear h0 hE
  go_enter func116,ntmps116
  go_wp2_with (first
   | (go_at_call 117;refine (PG w _ x d _ _ _ HA.out HE.out hW1 hS1).mono ?_;rintro e w2 ⟨rfl,hS2⟩;have jZ:Since w (w2.alloc (.cells #[.slice x.ga x.gl x.gc,.slice x.na x.nl x.nc,.slice x.wa x.wl x.wc,.int .i64 (k:Int)] 130)):=Since.alloc hS2 _)
   | (go_at_call 171;refine (Kq x d k nd _ (hW.since (by assumption)) hn hL0 hsh).mono ?_;rintro e w3 ⟨v,rfl,hown,hS3⟩))
  go_ret2
  exact ⟨v,by rw [HE.out];rfl,by rw [HB.out];exact kZ jZ.size hown,jZ.trans hS3⟩
 ·have h0:¬ aV d n=0:=by simpa using h1
  have HB:Hid (qJ d n=[]):=Kr h0;have HA:Hid (BH x d n=.agg #[.slice none 0 0,.slice none 0 0,.slice none 0 0,.int .i64 0]):=by unfold Hid BH;rw [if_neg h0]
  clear h0
  go_enter func116,ntmps116
  go_wp2_with (first
   | (go_at_call 117;refine (PG w _ x d _ _ _ HA.out rfl hW1 hS1).mono ?_;rintro e w2 ⟨rfl,hS2⟩))
  go_ret2
  exact ⟨_,rfl,by rw [HB.out];exact World.ownsRow_nil _ _ _ _,Since.alloc (by assumption) _⟩
end Go.Proofs.YtiiifecfdkjmbaaGreat
