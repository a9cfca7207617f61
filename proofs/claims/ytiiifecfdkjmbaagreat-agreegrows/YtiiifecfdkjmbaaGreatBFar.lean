/- Contract of bound's (judge).far; conditions: the world reads as one, has that node, whose Last has the right shape. -/
import Derived.RegionIn
import Derived.BigRegionIn
import Derived.Test.YtiiifecfdkjmbaaGreatBOthers
namespace Go.Proofs.YtiiifecfdkjmbaaGreat
set_option maxRecDepth 8000
open Go.RowKit Go.Shelf
attribute [local go_sem] Oper.semAt_some
theorem G9 (x:WV) (n:Int) (w:World) :
  Calls Tryz.prog 172 #[.agg #[.slice x.ga x.gl x.gc,.slice x.na x.nl x.nc,.slice x.wa x.wl x.wc,.int .i64 n]] w fun e w'=>e=.returned (.func (.func 207) #[] #[.pointer (some ⟨w.heap.size,0,none⟩)])∧w'=w.alloc (.cells #[.slice x.ga x.gl x.gc,.slice x.na x.nl x.nc,.slice x.wa x.wl x.wc,.int .i64 n] 130):=by
 go_enter Tryz.func172,Tryz.ntmps172
 go_wp2
 go_ret
 exact ⟨rfl,rfl⟩
theorem KX.same {n:Nat} {X:Option Nat} {A B:World} (h:KX n X A B) {p:Addr} {v:Value} (hc:A.cell? p=some v) (hX:some p.block≠X):B.heap[p.block]? = A.heap[p.block]?:=by
 have:∃ o,A.heap[p.block]? = some o∧o.isCells=true:=by
  unfold World.cell? at hc
  split at hc
  ·rename_i c e z hb;exact ⟨_,hb,rfl⟩
  ·cases hc
 obtain ⟨o,ho,hoc⟩:=this
 exact (h.cells _ _ ho hoc hX).trans ho.symm
set_option maxRecDepth 8000 in
set_option maxHeartbeats 2000000 in
theorem NQ (x:WV) (d:Wd) (n:Nat) (nd:Nd) (w:World) (hW:WAt w x d) (hn:d.nodes[n]? = some nd) (hL0:kr d nd) :
  Calls Tryz.prog 118 #[.agg #[.slice x.ga x.gl x.gc,.slice x.na x.nl x.nc,.slice x.wa x.wl x.wc,.int .i64 n]] w fun e w'=>e=.returned (.int .i64 (uj d n nd))∧Since w w':=by
 have hnl:=(List.getElem?_eq_some_iff.1 hn).1
 obtain ⟨ga,gl,gc,na,nl,nc,wa,wl,wc⟩:=x
 have oP:=hW.n.hlen
 have hnm:=hW.n.hmax
 have hgl:=hW.g.hlen
 have hgm:=hW.g.hmax
 have hGw:=hW.g
 dsimp only at oP hnm hgl hgm hGw ⊢
 subst oP hgl
 obtain ⟨bn,on,rfl,hbn,hcn⟩:=hW.n.cells (by dsimp only;omega)
 obtain ⟨k0,⟨v1,k1,la,lc,rfl,hlc,hL⟩,⟨v2,k2,ha,hc,rfl,hhc,hH⟩,⟨v3,k3,ta,tc,rfl,htc,hT⟩⟩:=hcn n nd hn
 obtain ⟨w1,hw1⟩:∃ w1,((w.alloc (.cells #[.slice ga d.groups.length gc,.slice (some ⟨bn,on,none⟩) d.nodes.length nc,.slice wa wl wc,.int .i64 n] 130)).alloc (.cells #[.int .i64 nd.clock,.slice la nd.last.length lc,.slice ha nd.held.length hc,.slice ta nd.told.length tc] 45)).alloc (.cells #[.int .i64 nd.clock] 3)=w1:=⟨_,rfl⟩
 have hS1:Since w w1:=by rw [←hw1];exact (((Since.refl w).alloc _).alloc _).alloc _
 have hsz:w.heap.size+2 < w1.heap.size:=by rw [←hw1];simp
 have b0:w1.cell? ⟨w.heap.size,0,none⟩=some (.slice ga d.groups.length gc):=by rw [←hw1];simp [go_sem]
 have b1:w1.cell? ⟨w.heap.size,1,none⟩=some (.slice (some ⟨bn,on,none⟩) d.nodes.length nc):=by rw [←hw1];simp [go_sem]
 have b2:w1.cell? ⟨w.heap.size,2,none⟩=some (.slice wa wl wc):=by rw [←hw1];simp [go_sem]
 have b3:w1.cell? ⟨w.heap.size,3,none⟩=some (.int .i64 n):=by rw [←hw1];simp [go_sem]
 have b4:w1.cell? ⟨w.heap.size+1,1,none⟩=some (.slice la nd.last.length lc):=by rw [←hw1];simp [go_sem]
 have b5:w1.cell? ⟨w.heap.size+2,0,none⟩=some (.int .i64 nd.clock):=by rw [←hw1];simp [go_sem]
 have b6:w1.frozen? ⟨w.heap.size+2,0,none⟩=false:=by rw [←hw1];simp [go_sem]
 have n1:(n:Int) < (d.nodes.length:Int):=by omega
 clear hcn
 refine jD Tryz.func118 rfl ?_
 simp only [Tryz.ntmps118,List.size_toArray,List.length_cons,List.length_nil,Nat.reduceAdd,Nat.reduceSub,Array.replicate_succ,Array.replicate_zero,List.push_toArray,List.append_toArray,List.nil_append,List.cons_append]
 refine eF (cO ?_)
 go_wp2
 refine eF (cO ?_)
 go_wp2
 refine eF (cO ?_)
 go_wp2
 refine eF (eF (cO ?_))
 go_wp2_with (go_at_call 172;refine (G9 ⟨ga,d.groups.length,gc,_,d.nodes.length,nc,wa,wl,wc⟩ n _).mono ?_;rintro e w' ⟨rfl,rfl⟩)
 refine pQ ?_
 obtain ⟨w5,hw5⟩:∃ w5,w1.alloc (.cells #[.slice ga d.groups.length gc,.slice (some ⟨bn,on,none⟩) d.nodes.length nc,.slice wa wl wc,.int .i64 n] 130)=w5:=⟨_,rfl⟩
 have wh:=av hw5
 have hS5:=hS1.trans wh
 have z0:w5.cell? ⟨w1.heap.size,0,none⟩=some (.slice ga d.groups.length gc):=by rw [←hw5];simp [go_sem]
 have z1:w5.cell? ⟨w1.heap.size,1,none⟩=some (.slice (some ⟨bn,on,none⟩) d.nodes.length nc):=by rw [←hw5];simp [go_sem]
 have z3:w5.cell? ⟨w1.heap.size,3,none⟩=some (.int .i64 n):=by rw [←hw5];simp [go_sem]
 have y4:w5.cell? ⟨w.heap.size+1,1,none⟩=some (.slice la nd.last.length lc):=(wh.cellAt (by omega) _).trans b4
 have y5:w5.cell? ⟨w.heap.size+2,0,none⟩=some (.int .i64 nd.clock):=(wh.cellAt (by omega) _).trans b5
 have y6:w5.frozen? ⟨w.heap.size+2,0,none⟩=false:=(wh.below.frozen (p:=⟨w.heap.size+2,0,none⟩) (by show w.heap.size+2 < _;omega)).trans b6
 rw [hw5]
 clear hw5 hw1
 refine xS (m:=1) Tryz.func118 (gf:=207) (lb:=#[.pointer (some ⟨w1.heap.size,0,none⟩)]) rfl (enters_of Tryz.func207 (by kernel_rfl) rfl) hS5.size
  (He 1 w1.heap.size (w.heap.size+2) w w5 hS5 (by omega) (by have:=wh.size;omega) ga gc _ nc d n hGw (by omega) z0 z1 z3) (fun _=>rfl)
  (fun i W=>Since w W∧W.cell? ⟨w.heap.size+2,0,none⟩=some (.int .i64 (jV d n nd i))∧W.frozen? ⟨w.heap.size+2,0,none⟩=false∧W.cell? ⟨w.heap.size+1,1,none⟩=some (.slice la nd.last.length lc))
  (fun _ _=>False)
  (fun i A B hA hk=>⟨⟨hA.1.below.trans (hk.below.mono hS5.size)⟩,hk.cell hA.2.1 (by simp),(World.frozen?_of_block (w:=A) (hk.same hA.2.1 (by simp))).trans hA.2.2.1,hk.cell hA.2.2.2 (by simp)⟩)
  (fun i A hA hi hs=>by
   obtain ⟨p,hp,ho⟩:=hs
   refine ⟨hA.1, ?_,hA.2.2⟩
   rw [uU hp];unfold nZ;rw [ho];exact hA.2.1)
  ⟨hS5,by rw [y5];simp [jV],y6,y4⟩ ?round ?done ?pan
 case pan =>
  rintro D ch W hD h hK
  exact h.elim
 case done =>
  rintro D W hD ⟨hSW,hc1,hf1,-⟩ hK
  have HF:Hid (jV d n nd (d.groups.length*d.nodes.length)=uj d n nd):=Ck d n nd
  refine cO ?_
  go_wp2
  refine ⟨by simp,.inl ⟨_,_,rfl,run_takeDeferred hK, ?_⟩⟩
  refine ⟨_,results_tmp rfl _ _ _,by rw [←HF.out];rfl,⟨hSW.below.trans ((KX.put (X:=none) (.deferred none) hK rfl hD).below.mono hS5.size)⟩⟩
 case round =>
  rintro l i ⟨g,k⟩ W W' hsz' ⟨hSW,hc1,hf1,hc2⟩ hiN ⟨hx,ho⟩
  obtain ⟨hgl,hkl⟩:=Cn hx
  obtain ⟨row,hrow⟩:∃ row,nd.last[g]? = some row:=⟨_,List.getElem?_eq_getElem (by have:=hL0.len;omega)⟩
  have hrl:=hL0.rows g row hrow
  obtain ⟨v,hv⟩:∃ v,row[k]? = some v:=⟨_,List.getElem?_eq_getElem (by omega)⟩
  obtain ⟨bL,oL,rfl,hbL,hcL⟩:=hL.cells (by have:=hL0.len;omega)
  obtain ⟨v4,k4,ra,rc,rfl,hrc,hR⟩:=hcL g row hrow
  obtain ⟨bR,oR,rfl,hbR,hcR⟩:=hR.cells (by omega)
  have k5:W'.cell? ⟨bL,oL+g,none⟩=_:=(hSW.cellAt hbL _).trans k4
  have k6:W'.cell? ⟨bR,oR+k,none⟩=some (.int .i64 v):=(hSW.cellAt hbR _).trans (by have:=hcR k (by omega);rw [hv] at this;exact this)
  have g1:(g:Int) < (nd.last.length:Int):=by have:=hL0.len;omega
  have g2:(k:Int) < (row.length:Int):=by omega
  obtain ⟨acc,hacc⟩:∃ acc,jV d n nd i=acc:=⟨_,rfl⟩
  have HV:Hid (jV d n nd (i+1)=if v < acc then v else acc):=by
   unfold Hid
   rw [uU hx,hacc]
   unfold nZ
   rw [ho]
   have:d9 nd.last g k=v:=by unfold d9;rw [hrow,Option.getD_some,hv];rfl
   dsimp only
   rw [this];rfl
  rw [hacc] at hc1
  clear hcL hcR hrow hv hx ho k4 hacc hrl hR
  have NR:NC W' ((W'.setCell ⟨w.heap.size+1+1,0,none⟩ (.int .i64 (if v < acc then v else acc))).drew)∧KX w.heap.size (some (w.heap.size+2)) W' ((W'.setCell ⟨w.heap.size+1+1,0,none⟩ (.int .i64 (if v < acc then v else acc))).drew) ∧
    (Since w ((W'.setCell ⟨w.heap.size+1+1,0,none⟩ (.int .i64 (if v < acc then v else acc))).drew)∧((W'.setCell ⟨w.heap.size+1+1,0,none⟩ (.int .i64 (if v < acc then v else acc))).drew).cell? ⟨w.heap.size+2,0,none⟩=some (.int .i64 (jV d n nd (i+1)))
     ∧ ((W'.setCell ⟨w.heap.size+1+1,0,none⟩ (.int .i64 (if v < acc then v else acc))).drew).frozen? ⟨w.heap.size+2,0,none⟩=false∧((W'.setCell ⟨w.heap.size+1+1,0,none⟩ (.int .i64 (if v < acc then v else acc))).drew).cell? ⟨w.heap.size+1,1,none⟩=some (.slice (some ⟨bL,oL,none⟩) nd.last.length lc)):=by
   rw [HV.out]
   obtain ⟨u,hu⟩:∃ u,(Value.int .i64 (if v < acc then v else acc))=u:=⟨_,rfl⟩
   rw [hu]
   have hob:∀ j,j≠w.heap.size+2→((W'.setCell ⟨w.heap.size+2,0,none⟩ u).drew).heap[j]? = W'.heap[j]?:=fun j hj=>Below.heap_setCell W' ⟨w.heap.size+2,0,none⟩ u j hj
   have hcl:∃ o,W'.heap[w.heap.size+2]? = some o∧o.isCells=true:=by
    have:=hc1
    unfold World.cell? at this
    split at this
    ·rename_i hb;exact ⟨_,hb,rfl⟩
    ·cases this
   obtain ⟨o,Tx,hoc⟩:=hcl
   refine ⟨fun j o' hj ho'=>?_,⟨?_,fun j o' hj ho' hX=>?_⟩,⟨?_⟩, ?_, ?_, ?_⟩
   ·refine (hob j ?_).trans hj
    rintro rfl
    rw [Tx] at hj;cases hj;rw [hoc] at ho';cases ho'
   ·exact (((Below.refl w.heap.size W').setCell (p:=⟨w.heap.size+2,0,none⟩) (by show w.heap.size≤w.heap.size+2;omega) u)).drew
   ·exact (hob j (by simpa using hX)).trans hj
   ·exact ((hSW.below.setCell (p:=⟨w.heap.size+2,0,none⟩) (by show w.heap.size≤w.heap.size+2;omega) u)).drew
   ·exact World.cell?_setCell_same' W' ⟨w.heap.size+2,0,none⟩ u (by rw [hc1];rfl)
   ·show (W'.setCell ⟨w.heap.size+2,0,none⟩ u).frozen? _=false
    rw [World.frozen?_setCell];exact hf1
   ·exact (World.cell?_of_block (w:=W') (hob (w.heap.size+1) (by omega))).trans hc2
  clear hW hn hL0 hL hH hT hS1 wh hS5 z0 z1 z3 y4 y5 y6 b0 b1 b2 b3 b4 b5 b6 n1 hGw k0 k1 k2 k3 hnl hnm hgm hlc hhc htc hbn hsz hiN hSW hbL hbR hrc HV hgl hkl
  gi_wp2
  refine ⟨trivial, ?_⟩
  gi_wp2
  gi_region
  all_goals exact NR
end Go.Proofs.YtiiifecfdkjmbaaGreat
