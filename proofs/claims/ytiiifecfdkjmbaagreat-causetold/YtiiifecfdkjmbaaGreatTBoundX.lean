/- Lemmas. -/
import Derived.Test.YtiiifecfdkjmbaaGreatTFar
set_option maxHeartbeats 2000000
namespace Go.Proofs.YtiiifecfdkjmbaaGreat
open _root_.Go.Proofs.Tryz hiding checked
set_option maxRecDepth 8000
open Go.RowKit Go.Shelf
theorem kL (w0 w:World) (x:WV) (d:Wd) (hW:WAt w x d) (h:Since w0 w) :
  Calls prog 39 #[.agg #[.slice x.ga x.gl x.gc,.slice x.na x.nl x.nc,.slice x.wa x.wl x.wc]] w fun e w'=>e=.returned (.int .i64 (aM d))/\Since w0 w' :=
 (jB x d w hW).mono fun _ _ ⟨he,hw⟩=>⟨he,h.trans hw⟩
theorem FY (n:Int) (N:Nat):inB n 0 ((N:Int) - 1)=(!(decide (n < 0)) && !(decide ((N:Int)<=n))):=by
 unfold inB;rw [Bool.eq_iff_iff];simp;omega
def yT (x:WV) (d:Wd) (n:Int):Value:=if dI d n=0 then .agg #[.slice x.ga x.gl x.gc,.slice x.na x.nl x.nc,.slice x.wa x.wl x.wc,.int .i64 n] else .agg #[.slice none 0 0,.slice none 0 0,.slice none 0 0,.int .i64 0]
theorem sI (y:World) (b:Nat) (tmps:Array Value) (v5 a0 a1 a2 a3 o0 o1 o2 o3:Value) (h4:tmps[4]? = some (.pointer (some ⟨b,0,none⟩))) (h5:tmps[5]? = some v5)
  (r0:y.cell? ⟨b,0,none⟩=some o0) (r1:y.cell? ⟨b,1,none⟩=some o1) (r2:y.cell? ⟨b,2,none⟩=some o2) (r3:y.cell? ⟨b,3,none⟩=some o3) :
  (results Tryz.f117 tmps).run prog ((((y.setCell ⟨b,0,none⟩ a0).setCell ⟨b,1,none⟩ a1).setCell ⟨b,2,none⟩ a2).setCell ⟨b,3,none⟩ a3)=.ok (.tuple #[.agg #[a0,a1,a2,a3],v5]) ((((y.setCell ⟨b,0,none⟩ a0).setCell ⟨b,1,none⟩ a1).setCell ⟨b,2,none⟩ a2).setCell ⟨b,3,none⟩ a3):=by
 obtain ⟨Y,hY⟩:∃ Y,(((y.setCell ⟨b,0,none⟩ a0).setCell ⟨b,1,none⟩ a1).setCell ⟨b,2,none⟩ a2).setCell ⟨b,3,none⟩ a3=Y:=⟨_,rfl⟩
 have c0:Y.cell? ⟨b,0,none⟩=some a0:=by rw [<-hY];simp [go_sem,r0]
 have c1:Y.cell? ⟨b,1,none⟩=some a1:=by rw [<-hY];simp [go_sem,r1]
 have c2:Y.cell? ⟨b,2,none⟩=some a2:=by rw [<-hY];simp [go_sem,r2]
 have c3:Y.cell? ⟨b,3,none⟩=some a3:=by rw [<-hY];simp [go_sem,r3]
 rw [hY]
 simp [results,Tryz.f117,go_sem,h4,h5,c0,c1,c2,c3]
set_option maxRecDepth 8000 in
theorem Kg (x:WV) (d:Wd) (n:Int) (w:World) (hW:WAt w x d) :
  Calls prog 117 #[.agg #[.slice x.ga x.gl x.gc,.slice x.na x.nl x.nc,.slice x.wa x.wl x.wc],.int .i64 n] w fun e w'=>e=.returned (.tuple #[yT x d n,.int .i64 (dI d n)])/\Since w w':=by
 obtain ⟨ga,gl,gc,na,nl,nc,wa,wl,wc⟩:=x
 have hnl:=hW.n.hlen
 have hnm:=hW.n.hmax
 dsimp only at hnl hnm ⊢
 subst hnl
 obtain ⟨w1,hw1⟩:∃ w1,(w.alloc (.cells #[.slice ga gl gc,.slice na d.nodes.length nc,.slice wa wl wc] 26)).alloc (.cells #[.slice none 0 0,.slice none 0 0,.slice none 0 0,.int .i64 0] 130)=w1:=⟨_,rfl⟩
 have hS1:Since w w1:=by rw [<-hw1];exact ((Since.refl w).alloc _).alloc _
 have hsz:w.heap.size+1 < w1.heap.size:=by rw [<-hw1];simp
 have b0:w1.cell? ⟨w.heap.size,0,none⟩=some (.slice ga gl gc):=by rw [<-hw1];simp [go_sem]
 have b1:w1.cell? ⟨w.heap.size,1,none⟩=some (.slice na d.nodes.length nc):=by rw [<-hw1];simp [go_sem]
 have b2:w1.cell? ⟨w.heap.size,2,none⟩=some (.slice wa wl wc):=by rw [<-hw1];simp [go_sem]
 have q0:w1.cell? ⟨w.heap.size+1,0,none⟩=some (.slice none 0 0):=by rw [<-hw1];simp [go_sem]
 have q1:w1.cell? ⟨w.heap.size+1,1,none⟩=some (.slice none 0 0):=by rw [<-hw1];simp [go_sem]
 have q2:w1.cell? ⟨w.heap.size+1,2,none⟩=some (.slice none 0 0):=by rw [<-hw1];simp [go_sem]
 have q3:w1.cell? ⟨w.heap.size+1,3,none⟩=some (.int .i64 0):=by rw [<-hw1];simp [go_sem]
 have hf:∀ o:Nat,w1.frozen? ⟨w.heap.size+1,o,none⟩=false:=by intro o;rw [<-hw1];simp [go_sem]
 have hW1:=hW.since hS1
 have hSr:=Since.refl w1
 have RF:Hid (∀ y,Since w1 y->(y.cell? ⟨w.heap.size,0,none⟩=some (.slice ga gl gc)/\y.cell? ⟨w.heap.size,1,none⟩=some (.slice na d.nodes.length nc)/\y.cell? ⟨w.heap.size,2,none⟩=some (.slice wa wl wc))
   /\ (y.cell? ⟨w.heap.size+1,0,none⟩=some (.slice none 0 0)/\y.cell? ⟨w.heap.size+1,1,none⟩=some (.slice none 0 0)/\y.cell? ⟨w.heap.size+1,2,none⟩=some (.slice none 0 0)/\y.cell? ⟨w.heap.size+1,3,none⟩=some (.int .i64 0))
   /\ ∀ o:Nat,y.frozen? ⟨w.heap.size+1,o,none⟩=false):=fun y hy =>
  ⟨⟨(hy.cellAt (by omega) _).trans b0,(hy.cellAt (by omega) _).trans b1,(hy.cellAt (by omega) _).trans b2⟩,
   ⟨(hy.cellAt (by omega) _).trans q0,(hy.cellAt (by omega) _).trans q1,(hy.cellAt (by omega) _).trans q2,(hy.cellAt (by omega) _).trans q3⟩,
   fun o=>(hy.below.frozen (p:=⟨w.heap.size+1,o,none⟩) (by show w.heap.size+1 < _;omega)).trans (hf o)⟩
 have SET:Hid (∀ y a b c e,Since w1 y->Since w ((((y.setCell ⟨w.heap.size+1,0,none⟩ a).setCell ⟨w.heap.size+1,1,none⟩ b).setCell ⟨w.heap.size+1,2,none⟩ c).setCell ⟨w.heap.size+1,3,none⟩ e)):=fun y a b c e hy =>
  ⟨((((hS1.trans hy).below.setCell (p:=⟨w.heap.size+1,0,none⟩) (Nat.le_succ _) a).setCell (p:=⟨w.heap.size+1,1,none⟩) (Nat.le_succ _) b).setCell (p:=⟨w.heap.size+1,2,none⟩) (Nat.le_succ _) c).setCell (p:=⟨w.heap.size+1,3,none⟩) (Nat.le_succ _) e⟩
 cases h1:(aM d != 0)
 rotate_left
 ·have HE:Hid (¬ dI d n=0/\dI d n=aM d):=by
   have:¬ aM d=0:=by simpa using h1
   have e:dI d n=aM d:=by unfold dI;rw [if_neg this]
   exact ⟨by rw [e];exact this,e⟩
  go_enter func117,ntmps117
  go_wp2_with (go_at_call 39;refine (kL w1 _ ⟨ga,gl,gc,na,d.nodes.length,nc,wa,wl,wc⟩ d hW1 hSr).mono ?_;rintro e w2 ⟨rfl,hS2⟩;obtain ⟨⟨f0,f1,f2⟩,⟨r0,r1,r2,r3⟩,rf⟩:=RF.out _ hS2)
  refine bodyPost_ret (sI _ _ _ (.int .i64 (aM d)) _ _ _ _ _ _ _ _ rfl rfl r0 r1 r2 r3) rfl ⟨?_,SET.out _ _ _ _ _ (by assumption)⟩
  unfold yT;rw [if_neg HE.out.1,HE.out.2]
 have h0:aM d=0:=by simpa using h1
 have HR:Hid (inB n 0 ((d.nodes.length:Int) - 1)=(!(decide (n < 0)) && !(decide ((d.nodes.length:Int)<=n)))):=FY n _
 have HE:Hid (dI d n=if inB n 0 ((d.nodes.length:Int) - 1) then 0 else 4):=by unfold Hid dI;rw [if_pos h0]
 clear h0
 cases h2:decide (n < 0)
 rotate_left
 ·have HB:Hid (dI d n=4):=by unfold Hid;rw [HE.out,HR.out,h2];rfl
  go_enter func117,ntmps117
  go_wp2_with (go_at_call 39;refine (kL w1 _ ⟨ga,gl,gc,na,d.nodes.length,nc,wa,wl,wc⟩ d hW1 hSr).mono ?_;rintro e w2 ⟨rfl,hS2⟩;obtain ⟨⟨f0,f1,f2⟩,⟨r0,r1,r2,r3⟩,rf⟩:=RF.out _ hS2)
  refine bodyPost_ret (sI _ _ _ (.int .i64 4) _ _ _ _ _ _ _ _ rfl rfl r0 r1 r2 r3) rfl ⟨?_,SET.out _ _ _ _ _ (by assumption)⟩
  unfold yT;rw [HB.out];rfl
 cases h3:decide ((d.nodes.length:Int)<=n)
 rotate_left
 ·have HB:Hid (dI d n=4):=by unfold Hid;rw [HE.out,HR.out,h3];simp
  go_enter func117,ntmps117
  go_wp2_with (go_at_call 39;refine (kL w1 _ ⟨ga,gl,gc,na,d.nodes.length,nc,wa,wl,wc⟩ d hW1 hSr).mono ?_;rintro e w2 ⟨rfl,hS2⟩;obtain ⟨⟨f0,f1,f2⟩,⟨r0,r1,r2,r3⟩,rf⟩:=RF.out _ hS2)
  refine bodyPost_ret (sI _ _ _ (.int .i64 4) _ _ _ _ _ _ _ _ rfl rfl r0 r1 r2 r3) rfl ⟨?_,SET.out _ _ _ _ _ (by assumption)⟩
  unfold yT;rw [HB.out];rfl
 ·have HB:Hid (dI d n=0):=by unfold Hid;rw [HE.out,HR.out,h2,h3];rfl
  go_enter func117,ntmps117
  go_wp2_with (go_at_call 39;refine (kL w1 _ ⟨ga,gl,gc,na,d.nodes.length,nc,wa,wl,wc⟩ d hW1 hSr).mono ?_;rintro e w2 ⟨rfl,hS2⟩;obtain ⟨⟨f0,f1,f2⟩,⟨r0,r1,r2,r3⟩,rf⟩:=RF.out _ hS2)
  refine bodyPost_ret (sI _ _ _ (.int .i64 0) _ _ _ _ _ _ _ _ rfl rfl r0 r1 r2 r3) rfl ⟨?_,SET.out _ _ _ _ _ (by assumption)⟩
  unfold yT;rw [HB.out];rfl
theorem Lh (w0 w:World) (x:WV) (d:Wd) (n:Int) (v:Value) (e0:Int) (hv:yT x d n=v) (he:dI d n=e0) (hW:WAt w x d) (h:Since w0 w) :
  Calls prog 117 #[.agg #[.slice x.ga x.gl x.gc,.slice x.na x.nl x.nc,.slice x.wa x.wl x.wc],.int .i64 n] w fun e w'=>e=.returned (.tuple #[v,.int .i64 e0])/\Since w0 w' :=
 (Kg x d n w hW).mono fun _ _ ⟨e1,hw⟩=>⟨by rw [<-hv,<-he];exact e1,h.trans hw⟩
theorem Oa (w0 w:World) (x:WV) (d:Wd) (n:Nat) (nd:Nd) (hW:WAt w x d) (hn:d.nodes[n]? = some nd) (hL0:Ai d nd) (h:Since w0 w) :
  Calls prog 118 #[.agg #[.slice x.ga x.gl x.gc,.slice x.na x.nl x.nc,.slice x.wa x.wl x.wc,.int .i64 n]] w fun e w'=>e=.returned (.int .i64 (vN d n nd))/\Since w0 w' :=
 (Kh x d n nd w hW hn hL0).mono fun _ _ ⟨he,hw⟩=>⟨he,h.trans hw⟩
set_option maxRecDepth 8000 in
theorem FZ (x:WV) (d:Wd) (n:Nat) (nd:Nd) (w:World) (hW:WAt w x d) (hn:d.nodes[n]? = some nd) (hL0:Ai d nd) (hsh:nd.held.length<=40) :
  Calls prog 171 #[.agg #[.slice x.ga x.gl x.gc,.slice x.na x.nl x.nc,.slice x.wa x.wl x.wc,.int .i64 n]] w fun e w'=>∃ v,e=.returned v/\w'.ownsRow w.heap.size 42 5 v (dG d n nd).length (flat (dG d n nd))/\Since w w':=by
 obtain ⟨i0,hi,hz0,hz1,hz2⟩:=info_parts Tryz.Ak
 have hnl:=(zQ2.1 hn).1
 obtain ⟨ga,gl,gc,na,nl,nc,wa,wl,wc⟩:=x
 have qR:=hW.n.hlen
 have hnm:=hW.n.hmax
 dsimp only at qR hnm ⊢
 subst qR
 obtain ⟨bn,on,rfl,hbn,hcn⟩:=hW.n.cells (by dsimp only;omega)
 obtain ⟨k0,-,⟨v2,k2,ha,hc,rfl,hhc,hH⟩,-⟩:=hcn n nd hn
 obtain ⟨w1,hw1⟩:∃ w1,w.alloc (.cells #[.slice ga gl gc,.slice (some ⟨bn,on,none⟩) d.nodes.length nc,.slice wa wl wc,.int .i64 n] 130)=w1:=⟨_,rfl⟩
 have hS1:=ay hw1
 have hsz:w.heap.size < w1.heap.size:=by rw [<-hw1];simp
 have b0:w1.cell? ⟨w.heap.size,0,none⟩=some (.slice ga gl gc):=by rw [<-hw1];simp [go_sem]
 have b1:w1.cell? ⟨w.heap.size,1,none⟩=some (.slice (some ⟨bn,on,none⟩) d.nodes.length nc):=by rw [<-hw1];simp [go_sem]
 have b2:w1.cell? ⟨w.heap.size,2,none⟩=some (.slice wa wl wc):=by rw [<-hw1];simp [go_sem]
 have b3:w1.cell? ⟨w.heap.size,3,none⟩=some (.int .i64 n):=by rw [<-hw1];simp [go_sem]
 have hW1:=hW.since hS1
 have n1:(n:Int) < (d.nodes.length:Int):=by omega
 obtain ⟨far,Mi⟩:∃ far,vN d n nd=far:=⟨_,rfl⟩
 have HRL:Hid (dG d n nd=nd.held.filter fun m=>decide (m.st<=far)):=by unfold Hid dG;rw [Mi]
 clear hcn k0
 have RF:Hid (∀ y,Since w1 y->y.cell? ⟨w.heap.size,0,none⟩=some (.slice ga gl gc)/\y.cell? ⟨w.heap.size,1,none⟩=some (.slice (some ⟨bn,on,none⟩) d.nodes.length nc)/\y.cell? ⟨w.heap.size,2,none⟩=some (.slice wa wl wc)/\y.cell? ⟨w.heap.size,3,none⟩=some (.int .i64 n)/\y.cell? ⟨bn,on+n*4+2,none⟩=some (.slice ha nd.held.length hc)):=fun y hy =>
  ⟨(hy.cellAt (by omega) _).trans b0,(hy.cellAt (by omega) _).trans b1,(hy.cellAt (by omega) _).trans b2,(hy.cellAt (by omega) _).trans b3,((hS1.trans hy).cellAt hbn _).trans k2⟩
 obtain ⟨_,hHm,hHc⟩:=hH
 have HFZ:Hid (vN d n nd=far):=Mi
 clear Mi
 go_enter func171,ntmps171
 go_wp2_with (go_at_call 118;refine (Oa w1 _ ⟨ga,gl,gc,_,d.nodes.length,nc,wa,wl,wc⟩ d n nd hW1 hn hL0 (Since.refl _)).mono ?_;rw [HFZ.out];rintro e w2 ⟨rfl,hS2⟩;obtain ⟨f0,f1,f2,f3,f4⟩:=RF.out _ hS2)
 clear hw1
 go_loopw [4,18] (fun v i wr=>(∃ k:Nat,k<=nd.held.length/\i=.int .i64 k/\wr.ownsRow w1.heap.size 42 5 v ((nd.held.take k).filter fun m=>decide (m.st<=far)).length (flat ((nd.held.take k).filter fun m=>decide (m.st<=far))))/\Since w1 wr) (fun _ i _=>nd.held.length - (intOf i).toNat)
 case atStart=>exact ⟨⟨0,by omega,rfl,World.ownsRow_nil _ _ _ _⟩,by assumption⟩
 case round =>
  obtain ⟨⟨k,hk,rfl,hown⟩,hS⟩:=hrel
  obtain ⟨va,P8,rfl,hvc⟩:=ownsRow_form hown
  by_cases hlt:k < nd.held.length
  ·obtain ⟨b,off,rfl,hb,hcell⟩:=hHc (by omega)
   obtain ⟨m,hm⟩:∃ m,nd.held[k]? = some m:=⟨_,zQ1 hlt⟩
   have hS0:=hS1.trans hS
   obtain ⟨d0,d1,d2,d3,d4⟩:=bJ (w:=wr) (fun i u hi=>(hS0.cellAt hb _).trans (hcell i u hi)) k m hm
   have HM:Hid (nd.held[k]? = some m):=hm
   obtain ⟨L,hL⟩:∃ L,((nd.held.take k).filter fun m=>decide (m.st<=far))=L:=⟨_,rfl⟩
   have hLk:L.length<=k:=by rw [<-hL];exact BM _ _ _
   rw [hL] at hown hvc ⊢
   have HL:Hid (((nd.held.take k).filter fun m=>decide (m.st<=far))=L):=hL
   obtain ⟨w9,hw9⟩:∃ w9,wr.alloc (.cells #[.int .i64 m.fr,.int .i64 m.gr,.int .i64 m.st,.bool m.nul,.string m.body] 42)=w9:=⟨_,rfl⟩
   have hS9:=ay hw9
   have hQ:aZ w9 wr.heap.size 0 m:=by rw [<-hw9];constructor <;> simp [go_sem]
   obtain ⟨p0,p1,p2,p3,p4⟩:=hQ
   simp only [Nat.zero_add] at p0 p1 p2 p3 p4
   have Iu:=yU hS9 hown
   have Mj:Since w1 w9:=hS.trans hS9
   clear hm hcell hHc hL hown
   cases h6:decide (m.st<=far)
   ·have HF:Hid (((nd.held.take (k+1)).filter fun m=>decide (m.st<=far))=L):=by
     unfold Hid;rw [List.take_add_one,HM.out,List.filter_append,HL.out];simp [h6]
    go_wp2
    go_roundw
    case rel=>exact ⟨⟨k+1,by omega,by go_num,by rw [HF.out];exact Iu⟩,Mj⟩
    case measure=>simp [intOf];omega
   ·have HF:Hid (((nd.held.take (k+1)).filter fun m=>decide (m.st<=far))=L++[m]):=by
     unfold Hid;rw [List.take_add_one,HM.out,List.filter_append,HL.out];simp [h6]
    go_wp2_with (at_builtin;refine wpList_append_own _ rfl _ _ 39 rfl w1.heap.size 42 i0 (.agg #[.int .i64 0,.int .i64 0,.int .i64 0,.bool false,.string ByteArray.empty]) 5 48 underlying39 hi hz0 hz1 hz2 rfl (by decide) _ _ _ rfl (Iu.alloc _) ⟨w9.heap.size,0,none⟩ 1 1 m.cells rfl rfl (nG _ _ _) (fun u hu=>fC u [m] (by simpa [flat] using hu)) (by unfold maxLen;omega) (by omega) (by have:=Mj.size;simp;omega) ?_;intro v3 w12 hown3 uF _;have gJ:Since w1 w12:=(Mj.alloc _).grown uF (dh Iu))
    go_roundw
    case rel=>exact ⟨⟨k+1,by omega,by go_num,by rw [HF.out,List.length_append,gH];simpa [flat] using hown3⟩,by assumption⟩
    case measure=>simp [intOf];omega
  ·obtain rfl:k=nd.held.length:=by omega
   rw [List.take_of_length_le (Nat.le_refl _)] at hown
   have hown':wr.ownsRow w1.heap.size 42 5 (.slice va ((nd.held.take nd.held.length).filter fun m=>decide (m.st<=far)).length P8) (dG d n nd).length (flat (dG d n nd)):=by
    rw [HRL.out];rw [List.take_of_length_le (Nat.le_refl _)];exact hown
   go_wp2
   go_ret
   exact ⟨_,rfl,kM (by omega) hown',hS1.trans hS⟩
def nH (d:Wd) (n:Int):List Mg:=if dI d n=0 then (match d.nodes[n.toNat]? with | some nd=>dG d n.toNat nd | none=>[]) else []
theorem zu {d:Wd} {n:Nat} {nd:Nd} (h:dI d n=0) (hn:d.nodes[n]? = some nd):nH d n=dG d n nd:=by
 unfold nH;rw [if_pos h,Int.toNat_natCast,hn]
theorem F3 {d:Wd} {n:Int} (h:¬ dI d n=0):nH d n=[]:=by unfold nH;rw [if_neg h]
set_option maxRecDepth 8000 in
theorem oD (x:WV) (d:Wd) (n:Int) (w:World) (hW:WAt w x d) :
  Calls prog 116 #[.agg #[.slice x.ga x.gl x.gc,.slice x.na x.nl x.nc,.slice x.wa x.wl x.wc],.int .i64 n] w fun e w'=>∃ v,e=.returned (.tuple #[v,.int .i64 (dI d n)])/\w'.ownsRow w.heap.size 42 5 v (nH d n).length (flat (nH d n))/\Since w w':=by
 have hS1:Since w (w.alloc (.cells #[.slice x.ga x.gl x.gc,.slice x.na x.nl x.nc,.slice x.wa x.wl x.wc] 26)):=(Since.refl w).alloc _
 have hW1:=hW.since hS1
 cases h1:(dI d n != 0)
 ·have h0:dI d n=0:=by simpa using h1
  obtain ⟨hE,k,nd,rfl,hn⟩:=Aj h0
  have HE:Hid (dI d (k:Int)=0):=h0
  have HB:Hid (nH d (k:Int)=dG d k nd):=zu h0 hn
  have HA:Hid (yT x d (k:Int)=.agg #[.slice x.ga x.gl x.gc,.slice x.na x.nl x.nc,.slice x.wa x.wl x.wc,.int .i64 (k:Int)]):=by unfold Hid yT;rw [if_pos h0]
  have hL0:=FW hE hn
  have hsh:=DW hE hn
  clear h0 hE
  go_enter func116,ntmps116
  go_wp2_with (first
   | (go_at_call 117;refine (Lh w _ x d _ _ _ HA.out HE.out hW1 hS1).mono ?_;rintro e w2 ⟨rfl,hS2⟩;have iX:Since w (w2.alloc (.cells #[.slice x.ga x.gl x.gc,.slice x.na x.nl x.nc,.slice x.wa x.wl x.wc,.int .i64 (k:Int)] 130)):=Since.alloc hS2 _)
   | (go_at_call 171;refine (FZ x d k nd _ (hW.since (by assumption)) hn hL0 hsh).mono ?_;rintro e w3 ⟨v,rfl,hown,hS3⟩))
  go_ret2
  exact ⟨v,by rw [HE.out];rfl,by rw [HB.out];exact kM iX.size hown,iX.trans hS3⟩
 ·have h0:¬ dI d n=0:=by simpa using h1
  have HB:Hid (nH d n=[]):=F3 h0
  have HA:Hid (yT x d n=.agg #[.slice none 0 0,.slice none 0 0,.slice none 0 0,.int .i64 0]):=by unfold Hid yT;rw [if_neg h0]
  clear h0
  go_enter func116,ntmps116
  go_wp2_with (first
   | (go_at_call 117;refine (Lh w _ x d _ _ _ HA.out rfl hW1 hS1).mono ?_;rintro e w2 ⟨rfl,hS2⟩))
  go_ret2
  exact ⟨_,rfl,by rw [HB.out];exact World.ownsRow_nil _ _ _ _,Since.alloc (by assumption) _⟩
end Go.Proofs.YtiiifecfdkjmbaaGreat
