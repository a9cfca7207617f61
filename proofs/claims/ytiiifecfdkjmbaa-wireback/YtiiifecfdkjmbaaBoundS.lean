/- Lemmas. Lemmas. -/
import Derived.Test.YtiiifecfdkjmbaaWErr
set_option maxHeartbeats 2000000
namespace Go.Proofs.Ytiiifecfdkjmbaa
open _root_.Go.Proofs.Try hiding checked
set_option maxRecDepth 8000
open Go.RowKit Go.Shelf
def xI (d:Wd) (n:Nat) (p:Nat × Nat):Bool:=((p.2:Int) != (n:Int)) && (hasB d.groups p.1 n && hasB d.groups p.1 p.2)
def pO (d:Wd) (n:Nat) (nd:Nd) (acc:Int) (p:Nat × Nat):Int:=if xI d n p then (if bT nd.last p.1 p.2 < acc then bT nd.last p.1 p.2 else acc) else acc
def jy (d:Wd) (n:Nat) (nd:Nd) (i:Nat):Int:=((pairs d.groups.length d.nodes.length).take i).foldl (pO d n nd) nd.clock
def tq (d:Wd) (n:Nat) (nd:Nd):Int:=(pairs d.groups.length d.nodes.length).foldl (pO d n nd) nd.clock
theorem xJ {d:Wd} {n:Nat} {nd:Nd} {i:Nat} {p:Nat × Nat} (h:(pairs d.groups.length d.nodes.length)[i]? = some p):jy d n nd (i+1)=pO d n nd (jy d n nd i) p:=by
 unfold jy;rw [List.take_add_one,h,List.foldl_append];rfl
theorem zF (d:Wd) (n:Nat) (nd:Nd):jy d n nd (d.groups.length*d.nodes.length)=tq d n nd:=by
 unfold jy tq;rw [List.take_of_length_le (by rw [jq];exact Nat.le_refl _)]
def bH (d:Wd) (n:Int):Int:=if aA d=0 then (if inB n 0 ((d.nodes.length:Int) - 1) then 0 else 4) else aA d
theorem fH (w0 w:World) (x:WV) (d:Wd) (hW:WAt w x d) (h:Since w0 w) :
  Calls prog 18 #[.agg #[.slice x.ga x.gl x.gc,.slice x.na x.nl x.nc,.slice x.wa x.wl x.wc]] w fun e w'=>e=.returned (.int .i64 (aA d))/\Since w0 w' :=
 (pV x d w hW).mono fun _ _ ⟨he,hw⟩=>⟨he,h.trans hw⟩
theorem jU (x:WV) (d:Wd) (n:Int) (w:World) (hW:WAt w x d) :
  Calls prog 52 #[.agg #[.slice x.ga x.gl x.gc,.slice x.na x.nl x.nc,.slice x.wa x.wl x.wc],.int .i64 n] w fun e w'=>e=.returned (.int .i64 (bH d n))/\Since w w':=by
 obtain ⟨ga,gl,gc,na,nl,nc,wa,wl,wc⟩:=x
 have hnl:=hW.n.hlen
 have hnm:=hW.n.hmax
 dsimp only at hnl hnm ⊢
 subst hnl
 obtain ⟨w1,hw1⟩:∃ w1,w.alloc (.cells #[.slice ga gl gc,.slice na d.nodes.length nc,.slice wa wl wc] 26)=w1:=⟨_,rfl⟩
 have hS1:=au hw1
 have hsz:w.heap.size < w1.heap.size:=by rw [<-hw1];simp
 have b0:w1.cell? ⟨w.heap.size,0,none⟩=some (.slice ga gl gc):=by rw [<-hw1];simp [go_sem]
 have b1:w1.cell? ⟨w.heap.size,1,none⟩=some (.slice na d.nodes.length nc):=by rw [<-hw1];simp [go_sem]
 have b2:w1.cell? ⟨w.heap.size,2,none⟩=some (.slice wa wl wc):=by rw [<-hw1];simp [go_sem]
 have hW1:=hW.since hS1
 have RF:Hid (∀ y,Since w1 y->y.cell? ⟨w.heap.size,1,none⟩=some (.slice na d.nodes.length nc)):=fun y hy=>(hy.cellAt (by omega) _).trans b1
 have hwk:IntKind.i64.wrap ((d.nodes.length:Int) - 1)=(d.nodes.length:Int) - 1:=IntWalk.i64_in _ (by omega)
 cases h1:(aA d != 0)
 rotate_left
 ·have HF:Hid (bH d n=aA d):=by
   have:¬ aA d=0:=by simpa using h1
   unfold Hid bH;rw [if_neg this]
  go_enter func52,ntmps52
  go_wp2_with (go_at_call 18;refine (fH w1 _ ⟨ga,gl,gc,na,d.nodes.length,nc,wa,wl,wc⟩ d hW1 (Since.refl _)).mono ?_;rintro e w2 ⟨rfl,hS2⟩;have f1:=RF.out _ hS2)
  go_ret
  exact ⟨by rw [HF.out];rfl,hS1.trans (by assumption)⟩
 have HF:Hid (bH d n=if inB n 0 ((d.nodes.length:Int) - 1) then 0 else 4):=by
  have:aA d=0:=by simpa using h1
  unfold Hid bH;rw [if_pos this]
 cases h2:inB n 0 ((d.nodes.length:Int) - 1)
 ·have HG:Hid (bH d n=4):=by unfold Hid;rw [HF.out,h2];rfl
  have H2:Hid (inB n 0 ((d.nodes.length:Int) - 1)=false):=h2
  clear h2
  go_enter func52,ntmps52
  go_wp2_with (first
   | (go_at_call 18;refine (fH w1 _ ⟨ga,gl,gc,na,d.nodes.length,nc,wa,wl,wc⟩ d hW1 (Since.refl _)).mono ?_;rintro e w2 ⟨rfl,hS2⟩;have f1:=RF.out _ hS2)
   | (go_at_call 41;refine (aI _ _ _ _).mono ?_;rw [H2.out];rintro e w' ⟨rfl,hw⟩;obtain rfl:=hw.symm))
  go_ret
  exact ⟨by rw [HG.out];rfl,hS1.trans (by assumption)⟩
 ·have HG:Hid (bH d n=0):=by unfold Hid;rw [HF.out,h2];rfl
  have H2:Hid (inB n 0 ((d.nodes.length:Int) - 1)=true):=h2
  clear h2
  go_enter func52,ntmps52
  go_wp2_with (first
   | (go_at_call 18;refine (fH w1 _ ⟨ga,gl,gc,na,d.nodes.length,nc,wa,wl,wc⟩ d hW1 (Since.refl _)).mono ?_;rintro e w2 ⟨rfl,hS2⟩;have f1:=RF.out _ hS2)
   | (go_at_call 41;refine (aI _ _ _ _).mono ?_;rw [H2.out];rintro e w' ⟨rfl,hw⟩;obtain rfl:=hw.symm))
  go_ret
  exact ⟨by rw [HG.out];rfl,hS1.trans (by assumption)⟩
structure jA (d:Wd) (nd:Nd):Prop where
 len:nd.last.length=d.groups.length
 rows:∀ (g:Nat) (row:List Int),nd.last[g]? = some row->row.length=d.nodes.length
set_option maxRecDepth 4000 in
theorem tu (x:WV) (d:Wd) (n:Nat) (nd:Nd) (w:World) (hW:WAt w x d) (hn:d.nodes[n]? = some nd) (hL0:jA d nd) :
  Calls prog 53 #[.agg #[.slice x.ga x.gl x.gc,.slice x.na x.nl x.nc,.slice x.wa x.wl x.wc],.int .i64 n] w fun e w'=>e=.returned (.int .i64 (tq d n nd))/\Since w w':=by
 have hnl:=(zQ2.1 hn).1
 obtain ⟨ga,gl,gc,na,nl,nc,wa,wl,wc⟩:=x
 have mQ:=hW.n.hlen
 have hnm:=hW.n.hmax
 have hgl:=hW.g.hlen
 have hgm:=hW.g.hmax
 dsimp only at mQ hnm hgl hgm ⊢
 subst mQ hgl
 obtain ⟨bn,on,rfl,hbn,hcn⟩:=hW.n.cells (by dsimp only;omega)
 obtain ⟨k0,⟨v1,k1,la,lc,rfl,hlc,hL⟩,⟨v2,k2,ha,hc,rfl,hhc,hH⟩,⟨v3,k3,ta,tc,rfl,htc,hT⟩⟩:=hcn n nd hn
 have hlm:=hL.hmax
 obtain ⟨w1,hw1⟩:∃ w1,(w.alloc (.cells #[.slice ga d.groups.length gc,.slice (some ⟨bn,on,none⟩) d.nodes.length nc,.slice wa wl wc] 26)).alloc (.cells #[.int .i64 nd.clock,.slice la nd.last.length lc,.slice ha nd.held.length hc,.slice ta nd.told.length tc] 45)=w1:=⟨_,rfl⟩
 have hS1:Since w w1:=by rw [<-hw1];exact ((Since.refl w).alloc _).alloc _
 have hsz:w.heap.size+1 < w1.heap.size:=by rw [<-hw1];simp
 have b0:w1.cell? ⟨w.heap.size,0,none⟩=some (.slice ga d.groups.length gc):=by rw [<-hw1];simp [go_sem]
 have b1:w1.cell? ⟨w.heap.size,1,none⟩=some (.slice (some ⟨bn,on,none⟩) d.nodes.length nc):=by rw [<-hw1];simp [go_sem]
 have b3:w1.cell? ⟨w.heap.size+1,0,none⟩=some (.int .i64 nd.clock):=by rw [<-hw1];simp [go_sem]
 have b4:w1.cell? ⟨w.heap.size+1,1,none⟩=some (.slice la nd.last.length lc):=by rw [<-hw1];simp [go_sem]
 have hG1:Ints w1 ga d.groups.length d.groups:=hW.g.since hS1
 have hL1:=hL.since kD hS1
 have n1:(n:Int) < (d.nodes.length:Int):=by omega
 clear hcn
 go_enter func53,ntmps53
 go_wp2
 clear hw1 k0 k1 k2 k3
 go_loopw [6,7,8] (fun o g _ wr=>(∃ k:Nat,k<=d.groups.length/\g=.int .i64 k/\o=.int .i64 (jy d n nd (k*d.nodes.length)))/\wr=w1) (fun _ g _ _=>d.groups.length - (intOf g).toNat)
 case atStart=>exact ⟨⟨0,Nat.zero_le _,rfl,by unfold jy;simp⟩,rfl⟩
 case round =>
  obtain ⟨⟨g,hg,rfl,rfl⟩,hwr⟩:=hrel
  obtain rfl:=hwr.symm
  clear hwr
  by_cases hlt:g < d.groups.length
  ·obtain ⟨row,hrow⟩:∃ row,nd.last[g]? = some row:=⟨_,zQ1 (by have:=hL0.len;omega)⟩
   have hrl:=hL0.rows g row hrow
   obtain ⟨bL,oL,rfl,hbL,hcL⟩:=hL1.cells (by have:=hL0.len;omega)
   obtain ⟨v4,k4,ra,rc,rfl,hrc,hR⟩:=hcL g row hrow
   have hRm:=hR.hmax
   have hRc:=hR.cells
   have jZ:Hid (nd.last[g]? = some row):=hrow
   have HRL:Hid (row.length=d.nodes.length):=hrl
   have g1:(g:Int) < (nd.last.length:Int):=by have:=hL0.len;omega
   clear hcL hrow hR hrl
   go_wp2_with fail
   go_loopw [6,8] (fun o i wr=>(∃ k:Nat,k<=d.nodes.length/\i=.int .i64 k/\o=.int .i64 (jy d n nd (g*d.nodes.length+k)))/\wr=w1) (fun _ i _=>d.nodes.length - (intOf i).toNat)
   case atStart=>exact ⟨⟨0,Nat.zero_le _,rfl,rfl⟩,rfl⟩
   case round =>
    obtain ⟨⟨k,hk,rfl,rfl⟩,hwr⟩:=hrel
    obtain rfl:=hwr.symm
    clear hwr
    by_cases hkl:k < d.nodes.length
    ·obtain ⟨v,hv⟩:∃ v,row[k]? = some v:=⟨_,zQ1 (by have:=HRL.out;omega)⟩
     obtain ⟨bR,oR,rfl,hbR,hcR⟩:=hRc (by have:=HRL.out;omega)
     have k6:w1.cell? ⟨bR,oR+k,none⟩=some (.int .i64 v):=by have:=hcR k (by have:=HRL.out;omega);rw [hv] at this;exact this
     have g2:(k:Int) < (row.length:Int):=by have:=HRL.out;omega
     have HV:Hid (bT nd.last g k=v):=by unfold Hid bT;rw [jZ.out,Option.getD_some,hv];rfl
     have HS:Hid (jy d n nd (g*d.nodes.length+(k+1))=if xI d n (g,k) then (if v < jy d n nd (g*d.nodes.length+k) then v else jy d n nd (g*d.nodes.length+k)) else jy d n nd (g*d.nodes.length+k)):=by
      have:=xJ (n:=n) (nd:=nd) (pW hlt hkl)
      unfold pO at this
      rw [HV.out] at this
      exact this
     have HO:Hid (xI d n (g,k)=(((k:Int) != (n:Int)) && (hasB d.groups g n && hasB d.groups g k))):=rfl
     obtain ⟨acc,hacc⟩:∃ acc,jy d n nd (g*d.nodes.length+k)=acc:=⟨_,rfl⟩
     rw [hacc]
     have Ho:Hid (jy d n nd (g*d.nodes.length+k)=acc):=hacc
     clear hv hcR hRc hacc
     cases h1:((k:Int) != (n:Int))
     all_goals cases h2:hasB d.groups g n
     all_goals cases h3:hasB d.groups g k
     all_goals
      have HO1:=HO.out
      rw [h1,h2,h3] at HO1
      have HS1:=HS.out
      rw [HO1,Ho.out] at HS1
      have HS2:Hid (jy d n nd (g*d.nodes.length+(k+1))=_):=HS1
      clear HO1 HS1
      have H3:Hid (hasB d.groups g k=_):=h3
      clear h3
      go_wp2_with (go_at_call 81;refine (bC _ _ _ d.groups _ _ _ hG1).mono ?_;(first | rw [h2] | rw [H3.out]);rintro e w' ⟨rfl,hw⟩;obtain rfl:=hw.symm)
     all_goals exact ⟨⟨⟨k+1,by omega,by go_num,by rw [HS2.out];rfl⟩,trivial⟩,by simp [intOf];omega⟩
    ·obtain rfl:k=d.nodes.length:=by omega
     go_wp2_with fail
     exact ⟨⟨⟨g+1,by omega,by go_num,by rw [Nat.succ_mul]⟩,trivial⟩,by simp [intOf];omega⟩
  ·obtain rfl:g=d.groups.length:=by omega
   go_wp2
   go_ret
   exact ⟨by rw [zF];rfl,hS1⟩
end Go.Proofs.Ytiiifecfdkjmbaa
set_option maxHeartbeats 2000000
namespace Go.Proofs.Ytiiifecfdkjmbaa
open _root_.Go.Proofs.Try hiding checked
set_option maxRecDepth 8000
open Go.RowKit Go.Shelf
theorem pX (w0:World) (x:WV) (d:Wd) (n:Nat) (nd:Nd) (v:Int) (hv:tq d n nd=v) (hW:WAt w0 x d) (hn:d.nodes[n]? = some nd) (hL0:jA d nd) (w:World) (h:Since w0 w) :
  Calls prog 53 #[.agg #[.slice x.ga x.gl x.gc,.slice x.na x.nl x.nc,.slice x.wa x.wl x.wc],.int .i64 n] w fun e w'=>e=.returned (.int .i64 v)/\Since w0 w' :=
 (tu x d n nd w (hW.since h) hn hL0).mono fun _ _ ⟨he,hw⟩=>⟨by rw [<-hv];exact he,h.trans hw⟩
def dU (d:Wd) (n:Nat) (nd:Nd):List Mg:=nd.held.filter fun m=>decide (m.st<=tq d n nd)
theorem uZ (f:Int) (l:List Mg) (k:Nat):((l.take k).filter fun m=>decide (m.st<=f)).length<=k:=by
 have:=List.length_filter_le (fun m:Mg=>decide (m.st<=f)) (l.take k)
 have:=List.length_take_le k l
 omega
set_option maxRecDepth 8000 in
theorem tF (x:WV) (d:Wd) (n:Nat) (nd:Nd) (w:World) (hW:WAt w x d) (hn:d.nodes[n]? = some nd) (hL0:jA d nd) (hsh:nd.held.length<=40) :
  Calls prog 55 #[.agg #[.slice x.ga x.gl x.gc,.slice x.na x.nl x.nc,.slice x.wa x.wl x.wc],.int .i64 n] w fun e w'=>∃ v,e=.returned v/\w'.ownsRow w.heap.size 48 5 v (dU d n nd).length (flat (dU d n nd))/\Since w w':=by
 obtain ⟨i0,hi,hz0,hz1,hz2⟩:=info_parts Try.nG
 have hnl:=(zQ2.1 hn).1
 obtain ⟨ga,gl,gc,na,nl,nc,wa,wl,wc⟩:=x
 have mQ:=hW.n.hlen
 have hnm:=hW.n.hmax
 dsimp only at mQ hnm ⊢
 subst mQ
 obtain ⟨bn,on,rfl,hbn,hcn⟩:=hW.n.cells (by dsimp only;omega)
 obtain ⟨k0,-,⟨v2,k2,ha,hc,rfl,hhc,hH⟩,-⟩:=hcn n nd hn
 obtain ⟨w1,hw1⟩:∃ w1,w.alloc (.cells #[.slice ga gl gc,.slice (some ⟨bn,on,none⟩) d.nodes.length nc,.slice wa wl wc] 26)=w1:=⟨_,rfl⟩
 have hS1:=au hw1
 have hsz:w.heap.size < w1.heap.size:=by rw [<-hw1];simp
 have b0:w1.cell? ⟨w.heap.size,0,none⟩=some (.slice ga gl gc):=by rw [<-hw1];simp [go_sem]
 have b1:w1.cell? ⟨w.heap.size,1,none⟩=some (.slice (some ⟨bn,on,none⟩) d.nodes.length nc):=by rw [<-hw1];simp [go_sem]
 have b2:w1.cell? ⟨w.heap.size,2,none⟩=some (.slice wa wl wc):=by rw [<-hw1];simp [go_sem]
 have hW1:=hW.since hS1
 have n1:(n:Int) < (d.nodes.length:Int):=by omega
 obtain ⟨far,zG⟩:∃ far,tq d n nd=far:=⟨_,rfl⟩
 have Fv:Hid (tq d n nd=far):=zG
 have HRL:Hid (dU d n nd=nd.held.filter fun m=>decide (m.st<=far)):=by unfold Hid dU;rw [zG]
 clear hcn k0 zG
 have RF:Hid (∀ y,Since w1 y->y.cell? ⟨w.heap.size,0,none⟩=some (.slice ga gl gc)/\y.cell? ⟨w.heap.size,1,none⟩=some (.slice (some ⟨bn,on,none⟩) d.nodes.length nc)/\y.cell? ⟨w.heap.size,2,none⟩=some (.slice wa wl wc)/\y.cell? ⟨bn,on+n*4+2,none⟩=some (.slice ha nd.held.length hc)):=fun y hy =>
  ⟨(hy.cellAt (by omega) _).trans b0,(hy.cellAt (by omega) _).trans b1,(hy.cellAt (by omega) _).trans b2,((hS1.trans hy).cellAt hbn _).trans k2⟩
 obtain ⟨_,hHm,hHc⟩:=hH
 go_enter func55,ntmps55
 go_wp2
 clear hw1
 go_loopw [5,6] (fun v i wr=>(∃ k:Nat,k<=nd.held.length/\i=.int .i64 k/\wr.ownsRow w1.heap.size 48 5 v ((nd.held.take k).filter fun m=>decide (m.st<=far)).length (flat ((nd.held.take k).filter fun m=>decide (m.st<=far))))/\Since w1 wr) (fun _ i _=>nd.held.length - (intOf i).toNat)
 case atStart=>exact ⟨⟨0,by omega,rfl,World.ownsRow_nil _ _ _ _⟩,Since.refl _⟩
 case round =>
  obtain ⟨⟨k,hk,rfl,hown⟩,hS⟩:=hrel
  obtain ⟨va,Fw,rfl,hvc⟩:=ownsRow_form hown
  obtain ⟨f0,f1,f2,f3⟩:=RF.out _ hS
  by_cases hlt:k < nd.held.length
  ·obtain ⟨b,off,rfl,hb,hcell⟩:=hHc (by omega)
   obtain ⟨m,hm⟩:∃ m,nd.held[k]? = some m:=⟨_,zQ1 hlt⟩
   have hS0:=hS1.trans hS
   obtain ⟨d0,d1,d2,d3,d4⟩:=aX (w:=wr) (fun i u hi=>(hS0.cellAt hb _).trans (hcell i u hi)) k m hm
   have HM:Hid (nd.held[k]? = some m):=hm
   obtain ⟨L,hL⟩:∃ L,((nd.held.take k).filter fun m=>decide (m.st<=far))=L:=⟨_,rfl⟩
   have hLk:L.length<=k:=by rw [<-hL];exact uZ _ _ _
   rw [hL] at hown hvc ⊢
   have HL:Hid (((nd.held.take k).filter fun m=>decide (m.st<=far))=L):=hL
   obtain ⟨w2,hw2⟩:∃ w2,wr.alloc (.cells #[.int .i64 m.fr,.int .i64 m.gr,.int .i64 m.st,.bool m.nul,.string m.body] 48)=w2:=⟨_,rfl⟩
   have hS2:=au hw2
   have hsz2:wr.heap.size < w2.heap.size:=by rw [<-hw2];simp
   have q2:w2.cell? ⟨wr.heap.size,2,none⟩=some (.int .i64 m.st):=by rw [<-hw2];simp [go_sem]
   have hQ:dR w2 wr.heap.size 0 m:=by rw [<-hw2];constructor <;> simp [go_sem]
   have hne:Nonempty (Later w2):=⟨⟨w2,Since.refl w2⟩⟩
   have gm:∀ (y:Later w2) (o:Nat),y.w.cell? ⟨wr.heap.size,o,none⟩=w2.cell? ⟨wr.heap.size,o,none⟩:=fun y o=>y.cell hsz2
   have gw:∀ (y:Later w2) (o:Nat),y.w.cell? ⟨w.heap.size,o,none⟩=w1.cell? ⟨w.heap.size,o,none⟩:=fun y o=>Later.old (hS.trans hS2) y o (by omega)
   have hW2:=hW1.since (hS.trans hS2)
   have hown2:=dN hS2 hown
   clear hm hcell hHc hL hown
   cases h6:decide (m.st<=far)
   ·have HF:Hid (((nd.held.take (k+1)).filter fun m=>decide (m.st<=far))=L):=by
     unfold Hid;rw [List.take_add_one,HM.out,List.filter_append,HL.out];simp [h6]
    go_wp2_with fail
    refine aj (by kernel_rfl) (by kernel_rfl) (Since.refl w2) ?_
    repeat (go_big_quiet_step ((go_at_call 53;exact Later.call (pX w2 ⟨ga,gl,gc,_,d.nodes.length,nc,wa,wl,wc⟩ d n nd _ Fv.out hW2 hn hL0))))
    refine wpQuiet_nil ?_
    intro w9 hS9
    go_wp2
    go_roundw
    case rel=>exact ⟨⟨k+1,by omega,by go_num,by rw [HF.out];exact dN hS9 hown2⟩,hS.trans (hS2.trans hS9)⟩
    case measure=>simp [intOf];omega
   ·have HF:Hid (((nd.held.take (k+1)).filter fun m=>decide (m.st<=far))=L++[m]):=by
     unfold Hid;rw [List.take_add_one,HM.out,List.filter_append,HL.out];simp [h6]
    go_wp2_with fail
    refine aj (by kernel_rfl) (by kernel_rfl) (Since.refl w2) ?_
    repeat (go_big_quiet_step ((go_at_call 53;exact Later.call (pX w2 ⟨ga,gl,gc,_,d.nodes.length,nc,wa,wl,wc⟩ d n nd _ Fv.out hW2 hn hL0))))
    refine wpQuiet_nil ?_
    intro w9 hS9
    have jM:=dN hS9 hown2
    have zH:Since w1 w9:=hS.trans (hS2.trans hS9)
    obtain ⟨g0,g1,g2,g3,g4⟩:=hQ
    have p0:w9.cell? ⟨wr.heap.size,0,none⟩=some (.int .i64 m.fr):=(hS9.cellAt hsz2 _).trans g0
    have p1:w9.cell? ⟨wr.heap.size,1,none⟩=some (.int .i64 m.gr):=(hS9.cellAt hsz2 _).trans g1
    have p2:w9.cell? ⟨wr.heap.size,2,none⟩=some (.int .i64 m.st):=(hS9.cellAt hsz2 _).trans g2
    have p3:w9.cell? ⟨wr.heap.size,3,none⟩=some (.bool m.nul):=(hS9.cellAt hsz2 _).trans g3
    have p4:w9.cell? ⟨wr.heap.size,4,none⟩=some (.string m.body):=(hS9.cellAt hsz2 _).trans g4
    clear g0 g1 g2 g3 g4 gm gw hown2 hw2 d0 d1 d2 d3 d4 q2
    go_wp2_with (at_builtin;refine wpList_append_own _ rfl _ _ 39 rfl w1.heap.size 48 i0 (.agg #[.int .i64 0,.int .i64 0,.int .i64 0,.bool false,.string ByteArray.empty]) 5 48 underlying39 hi hz0 hz1 hz2 rfl (by decide) _ _ _ rfl (jM.alloc _) ⟨w9.heap.size,0,none⟩ 1 1 m.cells rfl rfl (eT _ _ _) (fun u hu=>aW u [m] (by simpa [flat] using hu)) (by unfold maxLen;omega) (by omega) (by have:=zH.size;simp;omega) ?_;intro v3 w12 hown3 iG _;have aY:Since w1 w12:=(zH.alloc _).grown iG (aL jM))
    go_roundw
    case rel=>exact ⟨⟨k+1,by omega,by go_num,by rw [HF.out,List.length_append,dD];simpa [flat] using hown3⟩,by assumption⟩
    case measure=>simp [intOf];omega
  ·obtain rfl:k=nd.held.length:=by omega
   rw [List.take_of_length_le (Nat.le_refl _)] at hown
   have hown':wr.ownsRow w1.heap.size 48 5 (.slice va ((nd.held.take nd.held.length).filter fun m=>decide (m.st<=far)).length Fw) (dU d n nd).length (flat (dU d n nd)):=by
    rw [HRL.out];rw [List.take_of_length_le (Nat.le_refl _)];exact hown
   go_wp2
   go_ret
   exact ⟨_,rfl,nH (by omega) hown',hS1.trans hS⟩
end Go.Proofs.Ytiiifecfdkjmbaa
