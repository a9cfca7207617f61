/- Lemmas. -/
import Derived.Test.YtiiifecfdkjmbaaGreatRestP
import Derived.Test.YtiiifecfdkjmbaaGreatRAll
import Derived.Test.YtiiifecfdkjmbaaGreatRDo4X
set_option maxHeartbeats 8000000
namespace Go.Proofs.YtiiifecfdkjmbaaGreat
open _root_.Go.Proofs.Tryz
set_option maxRecDepth 8000
open Go.RowKit Go.Shelf
open Pu
set_option linter.unusedVariables false
set_option linter.unusedSimpArgs false
theorem zk (x:WV) (d:Wd) (ac:Ac) (w:World) (hW:WAt w x d) (h0:¬ aD d=0) :
  Calls prog 27 #[.agg #[.slice x.ga x.gl x.gc,.slice x.na x.nl x.nc,.slice x.wa x.wl x.wc],acV ac] w fun e w'=>e=.returned (.bool true)/\Since w w':=by
 obtain ⟨ga,gl,gc,na,nl,nc,wa,wl,wc⟩:=x
 dsimp only
 obtain ⟨wz,hwz⟩:∃ wp,w.alloc (.cells #[.slice ga gl gc,.slice na nl nc,.slice wa wl wc] 26)=wp:=⟨_,rfl⟩
 obtain ⟨w1,hw1⟩:∃ wp,wz.alloc (.cells #[.int .i64 ac.kind,.int .i64 ac.one,.int .i64 ac.two,.string ac.body] 58)=wp:=⟨_,rfl⟩
 have hSz:=au hwz
 have LQ:=au hw1
 have hP1:aG w1 w.heap.size ⟨ga,gl,gc,na,nl,nc,wa,wl,wc⟩:=aG.since (by rw [<-hwz];exact aG.new w ⟨ga,gl,gc,na,nl,nc,wa,wl,wc⟩ _) LQ
 have hS1:Since w w1:=hSz.trans LQ
 unfold acV
 have hC:=fE w1 w1 ⟨ga,gl,gc,na,nl,nc,wa,wl,wc⟩ d (hW.since hS1) (Since.refl _)
 dsimp only at hC
 have p0:=hP1.c0
 have p1:=hP1.c1
 have p2:=hP1.c2
 dsimp only at p0 p1 p2
 obtain ⟨er,her⟩:∃ y,aD d=y:=⟨_,rfl⟩
 rw [her] at hC h0
 have hb:(er != 0)=true:=by simpa using h0
 clear h0 her hW
 go_enter func27,ntmps27
 go_wp2_with fail
 refine hC.mono ?_
 rintro e w3 ⟨rfl,hS3⟩
 go_wp2_with (go_at_call 62;refine (vM w3).mono ?_;rintro e w8 ⟨rfl,hS8⟩)
 go_ret
 exact ⟨by simp,hS1.trans (hS3.trans hS8)⟩
theorem JX (x:WV) (d:Wd) (ac:Ac) (w:World) (hW:WAt w x d) :
  Calls prog 61 #[.agg #[.slice x.ga x.gl x.gc,.slice x.na x.nl x.nc,.slice x.wa x.wl x.wc],acV ac] w fun e w'=>∃ L,e=.returned (.tuple #[aI L (doW d ac),.int .i64 (doE d ac)])/\aU w.heap.size w' (doW d ac) L/\Since w w':=by
 refine (JY x d ac w hW).mono ?_
 intro e w' h
 unfold doE doW
 cases hr:doD d ac with
 | error er =>
  rw [hr] at h
  obtain ⟨he,hS⟩:=h.out.1 er rfl
  exact ⟨fun _=>⟨none,0⟩,he,I4 _ _,hS⟩
 | ok d' =>
  rw [hr] at h
  exact h.out.2 d' rfl
theorem AZ (x:WV) (d D:Wd) (E:Int) (ac:Ac) (w:World) (hW:WAt w x d) (h0:aD d=0) (hsm:CQ d) (hD:doW d ac=D) (hE:doE d ac=E) :
  Calls prog 27 #[.agg #[.slice x.ga x.gl x.gc,.slice x.na x.nl x.nc,.slice x.wa x.wl x.wc],acV ac] w fun e w'=>e=.returned (.bool true)/\Since w w':=by
 obtain ⟨ga,gl,gc,na,nl,nc,wa,wl,wc⟩:=x
 dsimp only
 obtain ⟨wz,hwz⟩:∃ wp,w.alloc (.cells #[.slice ga gl gc,.slice na nl nc,.slice wa wl wc] 26)=wp:=⟨_,rfl⟩
 obtain ⟨w1,hw1⟩:∃ wp,wz.alloc (.cells #[.int .i64 ac.kind,.int .i64 ac.one,.int .i64 ac.two,.string ac.body] 58)=wp:=⟨_,rfl⟩
 have hSz:=au hwz
 have LQ:=au hw1
 have hP1:aG w1 w.heap.size ⟨ga,gl,gc,na,nl,nc,wa,wl,wc⟩:=aG.since (by rw [<-hwz];exact aG.new w ⟨ga,gl,gc,na,nl,nc,wa,wl,wc⟩ _) LQ
 have hBz:fD w1 wz.heap.size (.int .i64 ac.kind) (.int .i64 ac.one) (.int .i64 ac.two) (.string ac.body):=by rw [<-hw1];exact vN wz _ _ _ _ _
 have hS1:Since w w1:=hSz.trans LQ
 have AF:Hid (∀ y,Since w1 y->fD y wz.heap.size (.int .i64 ac.kind) (.int .i64 ac.one) (.int .i64 ac.two) (.string ac.body)):=fun y hy=>hBz.since hy
 unfold acV
 have hW1:=hW.since hS1
 have PF:Hid (∀ y,Since w1 y->aG y w.heap.size ⟨ga,gl,gc,na,nl,nc,wa,wl,wc⟩):=fun y hy=>hP1.since hy
 have hC:=fE w1 w1 ⟨ga,gl,gc,na,nl,nc,wa,wl,wc⟩ d hW1 (Since.refl _)
 have hOw:=fun (y:World) (hy:Since w1 y)=>kL ⟨ga,gl,gc,na,nl,nc,wa,wl,wc⟩ d y (hW1.since hy) hsm
 have hDo:=fun (y:World) (hy:Since w1 y)=>Pn ⟨ga,gl,gc,na,nl,nc,wa,wl,wc⟩ d ac y (hW1.since hy)
 rw [hD,hE] at hDo
 have hRd:=fun (y:World) (hy:Since w1 y)=>JX ⟨ga,gl,gc,na,nl,nc,wa,wl,wc⟩ d ac y (hW1.since hy)
 rw [hD,hE] at hRd
 have hAl:=fun (y:World) (hy:Since w1 y)=>JD ⟨ga,gl,gc,na,nl,nc,wa,wl,wc⟩ d y (hW1.since hy)
 have hRa:=fun (y:World) (hy:Since w1 y)=>GD ⟨ga,gl,gc,na,nl,nc,wa,wl,wc⟩ d y (hW1.since hy)
 obtain ⟨al,hal⟩:∃ y,pU d=y:=⟨_,rfl⟩
 obtain ⟨AE,hAE⟩:∃ y,vD d=y:=⟨_,rfl⟩
 rw [hal,hAE] at hAl hRa
 clear hal hAE
 dsimp only [acV] at hC hOw hDo hRd hAl hRa
 rw [h0] at hC
 have p0:=hP1.c0
 have p1:=hP1.c1
 have p2:=hP1.c2
 dsimp only at p0 p1 p2
 clear h0 hW hBz hP1
 go_enter func27,ntmps27
 go_wp2_with fail
 refine hC.mono ?_
 rintro e w3 ⟨rfl,hS3⟩
 clear p0 p1 p2 hC
 obtain ⟨_,p0,p1,p2⟩:=PF.out _ hS3
 dsimp only at p0 p1 p2
 go_wp2_with fail
 refine (hOw w3 hS3).mono ?_
 rintro e w4 ⟨L0,rfl,hO0,hS4⟩
 simp only [aI]
 clear p0 p1 p2 hOw
 obtain ⟨w5,hw5⟩:∃ y,w4.alloc (.cells #[.slice (L0 (0,0,0)).a d.groups.length (L0 (0,0,0)).cap,.slice (L0 (1,0,0)).a d.nodes.length (L0 (1,0,0)).cap,.slice (L0 (2,0,0)).a d.wires.length (L0 (2,0,0)).cap] 26)=y:=⟨_,rfl⟩
 have hS5:=au hw5
 have hB5:iA w5 w4.heap.size L0 d:=by rw [<-hw5];constructor <;> simp [go_sem]
 have h15:=hS3.trans (hS4.trans hS5)
 obtain ⟨_,p0,p1,p2⟩:=PF.out _ h15
 dsimp only at p0 p1 p2
 obtain ⟨_,y0,y1,y2,y3,_⟩:=AF.out _ h15
 go_wp2_with fail
 refine (hDo w5 h15).mono ?_
 rintro e w6 ⟨L,rfl,hO,hS6⟩
 simp only [aI]
 clear p0 p1 p2 y0 y1 y2 y3 hw5
 obtain ⟨w7,hw7⟩:∃ y,w6.alloc (.cells #[.slice (L (0,0,0)).a D.groups.length (L (0,0,0)).cap,.slice (L (1,0,0)).a D.nodes.length (L (1,0,0)).cap,.slice (L (2,0,0)).a D.wires.length (L (2,0,0)).cap] 26)=y:=⟨_,rfl⟩
 have hS7:=au hw7
 have hB7:iA w7 w6.heap.size L D:=by rw [<-hw7];constructor <;> simp [go_sem]
 have hO7:=hO.since hS7
 have hNH:Hid (∀ ix b,okI D ix->ix.1≠2/\ix.1≠3/\ix.1≠7->(L ix).blk=some b->¬ HdB D L w6.heap.size b):=fun ix b hi hn hb=>NR hO (by omega) hi hb hn
 have HNB:Hid (∃ nb no,(0 < D.nodes.length->(∃ cap,L (1,0,0)=⟨some ⟨nb,no,none⟩,cap⟩)/\w5.heap.size<=nb/\¬ HdB D L w6.heap.size nb)/\∀ ix b,okI D ix->ix.1≠1->(L ix).blk=some b->b≠nb):=by
  by_cases hp:0 < D.nodes.length
  ·obtain ⟨b,off,cap,e,hl,hb,hk,_,_⟩:=hO.body (ix:=(1,0,0)) ⟨rfl,rfl⟩ hp
   refine ⟨b,off,fun _=>⟨⟨cap,e⟩,hl,hNH.out (1,0,0) _ ⟨rfl,rfl⟩ (by decide) hk⟩,fun ix b' hi hn hb' e2=>?_⟩
   subst e2
   have:=hO.inj ix (1,0,0) _ hi ⟨rfl,rfl⟩ hb' hk
   subst this;exact hn rfl
  ·refine ⟨w6.heap.size,0,fun h=>absurd h hp,fun ix b hi _ hb e2=>?_⟩
   have:=(hO.row ix hi).fA hb
   omega
 obtain ⟨nb,no,hnb,QK⟩:=HNB.out
 have HN1:Hid (0 < D.nodes.length->(∃ cap,L (1,0,0)=⟨some ⟨nb,no,none⟩,cap⟩)/\w5.heap.size<=nb/\¬ HdB D L w6.heap.size nb):=hnb
 have HN2:Hid (∀ ix b,okI D ix->ix.1≠1->(L ix).blk=some b->b≠nb):=QK
 have HO:Hid (aU w5.heap.size w7 D L):=hO7
 have BF:Hid (iA w7 w6.heap.size L D):=hB7
 have h17:=h15.trans (hS6.trans hS7)
 have HS7:Hid (Since w5 w7):=hS6.trans hS7
 have hNm:D.nodes.length<=1000:=hO.small (1,0,0) ⟨rfl,rfl⟩
 clear hnb QK hB7 hO hO7
 go_wp2_with fail
 clear hw7
 obtain ⟨_,b0,b1,b2,_,_,_⟩:=BF.out
 go_loopw [8] (fun i wr=>∃ n:Nat,n<=D.nodes.length/\i=.int .i64 n/\Rw w5.heap.size (HdB D L w6.heap.size) nb no n w7 wr) (fun i _=>D.nodes.length - (intOf i).toNat)
 case atStart=>exact ⟨0,Nat.zero_le _,rfl,Rw.refl _ _ _ _ _ _⟩
 case round =>
  obtain ⟨wo,rfl⟩:∃ wo,wo=wr:=⟨_,rfl⟩
  obtain ⟨n,hn,rfl,hr⟩:=hrel
  have HR:Hid (Rw w5.heap.size (HdB D L w6.heap.size) nb no n w7 wo):=hr
  have c1:=(hr.hd w6.heap.size 1 (.inl rfl)).trans b1
  clear hr
  by_cases hlt:n < D.nodes.length
  ·have n1:(n:Int) < (D.nodes.length:Int):=by omega
   obtain ⟨x,hx⟩:∃ y,D.nodes[n]? = some y:=⟨_,zQ1 hlt⟩
   obtain ⟨⟨GH,hL1⟩,NS,NT⟩:=HN1.out (by omega)
   obtain ⟨k0,k1,k2,k3,kz⟩:=HO.out.cells hx hL1
   have HX:Hid (D.nodes[n]? = some x):=hx
   obtain ⟨hm5,hm6⟩:=HO.out.yE hx
   have c1:wo.cell? ⟨w6.heap.size,1,none⟩=some (.slice (some ⟨nb,no,none⟩) D.nodes.length GH):=by rw [c1,hL1]
   clear hx
   have d2:wo.cell? ⟨nb,no+n*4+2,none⟩=some (.slice (L (5,n,0)).a x.held.length (L (5,n,0)).cap):=by
    have h:=HR.out.nod (n*4+2) (by omega)
    rw [<-Nat.add_assoc] at h
    rw [h];exact k2
   go_wp2_with fail
   go_loopw [9] (fun i wr=>∃ k:Nat,k<=x.held.length/\i=.int .i64 k/\Rw w5.heap.size (HdB D L w6.heap.size) nb no n w7 wr) (fun i _=>x.held.length - (intOf i).toNat)
   case atStart=>exact ⟨0,Nat.zero_le _,rfl,HR.out⟩
   case round =>
    clear c1 d2
    obtain ⟨wp,rfl⟩:∃ wo,wo=wr:=⟨_,rfl⟩
    obtain ⟨k,hk,rfl,hr⟩:=hrel
    have HK:Hid (Rw w5.heap.size (HdB D L w6.heap.size) nb no n w7 wp):=hr
    have c1:wp.cell? ⟨w6.heap.size,1,none⟩=some (.slice (some ⟨nb,no,none⟩) D.nodes.length GH):=by rw [hr.hd w6.heap.size 1 (.inl rfl),b1,hL1]
    have d2:wp.cell? ⟨nb,no+n*4+2,none⟩=some (.slice (L (5,n,0)).a x.held.length (L (5,n,0)).cap):=by
     have h:=hr.nod (n*4+2) (by omega)
     rw [<-Nat.add_assoc] at h
     rw [h];exact k2
    clear hr
    by_cases hlk:k < x.held.length
    ·have n2:(k:Int) < (x.held.length:Int):=by omega
     have hnd:=bq HX.out
     obtain ⟨b,of,cap,e,hl,hb,hblk,hwr,_⟩:=HO.out.body (ix:=(5,n,0)) ⟨hlt,rfl⟩ (by show 0 < (aP D n).held.length;rw [hnd];omega)
     have hwr2:∀ j,j < x.held.length*5->(w7.cell? ⟨b,of+j,none⟩).isSome=true/\w7.frozen? ⟨b,of+j,none⟩=false:=fun j hj=>hwr j (by show j < (aP D n).held.length*5;rw [hnd];exact hj)
     have hc:=fun (r:Nat) (h:r < 5)=>HK.out.cell (hwr2 (k*5+r) (by omega)).1 (hwr2 (k*5+r) (by omega)).2
     obtain ⟨⟨v0,f0⟩,g0⟩:=hc 0 (by omega)
     obtain ⟨⟨v1,f1⟩,g1⟩:=hc 1 (by omega)
     obtain ⟨⟨v2,f2⟩,g2⟩:=hc 2 (by omega)
     obtain ⟨⟨v3,f3⟩,g3⟩:=hc 3 (by omega)
     obtain ⟨⟨v4,f4⟩,g4⟩:=hc 4 (by omega)
     simp only [<-Nat.add_assoc,Nat.add_zero] at f0 f1 f2 f3 f4 g0 g1 g2 g3 g4
     have HB:Hid (¬ HdB D L w6.heap.size b/\b≠nb):=⟨hNH.out (5,n,0) _ ⟨hlt,rfl⟩ (by simp) hblk,HN2.out (5,n,0) _ ⟨hlt,rfl⟩ (by simp) hblk⟩
     rw [e] at d2
     dsimp only at d2
     clear hwr hwr2 hc e hblk hnd
     go_wp2_with fail
     refine ⟨⟨k+1,by omega,by go_num, ?_⟩,by simp [intOf];omega⟩
     exact Rw.set (Rw.set (Rw.set (Rw.set (Rw.set HK.out _ _ hl HB.out.1 HB.out.2) _ _ hl HB.out.1 HB.out.2) _ _ hl HB.out.1 HB.out.2) _ _ hl HB.out.1 HB.out.2) _ _ hl HB.out.1 HB.out.2
    ·obtain rfl:k=x.held.length:=by omega
     have HR2:Hid (Rw w5.heap.size (HdB D L w6.heap.size) nb no n w7 wp):=HK.out
     clear HK hlk hk
     have d3:wp.cell? ⟨nb,no+n*4+3,none⟩=some (.slice (L (6,n,0)).a x.told.length (L (6,n,0)).cap):=by
      have h:=HR2.out.nod (n*4+3) (by omega)
      rw [<-Nat.add_assoc] at h
      rw [h];exact k3
     go_wp2_with fail
     go_loopw [10] (fun i wr=>∃ k:Nat,k<=x.told.length/\i=.int .i64 k/\Rw w5.heap.size (HdB D L w6.heap.size) nb no n w7 wr) (fun i _=>x.told.length - (intOf i).toNat)
     case atStart=>exact ⟨0,Nat.zero_le _,rfl,HR2.out⟩
     case round =>
      clear c1 d3
      obtain ⟨wq,rfl⟩:∃ wo,wo=wr:=⟨_,rfl⟩
      obtain ⟨k,hk,rfl,hr⟩:=hrel
      have HK:Hid (Rw w5.heap.size (HdB D L w6.heap.size) nb no n w7 wq):=hr
      have c1:wq.cell? ⟨w6.heap.size,1,none⟩=some (.slice (some ⟨nb,no,none⟩) D.nodes.length GH):=by rw [hr.hd w6.heap.size 1 (.inl rfl),b1,hL1]
      have d3:wq.cell? ⟨nb,no+n*4+3,none⟩=some (.slice (L (6,n,0)).a x.told.length (L (6,n,0)).cap):=by
       have h:=hr.nod (n*4+3) (by omega)
       rw [<-Nat.add_assoc] at h
       rw [h];exact k3
      clear hr
      by_cases hlk:k < x.told.length
      ·have n2:(k:Int) < (x.told.length:Int):=by omega
       have hnd:=bq HX.out
       obtain ⟨b,of,cap,e,hl,hb,hblk,hwr,_⟩:=HO.out.body (ix:=(6,n,0)) ⟨hlt,rfl⟩ (by show 0 < (aP D n).told.length;rw [hnd];omega)
       have hwr2:∀ j,j < x.told.length*5->(w7.cell? ⟨b,of+j,none⟩).isSome=true/\w7.frozen? ⟨b,of+j,none⟩=false:=fun j hj=>hwr j (by show j < (aP D n).told.length*5;rw [hnd];exact hj)
       have hc:=fun (r:Nat) (h:r < 5)=>HK.out.cell (hwr2 (k*5+r) (by omega)).1 (hwr2 (k*5+r) (by omega)).2
       obtain ⟨⟨v0,f0⟩,g0⟩:=hc 0 (by omega)
       obtain ⟨⟨v1,f1⟩,g1⟩:=hc 1 (by omega)
       obtain ⟨⟨v2,f2⟩,g2⟩:=hc 2 (by omega)
       obtain ⟨⟨v3,f3⟩,g3⟩:=hc 3 (by omega)
       obtain ⟨⟨v4,f4⟩,g4⟩:=hc 4 (by omega)
       simp only [<-Nat.add_assoc,Nat.add_zero] at f0 f1 f2 f3 f4 g0 g1 g2 g3 g4
       have HB:Hid (¬ HdB D L w6.heap.size b/\b≠nb):=⟨hNH.out (6,n,0) _ ⟨hlt,rfl⟩ (by simp) hblk,HN2.out (6,n,0) _ ⟨hlt,rfl⟩ (by simp) hblk⟩
       rw [e] at d3
       dsimp only at d3
       clear hwr hwr2 hc e hblk hnd
       go_wp2_with fail
       refine ⟨⟨k+1,by omega,by go_num, ?_⟩,by simp [intOf];omega⟩
       exact Rw.set (Rw.set (Rw.set (Rw.set (Rw.set HK.out _ _ hl HB.out.1 HB.out.2) _ _ hl HB.out.1 HB.out.2) _ _ hl HB.out.1 HB.out.2) _ _ hl HB.out.1 HB.out.2) _ _ hl HB.out.1 HB.out.2
      ·obtain rfl:k=x.told.length:=by omega
       have HR3:Hid (Rw w5.heap.size (HdB D L w6.heap.size) nb no n w7 wq):=HK.out
       clear HK hlk hk
       have d1:wq.cell? ⟨nb,no+n*4+1,none⟩=some (.slice (L (3,n,0)).a x.last.length (L (3,n,0)).cap):=by
        have h:=HR3.out.nod (n*4+1) (by omega)
        rw [<-Nat.add_assoc] at h
        rw [h];exact k1
       have hm3:x.last.length<=1000:=by
        have:=HO.out.small (3,n,0) ⟨hlt,rfl⟩
        have hnd:=bq HX.out
        change (aP D n).last.length<=1000 at this
        rwa [hnd] at this
       go_wp2_with fail
       go_loopw [11] (fun i wr=>∃ g:Nat,g<=x.last.length/\i=.int .i64 g/\Rw w5.heap.size (HdB D L w6.heap.size) nb no n w7 wr) (fun i _=>x.last.length - (intOf i).toNat)
       case atStart=>exact ⟨0,Nat.zero_le _,rfl,HR3.out⟩
       case round =>
        clear c1 d1
        obtain ⟨ws,rfl⟩:∃ wo,wo=wr:=⟨_,rfl⟩
        obtain ⟨g,hg,rfl,hr⟩:=hrel
        have HG:Hid (Rw w5.heap.size (HdB D L w6.heap.size) nb no n w7 ws):=hr
        have c1:ws.cell? ⟨w6.heap.size,1,none⟩=some (.slice (some ⟨nb,no,none⟩) D.nodes.length GH):=by rw [hr.hd w6.heap.size 1 (.inl rfl),b1,hL1]
        have d1:ws.cell? ⟨nb,no+n*4+1,none⟩=some (.slice (L (3,n,0)).a x.last.length (L (3,n,0)).cap):=by
         have h:=hr.nod (n*4+1) (by omega)
         rw [<-Nat.add_assoc] at h
         rw [h];exact k1
        clear hr
        by_cases hlg:g < x.last.length
        ·have n3:(g:Int) < (x.last.length:Int):=by omega
         have hnd:=bq HX.out
         obtain ⟨b3,o3,SS,e3,hl3,hb3,hblk3,_,hct⟩:=HO.out.body (ix:=(3,n,0)) ⟨hlt,rfl⟩ (by show 0 < (aP D n).last.length;rw [hnd];omega)
         have hH3:HdB D L w6.heap.size b3:=.inr ⟨3,n,⟨hlt,rfl⟩,.inr (.inl rfl),hblk3⟩
         obtain ⟨lr,hlr⟩:∃ y,dS D n g=y:=⟨_,rfl⟩
         have k4:w7.cell? ⟨b3,o3+g,none⟩=some (.slice (L (4,n,g)).a lr.length (L (4,n,g)).cap):=by
          have h:=hct g ((L (4,n,g)).v (dS D n g).length) (range_map_get _ _ g (by rw [hnd];exact hlg))
          rw [hlr] at h;exact h
         have hok:okI D (4,n,g):=⟨hlt,by rw [hnd];exact hlg⟩
         have hm4:lr.length<=1000:=by have:=HO.out.small (4,n,g) hok;change (dS D n g).length<=1000 at this;rwa [hlr] at this
         have HOK:Hid (okI D (4,n,g)):=hok
         have HLR:Hid (dS D n g=lr):=hlr
         have d4:=(HG.out.hd b3 (o3+g) hH3).trans k4
         rw [e3] at d1
         dsimp only at d1
         clear hct hlr hok hnd
         go_wp2_with fail
         go_loopw [12] (fun i wr=>∃ k:Nat,k<=lr.length/\i=.int .i64 k/\Rw w5.heap.size (HdB D L w6.heap.size) nb no n w7 wr) (fun i _=>lr.length - (intOf i).toNat)
         case atStart=>exact ⟨0,Nat.zero_le _,rfl,HG.out⟩
         case round =>
          clear c1 d1 d4
          obtain ⟨wt,rfl⟩:∃ wo,wo=wr:=⟨_,rfl⟩
          obtain ⟨k,hk,rfl,hr⟩:=hrel
          have HK:Hid (Rw w5.heap.size (HdB D L w6.heap.size) nb no n w7 wt):=hr
          have c1:wt.cell? ⟨w6.heap.size,1,none⟩=some (.slice (some ⟨nb,no,none⟩) D.nodes.length GH):=by rw [hr.hd w6.heap.size 1 (.inl rfl),b1,hL1]
          have d1:wt.cell? ⟨nb,no+n*4+1,none⟩=some (.slice (L (3,n,0)).a x.last.length (L (3,n,0)).cap):=by
           have h:=hr.nod (n*4+1) (by omega)
           rw [<-Nat.add_assoc] at h
           rw [h];exact k1
          have d4:=(hr.hd b3 (o3+g) hH3).trans k4
          rw [e3] at d1
          dsimp only at d1
          clear hr
          by_cases hlk:k < lr.length
          ·have n2:(k:Int) < (lr.length:Int):=by omega
           obtain ⟨b,of,cap,e,hl,hb,hblk,hwr,_⟩:=HO.out.body (ix:=(4,n,g)) HOK.out (by show 0 < (dS D n g).length;rw [HLR.out];omega)
           have hwr2:=hwr k (by show k < (dS D n g).length*1;rw [HLR.out];omega)
           obtain ⟨⟨v0,f0⟩,g0⟩:=HK.out.cell hwr2.1 hwr2.2
           have HB:Hid (¬ HdB D L w6.heap.size b/\b≠nb):=⟨hNH.out (4,n,g) _ HOK.out (by simp) hblk,HN2.out (4,n,g) _ HOK.out (by simp) hblk⟩
           rw [e] at d4
           dsimp only at d4
           clear hwr hwr2 e hblk
           go_wp2_with fail
           refine ⟨⟨k+1,by omega,by go_num, ?_⟩,by simp [intOf];omega⟩
           exact Rw.set HK.out _ _ hl HB.out.1 HB.out.2
          ·obtain rfl:k=lr.length:=by omega
           go_wp2_with fail
           exact ⟨⟨g+1,by omega,by go_num,HK.out⟩,by simp [intOf];omega⟩
        ·obtain rfl:g=x.last.length:=by omega
         have hH:=HG.out
         obtain ⟨⟨v0,f0⟩,g0⟩:=hH.cell (k:=nb) (o:=no+n*4) (by rw [k0];rfl) (kz 0 (by omega))
         obtain ⟨⟨v1,f1⟩,g1⟩:=hH.cell (k:=nb) (o:=no+n*4+1) (by rw [k1];rfl) (kz 1 (by omega))
         obtain ⟨⟨v2,f2⟩,g2⟩:=hH.cell (k:=nb) (o:=no+n*4+2) (by rw [k2];rfl) (kz 2 (by omega))
         obtain ⟨⟨v3,f3⟩,g3⟩:=hH.cell (k:=nb) (o:=no+n*4+3) (by rw [k3];rfl) (kz 3 (by omega))
         clear hH
         go_wp2_with fail
         refine ⟨⟨n+1,by omega,by go_num, ?_⟩,by simp [intOf];omega⟩
         exact Rw.NU (Rw.NU (Rw.NU (Rw.NU (HG.out.up (Nat.le_succ n)) _ NS NT (by omega)) _ NS NT (by omega)) _ NS NT (by omega)) _ NS NT (by omega)
  ·obtain rfl:n=D.nodes.length:=by omega
   have hmw:D.wires.length<=1000:=HO.out.small (2,0,0) ⟨rfl,rfl⟩
   have hmg:D.groups.length<=1000:=HO.out.small (0,0,0) ⟨rfl,rfl⟩
   have c2:wo.cell? ⟨w6.heap.size,2,none⟩=some (.slice (L (2,0,0)).a D.wires.length (L (2,0,0)).cap):=(HR.out.hd w6.heap.size 2 (.inl rfl)).trans b2
   go_wp2_with fail
   go_loopw [13] (fun i wr=>∃ a:Nat,a<=D.wires.length/\i=.int .i64 a/\Rw w5.heap.size (HdB D L w6.heap.size) nb no D.nodes.length w7 wr) (fun i _=>D.wires.length - (intOf i).toNat)
   case atStart=>exact ⟨0,Nat.zero_le _,rfl,HR.out⟩
   case round =>
    clear c1 c2
    obtain ⟨wa',rfl⟩:∃ wo,wo=wr:=⟨_,rfl⟩
    obtain ⟨a,ha,rfl,hr⟩:=hrel
    have HA:Hid (Rw w5.heap.size (HdB D L w6.heap.size) nb no D.nodes.length w7 wa'):=hr
    have c2:wa'.cell? ⟨w6.heap.size,2,none⟩=some (.slice (L (2,0,0)).a D.wires.length (L (2,0,0)).cap):=(hr.hd w6.heap.size 2 (.inl rfl)).trans b2
    clear hr
    by_cases hla:a < D.wires.length
    ·have n1:(a:Int) < (D.wires.length:Int):=by omega
     obtain ⟨b3,o3,SS,e3,hl3,hb3,hblk3,_,hct⟩:=HO.out.body (ix:=(2,0,0)) ⟨rfl,rfl⟩ (by show 0 < D.wires.length;omega)
     have hH3:HdB D L w6.heap.size b3:=.inr ⟨2,0,⟨rfl,rfl⟩,.inl rfl,hblk3⟩
     obtain ⟨row,hrow⟩:∃ y,rowAt D a=y:=⟨_,rfl⟩
     have k7:w7.cell? ⟨b3,o3+a,none⟩=some (.slice (L (7,a,0)).a row.length (L (7,a,0)).cap):=by
      have h:=hct a ((L (7,a,0)).v (rowAt D a).length) (range_map_get _ _ a hla)
      rw [hrow] at h;exact h
     have hm7:row.length<=1000:=by have:=HO.out.small (7,a,0) ⟨hla,rfl⟩;change (rowAt D a).length<=1000 at this;rwa [hrow] at this
     have lF:Hid (rowAt D a=row):=hrow
     have d7:=(HA.out.hd b3 (o3+a) hH3).trans k7
     rw [e3] at c2
     dsimp only at c2
     clear hct hrow
     go_wp2_with fail
     go_loopw [14] (fun i wr=>∃ b:Nat,b<=row.length/\i=.int .i64 b/\Rw w5.heap.size (HdB D L w6.heap.size) nb no D.nodes.length w7 wr) (fun i _=>row.length - (intOf i).toNat)
     case atStart=>exact ⟨0,Nat.zero_le _,rfl,HA.out⟩
     case round =>
      clear c2 d7
      obtain ⟨wb',rfl⟩:∃ wo,wo=wr:=⟨_,rfl⟩
      obtain ⟨t,ht,rfl,hr⟩:=hrel
      have HB':Hid (Rw w5.heap.size (HdB D L w6.heap.size) nb no D.nodes.length w7 wb'):=hr
      have c2:wb'.cell? ⟨w6.heap.size,2,none⟩=some (.slice (L (2,0,0)).a D.wires.length (L (2,0,0)).cap):=(hr.hd w6.heap.size 2 (.inl rfl)).trans b2
      rw [e3] at c2
      dsimp only at c2
      have d7:=(hr.hd b3 (o3+a) hH3).trans k7
      clear hr
      by_cases hlt2:t < row.length
      ·have n2:(t:Int) < (row.length:Int):=by omega
       obtain ⟨b7,o7,UH,e7,hl7,hb7,hblk7,_,hct⟩:=HO.out.body (ix:=(7,a,0)) ⟨hla,rfl⟩ (by show 0 < (rowAt D a).length;rw [lF.out];omega)
       have hH7:HdB D L w6.heap.size b7:=.inr ⟨7,a,⟨hla,rfl⟩,.inr (.inr rfl),hblk7⟩
       obtain ⟨ml,hml⟩:∃ y,eY D a t=y:=⟨_,rfl⟩
       have hok:okI D (8,a,t):=⟨hla,by rw [lF.out];exact hlt2⟩
       have k8:w7.cell? ⟨b7,o7+t,none⟩=some (.slice (L (8,a,t)).a ml.length (L (8,a,t)).cap):=by
        have h:=hct t ((L (8,a,t)).v (eY D a t).length) (range_map_get _ _ t (by rw [lF.out];exact hlt2))
        rw [hml] at h;exact h
       have hm8:ml.length<=1000:=by have:=HO.out.small (8,a,t) hok;change (eY D a t).length<=1000 at this;rwa [hml] at this
       have HOK:Hid (okI D (8,a,t)):=hok
       have HML:Hid (eY D a t=ml):=hml
       have d8:=(HB'.out.hd b7 (o7+t) hH7).trans k8
       rw [e7] at d7
       dsimp only at d7
       clear hct hml hok
       go_wp2_with fail
       go_loopw [15] (fun i wr=>∃ k:Nat,k<=ml.length/\i=.int .i64 k/\Rw w5.heap.size (HdB D L w6.heap.size) nb no D.nodes.length w7 wr) (fun i _=>ml.length - (intOf i).toNat)
       case atStart=>exact ⟨0,Nat.zero_le _,rfl,HB'.out⟩
       case round =>
        clear c2 d7 d8
        obtain ⟨wc',rfl⟩:∃ wo,wo=wr:=⟨_,rfl⟩
        obtain ⟨k,hk,rfl,hr⟩:=hrel
        have HK:Hid (Rw w5.heap.size (HdB D L w6.heap.size) nb no D.nodes.length w7 wc'):=hr
        have c2:wc'.cell? ⟨w6.heap.size,2,none⟩=some (.slice (L (2,0,0)).a D.wires.length (L (2,0,0)).cap):=(hr.hd w6.heap.size 2 (.inl rfl)).trans b2
        rw [e3] at c2
        dsimp only at c2
        have d7:=(hr.hd b3 (o3+a) hH3).trans k7
        rw [e7] at d7
        dsimp only at d7
        have d8:=(hr.hd b7 (o7+t) hH7).trans k8
        clear hr
        by_cases hlk:k < ml.length
        ·have n3:(k:Int) < (ml.length:Int):=by omega
         obtain ⟨b,of,cap,e,hl,hb,hblk,hwr,_⟩:=HO.out.body (ix:=(8,a,t)) HOK.out (by show 0 < (eY D a t).length;rw [HML.out];omega)
         have hwr2:∀ j,j < ml.length*5->(w7.cell? ⟨b,of+j,none⟩).isSome=true/\w7.frozen? ⟨b,of+j,none⟩=false:=fun j hj=>hwr j (by show j < (eY D a t).length*5;rw [HML.out];exact hj)
         have hc:=fun (r:Nat) (h:r < 5)=>HK.out.cell (hwr2 (k*5+r) (by omega)).1 (hwr2 (k*5+r) (by omega)).2
         obtain ⟨⟨v0,f0⟩,g0⟩:=hc 0 (by omega)
         obtain ⟨⟨v1,f1⟩,g1⟩:=hc 1 (by omega)
         obtain ⟨⟨v2,f2⟩,g2⟩:=hc 2 (by omega)
         obtain ⟨⟨v3,f3⟩,g3⟩:=hc 3 (by omega)
         obtain ⟨⟨v4,f4⟩,g4⟩:=hc 4 (by omega)
         simp only [<-Nat.add_assoc,Nat.add_zero] at f0 f1 f2 f3 f4 g0 g1 g2 g3 g4
         have HB:Hid (¬ HdB D L w6.heap.size b/\b≠nb):=⟨hNH.out (8,a,t) _ HOK.out (by simp) hblk,HN2.out (8,a,t) _ HOK.out (by simp) hblk⟩
         rw [e] at d8
         dsimp only at d8
         clear hwr hwr2 hc e hblk
         go_wp2_with fail
         refine ⟨⟨k+1,by omega,by go_num, ?_⟩,by simp [intOf];omega⟩
         exact Rw.set (Rw.set (Rw.set (Rw.set (Rw.set HK.out _ _ hl HB.out.1 HB.out.2) _ _ hl HB.out.1 HB.out.2) _ _ hl HB.out.1 HB.out.2) _ _ hl HB.out.1 HB.out.2) _ _ hl HB.out.1 HB.out.2
        ·obtain rfl:k=ml.length:=by omega
         go_wp2_with fail
         exact ⟨⟨t+1,by omega,by go_num,HK.out⟩,by simp [intOf];omega⟩
      ·obtain rfl:t=row.length:=by omega
       go_wp2_with fail
       exact ⟨⟨a+1,by omega,by go_num,HB'.out⟩,by simp [intOf];omega⟩
    ·obtain rfl:a=D.wires.length:=by omega
     have c0:wa'.cell? ⟨w6.heap.size,0,none⟩=some (.slice (L (0,0,0)).a D.groups.length (L (0,0,0)).cap):=(HA.out.hd w6.heap.size 0 (.inl rfl)).trans b0
     go_wp2_with fail
     go_loopw [16] (fun i wr=>∃ g:Nat,g<=D.groups.length/\i=.int .i64 g/\Rw w5.heap.size (HdB D L w6.heap.size) nb no D.nodes.length w7 wr) (fun i _=>D.groups.length - (intOf i).toNat)
     case atStart=>exact ⟨0,Nat.zero_le _,rfl,HA.out⟩
     case round =>
      clear c0 c2
      obtain ⟨wg,rfl⟩:∃ wo,wo=wr:=⟨_,rfl⟩
      obtain ⟨g,hg,rfl,hr⟩:=hrel
      have HK:Hid (Rw w5.heap.size (HdB D L w6.heap.size) nb no D.nodes.length w7 wg):=hr
      have c0:wg.cell? ⟨w6.heap.size,0,none⟩=some (.slice (L (0,0,0)).a D.groups.length (L (0,0,0)).cap):=(hr.hd w6.heap.size 0 (.inl rfl)).trans b0
      clear hr
      by_cases hlk:g < D.groups.length
      ·have n3:(g:Int) < (D.groups.length:Int):=by omega
       obtain ⟨b,of,cap,e,hl,hb,hblk,hwr,_⟩:=HO.out.body (ix:=(0,0,0)) ⟨rfl,rfl⟩ (by show 0 < D.groups.length;omega)
       have hwr2:=hwr g (by show g < D.groups.length*1;omega)
       obtain ⟨⟨v0,f0⟩,g0⟩:=HK.out.cell hwr2.1 hwr2.2
       have HB:Hid (¬ HdB D L w6.heap.size b/\b≠nb):=⟨hNH.out (0,0,0) _ ⟨rfl,rfl⟩ (by simp) hblk,HN2.out (0,0,0) _ ⟨rfl,rfl⟩ (by simp) hblk⟩
       rw [e] at c0
       dsimp only at c0
       clear hwr hwr2 e hblk
       go_wp2_with fail
       refine ⟨⟨g+1,by omega,by go_num, ?_⟩,by simp [intOf];omega⟩
       exact Rw.set HK.out _ _ hl HB.out.1 HB.out.2
      ·obtain rfl:g=D.groups.length:=by omega
       have h1g:Since w1 wg:=HK.out.since h17 (by have:=h15.size;omega)
       obtain ⟨_,p0,p1,p2⟩:=PF.out _ h1g
       dsimp only at p0 p1 p2
       go_wp2_with fail
       refine (hAl wg h1g).mono ?_
       rintro e wll ⟨la,lc,rfl,hMl,hYl,hSl⟩
       clear p0 p1 p2 c0
       have h1l:=h1g.trans hSl
       have HYL:Hid (WrM wll wg.heap.size la al.length):=hYl
       have hg0:0 < wg.heap.size:=by have:=(PF.out _ h1g).lt;omega
       have h5g:Since w5 wg:=HK.out.since HS7.out (Nat.le_refl _)
       have Uu:=hMl.hmax
       clear hYl hMl HK
       go_wp2_with fail
       go_loopw [19] (fun i wr=>∃ k:Nat,k<=al.length/\i=.int .i64 k/\Rw wg.heap.size (fun _=>False) 0 0 0 wll wr) (fun i _=>al.length - (intOf i).toNat)
       case atStart=>exact ⟨0,Nat.zero_le _,rfl,Rw.refl _ _ _ _ _ _⟩
       case round =>
        obtain ⟨wk,rfl⟩:∃ wo,wo=wr:=⟨_,rfl⟩
        obtain ⟨k,hk,rfl,hr⟩:=hrel
        have HK:Hid (Rw wg.heap.size (fun _=>False) 0 0 0 wll wk):=hr
        clear hr
        by_cases hlk:k < al.length
        ·have n3:(k:Int) < (al.length:Int):=by omega
         obtain ⟨b,of,rfl,hl,hb,hwr2⟩:=HYL.out (by omega)
         have hc:=fun (r:Nat) (h:r < 5)=>HK.out.cell (hwr2 (k*5+r) (by omega)).1 (hwr2 (k*5+r) (by omega)).2
         obtain ⟨⟨v0,f0⟩,g0⟩:=hc 0 (by omega)
         obtain ⟨⟨v1,f1⟩,g1⟩:=hc 1 (by omega)
         obtain ⟨⟨v2,f2⟩,g2⟩:=hc 2 (by omega)
         obtain ⟨⟨v3,f3⟩,g3⟩:=hc 3 (by omega)
         obtain ⟨⟨v4,f4⟩,g4⟩:=hc 4 (by omega)
         simp only [<-Nat.add_assoc,Nat.add_zero] at f0 f1 f2 f3 f4 g0 g1 g2 g3 g4
         have HB:Hid (¬ (fun _:Nat=>False) b/\b≠0):=⟨fun h=>h,by omega⟩
         clear hwr2 hc
         go_wp2_with fail
         refine ⟨⟨k+1,by omega,by go_num, ?_⟩,by simp [intOf];omega⟩
         exact Rw.set (Rw.set (Rw.set (Rw.set (Rw.set HK.out _ _ hl HB.out.1 HB.out.2) _ _ hl HB.out.1 HB.out.2) _ _ hl HB.out.1 HB.out.2) _ _ hl HB.out.1 HB.out.2) _ _ hl HB.out.1 HB.out.2
        ·obtain rfl:k=al.length:=by omega
         have h5k:Since w5 wk:=HK.out.since (h5g.trans hSl) h5g.size
         have h1k:=h15.trans h5k
         clear HK hlk
         obtain ⟨_,p0,p1,p2⟩:=PF.out _ h1k
         dsimp only at p0 p1 p2
         obtain ⟨_,y0,y1,y2,y3,_⟩:=AF.out _ h1k
         go_wp2_with fail
         refine (hDo wk h1k).mono ?_
         rintro e u1 ⟨L2,rfl,hO2,hU1⟩
         simp only [aI]
         clear p0 p1 p2 y0 y1 y2 y3
         obtain ⟨u2,hu2⟩:∃ y,u1.alloc (.cells #[.slice (L2 (0,0,0)).a D.groups.length (L2 (0,0,0)).cap,.slice (L2 (1,0,0)).a D.nodes.length (L2 (1,0,0)).cap,.slice (L2 (2,0,0)).a D.wires.length (L2 (2,0,0)).cap] 26)=y:=⟨_,rfl⟩
         have hU2:=au hu2
         have hBz:iA u2 u1.heap.size L2 D:=by rw [<-hu2];constructor <;> simp [go_sem]
         have h12:=h1k.trans (hU1.trans hU2)
         obtain ⟨_,p0,p1,p2⟩:=PF.out _ h12
         dsimp only at p0 p1 p2
         go_wp2_with fail
         refine (hAl u2 h12).mono ?_
         rintro e u3 ⟨ma,mc,rfl,hMa,_,hU3⟩
         clear p0 p1 p2 hu2
         have h13:=h12.trans hU3
         obtain ⟨_,p0,p1,p2⟩:=PF.out _ h13
         dsimp only at p0 p1 p2
         obtain ⟨_,y0,y1,y2,y3,_⟩:=AF.out _ h13
         go_wp2_with fail
         refine (hRd u3 h13).mono ?_
         rintro e u4 ⟨L3,rfl,hO3,hU4⟩
         simp only [aI]
         clear p0 p1 p2 y0 y1 y2 y3
         obtain ⟨u5,hu5⟩:∃ y,u4.alloc (.cells #[.slice (L3 (0,0,0)).a D.groups.length (L3 (0,0,0)).cap,.slice (L3 (1,0,0)).a D.nodes.length (L3 (1,0,0)).cap,.slice (L3 (2,0,0)).a D.wires.length (L3 (2,0,0)).cap] 26)=y:=⟨_,rfl⟩
         have hU5:=au hu5
         have hBw:iA u5 u4.heap.size L3 D:=by rw [<-hu5];constructor <;> simp [go_sem]
         have h35:=hU4.trans hU5
         have Po:=h13.trans h35
         obtain ⟨_,p0,p1,p2⟩:=PF.out _ Po
         dsimp only at p0 p1 p2
         go_wp2_with fail
         refine (hRa u5 Po).mono ?_
         rintro e u6 ⟨na',nc',rfl,hMb,hU6⟩
         clear p0 p1 p2 hu5
         have h56:=hU6
         go_wp2_with fail
         refine (vM u6).mono ?_
         rintro e u7 ⟨rfl,hU7⟩
         have h57:=hU6.trans hU7
         have Pp:=Po.trans h57
         have h5u:Since w5 u7:=h5k.trans (hU1.trans (hU2.trans (hU3.trans (h35.trans h57))))
         have HF:Hid (∀ y,Since u7 y->aG y w.heap.size ⟨ga,gl,gc,na,nl,nc,wa,wl,wc⟩/\iA y w4.heap.size L0 d/\iA y u1.heap.size L2 D/\iA y u4.heap.size L3 D):=fun y hy=>⟨PF.out _ (Pp.trans hy),hB5.since (h5u.trans hy),hBz.since ((hU3.trans (h35.trans h57)).trans hy),hBw.since (h57.trans hy)⟩
         have hSA:=fun (y:World) (hy:Since u7 y)=>qD ⟨ga,gl,gc,na,nl,nc,wa,wl,wc⟩ (fP L0 d) d y (hW1.since (Pp.trans hy)) (((hO0.since hS5).since (h5u.trans hy)).wat)
         have hSB:=fun (y:World) (hy:Since u7 y)=>NV (((hO2.since hU2).since (hU3.trans (h35.trans h57))).since hy) (((hO3.since hU5).since h57).since hy)
         have hSC:=fun (y:World) (hy:Since u7 y)=>vO ma al.length mc al na' al.length nc' al y (hMa.since ((h35.trans h57).trans hy)) (hMb.since (hU7.trans hy))
         simp only [qQ] at hSC
         dsimp only [fP] at hSA
         have q1:(E == E)=true:=by simp
         have q2:(AE == AE)=true:=by simp
         obtain ⟨⟨_,p0,p1,p2⟩,⟨_,a0,a1,a2,_,_,_⟩,⟨_,z0,z1,z2,_,_,_⟩,⟨_,t0,t1,t2,_,_,_⟩⟩:=HF.out _ (Since.refl u7)
         dsimp only at p0 p1 p2
         go_wp2_with fail
         refine (hSA u7 (Since.refl _)).mono ?_
         rintro e u8 ⟨rfl,hU8⟩
         clear p0 p1 p2 a0 a1 a2 z0 z1 z2 t0 t1 t2
         obtain ⟨_,_,⟨_,z0,z1,z2,_,_,_⟩,⟨_,t0,t1,t2,_,_,_⟩⟩:=HF.out _ hU8
         go_wp2_with fail
         refine (hSB u8 hU8).mono ?_
         rintro e u9 ⟨rfl,hU9⟩
         clear z0 z1 z2 t0 t1 t2
         go_wp2_with fail
         refine (hSC u9 (hU8.trans hU9)).mono ?_
         rintro e u10 ⟨rfl,SV⟩
         clear hSA hSB hSC
         go_wp2_with fail
         go_ret
         exact ⟨by simp,hS1.trans (Pp.trans (hU8.trans (hU9.trans SV)))⟩
theorem vF (x:WV) (d:Wd) (ac:Ac) (w:World) (hW:WAt w x d) :
  Calls prog 27 #[.agg #[.slice x.ga x.gl x.gc,.slice x.na x.nl x.nc,.slice x.wa x.wl x.wc],acV ac] w fun e w'=>e=.returned (.bool true)/\Since w w':=by
 by_cases h0:aD d=0
 ·exact AZ x d _ _ ac w hW h0 (iJ ((cu d).1 h0)) rfl rfl
 ·exact zk x d ac w hW h0
end Go.Proofs.YtiiifecfdkjmbaaGreat
