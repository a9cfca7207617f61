/- Lemmas. -/
import Derived.Deep.DeepCutAuto
import Derived.Test.YtiiifecfdkjmbaaRegM
import Derived.Test.YtiiifecfdkjmbaaWrNum
set_option maxHeartbeats 1000000
namespace Go.Proofs.Ytiiifecfdkjmbaa
open _root_.Go.Proofs.Try hiding checked
set_option maxRecDepth 8000
open Go.RowKit Go.Shelf
theorem qR (w0:World) (a:Option Addr) (len cap:Nat) (xs:List Int) (a':Option Addr) (len' cap':Nat) (hI:Ints w0 a len xs) (hJ:Ints w0 a' len' xs) (w:World) (h:Since w0 w) :
  Calls prog 46 #[.slice a len cap,.slice a' len' cap'] w fun e w'=>e=.returned (.bool true)/\Since w0 w' :=
 (xK w0 w a len cap xs a' len' cap' xs (hI.since h) (hJ.since h) h).mono fun _ _ ⟨he,hw⟩=>⟨by rw [he];simp,hw⟩
theorem ny (w0:World) (a:Option Addr) (len cap:Nat) (xs:List Mg) (a':Option Addr) (len' cap':Nat) (hI:dn w0 a len xs) (hJ:dn w0 a' len' xs) (w:World) (h:Since w0 w) :
  Calls prog 24 #[.slice a len cap,.slice a' len' cap'] w fun e w'=>e=.returned (.bool true)/\Since w0 w' :=
 (tO a len cap xs a' len' cap' xs w (hI.since h) (hJ.since h)).mono fun _ _ ⟨he,hw⟩=>⟨by rw [he,oN],h.trans hw⟩
theorem kY (x y:WV) (d:Wd) (w:World) (hX:WAt w x d) (hY:WAt w y d) :
  Calls prog 16 #[.agg #[.slice x.ga x.gl x.gc,.slice x.na x.nl x.nc,.slice x.wa x.wl x.wc],.agg #[.slice y.ga y.gl y.gc,.slice y.na y.nl y.nc,.slice y.wa y.wl y.wc]] w fun e w'=>e=.returned (.bool true)/\Since w w':=by
 obtain ⟨ga,gl,gc,na,nl,nc,wa,wl,wk⟩:=x
 obtain ⟨ga',gl',gc',na',nl',nc',wa',wl',wk'⟩:=y
 have hwl:=hX.r.hlen
 have hwm:=hX.r.hmax
 have hnl:=hX.n.hlen
 have hnm:=hX.n.hmax
 have GR:=hY.r.hlen
 have GU:=hY.n.hlen
 dsimp only at hwl hwm hnl hnm GR GU ⊢
 subst hwl hnl GR GU
 obtain ⟨w1,hw1⟩:∃ w1,(w.alloc (.cells #[.slice ga gl gc,.slice na d.nodes.length nc,.slice wa d.wires.length wk] 26)).alloc (.cells #[.slice ga' gl' gc',.slice na' d.nodes.length nc',.slice wa' d.wires.length wk'] 26)=w1:=⟨_,rfl⟩
 have hS1:Since w w1:=by rw [<-hw1];exact ((Since.refl w).alloc _).alloc _
 have hsz:w.heap.size+1 < w1.heap.size:=by rw [<-hw1];simp
 have b0:w1.cell? ⟨w.heap.size,0,none⟩=some (.slice ga gl gc):=by rw [<-hw1];simp [go_sem]
 have b1:w1.cell? ⟨w.heap.size,1,none⟩=some (.slice na d.nodes.length nc):=by rw [<-hw1];simp [go_sem]
 have b2:w1.cell? ⟨w.heap.size,2,none⟩=some (.slice wa d.wires.length wk):=by rw [<-hw1];simp [go_sem]
 have q0:w1.cell? ⟨w.heap.size+1,0,none⟩=some (.slice ga' gl' gc'):=by rw [<-hw1];simp [go_sem]
 have q1:w1.cell? ⟨w.heap.size+1,1,none⟩=some (.slice na' d.nodes.length nc'):=by rw [<-hw1];simp [go_sem]
 have q2:w1.cell? ⟨w.heap.size+1,2,none⟩=some (.slice wa' d.wires.length wk'):=by rw [<-hw1];simp [go_sem]
 have hX1:=hX.since hS1
 have hY1:=hY.since hS1
 have hGX:=hX1.g
 have hGY:=hY1.g
 have hNX:=hX1.n
 have hNY:=hY1.n
 have hRX:=hX1.r
 have hRY:=hY1.r
 have RF:Hid (∀ z,Since w1 z->(z.cell? ⟨w.heap.size,0,none⟩=some (.slice ga gl gc)/\z.cell? ⟨w.heap.size,1,none⟩=some (.slice na d.nodes.length nc)/\z.cell? ⟨w.heap.size,2,none⟩=some (.slice wa d.wires.length wk))
   /\ (z.cell? ⟨w.heap.size+1,0,none⟩=some (.slice ga' gl' gc')/\z.cell? ⟨w.heap.size+1,1,none⟩=some (.slice na' d.nodes.length nc')/\z.cell? ⟨w.heap.size+1,2,none⟩=some (.slice wa' d.wires.length wk'))):=fun z hz =>
  ⟨⟨(hz.cellAt (by omega) _).trans b0,(hz.cellAt (by omega) _).trans b1,(hz.cellAt (by omega) _).trans b2⟩,⟨(hz.cellAt (by omega) _).trans q0,(hz.cellAt (by omega) _).trans q1,(hz.cellAt (by omega) _).trans q2⟩⟩
 go_enter func16,ntmps16
 go_wp2_with (go_at_call 46;refine (qR w1 _ _ _ d.groups _ _ _ hGX hGY _ (Since.refl _)).mono ?_;rintro e w2 ⟨rfl,hS2⟩;obtain ⟨⟨f0,f1,f2⟩,⟨f3,f4,f5⟩⟩:=RF.out _ hS2)
 clear hw1 hX hY
 go_loopw [5] (fun i wr=>(∃ k:Nat,k<=d.nodes.length/\i=.int .i64 k)/\Since w1 wr) (fun i _=>d.nodes.length - (intOf i).toNat)
 case atStart=>exact ⟨⟨0,Nat.zero_le _,rfl⟩,by assumption⟩
 case round =>
  obtain ⟨wo,rfl⟩:∃ wo,wo=wr:=⟨_,rfl⟩
  clear f0 f1 f2 f3 f4 f5
  obtain ⟨⟨k,hk,rfl⟩,hS⟩:=hrel
  obtain ⟨⟨f0,f1,f2⟩,⟨f3,f4,f5⟩⟩:=RF.out _ hS
  by_cases hlt:k < d.nodes.length
  ·obtain ⟨nd,hnd⟩:∃ nd,d.nodes[k]? = some nd:=⟨_,zQ1 hlt⟩
   obtain ⟨bn,on,rfl,hbn,hcn⟩:=hNX.cells (by omega)
   obtain ⟨bm,om,rfl,hbm,hcm⟩:=hNY.cells (by omega)
   obtain ⟨k0,⟨v1,k1,la,lc,rfl,hlc,hL⟩,⟨v2,k2,ha,hc,rfl,hhc,hH⟩,⟨v3,k3,ta,tc,rfl,htc,hT⟩⟩:=hcn k nd hnd
   obtain ⟨k0',⟨v1',k1',la',lc',rfl,JL,hL'⟩,⟨v2',k2',ha',hc',rfl,JM,hH'⟩,⟨v3',k3',ta',tc',rfl,JN,hT'⟩⟩:=hcm k nd hnd
   have n1:(k:Int) < (d.nodes.length:Int):=by omega
   obtain ⟨S0,hS0⟩:∃ S0:World->Prop,∀ w',S0 w'↔Since w1 w':=⟨_,fun _=>Iff.rfl⟩
   have x1:∀ y:aB S0,y.w.cell? ⟨w.heap.size,1,none⟩=some (.slice (some ⟨bn,on,none⟩) d.nodes.length nc):=fun y=>(RF.out _ ((hS0 _).1 y.h)).1.2.1
   have x2:∀ y:aB S0,y.w.cell? ⟨w.heap.size+1,1,none⟩=some (.slice (some ⟨bm,om,none⟩) d.nodes.length nc'):=fun y=>(RF.out _ ((hS0 _).1 y.h)).2.2.1
   have j0:∀ y:aB S0,y.w.cell? ⟨bn,on+k*4,none⟩=_:=fun y=>(((hS0 _).1 y.h).cellAt hbn _).trans k0
   have j1:∀ y:aB S0,y.w.cell? ⟨bn,on+k*4+1,none⟩=_:=fun y=>(((hS0 _).1 y.h).cellAt hbn _).trans k1
   have j2:∀ y:aB S0,y.w.cell? ⟨bn,on+k*4+2,none⟩=_:=fun y=>(((hS0 _).1 y.h).cellAt hbn _).trans k2
   have j3:∀ y:aB S0,y.w.cell? ⟨bn,on+k*4+3,none⟩=_:=fun y=>(((hS0 _).1 y.h).cellAt hbn _).trans k3
   have i0:∀ y:aB S0,y.w.cell? ⟨bm,om+k*4,none⟩=_:=fun y=>(((hS0 _).1 y.h).cellAt hbm _).trans k0'
   have i1:∀ y:aB S0,y.w.cell? ⟨bm,om+k*4+1,none⟩=_:=fun y=>(((hS0 _).1 y.h).cellAt hbm _).trans k1'
   have i2:∀ y:aB S0,y.w.cell? ⟨bm,om+k*4+2,none⟩=_:=fun y=>(((hS0 _).1 y.h).cellAt hbm _).trans k2'
   have i3:∀ y:aB S0,y.w.cell? ⟨bm,om+k*4+3,none⟩=_:=fun y=>(((hS0 _).1 y.h).cellAt hbm _).trans k3'
   clear hcn hcm k0 k1 k2 k3 k0' k1' k2' k3'
   go_upto_region 6 with fail
   go_cut [6,7] from 35 to 100 (fun s6 s7 wx=>∃ p q,s6=.pointer (some ⟨p,0,none⟩)/\s7=.pointer (some ⟨q,0,none⟩)/\aV wx p (.int .i64 nd.clock) (.slice la nd.last.length lc) (.slice ha nd.held.length hc) (.slice ta nd.told.length tc)/\aV wx q (.int .i64 nd.clock) (.slice la' nd.last.length lc') (.slice ha' nd.held.length hc') (.slice ta' nd.told.length tc')/\Since w1 wx)
   case first =>
    obtain ⟨W0,hW0⟩:∃ y,wo.drew=y:=⟨_,rfl⟩
    have hs0:Since w1 W0:=by rw [<-hW0];exact Since.drew hS
    have aN:=(hS0 W0).2 hs0
    have hne:Nonempty (aB S0):=⟨⟨_,aN⟩⟩
    have xP:=lu w
    refine p8 (fun w'=>∃ x:aB S0,w'=x.w) (by kernel_rfl) ?_
    rw [hW0]
    clear hW0
    refine tW 0 rfl ?_;go_big_quiet_op
    refine tM 1 rfl (ah aN) ?_;go_big_quiet_op
    refine tW 2 rfl ?_;go_big_quiet_op
    refine tW 3 rfl ?_;go_big_quiet_op
    refine tM 4 rfl (ah aN) ?_;go_big_quiet_op
    refine tW 5 rfl ?_;go_big_quiet_op
    refine tM 6 rfl (ah aN) ?_;go_big_quiet_op
    refine tW 7 rfl ?_;go_big_quiet_op
    refine tW 8 rfl ?_;go_big_quiet_op
    refine tM 9 rfl (ah aN) ?_;go_big_quiet_op
    obtain ⟨WA,hWA⟩:∃ y,W0.alloc (.cells #[.int .i64 0,.slice none 0 0,.slice none 0 0,.slice none 0 0] 45)=y:=⟨_,rfl⟩
    obtain ⟨WB,hWB⟩:∃ y,WA.alloc (.cells #[.int .i64 0,.slice none 0 0,.slice none 0 0,.slice none 0 0] 45)=y:=⟨_,rfl⟩
    have hSA:=au hWA
    have hSB:=au hWB
    have hbA:aV WA W0.heap.size (.int .i64 0) (.slice none 0 0) (.slice none 0 0) (.slice none 0 0):=by rw [<-hWA];exact aV.new W0 _ _ _ _ _
    have hbB:aV WB WA.heap.size (.int .i64 0) (.slice none 0 0) (.slice none 0 0) (.slice none 0 0):=by rw [<-hWB];exact aV.new WA _ _ _ _ _
    have hsA:=hs0.trans hSA
    have hsB:=hsA.trans hSB
    have hPQ:¬ W0.heap.size=WA.heap.size:=by have:=hbA.lt;omega
    have hQP:¬ WA.heap.size=W0.heap.size:=by have:=hbA.lt;omega
    refine GQ 10 11 rfl rfl (by kernel_rfl) ?_ ?_
    ·intro K hK
     go_simp
     refine hK _ _ (fun _ _=>ah ((hS0 _).2 hsA)) ?_
     clear hK K
     refine lC 11 rfl (by kernel_rfl) ?_
     intro K hK
     go_simp
     refine hK _ _ (fun _ _=>ah ((hS0 _).2 hsB)) ?_
     clear hK K
     obtain ⟨WC,hWC⟩:∃ y,(((WB.setCell ⟨W0.heap.size,0,none⟩ (.int .i64 nd.clock)).setCell ⟨W0.heap.size,1,none⟩ (.slice la nd.last.length lc)).setCell ⟨W0.heap.size,2,none⟩ (.slice ha nd.held.length hc)).setCell ⟨W0.heap.size,3,none⟩ (.slice ta nd.told.length tc)=y:=⟨_,rfl⟩
     obtain ⟨WD,hWD⟩:∃ y,(((WC.setCell ⟨WA.heap.size,0,none⟩ (.int .i64 nd.clock)).setCell ⟨WA.heap.size,1,none⟩ (.slice la' nd.last.length lc')).setCell ⟨WA.heap.size,2,none⟩ (.slice ha' nd.held.length hc')).setCell ⟨WA.heap.size,3,none⟩ (.slice ta' nd.told.length tc')=y:=⟨_,rfl⟩
     have hFC:Fr (fun i=>i=W0.heap.size) WB WC:=by rw [<-hWC];exact mD WB W0.heap.size _ _ _ _
     have hFD:Fr (fun i=>i=WA.heap.size) WC WD:=by rw [<-hWD];exact mD WC WA.heap.size _ _ _ _
     have hbP:aV WB W0.heap.size (.int .i64 0) (.slice none 0 0) (.slice none 0 0) (.slice none 0 0):=by first | exact hbB | exact hbA.since hSB
     have hbQ:aV WB WA.heap.size (.int .i64 0) (.slice none 0 0) (.slice none 0 0) (.slice none 0 0):=by first | exact hbB | exact hbA.since hSB
     have ES:aV WC W0.heap.size (.int .i64 nd.clock) (.slice la nd.last.length lc) (.slice ha nd.held.length hc) (.slice ta nd.told.length tc):=by rw [<-hWC];exact hbP.put _ _ _ _
     have Ck:=hbQ.fr hFC hQP
     have EU:aV WD WA.heap.size (.int .i64 nd.clock) (.slice la' nd.last.length lc') (.slice ha' nd.held.length hc') (.slice ta' nd.told.length tc'):=by rw [<-hWD];exact Ck.put _ _ _ _
     have EW:=ES.fr hFD hPQ
     have hsC:Since w1 WC:=hFC.aC hsB (fun i hi e=>by have:=hs0.size;have:=hsA.size;omega)
     have hsD:Since w1 WD:=hFD.aC hsC (fun i hi e=>by have:=hs0.size;have:=hsA.size;omega)
     obtain ⟨_,c0,c1,c2,c3,z0,z1,z2,z3⟩:=hbP
     obtain ⟨_,q0,q1,q2,q3,y0,y1,y2,y3⟩:=Ck
     refine lC 12 rfl (by kernel_rfl) ?_
     intro K hK
     go_simp
     refine hK _ _ (fun _ _=>ah ((hS0 _).2 hsC)) ?_
     clear hK K
     refine lC 13 rfl (by kernel_rfl) ?_
     intro K hK
     go_simp
     refine hK _ _ (fun h=>absurd h (by decide +kernel)) ?_
     clear hK K
     refine su (by kernel_rfl) ?_
     clear x1 x2 j0 j1 j2 j3 i0 i1 i2 i3 hne xP c0 c1 c2 c3 z0 z1 z2 z3 q0 q1 q2 q3 y0 y1 y2 y3 hWC hWD hWA hWB
     go_wp2_with fail
     go_meet
     case rel=>exact ⟨W0.heap.size,WA.heap.size,rfl,rfl,EW,EU,hsD⟩
    ·intro K hK
     go_simp
     refine hK _ _ (fun _ _=>ah ((hS0 _).2 hsA)) ?_
     clear hK K
     refine lC 10 rfl (by kernel_rfl) ?_
     intro K hK
     go_simp
     refine hK _ _ (fun _ _=>ah ((hS0 _).2 hsB)) ?_
     clear hK K
     obtain ⟨WC,hWC⟩:∃ y,(((WB.setCell ⟨WA.heap.size,0,none⟩ (.int .i64 nd.clock)).setCell ⟨WA.heap.size,1,none⟩ (.slice la nd.last.length lc)).setCell ⟨WA.heap.size,2,none⟩ (.slice ha nd.held.length hc)).setCell ⟨WA.heap.size,3,none⟩ (.slice ta nd.told.length tc)=y:=⟨_,rfl⟩
     obtain ⟨WD,hWD⟩:∃ y,(((WC.setCell ⟨W0.heap.size,0,none⟩ (.int .i64 nd.clock)).setCell ⟨W0.heap.size,1,none⟩ (.slice la' nd.last.length lc')).setCell ⟨W0.heap.size,2,none⟩ (.slice ha' nd.held.length hc')).setCell ⟨W0.heap.size,3,none⟩ (.slice ta' nd.told.length tc')=y:=⟨_,rfl⟩
     have hFC:Fr (fun i=>i=WA.heap.size) WB WC:=by rw [<-hWC];exact mD WB WA.heap.size _ _ _ _
     have hFD:Fr (fun i=>i=W0.heap.size) WC WD:=by rw [<-hWD];exact mD WC W0.heap.size _ _ _ _
     have hbP:aV WB WA.heap.size (.int .i64 0) (.slice none 0 0) (.slice none 0 0) (.slice none 0 0):=by first | exact hbB | exact hbA.since hSB
     have hbQ:aV WB W0.heap.size (.int .i64 0) (.slice none 0 0) (.slice none 0 0) (.slice none 0 0):=by first | exact hbB | exact hbA.since hSB
     have ES:aV WC WA.heap.size (.int .i64 nd.clock) (.slice la nd.last.length lc) (.slice ha nd.held.length hc) (.slice ta nd.told.length tc):=by rw [<-hWC];exact hbP.put _ _ _ _
     have Ck:=hbQ.fr hFC hPQ
     have EU:aV WD W0.heap.size (.int .i64 nd.clock) (.slice la' nd.last.length lc') (.slice ha' nd.held.length hc') (.slice ta' nd.told.length tc'):=by rw [<-hWD];exact Ck.put _ _ _ _
     have EW:=ES.fr hFD hQP
     have hsC:Since w1 WC:=hFC.aC hsB (fun i hi e=>by have:=hs0.size;have:=hsA.size;omega)
     have hsD:Since w1 WD:=hFD.aC hsC (fun i hi e=>by have:=hs0.size;have:=hsA.size;omega)
     obtain ⟨_,c0,c1,c2,c3,z0,z1,z2,z3⟩:=hbP
     obtain ⟨_,q0,q1,q2,q3,y0,y1,y2,y3⟩:=Ck
     refine lC 12 rfl (by kernel_rfl) ?_
     intro K hK
     go_simp
     refine hK _ _ (fun _ _=>ah ((hS0 _).2 hsC)) ?_
     clear hK K
     refine lC 13 rfl (by kernel_rfl) ?_
     intro K hK
     go_simp
     refine hK _ _ (fun h=>absurd h (by decide +kernel)) ?_
     clear hK K
     refine su (by kernel_rfl) ?_
     clear x1 x2 j0 j1 j2 j3 i0 i1 i2 i3 hne xP c0 c1 c2 c3 z0 z1 z2 z3 q0 q1 q2 q3 y0 y1 y2 y3 hWC hWD hWA hWB
     go_wp2_with fail
     go_meet
     case rel=>exact ⟨WA.heap.size,W0.heap.size,rfl,rfl,EW,EU,hsD⟩
   obtain ⟨p,q,rfl,rfl,hbp,hbq,hSx⟩:=hcut
   clear j0 j1 j2 j3 i0 i1 i2 i3 x1 x2 f0 f1 f2 f3 f4 f5
   have NF:Hid (∀ z,Since wc z->aV z p (.int .i64 nd.clock) (.slice la nd.last.length lc) (.slice ha nd.held.length hc) (.slice ta nd.told.length tc)/\aV z q (.int .i64 nd.clock) (.slice la' nd.last.length lc') (.slice ha' nd.held.length hc') (.slice ta' nd.told.length tc')):=fun z hz=>⟨hbp.since hz,hbq.since hz⟩
   obtain ⟨_,a0,a1,a2,a3,_,_,_,_⟩:=hbp
   obtain ⟨_,e0,e1,e2,e3,_,_,_,_⟩:=hbq
   have hlm:=hL.hmax
   have hHc:=hH.since hSx
   have I5:=hH'.since hSx
   have hTc:=hT.since hSx
   have I6:=hT'.since hSx
   go_wp2_with (first
    | (go_at_call_of 24 (Value.slice ha nd.held.length hc);refine (ny wc _ _ _ nd.held _ _ _ hHc I5 wc (Since.refl _)).mono ?_;rintro e w3 ⟨rfl,hS3⟩;obtain ⟨⟨_,b0,b1,b2,b3,_,_,_,_⟩,⟨_,g0,g1,g2,g3,_,_,_,_⟩⟩:=NF.out _ hS3)
    | (go_at_call 24;refine (ny wc _ _ _ nd.told _ _ _ hTc I6 w3 hS3).mono ?_;rintro e w4 ⟨rfl,hS4⟩;obtain ⟨⟨_,h0,h1,h2,h3,_,_,_,_⟩,⟨_,m0,m1,m2,m3,_,_,_,_⟩⟩:=NF.out _ hS4))
   clear b0 b1 b2 b3 g0 g1 g2 g3 h0 h1 h2 h3 m0 m1 m2 m3 a0 a1 a2 a3 e0 e1 e2 e3
   go_loopw [8] (fun i wr=>(∃ j:Nat,j<=nd.last.length/\i=.int .i64 j)/\Since wc wr) (fun i _=>nd.last.length - (intOf i).toNat)
   case atStart=>exact ⟨⟨0,Nat.zero_le _,rfl⟩,hS4⟩
   case round =>
    obtain ⟨wi,rfl⟩:∃ wi,wi=wr:=⟨_,rfl⟩
    obtain ⟨⟨j,hj,rfl⟩,hSi⟩:=hrel
    obtain ⟨⟨_,b0,b1,b2,b3,_,_,_,_⟩,⟨_,g0,g1,g2,g3,_,_,_,_⟩⟩:=NF.out _ hSi
    by_cases hjl:j < nd.last.length
    ·obtain ⟨row,hrow⟩:∃ r,nd.last[j]? = some r:=⟨_,zQ1 hjl⟩
     obtain ⟨bl,ol,rfl,hbl,hcl⟩:=hL.cells (by omega)
     obtain ⟨bl',ol',rfl,Dj,hcl'⟩:=hL'.cells (by omega)
     obtain ⟨v5,k5,ra,rc,rfl,hrc,hR⟩:=hcl j row hrow
     obtain ⟨v5',k5',ra',rc',rfl,I7,hR'⟩:=hcl' j row hrow
     have j1':(j:Int) < (nd.last.length:Int):=by omega
     have hne:Nonempty (Later wc):=⟨⟨wc,Since.refl wc⟩⟩
     have o1:∀ y:Later wc,y.w.cell? ⟨p,1,none⟩=some (.slice (some ⟨bl,ol,none⟩) nd.last.length lc):=fun y=>(NF.out _ y.h).1.c1
     have o2:∀ y:Later wc,y.w.cell? ⟨q,1,none⟩=some (.slice (some ⟨bl',ol',none⟩) nd.last.length lc'):=fun y=>(NF.out _ y.h).2.c1
     have o3:∀ y:Later wc,y.w.cell? ⟨bl,ol+j,none⟩=some (.slice ra row.length rc):=fun y=>((hSx.trans y.h).cellAt hbl _).trans k5
     have o4:∀ y:Later wc,y.w.cell? ⟨bl',ol'+j,none⟩=some (.slice ra' row.length rc'):=fun y=>((hSx.trans y.h).cellAt Dj _).trans k5'
     have hRc:=hR.since hSx
     have I8:=hR'.since hSx
     clear hcl hcl' k5 k5' hrow
     go_wp2_with fail
     refine aj (by kernel_rfl) (by kernel_rfl) hSi ?_
     repeat (go_big_quiet_step ((go_at_call 46;exact Later.call (qR wc _ _ _ row _ _ _ hRc I8))))
     refine wpQuiet_nil ?_
     intro w9 hS9
     clear o1 o2 o3 o4 hne
     go_wp2_with fail
     go_roundw
     case rel=>exact ⟨⟨j+1,by omega,by go_num⟩,hS9⟩
     case measure=>simp [intOf];omega
    ·obtain rfl:j=nd.last.length:=by omega
     go_wp2_with fail
     go_roundw
     case rel=>exact ⟨⟨k+1,by omega,by go_num⟩,hSx.trans hSi⟩
     case measure=>simp [intOf];omega
  ·obtain rfl:k=d.nodes.length:=by omega
   go_wp2_with fail
   go_loopw [9] (fun i wr=>(∃ k:Nat,k<=d.wires.length/\i=.int .i64 k)/\Since w1 wr) (fun i _=>d.wires.length - (intOf i).toNat)
   case atStart=>exact ⟨⟨0,Nat.zero_le _,rfl⟩,hS⟩
   case round =>
    clear f0 f1 f2 f3 f4 f5 hS
    obtain ⟨wq,rfl⟩:∃ wq,wq=wr:=⟨_,rfl⟩
    obtain ⟨⟨k,hk,rfl⟩,hS⟩:=hrel
    obtain ⟨⟨f0,f1,f2⟩,⟨f3,f4,f5⟩⟩:=RF.out _ hS
    by_cases hlt:k < d.wires.length
    ·obtain ⟨row,hrow⟩:∃ r,d.wires[k]? = some r:=⟨_,zQ1 hlt⟩
     obtain ⟨bl,ol,rfl,hbl,hcl⟩:=hRX.cells (by omega)
     obtain ⟨bl',ol',rfl,Dj,hcl'⟩:=hRY.cells (by omega)
     obtain ⟨v5,k5,ra,rc,rfl,hrc,hR⟩:=hcl k row hrow
     obtain ⟨v5',k5',ra',rc',rfl,I7,hR'⟩:=hcl' k row hrow
     have n1:(k:Int) < (d.wires.length:Int):=by omega
     have hrm:=hR.hmax
     have hne:Nonempty (Later w1):=⟨⟨w1,Since.refl w1⟩⟩
     have o1:∀ y:Later w1,y.w.cell? ⟨w.heap.size,2,none⟩=some (.slice (some ⟨bl,ol,none⟩) d.wires.length wk):=fun y=>(RF.out _ y.h).1.2.2
     have o2:∀ y:Later w1,y.w.cell? ⟨w.heap.size+1,2,none⟩=some (.slice (some ⟨bl',ol',none⟩) d.wires.length wk'):=fun y=>(RF.out _ y.h).2.2.2
     have o3:∀ y:Later w1,y.w.cell? ⟨bl,ol+k,none⟩=some (.slice ra row.length rc):=fun y=>(y.h.cellAt hbl _).trans k5
     have o4:∀ y:Later w1,y.w.cell? ⟨bl',ol'+k,none⟩=some (.slice ra' row.length rc'):=fun y=>(y.h.cellAt Dj _).trans k5'
     clear hcl hcl' hrow
     go_wp2_with fail
     refine aj (by kernel_rfl) (by kernel_rfl) hS ?_
     repeat (go_big_quiet_step (fail))
     refine wpQuiet_nil ?_
     intro w8 hS8
     clear o1 o2 o3 o4 hne f0 f1 f2 f3 f4 f5
     obtain ⟨⟨f0,f1,f2⟩,⟨f3,f4,f5⟩⟩:=RF.out _ hS8
     go_wp2_with fail
     go_loopw [10] (fun i wr=>(∃ j:Nat,j<=row.length/\i=.int .i64 j)/\Since w1 wr) (fun i _=>row.length - (intOf i).toNat)
     case atStart=>exact ⟨⟨0,Nat.zero_le _,rfl⟩,hS8⟩
     case round =>
      clear f0 f1 f2 f3 f4 f5
      obtain ⟨wi,rfl⟩:∃ wi,wi=wr:=⟨_,rfl⟩
      obtain ⟨⟨j,hj,rfl⟩,hSi⟩:=hrel
      obtain ⟨⟨f0,f1,f2⟩,⟨f3,f4,f5⟩⟩:=RF.out _ hSi
      have k6:=(hSi.cellAt hbl _).trans k5
      by_cases hjl:j < row.length
      ·obtain ⟨l,hl⟩:∃ l,row[j]? = some l:=⟨_,zQ1 hjl⟩
       obtain ⟨bw,ow,rfl,hbw,hcw⟩:=hR.cells (by omega)
       obtain ⟨bw',ow',rfl,I9,GV⟩:=hR'.cells (by omega)
       obtain ⟨v7,k7,sa,sc,rfl,hsc,hM⟩:=hcw j l hl
       obtain ⟨v7',k7',sa',sc',rfl,JO,hM'⟩:=GV j l hl
       have j1':(j:Int) < (row.length:Int):=by omega
       have hne:Nonempty (Later w1):=⟨⟨w1,Since.refl w1⟩⟩
       have o1:∀ y:Later w1,y.w.cell? ⟨w.heap.size,2,none⟩=some (.slice (some ⟨bl,ol,none⟩) d.wires.length wk):=fun y=>(RF.out _ y.h).1.2.2
       have o2:∀ y:Later w1,y.w.cell? ⟨w.heap.size+1,2,none⟩=some (.slice (some ⟨bl',ol',none⟩) d.wires.length wk'):=fun y=>(RF.out _ y.h).2.2.2
       have o3:∀ y:Later w1,y.w.cell? ⟨bl,ol+k,none⟩=some (.slice (some ⟨bw,ow,none⟩) row.length rc):=fun y=>(y.h.cellAt hbl _).trans k5
       have o4:∀ y:Later w1,y.w.cell? ⟨bl',ol'+k,none⟩=some (.slice (some ⟨bw',ow',none⟩) row.length rc'):=fun y=>(y.h.cellAt Dj _).trans k5'
       have o5:∀ y:Later w1,y.w.cell? ⟨bw,ow+j,none⟩=some (.slice sa l.length sc):=fun y=>(y.h.cellAt hbw _).trans k7
       have o6:∀ y:Later w1,y.w.cell? ⟨bw',ow'+j,none⟩=some (.slice sa' l.length sc'):=fun y=>(y.h.cellAt I9 _).trans k7'
       clear hcw GV hl
       go_wp2_with fail
       refine aj (by kernel_rfl) (by kernel_rfl) hSi ?_
       repeat (go_big_quiet_step ((go_at_call 24;exact Later.call (ny w1 _ _ _ l _ _ _ hM hM'))))
       refine wpQuiet_nil ?_
       intro w9 hS9
       clear o1 o2 o3 o4 o5 o6 hne
       go_wp2_with fail
       go_roundw
       case rel=>exact ⟨⟨j+1,by omega,by go_num⟩,hS9⟩
       case measure=>simp [intOf];omega
      ·obtain rfl:j=row.length:=by omega
       go_wp2_with fail
       go_roundw
       case rel=>exact ⟨⟨k+1,by omega,by go_num⟩,hSi⟩
       case measure=>simp [intOf];omega
    ·obtain rfl:k=d.wires.length:=by omega
     go_wp2_with fail
     go_ret
     exact ⟨rfl,hS1.trans hS⟩
end Go.Proofs.Ytiiifecfdkjmbaa
