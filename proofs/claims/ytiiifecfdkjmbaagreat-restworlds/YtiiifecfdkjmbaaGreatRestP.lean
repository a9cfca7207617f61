/- Lemmas. Lemmas. Lemmas. Lemmas. -/
import Derived.Deep.DeepCutAuto
import Derived.Test.YtiiifecfdkjmbaaGreatRegM
import Derived.Test.YtiiifecfdkjmbaaGreatSOwnX
import Derived.Test.YtiiifecfdkjmbaaGreatSLogX
set_option maxHeartbeats 1000000
namespace Go.Proofs.YtiiifecfdkjmbaaGreat
open _root_.Go.Proofs.Tryz
set_option maxRecDepth 8000
open Go.RowKit Go.Shelf
theorem Av (w0:World) (a:Option Addr) (len cap:Nat) (xs:List Int) (a':Option Addr) (len' cap':Nat) (hI:Ints w0 a len xs) (hJ:Ints w0 a' len' xs) (w:World) (h:Since w0 w) :
  Calls prog 84 #[.slice a len cap,.slice a' len' cap'] w fun e w'=>e=.returned (.bool true)/\Since w0 w' :=
 (Gr w0 w a len cap xs a' len' cap' xs (hI.since h) (hJ.since h) h).mono fun _ _ ⟨he,hw⟩=>⟨by rw [he];simp,hw⟩
theorem uW (w0:World) (a:Option Addr) (len cap:Nat) (xs:List Mg) (a':Option Addr) (len' cap':Nat) (hI:dI w0 a len xs) (hJ:dI w0 a' len' xs) (w:World) (h:Since w0 w) :
  Calls prog 40 #[.slice a len cap,.slice a' len' cap'] w fun e w'=>e=.returned (.bool true)/\Since w0 w' :=
 (vO a len cap xs a' len' cap' xs w (hI.since h) (hJ.since h)).mono fun _ _ ⟨he,hw⟩=>⟨by rw [he,qQ],h.trans hw⟩
theorem qD (x y:WV) (d:Wd) (w:World) (hX:WAt w x d) (hY:WAt w y d) :
  Calls prog 31 #[.agg #[.slice x.ga x.gl x.gc,.slice x.na x.nl x.nc,.slice x.wa x.wl x.wc],.agg #[.slice y.ga y.gl y.gc,.slice y.na y.nl y.nc,.slice y.wa y.wl y.wc]] w fun e w'=>e=.returned (.bool true)/\Since w w':=by
 obtain ⟨ga,gl,gc,na,nl,nc,wa,wl,wk⟩:=x
 obtain ⟨ga',gl',gc',na',nl',nc',wa',wl',wk'⟩:=y
 have hwl:=hX.r.hlen
 have hwm:=hX.r.hmax
 have hnl:=hX.n.hlen
 have hnm:=hX.n.hmax
 have Sg:=hY.r.hlen
 have Si:=hY.n.hlen
 dsimp only at hwl hwm hnl hnm Sg Si ⊢
 subst hwl hnl Sg Si
 obtain ⟨w1,hw1⟩:∃ w1,(w.alloc (.cells #[.slice ga gl gc,.slice na d.nodes.length nc,.slice wa d.wires.length wk] 26)).alloc (.cells #[.slice ga' gl' gc',.slice na' d.nodes.length nc',.slice wa' d.wires.length wk'] 26)=w1:=⟨_,rfl⟩
 have hS1:Since w w1:=by rw [<-hw1];exact ((Since.refl w).alloc _).alloc _
 have hsz:w.heap.size+1 < w1.heap.size:=by rw [<-hw1];simp
 have b0:w1.cell? ⟨w.heap.size,0,none⟩=some (.slice ga gl gc):=by rw [<-hw1];simp [go_sem]
 have b1:w1.cell? ⟨w.heap.size,1,none⟩=some (.slice na d.nodes.length nc):=by rw [<-hw1];simp [go_sem]
 have b2:w1.cell? ⟨w.heap.size,2,none⟩=some (.slice wa d.wires.length wk):=by rw [<-hw1];simp [go_sem]
 have q0:w1.cell? ⟨w.heap.size+1,0,none⟩=some (.slice ga' gl' gc'):=by rw [<-hw1];simp [go_sem]
 have q1:w1.cell? ⟨w.heap.size+1,1,none⟩=some (.slice na' d.nodes.length nc'):=by rw [<-hw1];simp [go_sem]
 have q2:w1.cell? ⟨w.heap.size+1,2,none⟩=some (.slice wa' d.wires.length wk'):=by rw [<-hw1];simp [go_sem]
 have hX1:=hX.since hS1
 have hY1:=hY.since hS1
 have hGX:=hX1.g
 have hGY:=hY1.g
 have hNX:=hX1.n
 have hNY:=hY1.n
 have hRX:=hX1.r
 have hRY:=hY1.r
 have RF:Hid (∀ z,Since w1 z->(z.cell? ⟨w.heap.size,0,none⟩=some (.slice ga gl gc)/\z.cell? ⟨w.heap.size,1,none⟩=some (.slice na d.nodes.length nc)/\z.cell? ⟨w.heap.size,2,none⟩=some (.slice wa d.wires.length wk))
   /\ (z.cell? ⟨w.heap.size+1,0,none⟩=some (.slice ga' gl' gc')/\z.cell? ⟨w.heap.size+1,1,none⟩=some (.slice na' d.nodes.length nc')/\z.cell? ⟨w.heap.size+1,2,none⟩=some (.slice wa' d.wires.length wk'))):=fun z hz =>
  ⟨⟨(hz.cellAt (by omega) _).trans b0,(hz.cellAt (by omega) _).trans b1,(hz.cellAt (by omega) _).trans b2⟩,⟨(hz.cellAt (by omega) _).trans q0,(hz.cellAt (by omega) _).trans q1,(hz.cellAt (by omega) _).trans q2⟩⟩
 go_enter func31,ntmps31
 go_wp2_with (go_at_call 84;refine (Av w1 _ _ _ d.groups _ _ _ hGX hGY _ (Since.refl _)).mono ?_;rintro e w2 ⟨rfl,hS2⟩;obtain ⟨⟨f0,f1,f2⟩,⟨f3,f4,f5⟩⟩:=RF.out _ hS2)
 clear hw1 hX hY
 go_loopw [5] (fun i wr=>(∃ k:Nat,k<=d.nodes.length/\i=.int .i64 k)/\Since w1 wr) (fun i _=>d.nodes.length - (intOf i).toNat)
 case atStart=>exact ⟨⟨0,Nat.zero_le _,rfl⟩,by assumption⟩
 case round =>
  obtain ⟨wo,rfl⟩:∃ wo,wo=wr:=⟨_,rfl⟩
  clear f0 f1 f2 f3 f4 f5
  obtain ⟨⟨k,hk,rfl⟩,hS⟩:=hrel
  obtain ⟨⟨f0,f1,f2⟩,⟨f3,f4,f5⟩⟩:=RF.out _ hS
  by_cases hlt:k < d.nodes.length
  ·obtain ⟨nd,hnd⟩:∃ nd,d.nodes[k]? = some nd:=⟨_,zQ1 hlt⟩
   obtain ⟨bn,on,rfl,hbn,hcn⟩:=hNX.cells (by omega)
   obtain ⟨bm,om,rfl,hbm,hcm⟩:=hNY.cells (by omega)
   obtain ⟨k0,⟨v1,k1,la,lc,rfl,hlc,hL⟩,⟨v2,k2,ha,hc,rfl,hhc,hH⟩,⟨v3,k3,ta,tc,rfl,htc,hT⟩⟩:=hcn k nd hnd
   obtain ⟨k0',⟨v1',k1',la',lc',rfl,UZ,hL'⟩,⟨v2',k2',ha',hc',rfl,U1,hH'⟩,⟨v3',k3',ta',tc',rfl,U2,hT'⟩⟩:=hcm k nd hnd
   have n1:(k:Int) < (d.nodes.length:Int):=by omega
   obtain ⟨S0,hS0⟩:∃ S0:World->Prop,∀ w',S0 w'↔Since w1 w':=⟨_,fun _=>Iff.rfl⟩
   have x1:∀ y:aj S0,y.w.cell? ⟨w.heap.size,1,none⟩=some (.slice (some ⟨bn,on,none⟩) d.nodes.length nc):=fun y=>(RF.out _ ((hS0 _).1 y.h)).1.2.1
   have x2:∀ y:aj S0,y.w.cell? ⟨w.heap.size+1,1,none⟩=some (.slice (some ⟨bm,om,none⟩) d.nodes.length nc'):=fun y=>(RF.out _ ((hS0 _).1 y.h)).2.2.1
   have j0:∀ y:aj S0,y.w.cell? ⟨bn,on+k*4,none⟩=_:=fun y=>(((hS0 _).1 y.h).cellAt hbn _).trans k0
   have j1:∀ y:aj S0,y.w.cell? ⟨bn,on+k*4+1,none⟩=_:=fun y=>(((hS0 _).1 y.h).cellAt hbn _).trans k1
   have j2:∀ y:aj S0,y.w.cell? ⟨bn,on+k*4+2,none⟩=_:=fun y=>(((hS0 _).1 y.h).cellAt hbn _).trans k2
   have j3:∀ y:aj S0,y.w.cell? ⟨bn,on+k*4+3,none⟩=_:=fun y=>(((hS0 _).1 y.h).cellAt hbn _).trans k3
   have i0:∀ y:aj S0,y.w.cell? ⟨bm,om+k*4,none⟩=_:=fun y=>(((hS0 _).1 y.h).cellAt hbm _).trans k0'
   have i1:∀ y:aj S0,y.w.cell? ⟨bm,om+k*4+1,none⟩=_:=fun y=>(((hS0 _).1 y.h).cellAt hbm _).trans k1'
   have i2:∀ y:aj S0,y.w.cell? ⟨bm,om+k*4+2,none⟩=_:=fun y=>(((hS0 _).1 y.h).cellAt hbm _).trans k2'
   have i3:∀ y:aj S0,y.w.cell? ⟨bm,om+k*4+3,none⟩=_:=fun y=>(((hS0 _).1 y.h).cellAt hbm _).trans k3'
   clear hcn hcm k0 k1 k2 k3 k0' k1' k2' k3'
   go_upto_region 6 with fail
   go_cut [6,7] from 35 to 100 (fun s6 s7 wx=>∃ p q,s6=.pointer (some ⟨p,0,none⟩)/\s7=.pointer (some ⟨q,0,none⟩)/\fD wx p (.int .i64 nd.clock) (.slice la nd.last.length lc) (.slice ha nd.held.length hc) (.slice ta nd.told.length tc)/\fD wx q (.int .i64 nd.clock) (.slice la' nd.last.length lc') (.slice ha' nd.held.length hc') (.slice ta' nd.told.length tc')/\Since w1 wx)
   case first =>
    obtain ⟨W0,hW0⟩:∃ y,wo.drew=y:=⟨_,rfl⟩
    have hs0:Since w1 W0:=by rw [<-hW0];exact Since.drew hS
    have av:=(hS0 W0).2 hs0
    have hne:Nonempty (aj S0):=⟨⟨_,av⟩⟩
    have dG:=aQ w
    refine aS (fun w'=>∃ x:aj S0,w'=x.w) (by kernel_rfl) ?_
    rw [hW0]
    clear hW0
    refine tW 0 rfl ?_;go_big_quiet_op
    refine tM 1 rfl (ah av) ?_;go_big_quiet_op
    refine tW 2 rfl ?_;go_big_quiet_op
    refine tW 3 rfl ?_;go_big_quiet_op
    refine tM 4 rfl (ah av) ?_;go_big_quiet_op
    refine tW 5 rfl ?_;go_big_quiet_op
    refine tM 6 rfl (ah av) ?_;go_big_quiet_op
    refine tW 7 rfl ?_;go_big_quiet_op
    refine tW 8 rfl ?_;go_big_quiet_op
    refine tM 9 rfl (ah av) ?_;go_big_quiet_op
    obtain ⟨WA,hWA⟩:∃ y,W0.alloc (.cells #[.int .i64 0,.slice none 0 0,.slice none 0 0,.slice none 0 0] 45)=y:=⟨_,rfl⟩
    obtain ⟨WB,hWB⟩:∃ y,WA.alloc (.cells #[.int .i64 0,.slice none 0 0,.slice none 0 0,.slice none 0 0] 45)=y:=⟨_,rfl⟩
    have hSA:=au hWA
    have hSB:=au hWB
    have hbA:fD WA W0.heap.size (.int .i64 0) (.slice none 0 0) (.slice none 0 0) (.slice none 0 0):=by rw [<-hWA];exact fD.new W0 _ _ _ _ _
    have hbB:fD WB WA.heap.size (.int .i64 0) (.slice none 0 0) (.slice none 0 0) (.slice none 0 0):=by rw [<-hWB];exact fD.new WA _ _ _ _ _
    have hsA:=hs0.trans hSA
    have hsB:=hsA.trans hSB
    have hPQ:¬ W0.heap.size=WA.heap.size:=by have:=hbA.lt;omega
    have hQP:¬ WA.heap.size=W0.heap.size:=by have:=hbA.lt;omega
    refine rG 10 11 rfl rfl (by kernel_rfl) ?_ ?_
    ·intro K hK
     go_simp
     refine hK _ _ (fun _ _=>ah ((hS0 _).2 hsA)) ?_
     clear hK K
     refine aT 11 rfl (by kernel_rfl) ?_
     intro K hK
     go_simp
     refine hK _ _ (fun _ _=>ah ((hS0 _).2 hsB)) ?_
     clear hK K
     obtain ⟨WC,hWC⟩:∃ y,(((WB.setCell ⟨W0.heap.size,0,none⟩ (.int .i64 nd.clock)).setCell ⟨W0.heap.size,1,none⟩ (.slice la nd.last.length lc)).setCell ⟨W0.heap.size,2,none⟩ (.slice ha nd.held.length hc)).setCell ⟨W0.heap.size,3,none⟩ (.slice ta nd.told.length tc)=y:=⟨_,rfl⟩
     obtain ⟨WD,hWD⟩:∃ y,(((WC.setCell ⟨WA.heap.size,0,none⟩ (.int .i64 nd.clock)).setCell ⟨WA.heap.size,1,none⟩ (.slice la' nd.last.length lc')).setCell ⟨WA.heap.size,2,none⟩ (.slice ha' nd.held.length hc')).setCell ⟨WA.heap.size,3,none⟩ (.slice ta' nd.told.length tc')=y:=⟨_,rfl⟩
     have hFC:Fr (fun i=>i=W0.heap.size) WB WC:=by rw [<-hWC];exact sS WB W0.heap.size _ _ _ _
     have hFD:Fr (fun i=>i=WA.heap.size) WC WD:=by rw [<-hWD];exact sS WC WA.heap.size _ _ _ _
     have hbP:fD WB W0.heap.size (.int .i64 0) (.slice none 0 0) (.slice none 0 0) (.slice none 0 0):=by first | exact hbB | exact hbA.since hSB
     have hbQ:fD WB WA.heap.size (.int .i64 0) (.slice none 0 0) (.slice none 0 0) (.slice none 0 0):=by first | exact hbB | exact hbA.since hSB
     have Qo:fD WC W0.heap.size (.int .i64 nd.clock) (.slice la nd.last.length lc) (.slice ha nd.held.length hc) (.slice ta nd.told.length tc):=by rw [<-hWC];exact hbP.put _ _ _ _
     have Nt:=hbQ.fr hFC hQP
     have Qp:fD WD WA.heap.size (.int .i64 nd.clock) (.slice la' nd.last.length lc') (.slice ha' nd.held.length hc') (.slice ta' nd.told.length tc'):=by rw [<-hWD];exact Nt.put _ _ _ _
     have Qq:=Qo.fr hFD hPQ
     have hsC:Since w1 WC:=hFC.aA hsB (fun i hi e=>by have:=hs0.size;have:=hsA.size;omega)
     have hsD:Since w1 WD:=hFD.aA hsC (fun i hi e=>by have:=hs0.size;have:=hsA.size;omega)
     obtain ⟨_,c0,c1,c2,c3,z0,z1,z2,z3⟩:=hbP
     obtain ⟨_,q0,q1,q2,q3,y0,y1,y2,y3⟩:=Nt
     refine aT 12 rfl (by kernel_rfl) ?_
     intro K hK
     go_simp
     refine hK _ _ (fun _ _=>ah ((hS0 _).2 hsC)) ?_
     clear hK K
     refine aT 13 rfl (by kernel_rfl) ?_
     intro K hK
     go_simp
     refine hK _ _ (fun h=>absurd h (by decide +kernel)) ?_
     clear hK K
     refine dB (by kernel_rfl) ?_
     clear x1 x2 j0 j1 j2 j3 i0 i1 i2 i3 hne dG c0 c1 c2 c3 z0 z1 z2 z3 q0 q1 q2 q3 y0 y1 y2 y3 hWC hWD hWA hWB
     go_wp2_with fail
     go_meet
     case rel=>exact ⟨W0.heap.size,WA.heap.size,rfl,rfl,Qq,Qp,hsD⟩
    ·intro K hK
     go_simp
     refine hK _ _ (fun _ _=>ah ((hS0 _).2 hsA)) ?_
     clear hK K
     refine aT 10 rfl (by kernel_rfl) ?_
     intro K hK
     go_simp
     refine hK _ _ (fun _ _=>ah ((hS0 _).2 hsB)) ?_
     clear hK K
     obtain ⟨WC,hWC⟩:∃ y,(((WB.setCell ⟨WA.heap.size,0,none⟩ (.int .i64 nd.clock)).setCell ⟨WA.heap.size,1,none⟩ (.slice la nd.last.length lc)).setCell ⟨WA.heap.size,2,none⟩ (.slice ha nd.held.length hc)).setCell ⟨WA.heap.size,3,none⟩ (.slice ta nd.told.length tc)=y:=⟨_,rfl⟩
     obtain ⟨WD,hWD⟩:∃ y,(((WC.setCell ⟨W0.heap.size,0,none⟩ (.int .i64 nd.clock)).setCell ⟨W0.heap.size,1,none⟩ (.slice la' nd.last.length lc')).setCell ⟨W0.heap.size,2,none⟩ (.slice ha' nd.held.length hc')).setCell ⟨W0.heap.size,3,none⟩ (.slice ta' nd.told.length tc')=y:=⟨_,rfl⟩
     have hFC:Fr (fun i=>i=WA.heap.size) WB WC:=by rw [<-hWC];exact sS WB WA.heap.size _ _ _ _
     have hFD:Fr (fun i=>i=W0.heap.size) WC WD:=by rw [<-hWD];exact sS WC W0.heap.size _ _ _ _
     have hbP:fD WB WA.heap.size (.int .i64 0) (.slice none 0 0) (.slice none 0 0) (.slice none 0 0):=by first | exact hbB | exact hbA.since hSB
     have hbQ:fD WB W0.heap.size (.int .i64 0) (.slice none 0 0) (.slice none 0 0) (.slice none 0 0):=by first | exact hbB | exact hbA.since hSB
     have Qo:fD WC WA.heap.size (.int .i64 nd.clock) (.slice la nd.last.length lc) (.slice ha nd.held.length hc) (.slice ta nd.told.length tc):=by rw [<-hWC];exact hbP.put _ _ _ _
     have Nt:=hbQ.fr hFC hPQ
     have Qp:fD WD W0.heap.size (.int .i64 nd.clock) (.slice la' nd.last.length lc') (.slice ha' nd.held.length hc') (.slice ta' nd.told.length tc'):=by rw [<-hWD];exact Nt.put _ _ _ _
     have Qq:=Qo.fr hFD hQP
     have hsC:Since w1 WC:=hFC.aA hsB (fun i hi e=>by have:=hs0.size;have:=hsA.size;omega)
     have hsD:Since w1 WD:=hFD.aA hsC (fun i hi e=>by have:=hs0.size;have:=hsA.size;omega)
     obtain ⟨_,c0,c1,c2,c3,z0,z1,z2,z3⟩:=hbP
     obtain ⟨_,q0,q1,q2,q3,y0,y1,y2,y3⟩:=Nt
     refine aT 12 rfl (by kernel_rfl) ?_
     intro K hK
     go_simp
     refine hK _ _ (fun _ _=>ah ((hS0 _).2 hsC)) ?_
     clear hK K
     refine aT 13 rfl (by kernel_rfl) ?_
     intro K hK
     go_simp
     refine hK _ _ (fun h=>absurd h (by decide +kernel)) ?_
     clear hK K
     refine dB (by kernel_rfl) ?_
     clear x1 x2 j0 j1 j2 j3 i0 i1 i2 i3 hne dG c0 c1 c2 c3 z0 z1 z2 z3 q0 q1 q2 q3 y0 y1 y2 y3 hWC hWD hWA hWB
     go_wp2_with fail
     go_meet
     case rel=>exact ⟨WA.heap.size,W0.heap.size,rfl,rfl,Qq,Qp,hsD⟩
   obtain ⟨p,q,rfl,rfl,hbp,hbq,hSx⟩:=hcut
   clear j0 j1 j2 j3 i0 i1 i2 i3 x1 x2 f0 f1 f2 f3 f4 f5
   have NF:Hid (∀ z,Since wc z->fD z p (.int .i64 nd.clock) (.slice la nd.last.length lc) (.slice ha nd.held.length hc) (.slice ta nd.told.length tc)/\fD z q (.int .i64 nd.clock) (.slice la' nd.last.length lc') (.slice ha' nd.held.length hc') (.slice ta' nd.told.length tc')):=fun z hz=>⟨hbp.since hz,hbq.since hz⟩
   obtain ⟨_,a0,a1,a2,a3,_,_,_,_⟩:=hbp
   obtain ⟨_,e0,e1,e2,e3,_,_,_,_⟩:=hbq
   have hlm:=hL.hmax
   have hHc:=hH.since hSx
   have Uk:=hH'.since hSx
   have hTc:=hT.since hSx
   have Ul:=hT'.since hSx
   go_wp2_with (first
    | (go_at_call_of 40 (Value.slice ha nd.held.length hc);refine (uW wc _ _ _ nd.held _ _ _ hHc Uk wc (Since.refl _)).mono ?_;rintro e w3 ⟨rfl,hS3⟩;obtain ⟨⟨_,b0,b1,b2,b3,_,_,_,_⟩,⟨_,g0,g1,g2,g3,_,_,_,_⟩⟩:=NF.out _ hS3)
    | (go_at_call 40;refine (uW wc _ _ _ nd.told _ _ _ hTc Ul w3 hS3).mono ?_;rintro e w4 ⟨rfl,hS4⟩;obtain ⟨⟨_,h0,h1,h2,h3,_,_,_,_⟩,⟨_,m0,m1,m2,m3,_,_,_,_⟩⟩:=NF.out _ hS4))
   clear b0 b1 b2 b3 g0 g1 g2 g3 h0 h1 h2 h3 m0 m1 m2 m3 a0 a1 a2 a3 e0 e1 e2 e3
   go_loopw [8] (fun i wr=>(∃ j:Nat,j<=nd.last.length/\i=.int .i64 j)/\Since wc wr) (fun i _=>nd.last.length - (intOf i).toNat)
   case atStart=>exact ⟨⟨0,Nat.zero_le _,rfl⟩,hS4⟩
   case round =>
    obtain ⟨wi,rfl⟩:∃ wi,wi=wr:=⟨_,rfl⟩
    obtain ⟨⟨j,hj,rfl⟩,hSi⟩:=hrel
    obtain ⟨⟨_,b0,b1,b2,b3,_,_,_,_⟩,⟨_,g0,g1,g2,g3,_,_,_,_⟩⟩:=NF.out _ hSi
    by_cases hjl:j < nd.last.length
    ·obtain ⟨row,hrow⟩:∃ r,nd.last[j]? = some r:=⟨_,zQ1 hjl⟩
     obtain ⟨bl,ol,rfl,hbl,hcl⟩:=hL.cells (by omega)
     obtain ⟨bl',ol',rfl,Ea,hcl'⟩:=hL'.cells (by omega)
     obtain ⟨v5,k5,ra,rc,rfl,hrc,hR⟩:=hcl j row hrow
     obtain ⟨v5',k5',ra',rc',rfl,Um,hR'⟩:=hcl' j row hrow
     have j1':(j:Int) < (nd.last.length:Int):=by omega
     have hne:Nonempty (Later wc):=⟨⟨wc,Since.refl wc⟩⟩
     have o1:∀ y:Later wc,y.w.cell? ⟨p,1,none⟩=some (.slice (some ⟨bl,ol,none⟩) nd.last.length lc):=fun y=>(NF.out _ y.h).1.c1
     have o2:∀ y:Later wc,y.w.cell? ⟨q,1,none⟩=some (.slice (some ⟨bl',ol',none⟩) nd.last.length lc'):=fun y=>(NF.out _ y.h).2.c1
     have o3:∀ y:Later wc,y.w.cell? ⟨bl,ol+j,none⟩=some (.slice ra row.length rc):=fun y=>((hSx.trans y.h).cellAt hbl _).trans k5
     have o4:∀ y:Later wc,y.w.cell? ⟨bl',ol'+j,none⟩=some (.slice ra' row.length rc'):=fun y=>((hSx.trans y.h).cellAt Ea _).trans k5'
     have hRc:=hR.since hSx
     have Un:=hR'.since hSx
     clear hcl hcl' k5 k5' hrow
     go_wp2_with fail
     refine ak (by kernel_rfl) (by kernel_rfl) hSi ?_
     repeat (go_big_quiet_step ((go_at_call 84;exact Later.call (Av wc _ _ _ row _ _ _ hRc Un))))
     refine wpQuiet_nil ?_
     intro w9 hS9
     clear o1 o2 o3 o4 hne
     go_wp2_with fail
     go_roundw
     case rel=>exact ⟨⟨j+1,by omega,by go_num⟩,hS9⟩
     case measure=>simp [intOf];omega
    ·obtain rfl:j=nd.last.length:=by omega
     go_wp2_with fail
     go_roundw
     case rel=>exact ⟨⟨k+1,by omega,by go_num⟩,hSx.trans hSi⟩
     case measure=>simp [intOf];omega
  ·obtain rfl:k=d.nodes.length:=by omega
   go_wp2_with fail
   go_loopw [9] (fun i wr=>(∃ k:Nat,k<=d.wires.length/\i=.int .i64 k)/\Since w1 wr) (fun i _=>d.wires.length - (intOf i).toNat)
   case atStart=>exact ⟨⟨0,Nat.zero_le _,rfl⟩,hS⟩
   case round =>
    clear f0 f1 f2 f3 f4 f5 hS
    obtain ⟨wq,rfl⟩:∃ wq,wq=wr:=⟨_,rfl⟩
    obtain ⟨⟨k,hk,rfl⟩,hS⟩:=hrel
    obtain ⟨⟨f0,f1,f2⟩,⟨f3,f4,f5⟩⟩:=RF.out _ hS
    by_cases hlt:k < d.wires.length
    ·obtain ⟨row,hrow⟩:∃ r,d.wires[k]? = some r:=⟨_,zQ1 hlt⟩
     obtain ⟨bl,ol,rfl,hbl,hcl⟩:=hRX.cells (by omega)
     obtain ⟨bl',ol',rfl,Ea,hcl'⟩:=hRY.cells (by omega)
     obtain ⟨v5,k5,ra,rc,rfl,hrc,hR⟩:=hcl k row hrow
     obtain ⟨v5',k5',ra',rc',rfl,Um,hR'⟩:=hcl' k row hrow
     have n1:(k:Int) < (d.wires.length:Int):=by omega
     have hrm:=hR.hmax
     have hne:Nonempty (Later w1):=⟨⟨w1,Since.refl w1⟩⟩
     have o1:∀ y:Later w1,y.w.cell? ⟨w.heap.size,2,none⟩=some (.slice (some ⟨bl,ol,none⟩) d.wires.length wk):=fun y=>(RF.out _ y.h).1.2.2
     have o2:∀ y:Later w1,y.w.cell? ⟨w.heap.size+1,2,none⟩=some (.slice (some ⟨bl',ol',none⟩) d.wires.length wk'):=fun y=>(RF.out _ y.h).2.2.2
     have o3:∀ y:Later w1,y.w.cell? ⟨bl,ol+k,none⟩=some (.slice ra row.length rc):=fun y=>(y.h.cellAt hbl _).trans k5
     have o4:∀ y:Later w1,y.w.cell? ⟨bl',ol'+k,none⟩=some (.slice ra' row.length rc'):=fun y=>(y.h.cellAt Ea _).trans k5'
     clear hcl hcl' hrow
     go_wp2_with fail
     refine ak (by kernel_rfl) (by kernel_rfl) hS ?_
     repeat (go_big_quiet_step (fail))
     refine wpQuiet_nil ?_
     intro w8 hS8
     clear o1 o2 o3 o4 hne f0 f1 f2 f3 f4 f5
     obtain ⟨⟨f0,f1,f2⟩,⟨f3,f4,f5⟩⟩:=RF.out _ hS8
     go_wp2_with fail
     go_loopw [10] (fun i wr=>(∃ j:Nat,j<=row.length/\i=.int .i64 j)/\Since w1 wr) (fun i _=>row.length - (intOf i).toNat)
     case atStart=>exact ⟨⟨0,Nat.zero_le _,rfl⟩,hS8⟩
     case round =>
      clear f0 f1 f2 f3 f4 f5
      obtain ⟨wi,rfl⟩:∃ wi,wi=wr:=⟨_,rfl⟩
      obtain ⟨⟨j,hj,rfl⟩,hSi⟩:=hrel
      obtain ⟨⟨f0,f1,f2⟩,⟨f3,f4,f5⟩⟩:=RF.out _ hSi
      have k6:=(hSi.cellAt hbl _).trans k5
      by_cases hjl:j < row.length
      ·obtain ⟨l,hl⟩:∃ l,row[j]? = some l:=⟨_,zQ1 hjl⟩
       obtain ⟨bw,ow,rfl,hbw,hcw⟩:=hR.cells (by omega)
       obtain ⟨bw',ow',rfl,Uo,Sj⟩:=hR'.cells (by omega)
       obtain ⟨v7,k7,sa,sc,rfl,hsc,hM⟩:=hcw j l hl
       obtain ⟨v7',k7',sa',sc',rfl,U3,hM'⟩:=Sj j l hl
       have j1':(j:Int) < (row.length:Int):=by omega
       have hne:Nonempty (Later w1):=⟨⟨w1,Since.refl w1⟩⟩
       have o1:∀ y:Later w1,y.w.cell? ⟨w.heap.size,2,none⟩=some (.slice (some ⟨bl,ol,none⟩) d.wires.length wk):=fun y=>(RF.out _ y.h).1.2.2
       have o2:∀ y:Later w1,y.w.cell? ⟨w.heap.size+1,2,none⟩=some (.slice (some ⟨bl',ol',none⟩) d.wires.length wk'):=fun y=>(RF.out _ y.h).2.2.2
       have o3:∀ y:Later w1,y.w.cell? ⟨bl,ol+k,none⟩=some (.slice (some ⟨bw,ow,none⟩) row.length rc):=fun y=>(y.h.cellAt hbl _).trans k5
       have o4:∀ y:Later w1,y.w.cell? ⟨bl',ol'+k,none⟩=some (.slice (some ⟨bw',ow',none⟩) row.length rc'):=fun y=>(y.h.cellAt Ea _).trans k5'
       have o5:∀ y:Later w1,y.w.cell? ⟨bw,ow+j,none⟩=some (.slice sa l.length sc):=fun y=>(y.h.cellAt hbw _).trans k7
       have o6:∀ y:Later w1,y.w.cell? ⟨bw',ow'+j,none⟩=some (.slice sa' l.length sc'):=fun y=>(y.h.cellAt Uo _).trans k7'
       clear hcw Sj hl
       go_wp2_with fail
       refine ak (by kernel_rfl) (by kernel_rfl) hSi ?_
       repeat (go_big_quiet_step ((go_at_call 40;exact Later.call (uW w1 _ _ _ l _ _ _ hM hM'))))
       refine wpQuiet_nil ?_
       intro w9 hS9
       clear o1 o2 o3 o4 o5 o6 hne
       go_wp2_with fail
       go_roundw
       case rel=>exact ⟨⟨j+1,by omega,by go_num⟩,hS9⟩
       case measure=>simp [intOf];omega
      ·obtain rfl:j=row.length:=by omega
       go_wp2_with fail
       go_roundw
       case rel=>exact ⟨⟨k+1,by omega,by go_num⟩,hSi⟩
       case measure=>simp [intOf];omega
    ·obtain rfl:k=d.wires.length:=by omega
     go_wp2_with fail
     go_ret
     exact ⟨rfl,hS1.trans hS⟩
open Pu
set_option linter.unusedVariables false
set_option linter.unusedSimpArgs false
theorem NV {lo lo':Nat} {w:World} {d:Wd} {L L':Lay} (h:aU lo w d L) (h':aU lo' w d L'):Calls prog 31 #[.agg #[.slice (L (0,0,0)).a d.groups.length (L (0,0,0)).cap,.slice (L (1,0,0)).a d.nodes.length (L (1,0,0)).cap,.slice (L (2,0,0)).a d.wires.length (L (2,0,0)).cap],.agg #[.slice (L' (0,0,0)).a d.groups.length (L' (0,0,0)).cap,.slice (L' (1,0,0)).a d.nodes.length (L' (1,0,0)).cap,.slice (L' (2,0,0)).a d.wires.length (L' (2,0,0)).cap]] w fun e w'=>e=.returned (.bool true)/\Since w w' :=
 qD (fP L d) (fP L' d) d w h.wat h'.wat
attribute [local go_sem] Oper.semAt_some
def doE (d:Wd) (ac:Ac):Int:=match doD d ac with | .error e=>e | .ok _=>0
def doW (d:Wd) (ac:Ac):Wd:=match doD d ac with | .error _=>⟨[],[],[]⟩ | .ok d'=>d'
theorem I4 (lo:Nat) (w:World):aU lo w ⟨[],[],[]⟩ (fun _=>⟨none,0⟩):=by
 have hz:∀ ix,okI ⟨[],[],[]⟩ ix->mJ ⟨[],[],[]⟩ ix=0/\dF ⟨[],[],[]⟩ (fun _=>⟨none,0⟩) ix=[]:=by
  rintro ⟨t,i,k⟩ h
  match t,h with
  | 0,h=>exact ⟨rfl,rfl⟩
  | 1,h=>exact ⟨rfl,rfl⟩
  | 2,h=>exact ⟨rfl,rfl⟩
  | 3,h=>exact absurd h.1 (by simp)
  | 4,h=>exact absurd h.1 (by simp)
  | 5,h=>exact absurd h.1 (by simp)
  | 6,h=>exact absurd h.1 (by simp)
  | 7,h=>exact absurd h.1 (by simp)
  | 8,h=>exact absurd h.1 (by simp)
  | _+9,h=>exact absurd h (by simp [okI])
 refine ⟨fun ix h=>?_,fun ix h=>by rw [(hz ix h).1];omega,fun i j b hi hj h1 h2=>?_⟩
 ·rw [(hz ix h).1,(hz ix h).2];exact Row.nil _ _ _
 ·unfold Sl.blk at h1;simp at h1
theorem Pn (x:WV) (d:Wd) (ac:Ac) (w:World) (hW:WAt w x d) :
  Calls prog 53 #[.agg #[.slice x.ga x.gl x.gc,.slice x.na x.nl x.nc,.slice x.wa x.wl x.wc],acV ac] w fun e w'=>∃ L,e=.returned (.tuple #[aI L (doW d ac),.int .i64 (doE d ac)])/\aU w.heap.size w' (doW d ac) L/\Since w w':=by
 refine (xg x d ac w hW).mono ?_
 intro e w' h
 unfold doE doW
 cases hr:doD d ac with
 | error er =>
  rw [hr] at h
  obtain ⟨he,hS⟩:=h.out.1 er rfl
  exact ⟨fun _=>⟨none,0⟩,he,I4 _ _,hS⟩
 | ok d' =>
  rw [hr] at h
  exact h.out.2 d' rfl
structure Rw (lo:Nat) (H:Nat->Prop) (nb no n:Nat) (a b:World):Prop where
 fr:Fr (fun k=>lo<=k) a b
 hd:∀ k o,H k->b.cell? ⟨k,o,none⟩=a.cell? ⟨k,o,none⟩
 nod:∀ j,n*4<=j->b.cell? ⟨nb,no+j,none⟩=a.cell? ⟨nb,no+j,none⟩
 wri:∀ k o,(a.cell? ⟨k,o,none⟩).isSome=true->a.frozen? ⟨k,o,none⟩=false->(b.cell? ⟨k,o,none⟩).isSome=true/\b.frozen? ⟨k,o,none⟩=false
theorem Rw.refl (lo:Nat) (H:Nat->Prop) (nb no n:Nat) (a:World):Rw lo H nb no n a a:=⟨Fr.refl _ _,fun _ _ _=>rfl,fun _ _=>rfl,fun _ _ h k=>⟨h,k⟩⟩
theorem Rw.up {lo:Nat} {H:Nat->Prop} {nb no n n':Nat} {a b:World} (h:Rw lo H nb no n a b) (hn:n<=n'):Rw lo H nb no n' a b:=⟨h.fr,h.hd,fun j hj=>h.nod j (by omega),h.wri⟩
theorem sO (w:World) {k k':Nat} (o o':Nat) (v:Value) (h:k≠k'):(w.setCell ⟨k,o,none⟩ v).cell? ⟨k',o',none⟩=w.cell? ⟨k',o',none⟩ :=
 World.cell?_setCell_other _ _ _ _ (by intro e;injection e with e1;first | exact h e1 | exact h e1.symm)
theorem Ji (w:World) (k o:Nat) (v:Value) (k' o':Nat) (h:(w.cell? ⟨k',o',none⟩).isSome=true) (hz:w.frozen? ⟨k',o',none⟩=false):((w.setCell ⟨k,o,none⟩ v).cell? ⟨k',o',none⟩).isSome=true/\(w.setCell ⟨k,o,none⟩ v).frozen? ⟨k',o',none⟩=false:=by
 refine ⟨?_,by rw [World.frozen?_setCell];exact hz⟩
 by_cases hk:k=k'
 ·subst hk
  by_cases ho:o=o'
  ·subst ho;rw [World.cell?_setCell_same' _ _ _ h];rfl
  ·rw [bK _ _ _ ho];exact h
 ·rw [sO _ _ _ _ hk];exact h
theorem Rw.set {lo:Nat} {H:Nat->Prop} {nb no n:Nat} {a b:World} (h:Rw lo H nb no n a b) {k:Nat} (o:Nat) (v:Value) (hk:lo<=k) (hH:¬ H k) (hn:k≠nb):Rw lo H nb no n a (b.setCell ⟨k,o,none⟩ v) :=
 ⟨h.fr.setCell _ _ (fun _=>hk),fun k' o' hk'=>(sO _ _ _ _ (by rintro rfl;exact hH hk')).trans (h.hd k' o' hk'),fun j hj=>(sO _ _ _ _ hn).trans (h.nod j hj),
  fun k' o' h1 h2=>by obtain ⟨g1,g2⟩:=h.wri k' o' h1 h2;exact Ji _ _ _ _ _ _ g1 g2⟩
theorem Rw.NU {lo:Nat} {H:Nat->Prop} {nb no n:Nat} {a b:World} (h:Rw lo H nb no n a b) {o:Nat} (v:Value) (hk:lo<=nb) (hH:¬ H nb) (ho:o < no+n*4):Rw lo H nb no n a (b.setCell ⟨nb,o,none⟩ v) :=
 ⟨h.fr.setCell _ _ (fun _=>hk),fun k' o' hk'=>(sO _ _ _ _ (by rintro rfl;exact hH hk')).trans (h.hd k' o' hk'),fun j hj=>(bK _ _ _ (by omega)).trans (h.nod j hj),
  fun k' o' h1 h2=>by obtain ⟨g1,g2⟩:=h.wri k' o' h1 h2;exact Ji _ _ _ _ _ _ g1 g2⟩
theorem Rw.cell {lo:Nat} {H:Nat->Prop} {nb no n:Nat} {a b:World} (h:Rw lo H nb no n a b) {k o:Nat} (h1:(a.cell? ⟨k,o,none⟩).isSome=true) (h2:a.frozen? ⟨k,o,none⟩=false):(∃ v,b.cell? ⟨k,o,none⟩=some v)/\b.frozen? ⟨k,o,none⟩=false:=by
 obtain ⟨g1,g2⟩:=h.wri k o h1 h2
 exact ⟨Option.isSome_iff_exists.1 g1,g2⟩
theorem Rw.since {lo:Nat} {H:Nat->Prop} {nb no n:Nat} {w0 a b:World} (h:Rw lo H nb no n a b) (h0:Since w0 a) (hl:w0.heap.size<=lo):Since w0 b:=h.fr.aA h0 (fun i hi e=>by omega)
theorem aU.body {lo:Nat} {w:World} {d:Wd} {L:Lay} (h:aU lo w d L) {ix:Ix} (hi:okI d ix) (hp:0 < mJ d ix):∃ b off cap,L ix=⟨some ⟨b,off,none⟩,cap⟩/\lo<=b/\b < w.heap.size/\(L ix).blk=some b/\(∀ j,j < mJ d ix*szI ix->(w.cell? ⟨b,off+j,none⟩).isSome=true/\w.frozen? ⟨b,off+j,none⟩=false)/\∀ j u,(dF d L ix)[j]? = some u->w.cell? ⟨b,off+j,none⟩=some u:=by
 have hr:=h.row ix hi
 have hc:=hr.cap
 obtain ⟨b,off,e,hl,hb,hw,hx⟩:=hr.body (by omega)
 obtain ⟨b',off',cap,e2,_,_,e3,_⟩:=h.lies hi hp
 rw [e2] at e
 cases e
 refine ⟨b,off,cap,e2,hl,hb,e3,fun j hj=>hw j (zQ4 hj (Nat.mul_le_mul_right _ hc)),hx⟩
def HdB (d:Wd) (L:Lay) (q:Nat) (k:Nat):Prop:=k=q\/∃ i j,okI d (i,j,0)/\(i=2\/i=3\/i=7)/\(L (i,j,0)).blk=some k
theorem NR {lo:Nat} {w:World} {d:Wd} {L:Lay} (h:aU lo w d L) {q:Nat} (hq:w.heap.size<=q) {ix:Ix} (hi:okI d ix) {b:Nat} (hb:(L ix).blk=some b) (hn:ix.1≠2/\ix.1≠3/\ix.1≠7):¬ HdB d L q b:=by
 rintro (rfl | ⟨i,j,ho,hi2,hk⟩)
 ·have:=(h.row ix hi).fA hb;omega
 ·have:=h.inj _ _ _ hi ho hb hk
  subst this
  rcases hi2 with rfl | rfl | rfl <;> simp at hn
end Go.Proofs.YtiiifecfdkjmbaaGreat
