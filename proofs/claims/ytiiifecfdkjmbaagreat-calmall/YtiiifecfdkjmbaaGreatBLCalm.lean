/- The laws' helper calmBegun answers true; no condition. -/
import Derived.Test.YtiiifecfdkjmbaaGreatBLCalm1
import Derived.Test.YtiiifecfdkjmbaaGreatBMsgBegun
namespace Go.Proofs.YtiiifecfdkjmbaaGreat
set_option maxRecDepth 8000
open Go.RowKit Go.Shelf
open _root_.Go.Proofs.YtiiifecfdkjmbaaGreat.Pure
set_option linter.unusedVariables false
set_option linter.unusedSimpArgs false
theorem NZ (w:World):Calls Tryz.prog 83 #[.slice (some ⟨w.heap.size,0,none⟩) 2 2] (w.alloc (.cells #[.int .i64 1,.int .i64 0,.int .i64 0,.string ⟨#[97]⟩,.int .i64 1,.int .i64 2,.int .i64 1,.string ⟨#[98]⟩] 58)) fun e w'=>∃ L,e=.returned (aL L kD)∧aT w.heap.size w' kD L∧Since w w':=by
 refine (Kl _ _ Md (by decide) _ (Fa w Md (by decide) _)).mono ?_
 rintro e w' ⟨L,rfl,hO,hS⟩
 exact ⟨L,rfl,hO.mono (by simp),((Since.refl w).alloc _).trans hS⟩
theorem N7 {D:Wd} {r:Except Int (Wd × Int)} (h:checked D (dR D)=r):∀ (L:Lay) (lo:Nat) (y:World),aT lo y D L→Calls Tryz.prog 41 #[.agg #[.slice (L (0,0,0)).a D.groups.length (L (0,0,0)).cap,.slice (L (1,0,0)).a D.nodes.length (L (1,0,0)).cap,.slice (L (2,0,0)).a D.wires.length (L (2,0,0)).cap]] y fun e w'=>Hid (rE y (r) e w'):=fun L lo y hO=>by
 have k:=oU (fA L D) D y hO.wat
 rw [h] at k;exact k
theorem N8 {D:Wd} {r:Except Int (Wd × Int)} (h:checked D (gV D)=r):∀ (L:Lay) (lo:Nat) (y:World),aT lo y D L→Calls Tryz.prog 42 #[.agg #[.slice (L (0,0,0)).a D.groups.length (L (0,0,0)).cap,.slice (L (1,0,0)).a D.nodes.length (L (1,0,0)).cap,.slice (L (2,0,0)).a D.wires.length (L (2,0,0)).cap]] y fun e w'=>Hid (rE y (r) e w'):=fun L lo y hO=>by
 have k:=uF (fA L D) D y hO.wat
 rw [h] at k;exact k
theorem Po {D:Wd} {r:Except Int Wd} (h:checked D (ig D)=r):∀ (L:Lay) (lo:Nat) (y:World),aT lo y D L→Calls Tryz.prog 46 #[.agg #[.slice (L (0,0,0)).a D.groups.length (L (0,0,0)).cap,.slice (L (1,0,0)).a D.nodes.length (L (1,0,0)).cap,.slice (L (2,0,0)).a D.wires.length (L (2,0,0)).cap]] y fun e w'=>Hid (pU y (r) e w'):=fun L lo y hO=>by
 have k:=mU (fA L D) D y hO.wat
 rw [h] at k;exact k
set_option maxHeartbeats 2000000 in
theorem BJ (D X Y Z:Wd) (Z1 Z2:Nd)
  (hb:Hid (∀ w:World,Calls Tryz.prog 83 #[.slice (some ⟨w.heap.size,0,none⟩) 2 2] (w.alloc (.cells #[.int .i64 1,.int .i64 0,.int .i64 0,.string ⟨#[97]⟩,.int .i64 1,.int .i64 2,.int .i64 1,.string ⟨#[98]⟩] 58)) fun e w'=>∃ L,e=.returned (aL L D)∧aT w.heap.size w' D L∧Since w w')) (f1:Hid (∀ (L:Lay) (lo:Nat) (y:World),aT lo y D L→Calls Tryz.prog 41 #[.agg #[.slice (L (0,0,0)).a D.groups.length (L (0,0,0)).cap,.slice (L (1,0,0)).a D.nodes.length (L (1,0,0)).cap,.slice (L (2,0,0)).a D.wires.length (L (2,0,0)).cap]] y fun e w'=>Hid (rE y (.ok (X,2)) e w'))) (f2:Hid (∀ (L:Lay) (lo:Nat) (y:World),aT lo y X L→Calls Tryz.prog 42 #[.agg #[.slice (L (0,0,0)).a X.groups.length (L (0,0,0)).cap,.slice (L (1,0,0)).a X.nodes.length (L (1,0,0)).cap,.slice (L (2,0,0)).a X.wires.length (L (2,0,0)).cap]] y fun e w'=>Hid (rE y (.ok (Y,4)) e w'))) (f3:Hid (∀ (L:Lay) (lo:Nat) (y:World),aT lo y D L→Calls Tryz.prog 46 #[.agg #[.slice (L (0,0,0)).a D.groups.length (L (0,0,0)).cap,.slice (L (1,0,0)).a D.nodes.length (L (1,0,0)).cap,.slice (L (2,0,0)).a D.wires.length (L (2,0,0)).cap]] y fun e w'=>Hid (pU y (.ok Z) e w')))
  (fy:Hid (Y.nodes.length=3)) (fz:Hid (Z.nodes.length=3∧Z.nodes[1]? = some Z1∧Z1.held.length=0∧Z1.told=[⟨0,0,1,false,⟨#[97]⟩⟩,⟨2,1,1,false,⟨#[98]⟩⟩]∧Z.nodes[2]? = some Z2∧Z2.told=[⟨2,1,1,false,⟨#[98]⟩⟩])) (w:World) :
  Calls Tryz.prog 45 #[] w fun e w'=>e=.returned (.bool true)∧Since w w':=by
 have hc:Since w w:=Since.refl w
 go_enter Tryz.func45,Tryz.ntmps45
 go_wp2_with (go_at_call 94;refine (Jo _ _ _ _ _).mono ?_;rintro e w' ⟨rfl,hS⟩;have hc:=hc.trans hS)
 refine (hb.out _).mono ?_
 rintro e wb ⟨L0,rfl,hO0,hSb⟩
 simp only [aL]
 obtain ⟨w1,hw1⟩:∃ y,wb.alloc (.cells #[.slice (L0 (0,0,0)).a D.groups.length (L0 (0,0,0)).cap,.slice (L0 (1,0,0)).a D.nodes.length (L0 (1,0,0)).cap,.slice (L0 (2,0,0)).a D.wires.length (L0 (2,0,0)).cap] 26)=y:=⟨_,rfl⟩
 have Hr:=av hw1
 have hB1:iL w1 wb.heap.size L0 D:=by rw [←hw1];constructor <;> simp [go_sem]
 have hO1:=hO0.since Hr
 have hc1:=hc.trans (hSb.trans Hr)
 have BF:Hid (∀ y,Since w1 y→iL y wb.heap.size L0 D):=fun y hy=>hB1.since hy
 clear hO0 hSb Hr hc
 obtain ⟨_,b0,b1,b2,_,_,_⟩:=hB1
 go_wp2_with fail
 refine (f1.out L0 _ w1 hO1).mono ?_
 rintro e wc hR
 obtain ⟨L1,rfl,hO2,hF⟩:=hR.out.2 _ _ rfl
 have hSc:=hF.none
 clear hR hF b0 b1 b2 hw1
 simp only [aL]
 obtain ⟨w2,hw2⟩:∃ y,wc.alloc (.cells #[.slice (L1 (0,0,0)).a X.groups.length (L1 (0,0,0)).cap,.slice (L1 (1,0,0)).a X.nodes.length (L1 (1,0,0)).cap,.slice (L1 (2,0,0)).a X.wires.length (L1 (2,0,0)).cap] 26)=y:=⟨_,rfl⟩
 have Pp:=av hw2
 have hB2:iL w2 wc.heap.size L1 X:=by rw [←hw2];constructor <;> simp [go_sem]
 have hO3:=hO2.since Pp
 have h12:=hSc.trans Pp
 obtain ⟨_,b0,b1,b2,_,_,_⟩:=hB2
 clear hO2 hSc Pp
 go_wp2_with fail
 refine (f2.out L1 _ w2 hO3).mono ?_
 rintro e wd hR
 obtain ⟨L2,rfl,hO4,hF⟩:=hR.out.2 _ _ rfl
 have hSd:=hF.none
 clear hR hF b0 b1 b2 hw2 hO3
 simp only [aL]
 obtain ⟨w3,hw3⟩:∃ y,wd.alloc (.cells #[.slice (L2 (0,0,0)).a Y.groups.length (L2 (0,0,0)).cap,.slice (L2 (1,0,0)).a Y.nodes.length (L2 (1,0,0)).cap,.slice (L2 (2,0,0)).a Y.wires.length (L2 (2,0,0)).cap] 26)=y:=⟨_,rfl⟩
 have QV:=av hw3
 have hB3:iL w3 wd.heap.size L2 Y:=by rw [←hw3];constructor <;> simp [go_sem]
 have h13:=h12.trans (hSd.trans QV)
 have YF:Hid (∀ y,Since w3 y→iL y wd.heap.size L2 Y):=fun y hy=>hB3.since hy
 obtain ⟨_,b0,b1,b2,_,_,_⟩:=BF.out _ h13
 clear hO4 hSd QV h12 hB3
 go_wp2_with fail
 refine (f3.out L0 _ w3 (hO1.since h13)).mono ?_
 rintro e we hR
 obtain ⟨L4,rfl,hO5,hSe⟩:=hR.out.2 _ rfl
 clear hR b0 b1 b2 hw3
 simp only [aL]
 obtain ⟨w4,hw4⟩:∃ y,we.alloc (.cells #[.slice (L4 (0,0,0)).a Z.groups.length (L4 (0,0,0)).cap,.slice (L4 (1,0,0)).a Z.nodes.length (L4 (1,0,0)).cap,.slice (L4 (2,0,0)).a Z.wires.length (L4 (2,0,0)).cap] 26)=y:=⟨_,rfl⟩
 have Pq:=av hw4
 have hB4:iL w4 we.heap.size L4 Z:=by rw [←hw4];constructor <;> simp [go_sem]
 have hO6:=hO5.since Pq
 have h34:=hSe.trans Pq
 have hc4:=hc1.trans (h13.trans h34)
 clear hO5 hSe Pq
 obtain ⟨g1,g2,g3,g4,g5,g6⟩:=fz.out
 obtain ⟨bn,on,cn,hL1,_,hbn,_,_⟩:=hO6.lies (ix:=(1,0,0)) ⟨rfl,rfl⟩ (by show 0 < Z.nodes.length;omega)
 obtain ⟨_,_,n2,n3,_⟩:=hO6.cells g2 hL1
 obtain ⟨_,_,_,m3,_⟩:=hO6.cells g5 hL1
 obtain ⟨ta,tc,e1,_,hT1⟩:=hO6.Jq g2
 obtain ⟨ua,uc,e2,_,hT2⟩:=hO6.Jq g5
 have q1:=hB4.c1
 have q0:=(YF.out _ h34).c1
 rw [hL1,g1] at q1
 rw [fy.out] at q0
 rw [g3] at n2
 rw [e1] at n3
 rw [e2] at m3
 rw [g4] at hT1 n3
 rw [g6] at hT2 m3
 dsimp only [Sl.v,List.length_cons,List.length_nil] at q1 q0 n2 n3 m3 hT1 hT2
 simp only [Nat.one_mul,Nat.zero_add,Nat.reduceMul,Nat.reduceAdd] at n2 n3 m3 hT1 hT2
 have hz4:=hB4.lt
 have hy4:wd.heap.size < w4.heap.size:=(YF.out _ h34).lt
 clear hL1 e1 e2 g1 g2 g3 g4 g5 g6 hB4
 go_wp2_with fail
 clear hw4
 obtain ⟨W0,hW0⟩:∃ y,w4.drew=y:=⟨_,rfl⟩
 have hs0:=bC hW0
 obtain ⟨S0,hS0⟩:∃ S0:World→Prop,∀ w',S0 w'↔Since w4 w':=⟨_,fun _=>Iff.rfl⟩
 have dA:=aR w
 have y0:∀ y:aj S0,y.w.cell? ⟨wd.heap.size,1,none⟩=some (.slice (L2 (1,0,0)).a 3 (L2 (1,0,0)).cap):=fun y=>(((hS0 _).1 y.h).cellAt hy4 _).trans q0
 have y1:∀ y:aj S0,y.w.cell? ⟨we.heap.size,1,none⟩=some (.slice (some ⟨bn,on,none⟩) 3 cn):=fun y=>(((hS0 _).1 y.h).cellAt hz4 _).trans q1
 have y2:∀ y:aj S0,y.w.cell? ⟨bn,on+4+2,none⟩=some (.slice (L4 (5,1,0)).a 0 (L4 (5,1,0)).cap):=fun y=>(((hS0 _).1 y.h).cellAt hbn _).trans n2
 have y3:∀ y:aj S0,y.w.cell? ⟨bn,on+4+3,none⟩=some (.slice ta 2 tc):=fun y=>(((hS0 _).1 y.h).cellAt hbn _).trans n3
 have y4:∀ y:aj S0,y.w.cell? ⟨bn,on+8+3,none⟩=some (.slice ua 1 uc):=fun y=>(((hS0 _).1 y.h).cellAt hbn _).trans m3
 have ak:=(hS0 W0).2 hs0
 have hne:Nonempty (aj S0):=⟨⟨_,ak⟩⟩
 clear q0 q1 n2 n3 m3
 refine aU (fun w'=>∃ x:aj S0,w'=x.w) (by kernel_rfl) ?_
 rw [hW0]
 clear hW0
 refine tW 0 rfl ?_
 go_big_quiet_op
 refine tW 1 rfl ?_
 go_big_quiet_op
 refine tW 2 rfl ?_
 go_big_quiet_op
 refine tW 3 rfl ?_
 go_big_quiet_op
 refine tW 4 rfl ?_
 go_big_quiet_op
 refine tW 5 rfl ?_
 go_big_quiet_op
 refine tW 6 rfl ?_
 go_big_quiet_op
 refine tW 7 rfl ?_
 go_big_quiet_op
 refine tW 8 rfl ?_
 go_big_quiet_op
 refine tW 9 rfl ?_
 go_big_quiet_op
 refine tW 10 rfl ?_
 go_big_quiet_op
 refine tW 11 rfl ?_
 go_big_quiet_op
 refine tW 12 rfl ?_
 go_big_quiet_op
 refine tW 13 rfl ?_
 go_big_quiet_op
 refine tW 14 rfl ?_
 go_big_quiet_op
 refine tW 15 rfl ?_
 go_big_quiet_op
 refine tW 16 rfl ?_
 go_big_quiet_op
 refine tW 17 rfl ?_
 go_big_quiet_op
 refine tW 18 rfl ?_
 go_big_quiet_op
 refine tW 19 rfl ?_
 go_big_quiet_op
 refine tM 20 rfl (ah ak) ?_
 go_big_quiet_op
 refine tM 21 rfl (ah ak) ?_
 go_big_quiet_op
 refine tW 22 rfl ?_
 go_big_quiet_op
 refine tW 23 rfl ?_
 go_big_quiet_op
 refine tW 24 rfl ?_
 go_big_quiet_op
 refine tW 25 rfl ?_
 go_big_quiet_op
 refine tM 26 rfl (ah ak) ?_
 go_big_quiet_op
 refine tM 27 rfl (ah ak) ?_
 go_big_quiet_op
 refine tW 28 rfl ?_
 go_big_quiet_op
 refine tW 29 rfl ?_
 go_big_quiet_op
 refine tW 30 rfl ?_
 go_big_quiet_op
 refine tW 31 rfl ?_
 go_big_quiet_op
 refine tM 32 rfl (ah ak) ?_
 go_big_quiet_op
 refine tW 33 rfl ?_
 go_big_quiet_op
 refine tW 34 rfl ?_
 go_big_quiet_op
 refine tM 35 rfl (ah ak) ?_
 go_big_quiet_op
 refine tM 36 rfl (ah ak) ?_
 go_big_quiet_op
 refine tW 37 rfl ?_
 go_big_quiet_op
 refine tW 38 rfl ?_
 go_big_quiet_op
 refine tW 39 rfl ?_
 go_big_quiet_op
 refine tW 40 rfl ?_
 go_big_quiet_op
 refine tM 41 rfl (ah ak) ?_
 go_big_quiet_op
 refine tW 42 rfl ?_
 go_big_quiet_op
 refine tW 43 rfl ?_
 go_big_quiet_op
 refine tM 44 rfl (ah ak) ?_
 go_big_quiet_op
 refine tM 45 rfl (ah ak) ?_
 go_big_quiet_op
 refine tW 46 rfl ?_
 go_big_quiet_op
 refine tW 47 rfl ?_
 go_big_quiet_op
 refine tW 48 rfl ?_
 go_big_quiet_op
 refine tW 49 rfl ?_
 go_big_quiet_op
 refine tM 50 rfl (ah ak) ?_
 go_big_quiet_op
 refine tW 51 rfl ?_
 go_big_quiet_op
 refine tW 52 rfl ?_
 go_big_quiet_op
 refine tM 53 rfl (ah ak) ?_
 go_big_quiet_op
 refine bF 54 rfl (by kernel_rfl) ?_
 intro K hK
 go_simp
 refine (oo 0 0 1 ⟨#[97]⟩ W0).mono ?_
 rintro e wA ⟨rfl,hSA⟩
 dsimp only
 have hA:=hs0.trans hSA
 have hsA:=(hS0 _).2 hA
 refine hK _ _ (fun _ _=>ah hsA) ?_
 clear hK K
 refine bF 55 rfl (by kernel_rfl) ?_
 intro K hK
 go_simp
 refine (oo 2 1 1 ⟨#[98]⟩ wA).mono ?_
 rintro e wB ⟨rfl,hSB⟩
 dsimp only
 have hB:=hA.trans hSB
 have hsB:=(hS0 _).2 hB
 refine hK _ _ (fun _ _=>ah hsB) ?_
 clear hK K
 refine bF 56 rfl (by kernel_rfl) ?_
 intro K hK
 go_simp
 have hJ1:=Cw (w:=wB) (m:=⟨0,0,1,false,⟨#[97]⟩⟩) (n:=⟨2,1,1,false,⟨#[98]⟩⟩)
 obtain ⟨wC,hwC⟩:∃ y,wB.alloc (.cells #[.int .i64 0,.int .i64 0,.int .i64 1,.bool false,.string ⟨#[97]⟩,.int .i64 2,.int .i64 1,.int .i64 1,.bool false,.string ⟨#[98]⟩] 42)=y:=⟨_,rfl⟩
 dsimp only at hJ1
 rw [hwC] at hJ1
 have hSC:=av hwC
 have hC:=hB.trans hSC
 have hsC:=(hS0 _).2 hC
 rw [hwC]
 clear hwC
 refine hK _ _ (fun _ _=>ah hsC) ?_
 clear hK K
 refine bF 57 rfl (by kernel_rfl) ?_
 intro K hK
 go_simp
 refine (jG ta 2 tc _ _ 2 2 _ wC (hT1.since hC) hJ1).mono ?_
 rw [jq]
 rintro e wD ⟨rfl,hSD⟩
 dsimp only
 have hD:=hC.trans hSD
 have hsD:=(hS0 _).2 hD
 refine hK _ _ (fun _ _=>ah hsD) ?_
 clear hK K
 refine tW 58 rfl ?_
 go_big_quiet_op
 refine tW 59 rfl ?_
 go_big_quiet_op
 refine tW 60 rfl ?_
 go_big_quiet_op
 refine tM 61 rfl (ah hsD) ?_
 go_big_quiet_op
 refine tW 62 rfl ?_
 go_big_quiet_op
 refine tW 63 rfl ?_
 go_big_quiet_op
 refine tM 64 rfl (ah hsD) ?_
 go_big_quiet_op
 refine bF 65 rfl (by kernel_rfl) ?_
 intro K hK
 go_simp
 refine (oo 2 1 1 ⟨#[98]⟩ wD).mono ?_
 rintro e wE ⟨rfl,hSE⟩
 dsimp only
 have hE:=hD.trans hSE
 have hsE:=(hS0 _).2 hE
 refine hK _ _ (fun _ _=>ah hsE) ?_
 clear hK K
 refine bF 66 rfl (by kernel_rfl) ?_
 intro K hK
 go_simp
 have hJ2:=Cv (w:=wE) (m:=⟨2,1,1,false,⟨#[98]⟩⟩)
 obtain ⟨wF,hwF⟩:∃ y,wE.alloc (.cells #[.int .i64 2,.int .i64 1,.int .i64 1,.bool false,.string ⟨#[98]⟩] 42)=y:=⟨_,rfl⟩
 dsimp only at hJ2
 rw [hwF] at hJ2
 have hSF:=av hwF
 have hF:=hE.trans hSF
 have hsF:=(hS0 _).2 hF
 rw [hwF]
 clear hwF
 refine hK _ _ (fun _ _=>ah hsF) ?_
 clear hK K
 refine bF 67 rfl (by kernel_rfl) ?_
 intro K hK
 go_simp
 refine (jG ua 1 uc _ _ 1 1 _ wF (hT2.since hF) hJ2).mono ?_
 rw [jq]
 rintro e wG ⟨rfl,hSG⟩
 dsimp only
 have hG:=hF.trans hSG
 have hsG:=(hS0 _).2 hG
 refine hK _ _ (fun h=>absurd h (by decide +kernel)) ?_
 clear hK K
 refine tW 68 rfl ?_
 go_big_quiet_op
 refine tW 69 rfl ?_
 go_big_quiet_op
 refine dG (by kernel_rfl) ?_
 clear y0 y1 y2 y3 y4 hne dA
 go_wp2
 go_ret
 refine ⟨?_,hc4.trans hG⟩
 rfl
theorem oV (w:World) :
  Calls Tryz.prog 45 #[] w fun e w'=>e=.returned (.bool true)∧Since w w' :=
 BJ kD kX kY kZ kZ1 kZ2 NZ (N7 TB) (N8 TD) (Po TF) TG TH w
end Go.Proofs.YtiiifecfdkjmbaaGreat
