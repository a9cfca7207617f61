/- Lemmas. Lemmas. -/
import Derived.Test.YtiiifecfdkjmbaaGreatTPureW
import Derived.Test.YtiiifecfdkjmbaaGreatTLDoX
namespace Go.Proofs.YtiiifecfdkjmbaaGreat.Pu
set_option maxRecDepth 8000
theorem zN {n:Nat} {l:List Int} (hc:bF n l=0) (acts:List Ac):(doneD n l acts).nodes.length=n/\(doneD n l acts).groups=l:=by
 have A:=(tC hc acts).2.2
 refine ⟨by rw [A.n];simp [bM],by rw [A.g];rfl⟩
theorem Gy {n:Nat} {l:List Int} (hc:bF n l=0) (acts:List Ac) (ha:acts.length<=80) {e:Int} (h:iY (doneD n l acts)=.error e):e=2:=by
 obtain ⟨I,hk,A⟩:=tC hc acts
 have hs:=(small I.right).2.2.2
 refine Jv I hk ?_ h
 rw [<-Int.natCast_mul]
 omega
end Go.Proofs.YtiiifecfdkjmbaaGreat.Pu
set_option maxHeartbeats 2000000
namespace Go.Proofs.YtiiifecfdkjmbaaGreat
open _root_.Go.Proofs.Tryz hiding checked
set_option maxRecDepth 8000
open Go.RowKit Go.Shelf
open Pu
set_option linter.unusedVariables false
set_option linter.unusedSimpArgs false
theorem wZ (nodes:Int) (a:Option Addr) (len cap:Nat) (l:List Int) (w:World) (hI:Ints w a len l):Calls prog 69 #[.int .i64 nodes,.slice a len cap] w fun e w'=>e=.returned (.int .i64 (bF nodes l))/\Since w w':=sQ w w nodes a len cap l hI (Since.refl w)
theorem Gu (nodes:Int) (a:Option Addr) (len cap:Nat) (l:List Int) (ac:Option Addr) (fM:Nat) (acts:List Ac) (w:World) (hI:Ints w a len l) (hA:mQ w ac acts.length acts) (hN:¬ bF nodes l=0) :
  Calls prog 48 #[.int .i64 nodes,.slice a len cap,.slice ac acts.length fM] w fun e w'=>e=.returned (.tuple #[.agg #[.slice none 0 0,.slice none 0 0,.slice none 0 0],.bool false])/\Since w w':=by
 obtain ⟨w1,hw1⟩:∃ w1,w.alloc (.cells #[.slice none 0 0,.slice none 0 0,.slice none 0 0] 26)=w1:=⟨_,rfl⟩
 have hNB:aL w1 w.heap.size:=by rw [<-hw1];exact aL.new w _
 have hS1:=ay hw1
 have hB:=oK nodes a len cap l w1 (hI.since hS1) hN
 obtain ⟨er,her⟩:∃ er,bF nodes l=er:=⟨_,rfl⟩
 rw [her] at hB hN
 have hE':(er != 0)=true:=by simpa using hN
 clear her hN
 go_enter func48,ntmps48
 go_wp2_with fail
 refine hB.mono ?_
 rintro e w2 hR2
 obtain ⟨rfl,hS2⟩:=hR2.out.1 er rfl
 obtain ⟨w3,hw3⟩:∃ y,w2.alloc (.cells #[.slice none 0 0,.slice none 0 0,.slice none 0 0] 26)=y:=⟨_,rfl⟩
 have wD:=ay hw3
 have hN3:aL w3 w2.heap.size:=by rw [<-hw3];exact aL.new w2 _
 obtain ⟨w4,hw4⟩:∃ y,((w3.setCell ⟨w2.heap.size,0,none⟩ (.slice none 0 0)).setCell ⟨w2.heap.size,1,none⟩ (.slice none 0 0)).setCell ⟨w2.heap.size,2,none⟩ (.slice none 0 0)=y:=⟨_,rfl⟩
 have hF4:Fr (fun i=>i=w2.heap.size) w3 w4:=by rw [<-hw4];exact gM w3 w2.heap.size _ _ _
 have hS4:Since w2 w4:=hF4.dz wD (fun i hi e=>by omega)
 obtain ⟨_,r0,r1,r2,r3,r4,r5⟩:=hN3
 obtain ⟨lt,q0,q1,q2,q3,q4,q5⟩:=hNB.since (hS2.trans hS4)
 go_wp2_with fail
 refine bodyPost_ret (v:=.tuple #[.agg #[.slice none 0 0,.slice none 0 0,.slice none 0 0],.bool false]) ?_ rfl ⟨rfl,dA (Nat.le_refl _) (hS1.trans (hS2.trans hS4))⟩
 simp [results,results48,go_sem,q0,q1,q2]
theorem Gv (nodes:Nat) (a:Option Addr) (cap:Nat) (l:List Int) (ac:Option Addr) (fM:Nat) (acts:List Ac) (w:World) (hI:Ints w a l.length l) (hA:mQ w ac acts.length acts) (hn:nodes<=4) (hl:l.length<=3) (hN:bF (nodes:Int) l=0) (hm:80 < acts.length) :
  Calls prog 48 #[.int .i64 nodes,.slice a l.length cap,.slice ac acts.length fM] w fun e w'=>e=.returned (.tuple #[.agg #[.slice none 0 0,.slice none 0 0,.slice none 0 0],.bool false])/\Since w w':=by
 obtain ⟨w1,hw1⟩:∃ w1,w.alloc (.cells #[.slice none 0 0,.slice none 0 0,.slice none 0 0] 26)=w1:=⟨_,rfl⟩
 have hNB:aL w1 w.heap.size:=by rw [<-hw1];exact aL.new w _
 have hS1:=ay hw1
 have hB:=j4 nodes hn l hl a cap w1 (hI.since hS1) hN
 have hGE:=fun (y:World) (hy:Since w1 y)=>wZ nodes a l.length cap l y ((hI.since hS1).since hy)
 rw [hN] at hGE
 have hm1:decide (80 < (acts.length:Int))=true:=by simp;omega
 have hm2:decide (80 < acts.length)=true:=by simp;omega
 clear hN hm
 go_enter func48,ntmps48
 go_wp2_with fail
 refine hB.mono ?_
 rintro e w2 hR2
 obtain ⟨⟨xga,xgl,xgc,xna,xnl,xnc,xwa,xwl,xwc⟩,rfl,hX2,hS2⟩:=sM hR2
 dsimp only
 obtain ⟨w3,hw3⟩:∃ y,w2.alloc (.cells #[.slice xga xgl xgc,.slice xna xnl xnc,.slice xwa xwl xwc] 26)=y:=⟨_,rfl⟩
 have hS3:=ay hw3
 go_wp2_with (go_at_call 69;refine (hGE w3 (hS2.trans hS3)).mono ?_;rintro e w4 ⟨rfl,hS4⟩;obtain ⟨lt,q0,q1,q2,q3,q4,q5⟩:=hNB.since (hS2.trans (hS3.trans hS4)))
 refine bodyPost_ret (v:=.tuple #[.agg #[.slice none 0 0,.slice none 0 0,.slice none 0 0],.bool false]) ?_ rfl ⟨rfl,dA (Nat.le_refl _) (hS1.trans (hS2.trans (hS3.trans hS4)))⟩
 simp [results,results48,go_sem,q0,q1,q2]
theorem KE (nodes:Nat) (a:Option Addr) (cap:Nat) (l:List Int) (ac:Option Addr) (fM:Nat) (acts:List Ac) (w:World) (hI:Ints w a l.length l) (hA:mQ w ac acts.length acts) (hn:nodes<=4) (hl:l.length<=3) (hN:bF (nodes:Int) l=0) (hm:acts.length<=80) :
  Calls prog 48 #[.int .i64 nodes,.slice a l.length cap,.slice ac acts.length fM] w fun e w'=>∃ v:WV,e=.returned (.tuple #[.agg #[.slice v.ga v.gl v.gc,.slice v.na v.nl v.nc,.slice v.wa v.wl v.wc],.bool true])/\WAt w' v (doneD nodes l acts)/\Since w w':=by
 have hmax:=hA.hmax
 have D7:Hid (Inv (doneD nodes l acts)/\(doneD nodes l acts).nodes.length=nodes):=⟨(tC hN acts).1,(zN hN acts).1⟩
 obtain ⟨w1,hw1⟩:∃ w1,w.alloc (.cells #[.slice none 0 0,.slice none 0 0,.slice none 0 0] 26)=w1:=⟨_,rfl⟩
 have hNB:aL w1 w.heap.size:=by rw [<-hw1];exact aL.new w _
 have hS1:=ay hw1
 have hI1:=hI.since hS1
 have hA1:=hA.since hS1
 have hB:=j4 nodes hn l hl a cap w1 hI1 hN
 have hGE:=fun (y:World) (hy:Since w1 y)=>wZ nodes a l.length cap l y (hI1.since hy)
 rw [hN] at hGE
 have hm1:decide (80 < (acts.length:Int))=false:=by simp;omega
 have hm2:decide (80 < acts.length)=false:=by simp;omega
 clear hN
 go_enter func48,ntmps48
 go_wp2_with fail
 refine hB.mono ?_
 rintro e w2 hR2
 obtain ⟨L,rfl,hO2,gJ⟩:=hR2.out.2 (bM nodes l) rfl
 simp only [bW]
 obtain ⟨w3,hw3⟩:∃ y,w2.alloc (.cells #[.slice (L (0,0,0)).a (bM nodes l).groups.length (L (0,0,0)).cap,.slice (L (1,0,0)).a (bM nodes l).nodes.length (L (1,0,0)).cap,.slice (L (2,0,0)).a (bM nodes l).wires.length (L (2,0,0)).cap] 26)=y:=⟨_,rfl⟩
 have BZ:=ay hw3
 have hM3:dN w1.heap.size w3 w2.heap.size (bM nodes l) L:=by
  refine ⟨hO2.since BZ, ?_,fun hb=>?_⟩
  ·rw [<-hw3];constructor <;> simp [go_sem]
  ·have:=(hO2.blk hb).2;omega
 have nI:=gJ.trans BZ
 have hge:w1.heap.size<=w2.heap.size:=gJ.size
 clear hw1 hO2 hB hR2
 go_wp2_with (go_at_call 69;refine (hGE w3 nI).mono ?_;rintro e w4 ⟨rfl,ql⟩)
 have hM4:=hM3.since ql
 have Gw:=nI.trans ql
 clear hM3 hGE hm1 hm2 hw3
 go_loopw [10] (fun i wr=>∃ (k:Nat) (Lk:Lay),k<=acts.length/\i=.int .i64 k/\dN w1.heap.size wr w2.heap.size (doneD nodes l (acts.take k)) Lk/\Since w1 wr) (fun i _=>acts.length - (intOf i).toNat)
 case atStart=>exact ⟨0,L,Nat.zero_le _,rfl,by simpa [doneD] using hM4,Gw⟩
 case round =>
  obtain ⟨wo,rfl⟩:∃ wo,wo=wr:=⟨_,rfl⟩
  obtain ⟨k,Lk,hk,rfl,hM,hSr⟩:=hrel
  by_cases hlt:k < acts.length
  ·obtain ⟨x,hx⟩:∃ x,acts[k]? = some x:=⟨_,zQ1 hlt⟩
   obtain ⟨dk,hdk⟩:∃ y,doneD nodes l (acts.take k)=y:=⟨_,rfl⟩
   have hnext:doneD nodes l (acts.take (k+1))=jJ dk x:=by
    rw [<-hdk,List.take_add_one,hx];unfold doneD;rw [List.foldl_append];rfl
   rw [hdk] at hM
   have HNX:=(show Hid _ from hnext)
   obtain ⟨bA,oA,rfl,hbA,hcA⟩:=hA1.cells (by omega)
   obtain ⟨e0,e1,e2,e3⟩:=hcA k x hx
   have hWk:=hM.own.wat
   have n1:(k:Int) < (acts.length:Int):=by omega
   obtain ⟨W0,hW0⟩:∃ y,wo.drew=y:=⟨_,rfl⟩
   have hs0:=aO hW0
   obtain ⟨S0,hS0⟩:∃ S0:World->Prop,∀ w',S0 w'↔Since wo w':=⟨_,fun _=>Iff.rfl⟩
   have c0:∀ y:aj S0,y.w.cell? ⟨w2.heap.size,0,none⟩=some (.slice (Lk (0,0,0)).a dk.groups.length (Lk (0,0,0)).cap):=fun y=>(hM.since ((hS0 _).1 y.h)).box.c0
   have c1:∀ y:aj S0,y.w.cell? ⟨w2.heap.size,1,none⟩=some (.slice (Lk (1,0,0)).a dk.nodes.length (Lk (1,0,0)).cap):=fun y=>(hM.since ((hS0 _).1 y.h)).box.c1
   have c2:∀ y:aj S0,y.w.cell? ⟨w2.heap.size,2,none⟩=some (.slice (Lk (2,0,0)).a dk.wires.length (Lk (2,0,0)).cap):=fun y=>(hM.since ((hS0 _).1 y.h)).box.c2
   have c3:∀ y:aj S0,y.w.cell? ⟨bA,oA+k*4,none⟩=some (.int .i64 x.kind):=fun y=>((hSr.trans ((hS0 _).1 y.h)).cellAt hbA _).trans e0
   have c4:∀ y:aj S0,y.w.cell? ⟨bA,oA+k*4+1,none⟩=some (.int .i64 x.one):=fun y=>((hSr.trans ((hS0 _).1 y.h)).cellAt hbA _).trans e1
   have c5:∀ y:aj S0,y.w.cell? ⟨bA,oA+k*4+2,none⟩=some (.int .i64 x.two):=fun y=>((hSr.trans ((hS0 _).1 y.h)).cellAt hbA _).trans e2
   have c6:∀ y:aj S0,y.w.cell? ⟨bA,oA+k*4+3,none⟩=some (.string x.body):=fun y=>((hSr.trans ((hS0 _).1 y.h)).cellAt hbA _).trans e3
   have ak:=(hS0 W0).2 hs0
   have hne:Nonempty (aj S0):=⟨⟨_,ak⟩⟩
   obtain ⟨WA,hWA⟩:∃ y,W0.alloc (.cells #[.slice none 0 0,.slice none 0 0,.slice none 0 0] 26)=y:=⟨_,rfl⟩
   have hsA:=ay hWA
   have hNA:aL WA W0.heap.size:=by rw [<-hWA];exact aL.new W0 _
   have Cv:=(hS0 WA).2 (hs0.trans hsA)
   have uH:=pU (gK Lk dk) dk x W0 (hWk.since hs0)
   have uI:=pU (gK Lk dk) dk x WA (hWk.since (hs0.trans hsA))
   unfold gK acV at uH uI
   dsimp only at uH uI
   obtain ⟨r,hr⟩:∃ r,doD dk x=r:=⟨_,rfl⟩
   rw [hr] at uH uI
   clear hnext hdk hcA e0 e1 e2 e3 hx
   go_wp2_with fail
   refine MP (fun w'=>∃ x:aj S0,w'=x.w) (by kernel_rfl) ?_
   rw [hW0]
   clear hW0
   refine tL 0 rfl (ah ak) ?_;go_big_quiet_op
   refine tL 1 rfl (ah ak) ?_;go_big_quiet_op
   refine tL 2 rfl (ah ak) ?_;go_big_quiet_op
   refine tL 3 rfl (ah ak) ?_;go_big_quiet_op
   refine tL 4 rfl (ah ak) ?_;go_big_quiet_op
   cases r with
   | error er =>
    have her:(er == 0)=false:=by simpa using ES hr
    have HN:Hid (doneD nodes l (acts.take (k+1))=dk):=by unfold Hid;rw [HNX.out];unfold jJ;rw [hr]
    clear hr
    refine LH 5 9 rfl rfl (by kernel_rfl) ?_ ?_
    ·intro K hK
     go_simp
     refine uH.mono ?_
     rintro e wC hR3
     obtain ⟨rfl,hS3⟩:=hR3.out.1 er rfl
     dsimp only
     have hsC:=hs0.trans hS3
     have nO:=(hS0 wC).2 hsC
     refine hK _ _ (fun _ _=>ah nO) ?_
     clear hK K
     refine tL 6 rfl (ah nO) ?_;go_big_quiet_op
     refine tL 7 rfl (ah nO) ?_;go_big_quiet_op
     refine tL 8 rfl (ah nO) ?_;go_big_quiet_op
     refine Cw 9 rfl (by kernel_rfl) ?_
     intro K hK
     go_simp
     refine hK _ _ (fun _ _=>ah ((hS0 _).2 (hsC.alloc _))) ?_
     clear hK K
     refine Cw 10 rfl (by kernel_rfl) ?_
     intro K hK
     go_simp
     have hsF:Since wo (wC.alloc (.cells #[.slice none 0 0,.slice none 0 0,.slice none 0 0] 26)):=hsC.alloc _
     refine hK _ _ (fun _ _=>ah ((hS0 _).2 hsF)) ?_
     clear hK K
     refine tL 11 rfl (ah ((hS0 _).2 hsF)) ?_
     go_big_quiet_op
     refine Fh (by kernel_rfl) ?_
     clear c0 c1 c2 c3 c4 c5 c6 hne
     go_wp2
     exact ⟨⟨k+1,Lk,by omega,by go_num,by rw [HN.out];exact hM.since hsF,hSr.trans hsF⟩,by simp [intOf];omega⟩
    ·intro K hK
     go_simp
     refine hK _ _ (fun _ _=>ah Cv) ?_
     clear hK K
     refine Cw 5 rfl (by kernel_rfl) ?_
     intro K hK
     go_simp
     refine uI.mono ?_
     rintro e wC hR3
     obtain ⟨rfl,hS3⟩:=hR3.out.1 er rfl
     dsimp only
     have hsC:=(hs0.trans hsA).trans hS3
     have nO:=(hS0 wC).2 hsC
     refine hK _ _ (fun _ _=>ah nO) ?_
     clear hK K
     refine tL 6 rfl (ah nO) ?_;go_big_quiet_op
     refine tL 7 rfl (ah nO) ?_;go_big_quiet_op
     refine tL 8 rfl (ah nO) ?_;go_big_quiet_op
     obtain ⟨lt,r0,r1,r2,r3,r4,r5⟩:=hNA.since hS3
     refine Cw 10 rfl (by kernel_rfl) ?_
     intro K hK
     go_simp
     have hsF:=dA (w:=wo) (p:=W0.heap.size) hs0.size hsC
     refine hK _ _ (fun _ _=>ah ((hS0 _).2 hsF)) ?_
     clear hK K
     refine tL 11 rfl (ah ((hS0 _).2 hsF)) ?_
     go_big_quiet_op
     refine Fh (by kernel_rfl) ?_
     clear c0 c1 c2 c3 c4 c5 c6 hne
     go_wp2
     exact ⟨⟨k+1,Lk,by omega,by go_num,by rw [HN.out];exact hM.since hsF,hSr.trans hsF⟩,by simp [intOf];omega⟩
   | ok d' =>
    have HN:Hid (doneD nodes l (acts.take (k+1))=d'):=by unfold Hid;rw [HNX.out];unfold jJ;rw [hr]
    clear hr
    have hpw:w2.heap.size < W0.heap.size:=zQ4 hM.box.lt hs0.size
    have hlo:w1.heap.size<=W0.heap.size:=zQ5 hSr.size hs0.size
    refine LH 5 9 rfl rfl (by kernel_rfl) ?_ ?_
    ·intro K hK
     go_simp
     refine uH.mono ?_
     rintro e wC hR3
     obtain ⟨L',rfl,hO,hS3⟩:=hR3.out.2 d' rfl
     simp only [bW]
     have hsC:=hs0.trans hS3
     have nO:=(hS0 wC).2 hsC
     refine hK _ _ (fun _ _=>ah nO) ?_
     clear hK K
     refine tL 6 rfl (ah nO) ?_;go_big_quiet_op
     refine tL 7 rfl (ah nO) ?_;go_big_quiet_op
     refine tL 8 rfl (ah nO) ?_;go_big_quiet_op
     refine Cw 9 rfl (by kernel_rfl) ?_
     intro K hK
     go_simp
     refine hK _ _ (fun _ _=>ah ((hS0 _).2 (hsC.alloc _))) ?_
     clear hK K
     obtain ⟨WF,hWF⟩:∃ y,wC.alloc (.cells #[.slice (L' (0,0,0)).a d'.groups.length (L' (0,0,0)).cap,.slice (L' (1,0,0)).a d'.nodes.length (L' (1,0,0)).cap,.slice (L' (2,0,0)).a d'.wires.length (L' (2,0,0)).cap] 26)=y:=⟨_,rfl⟩
     have F5:=ay hWF
     have q0:WF.cell? ⟨wC.heap.size,0,none⟩=some (.slice (L' (0,0,0)).a d'.groups.length (L' (0,0,0)).cap):=by rw [<-hWF];simp [go_sem]
     have q1:WF.cell? ⟨wC.heap.size,1,none⟩=some (.slice (L' (1,0,0)).a d'.nodes.length (L' (1,0,0)).cap):=by rw [<-hWF];simp [go_sem]
     have q2:WF.cell? ⟨wC.heap.size,2,none⟩=some (.slice (L' (2,0,0)).a d'.wires.length (L' (2,0,0)).cap):=by rw [<-hWF];simp [go_sem]
     have hsF:=hsC.trans F5
     refine Cw 10 rfl (by kernel_rfl) ?_
     intro K hK
     go_simp
     refine hK _ _ (fun _ _=>ah ((hS0 _).2 hsF)) ?_
     clear hK K
     refine tL 11 rfl (ah ((hS0 _).2 hsF)) ?_
     go_big_quiet_op
     refine Fh (by kernel_rfl) ?_
     have hMF:=hM.since hsF
     obtain ⟨bl,b0,b1,b2,z0,z1,z2⟩:=hMF.box
     have MQ:=LJ (lo:=w1.heap.size) (hO.since F5) hMF.box hlo hpw
     have hSg:Since w1 (((WF.setCell ⟨w2.heap.size,0,none⟩ (.slice (L' (0,0,0)).a d'.groups.length (L' (0,0,0)).cap)).setCell ⟨w2.heap.size,1,none⟩ (.slice (L' (1,0,0)).a d'.nodes.length (L' (1,0,0)).cap)).setCell ⟨w2.heap.size,2,none⟩ (.slice (L' (2,0,0)).a d'.wires.length (L' (2,0,0)).cap)):=by
      have hF:Fr (fun i=>i=w2.heap.size) WF WF:=Fr.refl _ _
      exact (((hF.setCell ⟨w2.heap.size,0,none⟩ _ (fun _=>rfl)).setCell ⟨w2.heap.size,1,none⟩ _ (fun _=>rfl)).setCell ⟨w2.heap.size,2,none⟩ _ (fun _=>rfl)).dz (hSr.trans hsF) (fun i hi e=>by omega)
     clear c0 c1 c2 c3 c4 c5 c6 hne hWF
     go_wp2
     exact ⟨⟨k+1,L',by omega,by go_num,by rw [HN.out];exact MQ,hSg⟩,by simp [intOf];omega⟩
    ·intro K hK
     go_simp
     refine hK _ _ (fun _ _=>ah Cv) ?_
     clear hK K
     refine Cw 5 rfl (by kernel_rfl) ?_
     intro K hK
     go_simp
     refine uI.mono ?_
     rintro e wC hR3
     obtain ⟨L',rfl,hO,hS3⟩:=hR3.out.2 d' rfl
     simp only [bW]
     have hsC:=(hs0.trans hsA).trans hS3
     have nO:=(hS0 wC).2 hsC
     refine hK _ _ (fun _ _=>ah nO) ?_
     clear hK K
     refine tL 6 rfl (ah nO) ?_;go_big_quiet_op
     refine tL 7 rfl (ah nO) ?_;go_big_quiet_op
     refine tL 8 rfl (ah nO) ?_;go_big_quiet_op
     have hNC:=hNA.since hS3
     obtain ⟨hOF,F6⟩:=hO.result (w0:=W0) (p:=W0.heap.size) hNA.lt (Nat.le_refl _) (hsA.trans hS3) hsA.size
     have hbx:=EW (d:=d') (L:=L') hNC
     obtain ⟨lt,r0,r1,r2,r3,r4,r5⟩:=hNC
     obtain ⟨WF,hWF⟩:∃ y,((wC.setCell ⟨W0.heap.size,0,none⟩ (.slice (L' (0,0,0)).a d'.groups.length (L' (0,0,0)).cap)).setCell ⟨W0.heap.size,1,none⟩ (.slice (L' (1,0,0)).a d'.nodes.length (L' (1,0,0)).cap)).setCell ⟨W0.heap.size,2,none⟩ (.slice (L' (2,0,0)).a d'.wires.length (L' (2,0,0)).cap)=y:=⟨_,rfl⟩
     rw [hWF] at hOF F6 hbx
     obtain ⟨_,q0,q1,q2,_,_,_⟩:=hbx
     have hsF:=hs0.trans F6
     refine Cw 10 rfl (by kernel_rfl) ?_
     intro K hK
     go_simp
     refine hK _ _ (fun _ _=>ah ((hS0 _).2 hsF)) ?_
     clear hK K
     refine tL 11 rfl (ah ((hS0 _).2 hsF)) ?_
     go_big_quiet_op
     refine Fh (by kernel_rfl) ?_
     have hMF:=hM.since hsF
     obtain ⟨bl,b0,b1,b2,z0,z1,z2⟩:=hMF.box
     have MQ:=LJ (lo:=w1.heap.size) hOF hMF.box hlo hpw
     have hSg:Since w1 (((WF.setCell ⟨w2.heap.size,0,none⟩ (.slice (L' (0,0,0)).a d'.groups.length (L' (0,0,0)).cap)).setCell ⟨w2.heap.size,1,none⟩ (.slice (L' (1,0,0)).a d'.nodes.length (L' (1,0,0)).cap)).setCell ⟨w2.heap.size,2,none⟩ (.slice (L' (2,0,0)).a d'.wires.length (L' (2,0,0)).cap)):=by
      have hF:Fr (fun i=>i=w2.heap.size) WF WF:=Fr.refl _ _
      exact (((hF.setCell ⟨w2.heap.size,0,none⟩ _ (fun _=>rfl)).setCell ⟨w2.heap.size,1,none⟩ _ (fun _=>rfl)).setCell ⟨w2.heap.size,2,none⟩ _ (fun _=>rfl)).dz (hSr.trans hsF) (fun i hi e=>by omega)
     clear c0 c1 c2 c3 c4 c5 c6 hne hWF
     go_wp2
     exact ⟨⟨k+1,L',by omega,by go_num,by rw [HN.out];exact MQ,hSg⟩,by simp [intOf];omega⟩
  ·obtain rfl:k=acts.length:=by omega
   rw [List.take_length] at hM
   obtain ⟨dk,hdk⟩:∃ y,doneD nodes l acts=y:=⟨_,rfl⟩
   rw [hdk] at hM D7
   have HDK:Hid (doneD nodes l acts=dk):=hdk
   clear hdk
   obtain ⟨lt,r0,r1,r2,r3,r4,r5⟩:=hNB.since hSr
   have hE0:aM dk=0:=(cu dk).2 D7.out.1.right
   have hlen:(dk.nodes.length:Int)=(nodes:Int):=by have:=D7.out.2;omega
   have hbq:((dk.nodes.length:Int) == (nodes:Int))=true:=by rw [beq_iff_eq];exact hlen
   have HLN:Hid ((dk.nodes.length:Int)=(nodes:Int)):=hlen
   obtain ⟨S0,hS0⟩:∃ S0:World->Prop,∀ w',S0 w'↔(w'.cell? ⟨w2.heap.size,0,none⟩=some (.slice (Lk (0,0,0)).a dk.groups.length (Lk (0,0,0)).cap)/\w'.cell? ⟨w2.heap.size,1,none⟩=some (.slice (Lk (1,0,0)).a dk.nodes.length (Lk (1,0,0)).cap)/\w'.cell? ⟨w2.heap.size,2,none⟩=some (.slice (Lk (2,0,0)).a dk.wires.length (Lk (2,0,0)).cap)):=⟨_,fun _=>Iff.rfl⟩
   have KS:Hid (∀ y,Since wo y->S0 y):=fun y hy=>(hS0 y).2 ⟨(hM.since hy).box.c0,(hM.since hy).box.c1,(hM.since hy).box.c2⟩
   have c0:∀ y:aj S0,y.w.cell? ⟨w2.heap.size,0,none⟩=some (.slice (Lk (0,0,0)).a dk.groups.length (Lk (0,0,0)).cap):=fun y=>((hS0 _).1 y.h).1
   have c1:∀ y:aj S0,y.w.cell? ⟨w2.heap.size,1,none⟩=some (.slice (Lk (1,0,0)).a dk.nodes.length (Lk (1,0,0)).cap):=fun y=>((hS0 _).1 y.h).2.1
   have c2:∀ y:aj S0,y.w.cell? ⟨w2.heap.size,2,none⟩=some (.slice (Lk (2,0,0)).a dk.wires.length (Lk (2,0,0)).cap):=fun y=>((hS0 _).1 y.h).2.2
   have Kr:¬ w2.heap.size=w.heap.size:=by have:=hNB.lt;omega
   obtain ⟨W0,hW0⟩:∃ y,wo.drew=y:=⟨_,rfl⟩
   have hs0:=aO hW0
   have ak:=KS.out W0 hs0
   have hne:Nonempty (aj S0):=⟨⟨_,ak⟩⟩
   have bS:=aH w
   have hWE:=xg (gK Lk dk) dk W0 (hM.own.wat.since hs0)
   rw [hE0] at hWE
   unfold gK at hWE
   dsimp only at hWE
   clear hlen hE0
   go_wp2_with fail
   refine aI (fun w'=>∃ x:aj S0,w'=x.w) (by kernel_rfl) ?_
   rw [hW0]
   clear hW0
   refine tM 0 rfl (ah ak) ?_;go_big_quiet_op
   refine tM 1 rfl (ah ak) ?_;go_big_quiet_op
   refine aK 2 rfl (by kernel_rfl) ?_
   intro K hK
   go_simp
   refine hWE.mono ?_
   rintro e W1 ⟨rfl,hs1⟩
   have AJ:=hs0.trans hs1
   have oo:=KS.out W1 AJ
   refine hK _ _ (fun _ _=>ah oo) ?_
   clear hK K
   refine tW 3 rfl ?_;go_big_quiet_op
   refine tW 4 rfl ?_;go_big_quiet_op
   refine tW 5 rfl ?_;go_big_quiet_op
   refine tM 6 rfl (ah oo) ?_;go_big_quiet_op
   refine tM 7 rfl (ah oo) ?_;go_big_quiet_op
   refine tW 8 rfl ?_;go_big_quiet_op
   refine tW 9 rfl ?_;go_big_quiet_op
   refine tW 10 rfl ?_;go_big_quiet_op
   refine aK 11 rfl (by kernel_rfl) ?_
   intro K hK
   obtain ⟨lt1,t0,t1,t2,t3,t4,t5⟩:=hNB.since (hSr.trans AJ)
   go_simp
   have hbF:=(hM.box.since AJ).fr (gM W1 w.heap.size (.slice (Lk (0,0,0)).a dk.groups.length (Lk (0,0,0)).cap) (.slice (Lk (1,0,0)).a dk.nodes.length (Lk (1,0,0)).cap) (.slice (Lk (2,0,0)).a dk.wires.length (Lk (2,0,0)).cap)) Kr
   have Qu:=(hS0 _).2 ⟨hbF.c0,hbF.c1,hbF.c2⟩
   refine hK _ _ (fun _ _=>ah Qu) ?_
   clear hK K
   refine tW 12 rfl ?_;go_big_quiet_op
   refine aW (by kernel_rfl) ?_
   have hO1:=hM.own.since AJ
   obtain ⟨hO,hSf⟩:=hO1.result (w0:=w) (p:=w.heap.size) hNB.lt (Nat.le_refl _) (hS1.trans (hSr.trans AJ)) hS1.size
   clear c0 c1 c2 hne bS
   go_wp2_with fail
   refine bodyPost_ret (v:=.tuple #[bW Lk dk,.bool true]) ?_ rfl ⟨gK Lk dk,rfl,by rw [HDK.out];exact hO.wat,hSf⟩
   obtain ⟨lt1,t0,t1,t2,t3,t4,t5⟩:=hNB.since (hSr.trans AJ)
   simp [results,results48,go_sem,t0,t1,t2,bW]
theorem KG (nodes:Int) (a:Option Addr) (len cap:Nat) (l:List Int) (ac:Option Addr) (El fM:Nat) (acts:List Ac) (w:World) (hI:Ints w a len l) (hA:mQ w ac El acts) (hN:¬ bF nodes l=0\/80 < El) :
  Calls prog 48 #[.int .i64 nodes,.slice a len cap,.slice ac El fM] w fun e w'=>e=.returned (.tuple #[.agg #[.slice none 0 0,.slice none 0 0,.slice none 0 0],.bool false])/\Since w w':=by
 have ha:=hA.hlen
 subst ha
 by_cases hE:bF nodes l=0
 ·obtain ⟨h1,h2,h3,h4⟩:=jv hE
  obtain ⟨k,rfl⟩:∃ k:Nat,nodes=(k:Int):=⟨nodes.toNat,by omega⟩
  have hl:=hI.hlen
  subst hl
  exact Gv k a cap l ac fM acts w hI hA (by omega) h4 hE (by rcases hN with h | h;exact absurd hE h;exact h)
 ·exact Gu nodes a len cap l ac fM acts w hI hA hE
end Go.Proofs.YtiiifecfdkjmbaaGreat
