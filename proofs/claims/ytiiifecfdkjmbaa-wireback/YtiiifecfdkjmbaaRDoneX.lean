/- Lemmas. -/
import Derived.Test.YtiiifecfdkjmbaaRMoveX
import Derived.Test.YtiiifecfdkjmbaaRBegin
set_option maxHeartbeats 2000000
namespace Go.Proofs.Ytiiifecfdkjmbaa
open _root_.Go.Proofs.Try hiding checked
set_option maxRecDepth 8000
open Go.RowKit Go.Shelf
open Pu
set_option linter.unusedVariables false
set_option linter.unusedSimpArgs false
structure Iw (w:World) (b o:Nat) (x:Ac):Prop where
 c0:w.cell? ⟨b,o,none⟩=some (.int .i64 x.kind)
 c1:w.cell? ⟨b,o+1,none⟩=some (.int .i64 x.one)
 c2:w.cell? ⟨b,o+2,none⟩=some (.int .i64 x.two)
 c3:w.cell? ⟨b,o+3,none⟩=some (.string x.body)
structure Ai (w:World) (a:Option Addr) (len:Nat) (xs:List Ac):Prop where
 hlen:xs.length=len
 hmax:len<=3518437208780
 cells:0 < len->∃ b off,a=some ⟨b,off,none⟩/\b < w.heap.size/\∀ (i:Nat) (x:Ac),xs[i]? = some x->Iw w b (off+i*4) x
theorem Ai.since {w W:World} {a:Option Addr} {len:Nat} {xs:List Ac} (h:Ai w a len xs) (k:Since w W):Ai W a len xs :=
 ⟨h.hlen,h.hmax,fun hp=>by
  obtain ⟨b,off,e,hb,hc⟩:=h.cells hp
  exact ⟨b,off,e,zQ4 hb k.size,fun i x hx=>let g:=hc i x hx;⟨(k.cellAt hb _).trans g.c0,(k.cellAt hb _).trans g.c1,(k.cellAt hb _).trans g.c2,(k.cellAt hb _).trans g.c3⟩⟩⟩
theorem wI {m:Mg} {n:Nat} {d:Wd} {e:Int}:∀ i:Nat,jg m n d i=.error e->e≠0
 | 0,h=>by cases h
 | i+1,h=>by
  rw [fA] at h
  rcases nL h with h | ⟨d1,_,h2⟩
  ·exact wI i h
  ·unfold dX at h2
   split at h2
   ·cases h2
   ·split at h2
    ·cases h2;simp
    ·split at h2
     ·cases h2;simp
     ·cases h2
theorem BP {d:Wd} {n:Nat} {e:Int} (h:jQ d n=.error e):e≠0:=by
 unfold jQ at h
 split at h
 ·cases h;simp
 ·split at h
  ·cases h;simp
  ·split at h
   ·cases h;simp
   ·cases h
theorem Aj {d:Wd} {n:Nat} {m:Mg} {e:Int} (h:eZ d n m=.error e):e≠0:=by
 unfold eZ at h
 split at h
 ·cases h
 ·unfold sI at h
  split at h
  ·cases h;simp
  ·split at h
   ·cases h
   ·rename_i hz;cases h;exact hz
theorem wJ {d:Wd} {n:Nat} {m:Mg} {e:Int} (h:((eZ d n m).bind fun d3=>(jQ d3 n).bind fun p=>.ok p.1)=.error e):e≠0:=by
 rcases nL h with h | ⟨d3,_,h⟩
 ·exact Aj h
 ·rcases nL h with h | ⟨p,_,h⟩
  ·exact BP h
  ·cases h
theorem wK {d:Wd} {n g:Int} {nul:Bool} {body:ByteArray} {e:Int} (h:gU d n g nul body=.error e):e≠0:=by
 unfold gU at h
 split at h
 ·rcases nL h with h | ⟨d2,_,h⟩
  ·exact wI _ h
  ·exact wJ h
 ·rename_i hz;cases h;exact hz
theorem BQ {d:Wd} {f t:Nat} {e:Int} (h:iQ d f t=.error e):e≠0:=by
 unfold iQ at h
 split at h
 ·cases h;simp
 ·exact wJ h
theorem Ey {d:Wd} {a:Ac} (h4:a.kind≠4) {e:Int} (h:doD d a=.error e):e≠0:=by
 unfold doD checked kK at h
 split at h
 ·split at h
  ·exact wK h
  ·rename_i hz;cases h;exact hz
 ·split at h
  ·split at h
   ·exact wK h
   ·rename_i hz;cases h;exact hz
  ·split at h
   ·split at h
    ·split at h
     ·exact BQ h
     ·cases h;simp
    ·rename_i hz;cases h;exact hz
   ·cases h;simp
theorem DL {lo lo':Nat} {w:World} {p:Nat} {d d':Wd} {L L':Lay} (hO:aP lo' w d' L') (hB:jD w p L d) (hl:lo<=lo') (hp:p < lo') :
  bD lo (((w.setCell ⟨p,0,none⟩ (.slice (L' (0,0,0)).a d'.groups.length (L' (0,0,0)).cap)).setCell ⟨p,1,none⟩ (.slice (L' (1,0,0)).a d'.nodes.length (L' (1,0,0)).cap)).setCell ⟨p,2,none⟩ (.slice (L' (2,0,0)).a d'.wires.length (L' (2,0,0)).cap)) p d' L':=by
 have hoff:¬ gJ d' L' p:=fun hb=>by have:=(hO.blk hb).1;omega
 refine ⟨(((hO.jE (p:=⟨p,0,none⟩) hoff _).jE (p:=⟨p,1,none⟩) hoff _).jE (p:=⟨p,2,none⟩) hoff _).mono hl, ?_,hoff⟩
 have h0:=hB.c0
 have h1:=hB.c1
 have h2:=hB.c2
 have z0:=hB.z0
 have z1:=hB.z1
 have z2:=hB.z2
 have lt:=hB.lt
 constructor <;> simp [go_sem,h0,h1,h2,z0,z1,z2,lt]
theorem C9 {w:World} {p:Nat} {d:Wd} {L:Lay} (h:bQ w p) :
  jD (((w.setCell ⟨p,0,none⟩ (.slice (L (0,0,0)).a d.groups.length (L (0,0,0)).cap)).setCell ⟨p,1,none⟩ (.slice (L (1,0,0)).a d.nodes.length (L (1,0,0)).cap)).setCell ⟨p,2,none⟩ (.slice (L (2,0,0)).a d.wires.length (L (2,0,0)).cap)) p L d:=by
 obtain ⟨lt,r0,r1,r2,r3,r4,r5⟩:=h
 constructor <;> simp [go_sem,lt,r0,r1,r2,r3,r4,r5]
theorem rP (nodes:Nat) (hn:nodes<=4) (l:List Int) (hl:l.length<=3) (a:Option Addr) (cap:Nat) (ac:Option Addr) (Da:Nat) (acts:List Ac) (h4:∀ x∈acts,x.kind≠4) (w:World) (hI:Ints w a l.length l) (hA:Ai w ac acts.length acts) :
  Calls prog 75 #[.int .i64 nodes,.slice a l.length cap,.slice ac acts.length Da] w fun e w'=>∃ L,e=.returned (bS L (doneD nodes l acts))/\aP w.heap.size w' (doneD nodes l acts) L/\Since w w':=by
 have hmax:=hA.hmax
 obtain ⟨w1,hw1⟩:∃ w1,w.alloc (.cells #[.slice none 0 0,.slice none 0 0,.slice none 0 0] 26)=w1:=⟨_,rfl⟩
 have hNB:bQ w1 w.heap.size:=by rw [<-hw1];exact bQ.new w _
 have hS1:=au hw1
 have hI1:=hI.since hS1
 have hA1:=hA.since hS1
 go_enter func75,ntmps75
 go_wp2_with (go_at_call 14;refine (wE nodes hn l hl a cap w1 hI1).mono ?_;rintro e w2 ⟨L,rfl,hO2,aY⟩;simp only [bS];obtain ⟨w3,hw3⟩:∃ y,w2.alloc (.cells #[.slice (L (0,0,0)).a (mY nodes l).groups.length (L (0,0,0)).cap,.slice (L (1,0,0)).a (mY nodes l).nodes.length (L (1,0,0)).cap,.slice (L (2,0,0)).a (mY nodes l).wires.length (L (2,0,0)).cap] 26)=y:=⟨_,rfl⟩)
 have Gb:=au hw3
 have hM3:bD w1.heap.size w3 w2.heap.size (mY nodes l) L:=by
  refine ⟨hO2.since Gb, ?_,fun hb=>?_⟩
  ·rw [<-hw3];constructor <;> simp [go_sem]
  ·have:=(hO2.blk hb).2;omega
 have mI:=aY.trans Gb
 have hge:w1.heap.size<=w2.heap.size:=aY.size
 clear hw1 hw3 hO2
 go_loopw [8] (fun i wr=>∃ (k:Nat) (Lk:Lay),k<=acts.length/\i=.int .i64 k/\bD w1.heap.size wr w2.heap.size (doneD nodes l (acts.take k)) Lk/\Since w1 wr) (fun i _=>acts.length - (intOf i).toNat)
 case atStart=>exact ⟨0,L,Nat.zero_le _,rfl,by simpa [doneD] using hM3,mI⟩
 case round =>
  obtain ⟨wo,rfl⟩:∃ wo,wo=wr:=⟨_,rfl⟩
  obtain ⟨k,Lk,hk,rfl,hM,hSr⟩:=hrel
  by_cases hlt:k < acts.length
  ·obtain ⟨x,hx⟩:∃ x,acts[k]? = some x:=⟨_,zQ1 hlt⟩
   have hx4:=h4 x (List.mem_of_getElem? hx)
   obtain ⟨dk,hdk⟩:∃ y,doneD nodes l (acts.take k)=y:=⟨_,rfl⟩
   have hnext:doneD nodes l (acts.take (k+1))=pR dk x:=by
    rw [<-hdk,List.take_add_one,hx];unfold doneD;rw [List.foldl_append];rfl
   rw [hdk] at hM
   have HNX:=(show Hid _ from hnext)
   obtain ⟨bA,oA,rfl,hbA,hcA⟩:=hA1.cells (by omega)
   obtain ⟨e0,e1,e2,e3⟩:=hcA k x hx
   have hWk:=hM.own.wat
   have n1:(k:Int) < (acts.length:Int):=by omega
   obtain ⟨W0,hW0⟩:∃ y,wo.drew=y:=⟨_,rfl⟩
   have hs0:=iW hW0
   obtain ⟨S0,hS0⟩:∃ S0:World->Prop,∀ w',S0 w'↔Since wo w':=⟨_,fun _=>Iff.rfl⟩
   have c0:∀ y:aB S0,y.w.cell? ⟨w2.heap.size,0,none⟩=some (.slice (Lk (0,0,0)).a dk.groups.length (Lk (0,0,0)).cap):=fun y=>(hM.since ((hS0 _).1 y.h)).box.c0
   have c1:∀ y:aB S0,y.w.cell? ⟨w2.heap.size,1,none⟩=some (.slice (Lk (1,0,0)).a dk.nodes.length (Lk (1,0,0)).cap):=fun y=>(hM.since ((hS0 _).1 y.h)).box.c1
   have c2:∀ y:aB S0,y.w.cell? ⟨w2.heap.size,2,none⟩=some (.slice (Lk (2,0,0)).a dk.wires.length (Lk (2,0,0)).cap):=fun y=>(hM.since ((hS0 _).1 y.h)).box.c2
   have c3:∀ y:aB S0,y.w.cell? ⟨bA,oA+k*4,none⟩=some (.int .i64 x.kind):=fun y=>((hSr.trans ((hS0 _).1 y.h)).cellAt hbA _).trans e0
   have c4:∀ y:aB S0,y.w.cell? ⟨bA,oA+k*4+1,none⟩=some (.int .i64 x.one):=fun y=>((hSr.trans ((hS0 _).1 y.h)).cellAt hbA _).trans e1
   have c5:∀ y:aB S0,y.w.cell? ⟨bA,oA+k*4+2,none⟩=some (.int .i64 x.two):=fun y=>((hSr.trans ((hS0 _).1 y.h)).cellAt hbA _).trans e2
   have c6:∀ y:aB S0,y.w.cell? ⟨bA,oA+k*4+3,none⟩=some (.string x.body):=fun y=>((hSr.trans ((hS0 _).1 y.h)).cellAt hbA _).trans e3
   have aN:=(hS0 W0).2 hs0
   have hne:Nonempty (aB S0):=⟨⟨_,aN⟩⟩
   obtain ⟨WA,hWA⟩:∃ y,W0.alloc (.cells #[.slice none 0 0,.slice none 0 0,.slice none 0 0] 26)=y:=⟨_,rfl⟩
   have hsA:=au hWA
   have hNA:bQ WA W0.heap.size:=by rw [<-hWA];exact bQ.new W0 _
   have Ag:=(hS0 WA).2 (hs0.trans hsA)
   have BR:=oZ (rF Lk dk) dk x hx4 W0 (hWk.since hs0)
   have BS:=oZ (rF Lk dk) dk x hx4 WA (hWk.since (hs0.trans hsA))
   unfold rF acV at BR BS
   dsimp only at BR BS
   obtain ⟨r,hr⟩:∃ r,doD dk x=r:=⟨_,rfl⟩
   rw [hr] at BR BS
   clear hnext hdk hcA e0 e1 e2 e3 hx
   go_wp2_with fail
   refine kM (fun w'=>∃ x:aB S0,w'=x.w) (by kernel_rfl) ?_
   rw [hW0]
   clear hW0
   refine tL 0 rfl (ah aN) ?_;go_big_quiet_op
   refine tL 1 rfl (ah aN) ?_;go_big_quiet_op
   refine tL 2 rfl (ah aN) ?_;go_big_quiet_op
   refine tL 3 rfl (ah aN) ?_;go_big_quiet_op
   refine tL 4 rfl (ah aN) ?_;go_big_quiet_op
   cases r with
   | error er =>
    have her:(er == 0)=false:=by simpa using Ey hx4 hr
    have HN:Hid (doneD nodes l (acts.take (k+1))=dk):=by unfold Hid;rw [HNX.out];unfold pR;rw [hr]
    clear hr
    refine zo 5 9 rfl rfl (by kernel_rfl) ?_ ?_
    ·intro K hK
     go_simp
     refine BR.mono ?_
     rintro e wC hR3
     obtain ⟨rfl,hS3⟩:=hR3.out.1 er rfl
     dsimp only
     have hsC:=hs0.trans hS3
     have kN:=(hS0 wC).2 hsC
     refine hK _ _ (fun _ _=>ah kN) ?_
     clear hK K
     refine tL 6 rfl (ah kN) ?_;go_big_quiet_op
     refine tL 7 rfl (ah kN) ?_;go_big_quiet_op
     refine tL 8 rfl (ah kN) ?_;go_big_quiet_op
     refine eO 9 rfl (by kernel_rfl) ?_
     intro K hK
     go_simp
     refine hK _ _ (fun _ _=>ah ((hS0 _).2 (hsC.alloc _))) ?_
     clear hK K
     refine eO 10 rfl (by kernel_rfl) ?_
     intro K hK
     go_simp
     have hsF:Since wo (wC.alloc (.cells #[.slice none 0 0,.slice none 0 0,.slice none 0 0] 26)):=hsC.alloc _
     refine hK _ _ (fun _ _=>ah ((hS0 _).2 hsF)) ?_
     clear hK K
     refine tL 11 rfl (ah ((hS0 _).2 hsF)) ?_
     go_big_quiet_op
     refine jS (by kernel_rfl) ?_
     clear c0 c1 c2 c3 c4 c5 c6 hne
     go_wp2
     exact ⟨⟨k+1,Lk,by omega,by go_num,by rw [HN.out];exact hM.since hsF,hSr.trans hsF⟩,by simp [intOf];omega⟩
    ·intro K hK
     go_simp
     refine hK _ _ (fun _ _=>ah Ag) ?_
     clear hK K
     refine eO 5 rfl (by kernel_rfl) ?_
     intro K hK
     go_simp
     refine BS.mono ?_
     rintro e wC hR3
     obtain ⟨rfl,hS3⟩:=hR3.out.1 er rfl
     dsimp only
     have hsC:=(hs0.trans hsA).trans hS3
     have kN:=(hS0 wC).2 hsC
     refine hK _ _ (fun _ _=>ah kN) ?_
     clear hK K
     refine tL 6 rfl (ah kN) ?_;go_big_quiet_op
     refine tL 7 rfl (ah kN) ?_;go_big_quiet_op
     refine tL 8 rfl (ah kN) ?_;go_big_quiet_op
     obtain ⟨lt,r0,r1,r2,r3,r4,r5⟩:=hNA.since hS3
     refine eO 10 rfl (by kernel_rfl) ?_
     intro K hK
     go_simp
     have hsF:=bG (w:=wo) (p:=W0.heap.size) hs0.size hsC
     refine hK _ _ (fun _ _=>ah ((hS0 _).2 hsF)) ?_
     clear hK K
     refine tL 11 rfl (ah ((hS0 _).2 hsF)) ?_
     go_big_quiet_op
     refine jS (by kernel_rfl) ?_
     clear c0 c1 c2 c3 c4 c5 c6 hne
     go_wp2
     exact ⟨⟨k+1,Lk,by omega,by go_num,by rw [HN.out];exact hM.since hsF,hSr.trans hsF⟩,by simp [intOf];omega⟩
   | ok d' =>
    have HN:Hid (doneD nodes l (acts.take (k+1))=d'):=by unfold Hid;rw [HNX.out];unfold pR;rw [hr]
    clear hr
    have hpw:w2.heap.size < W0.heap.size:=zQ4 hM.box.lt hs0.size
    have hlo:w1.heap.size<=W0.heap.size:=zQ5 hSr.size hs0.size
    refine zo 5 9 rfl rfl (by kernel_rfl) ?_ ?_
    ·intro K hK
     go_simp
     refine BR.mono ?_
     rintro e wC hR3
     obtain ⟨L',rfl,hO,hS3⟩:=hR3.out.2 d' rfl
     simp only [bS]
     have hsC:=hs0.trans hS3
     have kN:=(hS0 wC).2 hsC
     refine hK _ _ (fun _ _=>ah kN) ?_
     clear hK K
     refine tL 6 rfl (ah kN) ?_;go_big_quiet_op
     refine tL 7 rfl (ah kN) ?_;go_big_quiet_op
     refine tL 8 rfl (ah kN) ?_;go_big_quiet_op
     refine eO 9 rfl (by kernel_rfl) ?_
     intro K hK
     go_simp
     refine hK _ _ (fun _ _=>ah ((hS0 _).2 (hsC.alloc _))) ?_
     clear hK K
     obtain ⟨WF,hWF⟩:∃ y,wC.alloc (.cells #[.slice (L' (0,0,0)).a d'.groups.length (L' (0,0,0)).cap,.slice (L' (1,0,0)).a d'.nodes.length (L' (1,0,0)).cap,.slice (L' (2,0,0)).a d'.wires.length (L' (2,0,0)).cap] 26)=y:=⟨_,rfl⟩
     have Gc:=au hWF
     have q0:WF.cell? ⟨wC.heap.size,0,none⟩=some (.slice (L' (0,0,0)).a d'.groups.length (L' (0,0,0)).cap):=by rw [<-hWF];simp [go_sem]
     have q1:WF.cell? ⟨wC.heap.size,1,none⟩=some (.slice (L' (1,0,0)).a d'.nodes.length (L' (1,0,0)).cap):=by rw [<-hWF];simp [go_sem]
     have q2:WF.cell? ⟨wC.heap.size,2,none⟩=some (.slice (L' (2,0,0)).a d'.wires.length (L' (2,0,0)).cap):=by rw [<-hWF];simp [go_sem]
     have hsF:=hsC.trans Gc
     refine eO 10 rfl (by kernel_rfl) ?_
     intro K hK
     go_simp
     refine hK _ _ (fun _ _=>ah ((hS0 _).2 hsF)) ?_
     clear hK K
     refine tL 11 rfl (ah ((hS0 _).2 hsF)) ?_
     go_big_quiet_op
     refine jS (by kernel_rfl) ?_
     have hMF:=hM.since hsF
     obtain ⟨bl,b0,b1,b2,z0,z1,z2⟩:=hMF.box
     have Ez:=DL (lo:=w1.heap.size) (hO.since Gc) hMF.box hlo hpw
     have hSg:Since w1 (((WF.setCell ⟨w2.heap.size,0,none⟩ (.slice (L' (0,0,0)).a d'.groups.length (L' (0,0,0)).cap)).setCell ⟨w2.heap.size,1,none⟩ (.slice (L' (1,0,0)).a d'.nodes.length (L' (1,0,0)).cap)).setCell ⟨w2.heap.size,2,none⟩ (.slice (L' (2,0,0)).a d'.wires.length (L' (2,0,0)).cap)):=by
      have hF:Fr (fun i=>i=w2.heap.size) WF WF:=Fr.refl _ _
      exact (((hF.setCell ⟨w2.heap.size,0,none⟩ _ (fun _=>rfl)).setCell ⟨w2.heap.size,1,none⟩ _ (fun _=>rfl)).setCell ⟨w2.heap.size,2,none⟩ _ (fun _=>rfl)).aC (hSr.trans hsF) (fun i hi e=>by omega)
     clear c0 c1 c2 c3 c4 c5 c6 hne hWF
     go_wp2
     exact ⟨⟨k+1,L',by omega,by go_num,by rw [HN.out];exact Ez,hSg⟩,by simp [intOf];omega⟩
    ·intro K hK
     go_simp
     refine hK _ _ (fun _ _=>ah Ag) ?_
     clear hK K
     refine eO 5 rfl (by kernel_rfl) ?_
     intro K hK
     go_simp
     refine BS.mono ?_
     rintro e wC hR3
     obtain ⟨L',rfl,hO,hS3⟩:=hR3.out.2 d' rfl
     simp only [bS]
     have hsC:=(hs0.trans hsA).trans hS3
     have kN:=(hS0 wC).2 hsC
     refine hK _ _ (fun _ _=>ah kN) ?_
     clear hK K
     refine tL 6 rfl (ah kN) ?_;go_big_quiet_op
     refine tL 7 rfl (ah kN) ?_;go_big_quiet_op
     refine tL 8 rfl (ah kN) ?_;go_big_quiet_op
     have hNC:=hNA.since hS3
     obtain ⟨hOF,Gd⟩:=hO.result (w0:=W0) (p:=W0.heap.size) hNA.lt (Nat.le_refl _) (hsA.trans hS3) hsA.size
     have hbx:=C9 (d:=d') (L:=L') hNC
     obtain ⟨lt,r0,r1,r2,r3,r4,r5⟩:=hNC
     obtain ⟨WF,hWF⟩:∃ y,((wC.setCell ⟨W0.heap.size,0,none⟩ (.slice (L' (0,0,0)).a d'.groups.length (L' (0,0,0)).cap)).setCell ⟨W0.heap.size,1,none⟩ (.slice (L' (1,0,0)).a d'.nodes.length (L' (1,0,0)).cap)).setCell ⟨W0.heap.size,2,none⟩ (.slice (L' (2,0,0)).a d'.wires.length (L' (2,0,0)).cap)=y:=⟨_,rfl⟩
     rw [hWF] at hOF Gd hbx
     obtain ⟨_,q0,q1,q2,_,_,_⟩:=hbx
     have hsF:=hs0.trans Gd
     refine eO 10 rfl (by kernel_rfl) ?_
     intro K hK
     go_simp
     refine hK _ _ (fun _ _=>ah ((hS0 _).2 hsF)) ?_
     clear hK K
     refine tL 11 rfl (ah ((hS0 _).2 hsF)) ?_
     go_big_quiet_op
     refine jS (by kernel_rfl) ?_
     have hMF:=hM.since hsF
     obtain ⟨bl,b0,b1,b2,z0,z1,z2⟩:=hMF.box
     have Ez:=DL (lo:=w1.heap.size) hOF hMF.box hlo hpw
     have hSg:Since w1 (((WF.setCell ⟨w2.heap.size,0,none⟩ (.slice (L' (0,0,0)).a d'.groups.length (L' (0,0,0)).cap)).setCell ⟨w2.heap.size,1,none⟩ (.slice (L' (1,0,0)).a d'.nodes.length (L' (1,0,0)).cap)).setCell ⟨w2.heap.size,2,none⟩ (.slice (L' (2,0,0)).a d'.wires.length (L' (2,0,0)).cap)):=by
      have hF:Fr (fun i=>i=w2.heap.size) WF WF:=Fr.refl _ _
      exact (((hF.setCell ⟨w2.heap.size,0,none⟩ _ (fun _=>rfl)).setCell ⟨w2.heap.size,1,none⟩ _ (fun _=>rfl)).setCell ⟨w2.heap.size,2,none⟩ _ (fun _=>rfl)).aC (hSr.trans hsF) (fun i hi e=>by omega)
     clear c0 c1 c2 c3 c4 c5 c6 hne hWF
     go_wp2
     exact ⟨⟨k+1,L',by omega,by go_num,by rw [HN.out];exact Ez,hSg⟩,by simp [intOf];omega⟩
  ·obtain rfl:k=acts.length:=by omega
   rw [List.take_length] at hM
   obtain ⟨lt,r0,r1,r2,r3,r4,r5⟩:=hNB.since hSr
   have b0:=hM.box.c0
   have b1:=hM.box.c1
   have b2:=hM.box.c2
   obtain ⟨hO,hSf⟩:=hM.own.result (w0:=w) (p:=w.heap.size) hNB.lt (Nat.le_refl _) (hS1.trans hSr) hS1.size
   go_wp2
   refine bodyPost_ret (v:=bS Lk (doneD nodes l acts)) ?_ rfl ⟨Lk,rfl,hO,hSf⟩
   simp [results,results75,go_sem,r0,r1,r2,bS]
theorem yZ (k n g:Int) (body:ByteArray) (w:World) :
  Calls prog 45 #[.int .i64 k,.int .i64 n,.int .i64 g,.string body] w fun e w'=>e=.returned (.agg #[.int .i64 k,.int .i64 n,.int .i64 g,.string body])/\Since w w':=by
 go_enter func45,ntmps45
 go_wp2
 refine bodyPost_ret (v:=.agg #[.int .i64 k,.int .i64 n,.int .i64 g,.string body]) (by simp [results,results45,go_sem]) rfl ?_
 exact ⟨rfl,(Since.refl _).alloc _⟩
theorem zN (ac:Option Addr) (Da:Nat) (acts:List Ac) (h4:∀ x∈acts,x.kind≠4) (w:World) (hA:Ai w ac acts.length acts) :
  Calls prog 44 #[.slice ac acts.length Da] w fun e w'=>∃ L,e=.returned (bS L (doneD 3 [3,6] acts))/\aP w.heap.size w' (doneD 3 [3,6] acts) L/\Since w w':=by
 obtain ⟨w1,hw1⟩:∃ w1,w.alloc (.cells #[.slice none 0 0,.slice none 0 0,.slice none 0 0] 26)=w1:=⟨_,rfl⟩
 have hNB:bQ w1 w.heap.size:=by rw [<-hw1];exact bQ.new w _
 have hS1:=au hw1
 have hA1:=hA.since hS1
 go_enter func44,ntmps44
 go_wp2_with (first
  | (go_at_call 43;refine (FC w1 w1 (Since.refl _)).mono ?_;rintro e w2 ⟨b,cap,rfl,hI,hS2⟩)
  | (go_at_call 75;refine (rP 3 (by omega) [3,6] (by simp) (some ⟨b,0,none⟩) cap ac Da acts h4 w2 hI (hA1.since hS2)).mono ?_;rintro e w3 ⟨L,rfl,hO,hS3⟩;simp only [bS];have hSr:=hS2.trans hS3;obtain ⟨lt,r0,r1,r2,r3,r4,r5⟩:=hNB.since hSr))
 obtain ⟨hO2,hSf⟩:=hO.result (w0:=w) (p:=w.heap.size) (zQ4 hNB.lt hS2.size) (Nat.le_refl _) (hS1.trans hSr) (zQ5 hS1.size hS2.size)
 refine bodyPost_ret (v:=bS L (doneD 3 [3,6] acts)) ?_ rfl ⟨L,rfl,hO2,hSf⟩
 simp [results,results44,go_sem,r0,r1,r2,bS]
def jo (x:Ac):List Value:=[.int .i64 x.kind,.int .i64 x.one,.int .i64 x.two,.string x.body]
theorem AY (w:World) (acts:List Ac) (hl:acts.length<=1000000) (T:TypeId):Ai (w.alloc (.cells (acts.flatMap jo).toArray T)) (some ⟨w.heap.size,0,none⟩) acts.length acts:=by
 refine ⟨rfl,by omega,fun hp=>⟨_,_,rfl,by simp,fun i x hx=>?_⟩⟩
 have key:∀ (l:List Ac) (i:Nat) (x:Ac),l[i]? = some x->∀ j,j < 4->(l.flatMap jo)[i*4+j]? = (jo x)[j]?:=by
  intro l
  induction l with
  | nil=>intro i x h;simp at h
  | cons y ys ih =>
   intro i x h j hj
   cases i with
   | zero =>
    simp at h;subst h
    rw [List.flatMap_cons,List.getElem?_append_left (by simp [jo];omega)];simp
   | succ i =>
    simp at h
    rw [List.flatMap_cons,List.getElem?_append_right (by simp [jo];omega)]
    have:=ih i x h j hj
    rw [<-this];congr 1;simp [jo];omega
 have hc:∀ o v,(acts.flatMap jo)[o]? = some v->(w.alloc (.cells (acts.flatMap jo).toArray T)).cell? ⟨w.heap.size,o,none⟩=some v:=by
  intro o v hv
  unfold World.cell?
  have hh:=World.alloc_heap_new w (.cells (acts.flatMap jo).toArray T)
  simp only [hh]
  simpa using hv
 have k0:=key acts i x hx
 refine ⟨?_, ?_, ?_, ?_⟩
 ·rw [Nat.zero_add];exact hc _ _ (k0 0 (by omega))
 ·rw [Nat.zero_add];exact hc _ _ (k0 1 (by omega))
 ·rw [Nat.zero_add];exact hc _ _ (k0 2 (by omega))
 ·rw [Nat.zero_add];exact hc _ _ (k0 3 (by omega))
end Go.Proofs.Ytiiifecfdkjmbaa
