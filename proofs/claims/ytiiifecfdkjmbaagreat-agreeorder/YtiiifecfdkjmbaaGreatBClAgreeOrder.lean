/- The law AgreeOrder answers true; conditions: the groups read as ints, the acts as acts, the numbers are ints. For every argument furlonglaw.AgreeOrder returns true, and what it was handed reads as before: what was told to two was told to both in the same order, that of all. No condition. -/
import Derived.Test.YtiiifecfdkjmbaaGreatBLAgree
import Derived.Test.YtiiifecfdkjmbaaGreatBLChoose
import Derived.Test.YtiiifecfdkjmbaaGreatBOpenX
namespace Go.Proofs.YtiiifecfdkjmbaaGreat
set_option maxRecDepth 8000
open Go.RowKit Go.Shelf
open _root_.Go.Proofs.YtiiifecfdkjmbaaGreat.Pure
set_option linter.unusedVariables false
set_option linter.unusedSimpArgs false
set_option maxHeartbeats 1000000 in
theorem uI (nodes:Int) (a:Option Addr) (len cap:Nat) (l:List Int) (ac:Option Addr) (ji fT:Nat) (acts:List Ac) (ca cb:Int) (w:World) (hI:Ints w a len l) (hA:nA w ac ji acts) (hN:¬ dL nodes l=0∨80 < ji) :
  Calls Tryz.prog 15 #[.int .i64 nodes,.slice a len cap,.slice ac ji fT,.int .i64 ca,.int .i64 cb] w fun e w'=>e=.returned (.bool true)∧Since w w':=by
 obtain ⟨wb,hwb⟩:∃ y,y=w:=⟨_,rfl⟩
 have hSb:Since w wb:=by rw [hwb];exact Since.refl _
 subst hwb
 have hD:=DL nodes a len cap l ac ji fT acts wb (hI.since hSb) (hA.since hSb) hN
 clear hN
 go_enter Tryz.func15,Tryz.ntmps15
 go_wp2_with fail
 refine hD.mono ?_
 rintro e w2 ⟨rfl,hS2⟩
 obtain ⟨w3,hw3⟩:∃ y,w2.alloc (.cells #[.slice none 0 0,.slice none 0 0,.slice none 0 0] 26)=y:=⟨_,rfl⟩
 have qp:=av hw3
 have hN3:aA w3 w2.heap.size:=by rw [←hw3];exact aA.new w2 _
 obtain ⟨w4,hw4⟩:∃ y,((w3.setCell ⟨w2.heap.size,0,none⟩ (.slice none 0 0)).setCell ⟨w2.heap.size,1,none⟩ (.slice none 0 0)).setCell ⟨w2.heap.size,2,none⟩ (.slice none 0 0)=y:=⟨_,rfl⟩
 have hS4:Since w2 w4:=by rw [←hw4];exact (dP w3 w2.heap.size _ _ _).aC qp (fun i hi e=>by omega)
 obtain ⟨_,r0,r1,r2,r3,r4,r5⟩:=hN3
 go_wp2_with (go_at_call 59;refine (iM w4).mono ?_;rintro e w8 ⟨rfl,hS8⟩)
 go_ret
 exact ⟨by simp,hSb.trans (hS2.trans (hS4.trans hS8))⟩
theorem Mj {d:Wd} (h:aH d=0) {ns:List Int} (hn:∀ n∈ns,0≤n∧n < (d.nodes.length:Int)):ko d ns=0:=by
 unfold ko
 rw [if_pos h,if_neg]
 rw [List.any_eq_true]
 rintro ⟨n,h1,h2⟩
 have:=hn n h1
 unfold zB at h2
 simp at h2
 omega
set_option maxHeartbeats 4000000 in
theorem BM (nodes:Nat) (a:Option Addr) (cap:Nat) (l:List Int) (ac:Option Addr) (fT:Nat) (acts:List Ac) (ca cb:Int) (w:World) (hI:Ints w a l.length l) (hA:nA w ac acts.length acts) (hca:I64 ca) (hcb:I64 cb)
  (hn:nodes≤4) (hl:l.length≤3) (h1n:0 < nodes) (hN:dL (nodes:Int) l=0) (hm:acts.length≤80) :
  Calls Tryz.prog 15 #[.int .i64 nodes,.slice a l.length cap,.slice ac acts.length fT,.int .i64 ca,.int .i64 cb] w fun e w'=>e=.returned (.bool true)∧Since w w':=by
 have hD:=DJ nodes a cap l ac fT acts w hI hA hn hl hN hm
 have HI:Hid (Inv (doneD nodes l acts)):=(pX hN acts).1
 have HLN:Hid ((doneD nodes l acts).nodes.length=nodes):=(tV hN acts).1
 obtain ⟨d,hd⟩:∃ d,doneD nodes l acts=d:=⟨_,rfl⟩
 rw [hd] at hD HI HLN
 have hR:=HI.out.right
 have hwe:aH d=0:=(bQ d).2 hR
 have hVA:=fun y=>uV ca nodes hca h1n hn y
 have hVB:=fun y=>uV cb nodes hcb h1n hn y
 have hka:=nI ca h1n
 have hkb:=nI cb h1n
 obtain ⟨ka,Q5⟩:∃ k,iV ca nodes=k:=⟨_,rfl⟩
 obtain ⟨kb,Q6⟩:∃ k,iV cb nodes=k:=⟨_,rfl⟩
 rw [Q5] at hVA hka
 rw [Q6] at hVB hkb
 have hln:=HLN.out
 have Mk:ko d [(ka:Int),(kb:Int)]=0:=Mj hwe (fun n h=>by simp at h;rcases h with rfl | rfl <;> omega)
 have Ml:ko d [(kb:Int),(ka:Int)]=0:=Mj hwe (fun n h=>by simp at h;rcases h with rfl | rfl <;> omega)
 have Mq:zC d (ka:Int) (kb:Int)=mM (aQ d ka) (aQ d kb):=by unfold zC;rw [if_pos Mk];rfl
 have Mr:zC d (kb:Int) (ka:Int)=mM (aQ d ka) (aQ d kb):=by unfold zC;rw [if_pos Ml];exact H7 (hR.rM kb) (hR.rM ka)
 obtain ⟨C,hC⟩:∃ C,mM (aQ d ka) (aQ d kb)=C:=⟨_,rfl⟩
 rw [hC] at Mq Mr
 obtain ⟨al,hal⟩:=Jr HI.out
 have Q7:uS d=0:=by unfold uS;rw [if_pos hwe,hal]
 have Q8:q8 d=al:=by unfold q8;rw [if_pos hwe,hal]
 obtain ⟨x,hx⟩:=qD (d:=d) (k:=ka) (by omega)
 have Q9:Hid (dY al x.told al.length=x.told.length):=by
  unfold Hid
  have:=Oa (xQ hal).1 (hR.rM ka) (fun y hy=>((xQ hal).2 y).2 ⟨ka,hy⟩)
  rwa [mZ hx] at this
 have HXK:Hid (d.nodes[ka]? = some x):=hx
 clear hN hd Q5 Q6 hC hR hx
 go_enter Tryz.func15,Tryz.ntmps15
 go_wp2_with fail
 refine hD.mono ?_
 rintro e w1 ⟨⟨ga,gl,gc,na,nl,nc,wa,wl,wk⟩,rfl,hX1,hS1⟩
 dsimp only
 obtain ⟨w2,hw2⟩:∃ y,w1.alloc (.cells #[.slice ga gl gc,.slice na nl nc,.slice wa wl wk] 26)=y:=⟨_,rfl⟩
 have hS2:=av hw2
 have hP2:aG w2 w1.heap.size ⟨ga,gl,gc,na,nl,nc,wa,wl,wk⟩:=by rw [←hw2];exact aG.new w1 ⟨ga,gl,gc,na,nl,nc,wa,wl,wk⟩ _
 have hX2:=hX1.since hS2
 have PF:Hid (∀ y,Since w2 y→aG y w1.heap.size ⟨ga,gl,gc,na,nl,nc,wa,wl,wk⟩):=fun y hy=>hP2.since hy
 have h12:=hS1.trans hS2
 have h22:Since w2 w2:=Since.refl w2
 have Js:=fun (y:World) (hy:WAt y ⟨ga,gl,gc,na,nl,nc,wa,wl,wk⟩ d)=>uT ⟨ga,gl,gc,na,nl,nc,wa,wl,wk⟩ d ka kb y hy
 have Jt:=fun (y:World) (hy:WAt y ⟨ga,gl,gc,na,nl,nc,wa,wl,wk⟩ d)=>uT ⟨ga,gl,gc,na,nl,nc,wa,wl,wk⟩ d kb ka y hy
 rw [Mk,Mq] at Js
 rw [Ml,Mr] at Jt
 dsimp only at Js Jt
 clear Mk Ml Mq Mr
 go_wp2_with fail
 clear hw2
 obtain ⟨W0,hW0⟩:∃ y,w2.drew=y:=⟨_,rfl⟩
 have hs0:=bC hW0
 obtain ⟨S0,hS0⟩:∃ S0:World→Prop,∀ w',S0 w'↔Since w2 w':=⟨_,fun _=>Iff.rfl⟩
 have dA:=aR w
 have y0:∀ y:aj S0,y.w.cell? ⟨w1.heap.size,0,none⟩=some (.slice ga gl gc):=fun y=>(PF.out _ (h22.trans ((hS0 _).1 y.h))).c0
 have y1:∀ y:aj S0,y.w.cell? ⟨w1.heap.size,1,none⟩=some (.slice na nl nc):=fun y=>(PF.out _ (h22.trans ((hS0 _).1 y.h))).c1
 have y2:∀ y:aj S0,y.w.cell? ⟨w1.heap.size,2,none⟩=some (.slice wa wl wk):=fun y=>(PF.out _ (h22.trans ((hS0 _).1 y.h))).c2
 have ak:=(hS0 W0).2 hs0
 have hne:Nonempty (aj S0):=⟨⟨_,ak⟩⟩
 refine aU (fun w'=>∃ x:aj S0,w'=x.w) (by kernel_rfl) ?_
 rw [hW0]
 clear hW0
 refine tM 0 rfl (ah ak) ?_
 go_big_quiet_op
 refine tW 1 rfl ?_
 go_big_quiet_op
 refine tW 2 rfl ?_
 go_big_quiet_op
 refine tW 4 rfl ?_
 go_big_quiet_op
 refine tW 5 rfl ?_
 go_big_quiet_op
 refine bF 3 rfl (by kernel_rfl) ?_
 intro K hK
 go_simp
 refine (hVA W0).mono ?_
 rintro e w' ⟨rfl,hw⟩
 obtain rfl:=hw.symm
 dsimp only
 refine hK _ _ (fun _ _=>ah ak) ?_
 clear hK K
 refine bF 6 rfl (by kernel_rfl) ?_
 intro K hK
 go_simp
 refine (hVB W0).mono ?_
 rintro e w' ⟨rfl,hw⟩
 obtain rfl:=hw.symm
 dsimp only
 refine hK _ _ (fun _ _=>ah ak) ?_
 clear hK K
 refine bF 7 rfl (by kernel_rfl) ?_
 intro K hK
 go_simp
 refine (Js W0 (hX2.since (h22.trans hs0))).mono ?_
 rintro e w3 ⟨pa,pc,rfl,hM3,hSB⟩
 dsimp only
 have gw3:=hs0.trans hSB
 have hw3:=h22.trans (hs0.trans hSB)
 refine hK _ _ (fun h=>absurd h (by decide +kernel)) ?_
 clear hK K
 refine tW 8 rfl ?_
 go_big_quiet_op
 refine tW 9 rfl ?_
 go_big_quiet_op
 refine tW 10 rfl ?_
 go_big_quiet_op
 refine tW 11 rfl ?_
 go_big_quiet_op
 refine tW 12 rfl ?_
 go_big_quiet_op
 refine dG (by kernel_rfl) ?_
 clear y0 y1 y2 hne dA ak hs0 hSB hS0
 go_wp2_with fail
 obtain ⟨W0,hW0⟩:∃ y,w3.drew=y:=⟨_,rfl⟩
 have hs0:=bC hW0
 obtain ⟨S0,hS0⟩:∃ S0:World→Prop,∀ w',S0 w'↔Since w3 w':=⟨_,fun _=>Iff.rfl⟩
 have dA:=aR w
 have y0:∀ y:aj S0,y.w.cell? ⟨w1.heap.size,0,none⟩=some (.slice ga gl gc):=fun y=>(PF.out _ (hw3.trans ((hS0 _).1 y.h))).c0
 have y1:∀ y:aj S0,y.w.cell? ⟨w1.heap.size,1,none⟩=some (.slice na nl nc):=fun y=>(PF.out _ (hw3.trans ((hS0 _).1 y.h))).c1
 have y2:∀ y:aj S0,y.w.cell? ⟨w1.heap.size,2,none⟩=some (.slice wa wl wk):=fun y=>(PF.out _ (hw3.trans ((hS0 _).1 y.h))).c2
 have ak:=(hS0 W0).2 hs0
 have hne:Nonempty (aj S0):=⟨⟨_,ak⟩⟩
 refine aU (fun w'=>∃ x:aj S0,w'=x.w) (by kernel_rfl) ?_
 rw [hW0]
 clear hW0
 refine tM 0 rfl (ah ak) ?_
 go_big_quiet_op
 refine tW 1 rfl ?_
 go_big_quiet_op
 refine tW 2 rfl ?_
 go_big_quiet_op
 refine tW 4 rfl ?_
 go_big_quiet_op
 refine tW 5 rfl ?_
 go_big_quiet_op
 refine bF 3 rfl (by kernel_rfl) ?_
 intro K hK
 go_simp
 refine (hVB W0).mono ?_
 rintro e w' ⟨rfl,hw⟩
 obtain rfl:=hw.symm
 dsimp only
 refine hK _ _ (fun _ _=>ah ak) ?_
 clear hK K
 refine bF 6 rfl (by kernel_rfl) ?_
 intro K hK
 go_simp
 refine (hVA W0).mono ?_
 rintro e w' ⟨rfl,hw⟩
 obtain rfl:=hw.symm
 dsimp only
 refine hK _ _ (fun _ _=>ah ak) ?_
 clear hK K
 refine bF 7 rfl (by kernel_rfl) ?_
 intro K hK
 go_simp
 refine (Jt W0 (hX2.since (hw3.trans hs0))).mono ?_
 rintro e w4 ⟨ua,uc,rfl,hM4,hSB⟩
 dsimp only
 have gw4:=hs0.trans hSB
 have hw4:=hw3.trans (hs0.trans hSB)
 refine hK _ _ (fun h=>absurd h (by decide +kernel)) ?_
 clear hK K
 refine tW 8 rfl ?_
 go_big_quiet_op
 refine tW 9 rfl ?_
 go_big_quiet_op
 refine tW 10 rfl ?_
 go_big_quiet_op
 refine tW 11 rfl ?_
 go_big_quiet_op
 refine tW 12 rfl ?_
 go_big_quiet_op
 refine dG (by kernel_rfl) ?_
 clear y0 y1 y2 hne dA ak hs0 hSB hS0
 obtain ⟨_,p0,p1,p2⟩:=PF.out _ hw4
 dsimp only at p0 p1 p2
 have hAl:=xR ⟨ga,gl,gc,na,nl,nc,wa,wl,wk⟩ d w4 (hX2.since hw4)
 rw [Q7,Q8] at hAl
 dsimp only at hAl
 go_wp2_with fail
 refine hAl.mono ?_
 rintro e w5 ⟨va,vc,rfl,hM5,hS5⟩
 have h25:=hw4.trans hS5
 have Ra:=hM3.since (gw4.trans hS5)
 have Rb:=hM4.since hS5
 have hSM:=jG pa C.length pc C ua C.length uc C w5 Ra Rb
 rw [jq] at hSM
 clear p0 p1 p2 hAl hM3 hM4 Js Jt Q7 Q8
 go_wp2_with fail
 refine hSM.mono ?_
 rintro e w6 ⟨rfl,hS6⟩
 have h26:=h25.trans hS6
 have hM6:=hM5.since hS6
 have hnl:=hX2.n.hlen
 dsimp only at hnl
 have PE:nl=nodes:=by have:=HLN.out;omega
 subst PE
 obtain ⟨bn,on,hne',hbn,hcn⟩:=hX2.n.cells (by dsimp only;omega)
 dsimp only at hne'
 subst hne'
 obtain ⟨_,_,_,⟨v3,k3,ta,tc,rfl,htc,hT⟩⟩:=hcn ka x HXK.out
 have i1:(ka:Int) < (nl:Int):=by omega
 have hTm:=hT.hmax
 have hAm:=hM6.hmax
 have hT6:=hT.since h26
 clear hcn hM5 Ra Rb hSM hT htc
 go_wp2_with fail
 obtain ⟨W0,hW0⟩:∃ y,w6.drew=y:=⟨_,rfl⟩
 have hs0:=bC hW0
 obtain ⟨S0,hS0⟩:∃ S0:World→Prop,∀ w',S0 w'↔Since w6 w':=⟨_,fun _=>Iff.rfl⟩
 have dA:=aR w
 have y1:∀ y:aj S0,y.w.cell? ⟨w1.heap.size,1,none⟩=some (.slice (some ⟨bn,on,none⟩) nl nc):=fun y=>(PF.out _ (h26.trans ((hS0 _).1 y.h))).c1
 have y2:∀ y:aj S0,y.w.cell? ⟨bn,on+ka*4+3,none⟩=some (.slice ta x.told.length tc):=fun y=>((h26.trans ((hS0 _).1 y.h)).cellAt hbn _).trans k3
 have ak:=(hS0 W0).2 hs0
 have hne:Nonempty (aj S0):=⟨⟨_,ak⟩⟩
 refine aU (fun w'=>∃ x:aj S0,w'=x.w) (by kernel_rfl) ?_
 rw [hW0]
 clear hW0
 refine tW 0 rfl ?_
 go_big_quiet_op
 refine tM 1 rfl (ah ak) ?_
 go_big_quiet_op
 refine tW 2 rfl ?_
 go_big_quiet_op
 refine tW 3 rfl ?_
 go_big_quiet_op
 refine bF 4 rfl (by kernel_rfl) ?_
 intro K hK
 go_simp
 refine (hVA W0).mono ?_
 rintro e w' ⟨rfl,hw⟩
 obtain rfl:=hw.symm
 dsimp only
 refine hK _ _ (fun _ _=>ah ak) ?_
 clear hK K
 refine tW 5 rfl ?_
 go_big_quiet_op
 refine tW 6 rfl ?_
 go_big_quiet_op
 refine tM 7 rfl (ah ak) ?_
 go_big_quiet_op
 refine tW 8 rfl ?_
 go_big_quiet_op
 refine dG (by kernel_rfl) ?_
 have h2W:=h26.trans hs0
 have hMW:=hM6.since hs0
 have hTW:=hT6.since hs0
 clear y1 y2 hne dA ak hS0 k3 hM6 hT6
 obtain ⟨wz,hwz⟩:∃ y,y=W0:=⟨_,rfl⟩
 rw [←hwz] at h2W hMW hTW ⊢
 clear hwz hs0
 go_wp2_with fail
 go_loopw [20,21] (fun c i wr=>(∃ q k:Nat,k≤al.length∧i=.int .i64 k∧c=.int .i64 q∧q=dY al x.told k)∧Since wz wr) (fun _ i _=>al.length - (intOf i).toNat)
 case atStart=>exact ⟨⟨0,0,Nat.zero_le _,rfl,rfl,rfl⟩,Since.refl wz⟩
 case round =>
  obtain ⟨wo,rfl⟩:∃ wo,wo=wr:=⟨_,rfl⟩
  obtain ⟨⟨q,k,hk,rfl,rfl,hq⟩,hSk⟩:=hrel
  have HQ:Hid (q=dY al x.told k):=hq
  have hqt:q≤x.told.length:=by rw [hq];exact zV _ _ _
  clear hq
  by_cases hlt:k < al.length∧q < x.told.length
  ·obtain ⟨m,hmk⟩:∃ m,al[k]? = some m:=⟨_,List.getElem?_eq_getElem hlt.1⟩
   obtain ⟨t,htq⟩:∃ t,x.told[q]? = some t:=⟨_,List.getElem?_eq_getElem hlt.2⟩
   obtain ⟨hl1,hl2⟩:=hlt
   obtain ⟨bA,oA,rfl,hbA,hcA⟩:=hMW.cells (by omega)
   obtain ⟨bT,oT,rfl,hbT,hcT⟩:=hTW.cells (by omega)
   obtain ⟨m0,m1,m2,m3,m4⟩:=aZ hcA k m hmk
   obtain ⟨t0,t1,t2,t3,t4⟩:=aZ hcT q t htq
   have k1:(k:Int) < (al.length:Int):=by omega
   have q1:(q:Int) < (x.told.length:Int):=by omega
   have HNX:Hid (dY al x.told (k+1)=if bP m t then q+1 else q):=by
    unfold Hid
    show (match al[k]?,x.told[dY al x.told k]? with | some a,some b=>if bP a b then dY al x.told k+1 else dY al x.told k | _,_=>dY al x.told k)=_
    rw [←HQ.out,hmk,htq]
   have hnE:Nonempty (Later wz):=⟨⟨wz,Since.refl wz⟩⟩
   have hg1:∀ (z:Later wz) (o:Nat),z.w.cell? ⟨bA,o,none⟩=wz.cell? ⟨bA,o,none⟩:=fun z o=>z.cell hbA
   have hg2:∀ (z:Later wz) (o:Nat),z.w.cell? ⟨bT,o,none⟩=wz.cell? ⟨bT,o,none⟩:=fun z o=>z.cell hbT
   clear hcA hcT hmk htq
   cases hs:bP m t
   ·have hqq:=kE m t false hs
    have HCF:=HNX.out
    rw [hs] at HCF
    have HCG:Hid (dY al x.told (k+1)=q):=HCF
    clear hs HCF HNX
    go_wp2_with fail
    refine au (by kernel_rfl) (by kernel_rfl) hSk ?_
    repeat (go_big_quiet_step (fail))
    refine wpQuiet_nil ?_
    intro w9 hS9
    go_wp2_with fail
    go_roundw
    case rel=>exact ⟨⟨q,k+1,by omega,by go_num,rfl,HCG.out.symm⟩,hS9⟩
    case measure=>simp [intOf];omega
   ·have hqq:=kE m t true hs
    have HCF:=HNX.out
    rw [hs] at HCF
    have HCG:Hid (dY al x.told (k+1)=q+1):=HCF
    clear hs HCF HNX
    go_wp2_with fail
    refine au (by kernel_rfl) (by kernel_rfl) hSk ?_
    repeat (go_big_quiet_step (fail))
    refine wpQuiet_nil ?_
    intro w9 hS9
    go_wp2_with fail
    go_roundw
    case rel=>exact ⟨⟨q+1,k+1,by omega,by go_num,by go_num,HCG.out.symm⟩,hS9⟩
    case measure=>simp [intOf];omega
  ·have hqe:q=x.told.length:=by
    by_cases hk2:k < al.length
    ·omega
    ·have e:k=al.length:=by omega
     have h2:=HQ.out
     rw [e,Q9.out] at h2
     exact h2
   subst hqe
   have q1:¬ ((x.told.length:Int) < (x.told.length:Int)):=by omega
   clear hlt HQ Q9
   by_cases hk2:k < al.length
   ·have k1:(k:Int) < (al.length:Int):=by omega
    go_wp2_with (go_at_call 59;refine (iM wo).mono ?_;rintro e w8 ⟨rfl,hS8⟩)
    go_ret
    exact ⟨by simp,h12.trans (h2W.trans (hSk.trans hS8))⟩
   ·have k1:¬ (k:Int) < (al.length:Int):=by omega
    go_wp2_with (go_at_call 59;refine (iM wo).mono ?_;rintro e w8 ⟨rfl,hS8⟩)
    go_ret
    exact ⟨by simp,h12.trans (h2W.trans (hSk.trans hS8))⟩
theorem vZ (nodes:Int) (a:Option Addr) (len cap:Nat) (l:List Int) (ac:Option Addr) (ji fT:Nat) (acts:List Ac) (ca cb:Int) (w:World) (hI:Ints w a len l) (hA:nA w ac ji acts) (hca:I64 ca) (hcb:I64 cb) :
  Calls Tryz.prog 15 #[.int .i64 nodes,.slice a len cap,.slice ac ji fT,.int .i64 ca,.int .i64 cb] w fun e w'=>e=.returned (.bool true)∧Since w w':=by
 have hl:=hI.hlen
 have ha:=hA.hlen
 by_cases hE:dL nodes l=0
 ·by_cases hm:80 < ji
  ·exact uI nodes a len cap l ac ji fT acts ca cb w hI hA (.inr hm)
  ·obtain ⟨h1,h2,h3,h4⟩:=lN hE
   obtain ⟨k,rfl⟩:∃ k:Nat,nodes=(k:Int):=⟨nodes.toNat,by omega⟩
   subst hl ha
   exact BM k a cap l ac fT acts ca cb w hI hA hca hcb (by omega) h4 (by omega) hE (by omega)
 ·exact uI nodes a len cap l ac ji fT acts ca cb w hI hA (.inl hE)
end Go.Proofs.YtiiifecfdkjmbaaGreat
namespace Go.Proofs.YtiiifecfdkjmbaaGreat.agreeOrder
set_option maxRecDepth 8000
open Go.ChangeShapes Go.WideShapes Go.ChangeAt Go.RowKit
set_option linter.unusedVariables false
set_option maxRecDepth 100000 in
theorem lifted (os:Os) (started:os.Started) (H:Type) (enc:TypeId × Value→H) :
  ReturnsInHanded {} Tryz.checked os 15 .any (Rows.agreeOrderSpec.pre6 enc Tryz.prog Tryz.f15 Rows.agreeOrderRow.domain false) (Rows.agreeOrderSpec.post enc Tryz.prog Tryz.f15 false true false false):=by
 refine returnsInHanded_of_change_sized (C:=Tryz.checked) own started (by kernel_rfl) Tryz.func15
  (ChangeSpec.witness6 (enc:=enc) (C:=Tryz.checked) false ⟨#[],#[.int .i64 0,.slice none 0 0,.slice none 0 0,.int .i64 0,.int .i64 0],[]⟩ 8 (by kernel_rfl) (by kernel_rfl) (by kernel_rfl) (by kernel_rfl)) ?_
 intro W base args ds gs before hval0 hW hcnd hsz0 _
 have hval:∀ (j:Nat) t v,Tryz.f15.params[j]? = some t→args[j]? = some v→Value.okWide Tryz.prog W .any base t v:=hval0
 have hsz:(DataW.weightsEach Tryz.prog (Tryz.f15.params.toList++Rows.agreeOrderSpec.plain.varTypes Tryz.prog) (ds++gs)).all (·≤reachBytes)=true:=hsz0
 have hW':=hW
 obtain ⟨p,q,hA0,hV,rfl,hfz,hnd⟩:=hW
 have hA:DataW.TrodAll enc Tryz.prog W 0 (fun _=>true) true Tryz.f15.params.toList args.toList ds p:=hA0
 rw [Tryz.params15] at hA hval hsz
 obtain ⟨v0,vs0,d0,ds0,p0,q0,hargs,rfl,rfl,h0,r0⟩:=trodAll_cons hA
 obtain ⟨v1,vs1,d1,ds1,p1,q1,rfl,rfl,rfl,h1,r1⟩:=trodAll_cons r0
 obtain ⟨v2,vs2,d2,ds2,p2,q2,rfl,rfl,rfl,h2,r2⟩:=trodAll_cons r1
 obtain ⟨v3,vs3,d3,ds3,p3,q3,rfl,rfl,rfl,h3,r3⟩:=trodAll_cons r2
 obtain ⟨v4,vs4,d4,ds4,p4,q4,rfl,rfl,rfl,h4,r4⟩:=trodAll_cons r3
 obtain ⟨rfl,rfl,rfl⟩:=trodAll_nil r4
 obtain rfl:args=#[v0,v1,v2,v3,v4]:=by cases args;simp_all
 obtain ⟨rfl,rfl⟩:=trodVars_none hV
 obtain ⟨a0,rfl,rfl,rfl,w0⟩:=open_int Tryz.underlying3 (hval 0 3 v0 rfl rfl) h0
 obtain ⟨a1,len1,LU,rfl⟩:=okWide_slice Tryz.underlying22 (hval 1 22 v1 rfl rfl)
 have lt1:∀ x∈p1,x.block < W.heap.size:=by obtain ⟨m,hm⟩:=h1;exact DataW.trod_lt m _ _ _ hm
 obtain ⟨z1,w1⟩:=qx h1 (fun el sp e=>by have:=sized_slice hsz (j:=1) (t:=22) (e:=3) rfl (by rw [e];rfl) Tryz.underlying22;rwa [zG] at this)
 obtain ⟨a2,len2,cap2,rfl⟩:=okWide_slice Tryz.underlying50 (hval 2 50 v2 rfl rfl)
 have lt2:∀ x∈p2,x.block < W.heap.size:=by obtain ⟨m,hm⟩:=h2;exact DataW.trod_lt m _ _ _ hm
 obtain ⟨z2,w2,c2⟩:=qm h2 (fun el sp e=>by have:=sized_slice hsz (j:=2) (t:=50) (e:=58) rfl (by rw [e];rfl) Tryz.underlying50;rwa [zi] at this)
 obtain ⟨a3,rfl,rfl,rfl,w3⟩:=open_int Tryz.underlying3 (hval 3 3 v3 rfl rfl) h3
 obtain ⟨a4,rfl,rfl,rfl,w4⟩:=open_int Tryz.underlying3 (hval 4 3 v4 rfl rfl) h4
 clear hA0 hval0
 refine (vZ a0 a1 len1 LU z1 a2 len2 cap2 z2 a3 a4 W w1 w2 (G7 w3) (G7 w4)).mono fun e W' ⟨he,LV⟩=>?_
 have bel:=LV.below
 subst he
 exact ⟨_,rfl,_,_,_,[],_,[],hW',trodAll_mk1 (shut_bool Tryz.underlying4 _),(trodAll_cons_mk (shut_int Tryz.underlying3 w0) (trodAll_cons_mk (Below.trod laidOut (by kernel_rfl) (of_decide_eq_true (by kernel_rfl)) h1 bel lt1) (trodAll_cons_mk (Below.trod laidOut (by kernel_rfl) (of_decide_eq_true (by kernel_rfl)) h2 bel lt2) (trodAll_cons_mk (shut_int Tryz.underlying3 w3) (trodAll_cons_mk (shut_int Tryz.underlying3 w4) trodAll_mk0))))),rfl,bel.frame _,fun h=>by cases h⟩
theorem facts:joinedFacts Tryz.prog 15 Tryz.f15 Rows.agreeOrderSpec Rows.agreeOrderRow=true:=by
 delta joinedFacts
 rw [LW,Du,G8]
 kernel_rfl
theorem over:Rows.agreeOrderRow.holds Tryz.pinned (OpenSpec.ofChange Rows.agreeOrderSpec) :=
 OpenClaim.holds_of_wide 15 Tryz.f15 rfl rfl rfl rfl rfl rfl rfl ⟨rfl,rfl,rfl,rfl,rfl⟩ rfl rfl rfl rfl rfl (by kernel_rfl) Tryz.func15 facts
  (of_decide_eq_true (by kernel_rfl)) (by unfold Func.isWrapper;first | (rw [if_pos (by decide +kernel)];kernel_rfl) | (rw [if_neg (by decide +kernel)];exact ⟨rfl,rfl⟩))
  (fun os started H enc _=>lifted os started H enc)
end Go.Proofs.YtiiifecfdkjmbaaGreat.agreeOrder
namespace Go.Proofs.YtiiifecfdkjmbaaGreat
set_option maxRecDepth 8000
theorem agreeOrder_holds:Rows.AgreeOrderSaid:=agreeOrder.over
#print axioms agreeOrder_holds
end Go.Proofs.YtiiifecfdkjmbaaGreat
