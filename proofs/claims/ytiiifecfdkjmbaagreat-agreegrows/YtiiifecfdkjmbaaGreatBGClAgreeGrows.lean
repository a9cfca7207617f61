/- The laws' helper choose: one of n, whatever it is handed; conditions: n is 1 at least, the number is an int. The law AgreeGrows answers true; conditions: the groups read as ints, the acts as acts, the number is an int. For every argument furlonglaw.AgreeGrows returns true, and what it was handed reads as before: what is told later is behind all that was told, whatever is done; and what was told stays told. No condition. -/
import Derived.Test.YtiiifecfdkjmbaaGreatBGLaws
import Derived.Test.YtiiifecfdkjmbaaGreatBLAgree
import Derived.Test.YtiiifecfdkjmbaaGreatBRLogX
import Derived.Test.YtiiifecfdkjmbaaGreatBOpenX
namespace Go.Proofs.YtiiifecfdkjmbaaGreat
set_option maxRecDepth 8000
open Go.RowKit Go.Shelf
set_option linter.unusedVariables false
def I64 (c:Int):Prop:=-9223372036854775808≤c∧c≤9223372036854775807
theorem G7 {c:Int} (h:(Lit.int .i64 c).wf=true):I64 c:=by
 simp only [Lit.wf,Bool.and_eq_true,decide_eq_true_eq] at h
 exact h
def iV (c:Int) (n:Nat):Nat:=((if c < 0 then -(c+1) else c) % (n:Int)).toNat
theorem nI (c:Int) {n:Nat} (hn:0 < n):iV c n < n:=by
 unfold iV
 have h1:=Int.emod_nonneg (if c < 0 then -(c+1) else c) (show (n:Int)≠0 by omega)
 have h2:=Int.emod_lt_of_pos (if c < 0 then -(c+1) else c) (show (0:Int) < (n:Int) by omega)
 omega
theorem Me (c:Int) (n:Nat) (hc:I64 c) (hn:0 < n) (hm:n≤1000000) (w:World) :
  Calls Tryz.prog 52 #[.int .i64 c,.int .i64 n] w fun e w'=>e=.returned (.int .i64 (iV c n))∧w'=w:=by
 obtain ⟨h1,h2⟩:=hc
 have hz:((n:Int) == 0)=false:=by rw [beq_eq_false_iff_ne];omega
 have hz':¬ (n:Int)=0:=by omega
 by_cases hl:c < 0
 ·have l1:decide (c < 0)=true:=by simpa using hl
  have e1:IntKind.i64.wrap (c+1)=c+1:=IntWalk.i64_in _ (by omega)
  have e2:IntKind.i64.wrap (-(c+1))=-(c+1):=IntWalk.i64_in _ (by omega)
  have e3:(-(c+1)).tmod (n:Int)=(iV c n:Int):=by
   unfold iV;rw [if_pos hl,Int.tmod_eq_emod_of_nonneg (by omega),Int.toNat_of_nonneg (Int.emod_nonneg _ (by omega))]
  have hlt:=nI c hn
  have e4:IntKind.i64.wrap (iV c n:Int)=(iV c n:Int):=IntWalk.i64_in _ (by omega)
  clear hl
  go_enter Tryz.func52,Tryz.ntmps52
  go_wp2
  go_ret
  simp_all
 ·have l1:decide (c < 0)=false:=by simpa using hl
  have e3:c.tmod (n:Int)=(iV c n:Int):=by
   unfold iV;rw [if_neg hl,Int.tmod_eq_emod_of_nonneg (by omega),Int.toNat_of_nonneg (Int.emod_nonneg _ (by omega))]
  have hlt:=nI c hn
  have e4:IntKind.i64.wrap (iV c n:Int)=(iV c n:Int):=IntWalk.i64_in _ (by omega)
  clear hl
  go_enter Tryz.func52,Tryz.ntmps52
  go_wp2
  go_ret
  simp_all
theorem uV (c:Int) (n:Nat) (hc:I64 c) (hn:0 < n) (hm:n≤4) (w:World) :
  Calls Tryz.prog 52 #[.int .i64 c,.int .i64 n] w fun e w'=>e=.returned (.int .i64 (iV c n))∧w'=w :=
 Me c n hc hn (by omega) w
end Go.Proofs.YtiiifecfdkjmbaaGreat
namespace Go.Proofs.YtiiifecfdkjmbaaGreat
set_option maxRecDepth 8000
open Go.RowKit Go.Shelf
open _root_.Go.Proofs.YtiiifecfdkjmbaaGreat.Pure
set_option linter.unusedVariables false
set_option linter.unusedSimpArgs false
set_option maxHeartbeats 1000000 in
theorem uH (nodes:Int) (a:Option Addr) (len cap:Nat) (l:List Int) (ac:Option Addr) (ji fT:Nat) (acts:List Ac) (ac1:Ac) (cn:Int) (w:World) (hI:Ints w a len l) (hA:nA w ac ji acts) (hN:¬ dL nodes l=0∨80 < ji) :
  Calls Tryz.prog 16 #[.int .i64 nodes,.slice a len cap,.slice ac ji fT,acV ac1,.int .i64 cn] w fun e w'=>e=.returned (.bool true)∧Since w w':=by
 unfold acV
 obtain ⟨wb,hwb⟩:∃ y,w.alloc (.cells #[.int .i64 ac1.kind,.int .i64 ac1.one,.int .i64 ac1.two,.string ac1.body] 58)=y:=⟨_,rfl⟩
 have hSb:=av hwb
 have hD:=DL nodes a len cap l ac ji fT acts wb (hI.since hSb) (hA.since hSb) hN
 clear hN
 go_enter Tryz.func16,Tryz.ntmps16
 go_wp2_with fail
 refine hD.mono ?_
 rintro e w2 ⟨rfl,hS2⟩
 obtain ⟨w3,hw3⟩:∃ y,w2.alloc (.cells #[.slice none 0 0,.slice none 0 0,.slice none 0 0] 26)=y:=⟨_,rfl⟩
 have qp:=av hw3
 have hN3:aA w3 w2.heap.size:=by rw [←hw3];exact aA.new w2 _
 obtain ⟨w4,hw4⟩:∃ y,((w3.setCell ⟨w2.heap.size,0,none⟩ (.slice none 0 0)).setCell ⟨w2.heap.size,1,none⟩ (.slice none 0 0)).setCell ⟨w2.heap.size,2,none⟩ (.slice none 0 0)=y:=⟨_,rfl⟩
 have hS4:Since w2 w4:=by rw [←hw4];exact (dP w3 w2.heap.size _ _ _).aC qp (fun i hi e=>by omega)
 obtain ⟨_,r0,r1,r2,r3,r4,r5⟩:=hN3
 go_wp2_with (go_at_call 59;refine (iM w4).mono ?_;rintro e w8 ⟨rfl,hS8⟩)
 go_ret
 exact ⟨by simp,hSb.trans (hS2.trans (hS4.trans hS8))⟩
set_option maxHeartbeats 4000000 in
theorem BL (nodes:Nat) (a:Option Addr) (cap:Nat) (l:List Int) (ac:Option Addr) (fT:Nat) (acts:List Ac) (ac1:Ac) (cn:Int) (w:World) (hI:Ints w a l.length l) (hA:nA w ac acts.length acts) (hcn:I64 cn)
  (hn:nodes≤4) (hl:l.length≤3) (h1n:0 < nodes) (hN:dL (nodes:Int) l=0) (hm:acts.length≤80) :
  Calls Tryz.prog 16 #[.int .i64 nodes,.slice a l.length cap,.slice ac acts.length fT,acV ac1,.int .i64 cn] w fun e w'=>e=.returned (.bool true)∧Since w w':=by
 unfold acV
 obtain ⟨wb,hwb⟩:∃ y,w.alloc (.cells #[.int .i64 ac1.kind,.int .i64 ac1.one,.int .i64 ac1.two,.string ac1.body] 58)=y:=⟨_,rfl⟩
 have hSb:=av hwb
 have hAB:nM wb w.heap.size (.int .i64 ac1.kind) (.int .i64 ac1.one) (.int .i64 ac1.two) (.string ac1.body):=by rw [←hwb];exact N9 w _ _ _ _ _
 have AF:Hid (∀ y,Since wb y→nM y w.heap.size (.int .i64 ac1.kind) (.int .i64 ac1.one) (.int .i64 ac1.two) (.string ac1.body)):=fun y hy=>hAB.since hy
 have hD:=DJ nodes a cap l ac fT acts wb (hI.since hSb) (hA.since hSb) hn hl hN hm
 have HI:Hid (Inv (doneD nodes l acts)):=(pX hN acts).1
 have HLN:Hid ((doneD nodes l acts).nodes.length=nodes):=(tV hN acts).1
 obtain ⟨d,hd⟩:∃ d,doneD nodes l acts=d:=⟨_,rfl⟩
 rw [hd] at hD HI HLN
 have hV:=fun y=>uV cn nodes hcn h1n hn y
 have hkk:=nI cn h1n
 obtain ⟨k,hke⟩:∃ k,iV cn nodes=k:=⟨_,rfl⟩
 rw [hke] at hV hkk
 clear hN hd hke hI hA hAB
 go_enter Tryz.func16,Tryz.ntmps16
 go_wp2_with fail
 refine hD.mono ?_
 rintro e w1 ⟨⟨ga,gl,gc,na,nl,nc,wa,wl,wk⟩,rfl,hX1,hS1⟩
 dsimp only
 obtain ⟨w2,hw2⟩:∃ y,w1.alloc (.cells #[.slice ga gl gc,.slice na nl nc,.slice wa wl wk] 26)=y:=⟨_,rfl⟩
 have hS2:=av hw2
 have hP2:aG w2 w1.heap.size ⟨ga,gl,gc,na,nl,nc,wa,wl,wk⟩:=by rw [←hw2];exact aG.new w1 ⟨ga,gl,gc,na,nl,nc,wa,wl,wk⟩ _
 have hX2:=hX1.since hS2
 have PF:Hid (∀ y,Since w2 y→aG y w1.heap.size ⟨ga,gl,gc,na,nl,nc,wa,wl,wk⟩):=fun y hy=>hP2.since hy
 have h12:=hS1.trans hS2
 have p0:=hP2.c0
 have p1:=hP2.c1
 have p2:=hP2.c2
 dsimp only at p0 p1 p2
 obtain ⟨_,z0,z1,z2,z3,_⟩:=AF.out _ h12
 have hDo:=PD ⟨ga,gl,gc,na,nl,nc,wa,wl,wk⟩ d ac1 w2 hX2
 dsimp only [acV] at hDo
 obtain ⟨X,hX⟩:∃ y,doW d ac1=y:=⟨_,rfl⟩
 obtain ⟨E,hE⟩:∃ y,doE d ac1=y:=⟨_,rfl⟩
 rw [hX,hE] at hDo
 have HXE:Hid (doW d ac1=X∧doE d ac1=E):=⟨hX,hE⟩
 clear hX hE hwb
 go_wp2_with fail
 refine hDo.mono ?_
 rintro e w4 ⟨⟨xga,xgl,xgc,xna,xnl,xnc,xwa,xwl,xwc⟩,rfl,hX4,hS4⟩
 dsimp only at hX4 ⊢
 clear p0 p1 p2 hw2 hDo z0 z1 z2 z3
 obtain ⟨w5,hw5⟩:∃ y,w4.alloc (.cells #[.slice xga xgl xgc,.slice xna xnl xnc,.slice xwa xwl xwc] 26)=y:=⟨_,rfl⟩
 have hS5:=av hw5
 have hX5:=hX4.since hS5
 have hQ5:aG w5 w4.heap.size ⟨xga,xgl,xgc,xna,xnl,xnc,xwa,xwl,xwc⟩:=by rw [←hw5];exact aG.new w4 ⟨xga,xgl,xgc,xna,xnl,xnc,xwa,xwl,xwc⟩ _
 have QF:Hid (∀ y,Since w5 y→aG y w4.heap.size ⟨xga,xgl,xgc,xna,xnl,xnc,xwa,xwl,xwc⟩):=fun y hy=>hQ5.since hy
 have h25:=hS4.trans hS5
 have h15:=hSb.trans (h12.trans h25)
 by_cases hE0:E=0
 ·subst hE0
  have hdo:∃ d',doD d ac1=.ok d'∧X=d':=by
   obtain ⟨g1,g2⟩:=HXE.out
   unfold doE at g2
   unfold doW at g1
   cases hr:doD d ac1 with
   | error er=>rw [hr] at g2;exact absurd g2 (DC hr)
   | ok d'=>rw [hr] at g1;exact ⟨d',rfl,g1.symm⟩
  obtain ⟨d',hr,rfl⟩:=hdo
  have hG:=OO hr
  have HXN:Hid (X.nodes.length=nodes):=by unfold Hid;rw [hG.grow.alike.n];exact HLN.out
  have hxn:=hX5.n.hlen
  dsimp only at hxn
  have hxl:xnl=nodes:=by have:=HXN.out;omega
  subst hxl
  obtain ⟨x,hx⟩:=qD (d:=d) (k:=k) (by rw [HLN.out];exact hkk)
  obtain ⟨x',hx'⟩:=qD (d:=X) (k:=k) (by rw [HXN.out];exact hkk)
  obtain ⟨more,hmore⟩:=hG.grow.told k
  rw [mZ hx,mZ hx'] at hmore
  have hris:=hG.right.rM k
  rw [mZ hx'] at hris
  have hnl:=hX2.n.hlen
  dsimp only at hnl
  have PE:nl=xnl:=by have:=HLN.out;omega
  subst PE
  obtain ⟨bn,on,hne',hbn,hcn⟩:=hX2.n.cells (by dsimp only;omega)
  dsimp only at hne'
  subst hne'
  obtain ⟨_,_,_,⟨v3,k3,ta,tc,rfl,htc,hT⟩⟩:=hcn k x hx
  obtain ⟨bm,om,hxe,hbm,hcm⟩:=hX5.n.cells (by dsimp only;omega)
  dsimp only at hxe
  subst hxe
  obtain ⟨_,_,_,⟨v3',j3,ua,uc,rfl,huc,hU⟩⟩:=hcm k x' hx'
  have i1:(k:Int) < (nl:Int):=by omega
  have hTm:=hT.hmax
  have hUm:=hU.hmax
  have hle:x.told.length≤x'.told.length:=by rw [hmore,List.length_append];omega
  have HTK:Hid (x'.told.take x.told.length=x.told):=by unfold Hid;rw [hmore];simp
  have HRI:Hid (aJ x'.told=true):=hris
  have q0:=hQ5.c0
  have q1:=hQ5.c1
  have q2:=hQ5.c2
  dsimp only at q0 q1 q2
  have nn1:((nl:Int) != (nl:Int))=false:=by simp
  have TL:bn < w5.heap.size:=Nat.lt_of_lt_of_le hbn h25.size
  have k35:=(h25.cellAt hbn _).trans k3
  have pp1:=(PF.out _ h25).c1
  have hpl:=(PF.out _ h25).lt
  dsimp only at pp1
  have hql:=hQ5.lt
  clear hcn hcm hmore hris hx hx' hX4
  go_wp2_with (go_at_call 52;refine (hV w5).mono ?_;rintro e w' ⟨rfl,hw⟩;obtain rfl:=hw.symm)
  have hnE:Nonempty (Later w5):=⟨⟨w5,Since.refl w5⟩⟩
  have hg1:∀ z:Later w5,z.w.cell? ⟨w1.heap.size,1,none⟩=some (.slice (some ⟨bn,on,none⟩) nl nc):=fun z=>(z.cell hpl).trans pp1
  have hg2:∀ z:Later w5,z.w.cell? ⟨w4.heap.size,1,none⟩=some (.slice (some ⟨bm,om,none⟩) nl xnc):=fun z=>(z.cell hql).trans q1
  have hg3:∀ z:Later w5,z.w.cell? ⟨bn,on+k*4+3,none⟩=some (.slice ta x.told.length tc):=fun z=>(z.cell TL).trans k35
  have hg4:∀ z:Later w5,z.w.cell? ⟨bm,om+k*4+3,none⟩=some (.slice ua x'.told.length uc):=fun z=>(z.cell hbm).trans j3
  clear hw5
  refine au (by kernel_rfl) (by kernel_rfl) (Since.refl w5) ?_
  repeat (go_big_quiet_step (fail))
  refine wpQuiet_nil ?_
  intro w6 hS6
  have hT6:=(hT.since h25).since hS6
  have hU6:=hU.since hS6
  have b1:¬ (x'.told.length:Int) < (x.told.length:Int):=by omega
  have b2:(x.told.length:Int)≤(uc:Int):=by omega
  have QZ:dV w6 ua x.told.length x.told:=by
   refine ⟨rfl,by omega,fun hp=>?_⟩
   obtain ⟨b,off,e,hb,hc⟩:=hU6.cells (by omega)
   refine ⟨b,off,e,hb,fun j u hu=>hc j u ?_⟩
   have e2:flat x'.told=flat x.told++flat (x'.told.drop x.told.length):=by
    have h:=List.take_append_drop x.told.length x'.told
    rw [HTK.out] at h
    rw [←h]
    simp [flat]
   rw [e2,List.getElem?_append_left (List.getElem?_eq_some_iff.1 hu).1];exact hu
  have hSM:=fun (c:Nat)=>jG ua x.told.length c x.told ta x.told.length tc x.told w6 QZ hT6
  rw [jq] at hSM
  clear hg1 hg2 hg3 hg4 q0 q1 q2 pp1 k35 hT hU
  go_wp2_with fail
  refine (hSM uc).mono ?_
  rintro e w7 ⟨rfl,hS7⟩
  have hU7:=hU6.since hS7
  have h17:=h15.trans (hS6.trans hS7)
  clear hSM hU6 QZ hT6
  go_wp2_with fail
  go_loopw [18] (fun i wr=>(∃ j:Nat,1≤j∧(j≤x'.told.length∨j=1)∧i=.int .i64 j)∧Since w7 wr) (fun i _=>x'.told.length - (intOf i).toNat)
  case atStart=>exact ⟨⟨1,Nat.le_refl _,.inr rfl,rfl⟩,Since.refl w7⟩
  case round =>
   obtain ⟨wo,rfl⟩:∃ wo,wo=wr:=⟨_,rfl⟩
   obtain ⟨⟨j,hj1,hj2,rfl⟩,hSj⟩:=hrel
   by_cases hlt:j < x'.told.length
   ·obtain ⟨j0,hj0⟩:∃ j0,j=j0+1:=⟨j - 1,by omega⟩
    subst hj0
    obtain ⟨p,hp⟩:∃ p,x'.told[j0]? = some p:=⟨_,List.getElem?_eq_getElem (by omega)⟩
    obtain ⟨q,hq⟩:∃ q,x'.told[j0+1]? = some q:=⟨_,List.getElem?_eq_getElem hlt⟩
    have hless:=(iR _).1 HRI.out j0 p q hp hq
    rw [tH] at hless
    obtain ⟨bb,off,rfl,hbb,hcell⟩:=hU7.cells (by omega)
    obtain ⟨d0,d1,d2,d3,d4⟩:=aZ hcell j0 p hp
    obtain ⟨e0,e1,e2,e3,e4⟩:=aZ hcell (j0+1) q hq
    have n1:((j0+1:Nat):Int) < (x'.told.length:Int):=by omega
    have n2:wrap64 (((j0+1:Nat):Int) - 1)=(j0:Int):=by rw [IntWalk.wrap64_in _ (by omega)];omega
    have n3:(j0:Int) < (x'.told.length:Int):=by omega
    have Q0:Nonempty (Later w7):=⟨⟨w7,Since.refl w7⟩⟩
    have hg:∀ (z:Later w7) (o:Nat),z.w.cell? ⟨bb,o,none⟩=w7.cell? ⟨bb,o,none⟩:=fun z o=>z.cell hbb
    clear hcell hp hq
    by_cases hst:p.st < q.st
    ·have g1:decide (q.st < p.st)=false:=by rw [decide_eq_false_iff_not];omega
     have g2:(p.st == q.st)=false:=by rw [beq_eq_false_iff_ne];omega
     clear hless hst
     go_wp2_with fail
     obtain ⟨W0,hW0⟩:∃ y,wo.drew=y:=⟨_,rfl⟩
     have hs0:Since w7 W0:=by rw [←hW0];exact Since.drew hSj
     obtain ⟨S0,hS0⟩:∃ S0:World→Prop,∀ w',S0 w'↔Since w7 w':=⟨_,fun _=>Iff.rfl⟩
     have dA:=aR w
     have y0:∀ y:aj S0,y.w.cell? ⟨bb,off+j0*5,none⟩=some (.int .i64 p.fr):=fun y=>(((hS0 _).1 y.h).cellAt hbb _).trans d0
     have y2:∀ y:aj S0,y.w.cell? ⟨bb,off+j0*5+2,none⟩=some (.int .i64 p.st):=fun y=>(((hS0 _).1 y.h).cellAt hbb _).trans d2
     have y3:∀ y:aj S0,y.w.cell? ⟨bb,off+(j0+1)*5,none⟩=some (.int .i64 q.fr):=fun y=>(((hS0 _).1 y.h).cellAt hbb _).trans e0
     have y5:∀ y:aj S0,y.w.cell? ⟨bb,off+(j0+1)*5+2,none⟩=some (.int .i64 q.st):=fun y=>(((hS0 _).1 y.h).cellAt hbb _).trans e2
     have ak:=(hS0 W0).2 hs0
     have hne:Nonempty (aj S0):=⟨⟨_,ak⟩⟩
     clear hg Q0 d0 d1 d2 d3 d4 e0 e1 e2 e3 e4
     refine aU (fun w'=>∃ x:aj S0,w'=x.w) (by kernel_rfl) ?_
     rw [hW0]
     clear hW0
     refine tW 0 rfl ?_
     go_big_quiet_op
     refine tW 1 rfl ?_
     go_big_quiet_op
     refine tW 2 rfl ?_
     go_big_quiet_op
     refine tW 3 rfl ?_
     go_big_quiet_op
     refine tW 4 rfl ?_
     go_big_quiet_op
     refine tM 5 rfl (ah ak) ?_
     go_big_quiet_op
     refine tW 6 rfl ?_
     go_big_quiet_op
     refine tW 7 rfl ?_
     go_big_quiet_op
     refine tW 8 rfl ?_
     go_big_quiet_op
     refine tW 9 rfl ?_
     go_big_quiet_op
     refine tM 10 rfl (ah ak) ?_
     go_big_quiet_op
     refine tW 11 rfl ?_
     go_big_quiet_op
     refine tW 12 rfl ?_
     go_big_quiet_op
     refine tW 13 rfl ?_
     go_big_quiet_op
     refine tW 14 rfl ?_
     go_big_quiet_op
     refine tW 15 rfl ?_
     go_big_quiet_op
     refine tW 16 rfl ?_
     go_big_quiet_op
     refine tW 17 rfl ?_
     go_big_quiet_op
     refine tM 18 rfl (ah ak) ?_
     go_big_quiet_op
     refine tW 19 rfl ?_
     go_big_quiet_op
     refine tW 20 rfl ?_
     go_big_quiet_op
     refine tW 21 rfl ?_
     go_big_quiet_op
     refine tW 22 rfl ?_
     go_big_quiet_op
     refine tM 23 rfl (ah ak) ?_
     go_big_quiet_op
     refine tW 24 rfl ?_
     go_big_quiet_op
     refine tW 25 rfl ?_
     go_big_quiet_op
     refine eB 26 rfl (by kernel_rfl) (fun _=>ah ak) (fun _ _ _ _ h=>h) (by rfl) ?_
     simp only [Act.put,List.setIfInBounds_toArray,List.set_cons_zero,List.set_cons_succ]
     refine eB 27 rfl (by kernel_rfl) (fun _=>ah ak) (fun _ _ _ _ h=>h) (by rfl) ?_
     simp only [Act.put,List.setIfInBounds_toArray,List.set_cons_zero,List.set_cons_succ]
     refine eB 28 rfl (by kernel_rfl) (fun _=>ah ak) (fun _ _ _ _ h=>h) (by rfl) ?_
     simp only [Act.put,List.setIfInBounds_toArray,List.set_cons_zero,List.set_cons_succ]
     refine eB 29 rfl (by kernel_rfl) (fun _=>ah ak) (fun _ _ _ _ h=>h) (by rfl) ?_
     simp only [Act.put,List.setIfInBounds_toArray,List.set_cons_zero,List.set_cons_succ]
     refine eB 30 rfl (by kernel_rfl) (fun _=>ah ak) (fun _ _ _ _ h=>h) (by rfl) ?_
     simp only [Act.put,List.setIfInBounds_toArray,List.set_cons_zero,List.set_cons_succ]
     refine eB 31 rfl (by kernel_rfl) (fun _=>ah ak) (fun _ _ _ _ h=>h) (by rfl) ?_
     simp only [Act.put,List.setIfInBounds_toArray,List.set_cons_zero,List.set_cons_succ]
     refine eB 32 rfl (by kernel_rfl) (fun _=>ah ak) (fun _ _ _ _ h=>h) (by rfl) ?_
     simp only [Act.put,List.setIfInBounds_toArray,List.set_cons_zero,List.set_cons_succ]
     refine eB 33 rfl (by kernel_rfl) (fun _=>ah ak) (fun _ _ _ _ h=>h) (by rfl) ?_
     simp only [Act.put,List.setIfInBounds_toArray,List.set_cons_zero,List.set_cons_succ]
     refine eB 34 rfl (by kernel_rfl) (fun _=>ah ak) (fun _ _ _ _ h=>h) (by rfl) ?_
     simp only [Act.put,List.setIfInBounds_toArray,List.set_cons_zero,List.set_cons_succ]
     refine eB 35 rfl (by kernel_rfl) (fun _=>ah ak) (fun _ _ _ _ h=>h) (by rfl) ?_
     simp only [Act.put,List.setIfInBounds_toArray,List.set_cons_zero,List.set_cons_succ]
     refine eB 36 rfl (by kernel_rfl) (fun _=>ah ak) (fun _ _ _ _ h=>h) (by rfl) ?_
     simp only [Act.put,List.setIfInBounds_toArray,List.set_cons_zero,List.set_cons_succ]
     refine eB 37 rfl (by kernel_rfl) (fun _=>ah ak) (fun _ _ _ _ h=>h) (by rfl) ?_
     simp only [Act.put,List.setIfInBounds_toArray,List.set_cons_zero,List.set_cons_succ]
     refine tW 38 rfl ?_
     go_big_quiet_op
     refine tW 39 rfl ?_
     go_big_quiet_op
     refine dG (by kernel_rfl) ?_
     clear y0 y2 y3 y5 hne dA
     go_wp2_with fail
     go_roundw
     case rel=>exact ⟨⟨j0+1+1,by omega,.inl (by omega),by go_num⟩,hs0⟩
     case measure=>simp [intOf];omega
    ·have hs2:p.st=q.st∧p.fr < q.fr:=by omega
     have g1:decide (q.st < p.st)=false:=by rw [decide_eq_false_iff_not];omega
     have g2:(p.st == q.st)=true:=by rw [beq_iff_eq];exact hs2.1
     have g3:decide (q.fr≤p.fr)=false:=by rw [decide_eq_false_iff_not];omega
     clear hless hst hs2
     go_wp2_with fail
     obtain ⟨W0,hW0⟩:∃ y,wo.drew=y:=⟨_,rfl⟩
     have hs0:Since w7 W0:=by rw [←hW0];exact Since.drew hSj
     obtain ⟨S0,hS0⟩:∃ S0:World→Prop,∀ w',S0 w'↔Since w7 w':=⟨_,fun _=>Iff.rfl⟩
     have dA:=aR w
     have y0:∀ y:aj S0,y.w.cell? ⟨bb,off+j0*5,none⟩=some (.int .i64 p.fr):=fun y=>(((hS0 _).1 y.h).cellAt hbb _).trans d0
     have y2:∀ y:aj S0,y.w.cell? ⟨bb,off+j0*5+2,none⟩=some (.int .i64 p.st):=fun y=>(((hS0 _).1 y.h).cellAt hbb _).trans d2
     have y3:∀ y:aj S0,y.w.cell? ⟨bb,off+(j0+1)*5,none⟩=some (.int .i64 q.fr):=fun y=>(((hS0 _).1 y.h).cellAt hbb _).trans e0
     have y5:∀ y:aj S0,y.w.cell? ⟨bb,off+(j0+1)*5+2,none⟩=some (.int .i64 q.st):=fun y=>(((hS0 _).1 y.h).cellAt hbb _).trans e2
     have ak:=(hS0 W0).2 hs0
     have hne:Nonempty (aj S0):=⟨⟨_,ak⟩⟩
     clear hg Q0 d0 d1 d2 d3 d4 e0 e1 e2 e3 e4
     refine aU (fun w'=>∃ x:aj S0,w'=x.w) (by kernel_rfl) ?_
     rw [hW0]
     clear hW0
     refine tW 0 rfl ?_
     go_big_quiet_op
     refine tW 1 rfl ?_
     go_big_quiet_op
     refine tW 2 rfl ?_
     go_big_quiet_op
     refine tW 3 rfl ?_
     go_big_quiet_op
     refine tW 4 rfl ?_
     go_big_quiet_op
     refine tM 5 rfl (ah ak) ?_
     go_big_quiet_op
     refine tW 6 rfl ?_
     go_big_quiet_op
     refine tW 7 rfl ?_
     go_big_quiet_op
     refine tW 8 rfl ?_
     go_big_quiet_op
     refine tW 9 rfl ?_
     go_big_quiet_op
     refine tM 10 rfl (ah ak) ?_
     go_big_quiet_op
     refine tW 11 rfl ?_
     go_big_quiet_op
     refine tW 12 rfl ?_
     go_big_quiet_op
     refine tW 13 rfl ?_
     go_big_quiet_op
     refine tW 14 rfl ?_
     go_big_quiet_op
     refine tW 15 rfl ?_
     go_big_quiet_op
     refine tW 16 rfl ?_
     go_big_quiet_op
     refine tW 17 rfl ?_
     go_big_quiet_op
     refine tM 18 rfl (ah ak) ?_
     go_big_quiet_op
     refine tW 19 rfl ?_
     go_big_quiet_op
     refine tW 20 rfl ?_
     go_big_quiet_op
     refine tW 21 rfl ?_
     go_big_quiet_op
     refine tW 22 rfl ?_
     go_big_quiet_op
     refine tM 23 rfl (ah ak) ?_
     go_big_quiet_op
     refine tW 24 rfl ?_
     go_big_quiet_op
     refine tW 25 rfl ?_
     go_big_quiet_op
     refine tW 26 rfl ?_
     go_big_quiet_op
     refine tW 27 rfl ?_
     go_big_quiet_op
     refine tW 28 rfl ?_
     go_big_quiet_op
     refine tW 29 rfl ?_
     go_big_quiet_op
     refine tW 30 rfl ?_
     go_big_quiet_op
     refine tM 31 rfl (ah ak) ?_
     go_big_quiet_op
     refine tW 32 rfl ?_
     go_big_quiet_op
     refine tW 33 rfl ?_
     go_big_quiet_op
     refine tW 34 rfl ?_
     go_big_quiet_op
     refine tW 35 rfl ?_
     go_big_quiet_op
     refine tM 36 rfl (ah ak) ?_
     go_big_quiet_op
     refine tW 37 rfl ?_
     go_big_quiet_op
     refine tW 38 rfl ?_
     go_big_quiet_op
     refine tW 39 rfl ?_
     go_big_quiet_op
     refine dG (by kernel_rfl) ?_
     clear y0 y2 y3 y5 hne dA
     go_wp2_with fail
     go_roundw
     case rel=>exact ⟨⟨j0+1+1,by omega,.inl (by omega),by go_num⟩,hs0⟩
     case measure=>simp [intOf];omega
   ·have n1:¬ (j:Int) < (x'.told.length:Int):=by omega
    clear hU7
    go_wp2_with (go_at_call 59;refine (iM wo).mono ?_;rintro e w8 ⟨rfl,hS8⟩)
    go_ret
    exact ⟨rfl,h17.trans (hSj.trans hS8)⟩
 ·have hEb:(E != 0)=true:=by simpa using hE0
  clear hE0 hX4 hX5 hQ5
  go_wp2_with (go_at_call 59;refine (iM w5).mono ?_;rintro e w8 ⟨rfl,hS8⟩)
  go_ret
  exact ⟨rfl,h15.trans hS8⟩
theorem vY (nodes:Int) (a:Option Addr) (len cap:Nat) (l:List Int) (ac:Option Addr) (ji fT:Nat) (acts:List Ac) (ac1:Ac) (cn:Int) (w:World) (hI:Ints w a len l) (hA:nA w ac ji acts) (hcn:I64 cn) :
  Calls Tryz.prog 16 #[.int .i64 nodes,.slice a len cap,.slice ac ji fT,acV ac1,.int .i64 cn] w fun e w'=>e=.returned (.bool true)∧Since w w':=by
 have hl:=hI.hlen
 have ha:=hA.hlen
 by_cases hE:dL nodes l=0
 ·by_cases hm:80 < ji
  ·exact uH nodes a len cap l ac ji fT acts ac1 cn w hI hA (.inr hm)
  ·obtain ⟨h1,h2,h3,h4⟩:=lN hE
   obtain ⟨k,rfl⟩:∃ k:Nat,nodes=(k:Int):=⟨nodes.toNat,by omega⟩
   subst hl ha
   exact BL k a cap l ac fT acts ac1 cn w hI hA hcn (by omega) h4 (by omega) hE (by omega)
 ·exact uH nodes a len cap l ac ji fT acts ac1 cn w hI hA (.inl hE)
end Go.Proofs.YtiiifecfdkjmbaaGreat
namespace Go.Proofs.YtiiifecfdkjmbaaGreat.agreeGrows
set_option maxRecDepth 8000
open Go.ChangeShapes Go.WideShapes Go.ChangeAt Go.RowKit
set_option linter.unusedVariables false
set_option maxRecDepth 100000 in
theorem lifted (os:Os) (started:os.Started) (H:Type) (enc:TypeId × Value→H) :
  ReturnsInHanded {} Tryz.checked os 16 .any (Rows.agreeGrowsSpec.pre6 enc Tryz.prog Tryz.f16 Rows.agreeGrowsRow.domain false) (Rows.agreeGrowsSpec.post enc Tryz.prog Tryz.f16 false true false false):=by
 refine returnsInHanded_of_change_sized (C:=Tryz.checked) own started (by kernel_rfl) Tryz.func16
  (ChangeSpec.witness6 (enc:=enc) (C:=Tryz.checked) false ⟨#[],#[.int .i64 0,.slice none 0 0,.slice none 0 0,.agg #[.int .i64 0,.int .i64 0,.int .i64 0,.string ByteArray.empty],.int .i64 0],[]⟩ 8 (by kernel_rfl) (by kernel_rfl) (by kernel_rfl) (by kernel_rfl)) ?_
 intro W base args ds gs before hval0 hW hcnd hsz0 _
 have hval:∀ (j:Nat) t v,Tryz.f16.params[j]? = some t→args[j]? = some v→Value.okWide Tryz.prog W .any base t v:=hval0
 have hsz:(DataW.weightsEach Tryz.prog (Tryz.f16.params.toList++Rows.agreeGrowsSpec.plain.varTypes Tryz.prog) (ds++gs)).all (·≤reachBytes)=true:=hsz0
 have hW':=hW
 obtain ⟨p,q,hA0,hV,rfl,hfz,hnd⟩:=hW
 have hA:DataW.TrodAll enc Tryz.prog W 0 (fun _=>true) true Tryz.f16.params.toList args.toList ds p:=hA0
 rw [Tryz.params16] at hA hval hsz
 obtain ⟨v0,vs0,d0,ds0,p0,q0,hargs,rfl,rfl,h0,r0⟩:=trodAll_cons hA
 obtain ⟨v1,vs1,d1,ds1,p1,q1,rfl,rfl,rfl,h1,r1⟩:=trodAll_cons r0
 obtain ⟨v2,vs2,d2,ds2,p2,q2,rfl,rfl,rfl,h2,r2⟩:=trodAll_cons r1
 obtain ⟨v3,vs3,d3,ds3,p3,q3,rfl,rfl,rfl,h3,r3⟩:=trodAll_cons r2
 obtain ⟨v4,vs4,d4,ds4,p4,q4,rfl,rfl,rfl,h4,r4⟩:=trodAll_cons r3
 obtain ⟨rfl,rfl,rfl⟩:=trodAll_nil r4
 obtain rfl:args=#[v0,v1,v2,v3,v4]:=by cases args;simp_all
 obtain ⟨rfl,rfl⟩:=trodVars_none hV
 obtain ⟨a0,rfl,rfl,rfl,w0⟩:=open_int Tryz.underlying3 (hval 0 3 v0 rfl rfl) h0
 obtain ⟨a1,len1,LU,rfl⟩:=okWide_slice Tryz.underlying22 (hval 1 22 v1 rfl rfl)
 have lt1:∀ x∈p1,x.block < W.heap.size:=by obtain ⟨m,hm⟩:=h1;exact DataW.trod_lt m _ _ _ hm
 obtain ⟨z1,w1⟩:=qx h1 (fun el sp e=>by have:=sized_slice hsz (j:=1) (t:=22) (e:=3) rfl (by rw [e];rfl) Tryz.underlying22;rwa [zG] at this)
 obtain ⟨a2,len2,cap2,rfl⟩:=okWide_slice Tryz.underlying50 (hval 2 50 v2 rfl rfl)
 have lt2:∀ x∈p2,x.block < W.heap.size:=by obtain ⟨m,hm⟩:=h2;exact DataW.trod_lt m _ _ _ hm
 obtain ⟨z2,w2,c2⟩:=qm h2 (fun el sp e=>by have:=sized_slice hsz (j:=2) (t:=50) (e:=58) rfl (by rw [e];rfl) Tryz.underlying50;rwa [zi] at this)
 obtain ⟨m3,rfl⟩:=EG (hval 3 58 v3 rfl rfl) h3
 have lt3:∀ x∈p3,x.block < W.heap.size:=by obtain ⟨m,hm⟩:=h3;exact DataW.trod_lt m _ _ _ hm
 obtain ⟨a4,rfl,rfl,rfl,w4⟩:=open_int Tryz.underlying3 (hval 4 3 v4 rfl rfl) h4
 clear hA0 hval0
 refine (vY a0 a1 len1 LU z1 a2 len2 cap2 z2 m3 a4 W w1 w2 (G7 w4)).mono fun e W' ⟨he,LV⟩=>?_
 have bel:=LV.below
 subst he
 exact ⟨_,rfl,_,_,_,[],_,[],hW',trodAll_mk1 (shut_bool Tryz.underlying4 _),(trodAll_cons_mk (shut_int Tryz.underlying3 w0) (trodAll_cons_mk (Below.trod laidOut (by kernel_rfl) (of_decide_eq_true (by kernel_rfl)) h1 bel lt1) (trodAll_cons_mk (Below.trod laidOut (by kernel_rfl) (of_decide_eq_true (by kernel_rfl)) h2 bel lt2) (trodAll_cons_mk (Below.trod laidOut (by kernel_rfl) (of_decide_eq_true (by kernel_rfl)) h3 bel lt3) (trodAll_cons_mk (shut_int Tryz.underlying3 w4) trodAll_mk0))))),rfl,bel.frame _,fun h=>by cases h⟩
theorem facts:joinedFacts Tryz.prog 16 Tryz.f16 Rows.agreeGrowsSpec Rows.agreeGrowsRow=true:=by
 delta joinedFacts
 rw [LW,Du,G8]
 kernel_rfl
theorem over:Rows.agreeGrowsRow.holds Tryz.pinned (OpenSpec.ofChange Rows.agreeGrowsSpec) :=
 OpenClaim.holds_of_wide 16 Tryz.f16 rfl rfl rfl rfl rfl rfl rfl ⟨rfl,rfl,rfl,rfl,rfl⟩ rfl rfl rfl rfl rfl (by kernel_rfl) Tryz.func16 facts
  (of_decide_eq_true (by kernel_rfl)) (by unfold Func.isWrapper;first | (rw [if_pos (by decide +kernel)];kernel_rfl) | (rw [if_neg (by decide +kernel)];exact ⟨rfl,rfl⟩))
  (fun os started H enc _=>lifted os started H enc)
end Go.Proofs.YtiiifecfdkjmbaaGreat.agreeGrows
namespace Go.Proofs.YtiiifecfdkjmbaaGreat
set_option maxRecDepth 8000
theorem agreeGrows_holds:Rows.AgreeGrowsSaid:=agreeGrows.over
#print axioms agreeGrows_holds
end Go.Proofs.YtiiifecfdkjmbaaGreat
