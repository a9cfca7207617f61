/- The law CalmAll answers true; conditions: the groups read as ints, the acts as acts. For every argument furlonglaw.CalmAll returns true, and what it was handed reads as before: in a calm world each message was told to all members of its group, once, and to nobody else. No condition. -/
import Derived.Test.YtiiifecfdkjmbaaGreatBLCalm
import Derived.Test.YtiiifecfdkjmbaaGreatBAgX
import Derived.Test.YtiiifecfdkjmbaaGreatBOpenX
namespace Go.Proofs.YtiiifecfdkjmbaaGreat
set_option maxRecDepth 8000
open Go.RowKit Go.Shelf
open _root_.Go.Proofs.YtiiifecfdkjmbaaGreat.Pure
set_option linter.unusedVariables false
set_option linter.unusedSimpArgs false
set_option maxHeartbeats 1000000 in
theorem zW (nodes:Int) (a:Option Addr) (len cap:Nat) (l:List Int) (ac:Option Addr) (ji fT:Nat) (acts:List Ac)  (w:World) (hI:Ints w a len l) (hA:nA w ac ji acts) (hN:¬ dL nodes l=0∨80 < ji) :
  Calls Tryz.prog 11 #[.int .i64 nodes,.slice a len cap,.slice ac ji fT] w fun e w'=>e=.returned (.bool true)∧Since w w':=by
 obtain ⟨wb,hwb⟩:∃ y,y=w:=⟨_,rfl⟩
 have hSb:Since w wb:=by rw [hwb];exact Since.refl _
 subst hwb
 have hD:=DL nodes a len cap l ac ji fT acts wb (hI.since hSb) (hA.since hSb) hN
 clear hN
 go_enter Tryz.func11,Tryz.ntmps11
 go_wp2_with fail
 refine hD.mono ?_
 rintro e w2 ⟨rfl,hS2⟩
 obtain ⟨w3,hw3⟩:∃ y,w2.alloc (.cells #[.slice none 0 0,.slice none 0 0,.slice none 0 0] 26)=y:=⟨_,rfl⟩
 have qp:=av hw3
 have hN3:aA w3 w2.heap.size:=by rw [←hw3];exact aA.new w2 _
 obtain ⟨w4,hw4⟩:∃ y,((w3.setCell ⟨w2.heap.size,0,none⟩ (.slice none 0 0)).setCell ⟨w2.heap.size,1,none⟩ (.slice none 0 0)).setCell ⟨w2.heap.size,2,none⟩ (.slice none 0 0)=y:=⟨_,rfl⟩
 have hS4:Since w2 w4:=by rw [←hw4];exact (dP w3 w2.heap.size _ _ _).aC qp (fun i hi e=>by omega)
 obtain ⟨_,r0,r1,r2,r3,r4,r5⟩:=hN3
 go_wp2_with (go_at_call 45;refine (oV w4).mono ?_;rintro e w8 ⟨rfl,hS8⟩)
 go_ret
 exact ⟨by simp,hSb.trans (hS2.trans (hS4.trans hS8))⟩
def Cy (d:Wd):Int:=match checked d (ig d) with | .error e=>e | .ok _=>0
def Cz (d:Wd):Wd:=match checked d (ig d) with | .error _=>⟨[],[],[]⟩ | .ok d'=>d'
theorem Ms (w:World):WAt w ⟨none,0,0,none,0,0,none,0,0⟩ ⟨[],[],[]⟩ :=
 ⟨⟨rfl,by simp,fun h=>absurd h (by simp)⟩,Nat.le_refl _,⟨rfl,by simp,fun h=>absurd h (by simp)⟩,Nat.le_refl _,⟨rfl,by simp,fun h=>absurd h (by simp)⟩,Nat.le_refl _⟩
theorem Mt (x:WV) (d:Wd) (w:World) (hW:WAt w x d) :
  Calls Tryz.prog 46 #[.agg #[.slice x.ga x.gl x.gc,.slice x.na x.nl x.nc,.slice x.wa x.wl x.wc]] w fun e w'=>∃ v:WV,e=.returned (.tuple #[.agg #[.slice v.ga v.gl v.gc,.slice v.na v.nl v.nc,.slice v.wa v.wl v.wc],.int .i64 (Cy d)])∧WAt w' v (Cz d)∧Since w w':=by
 refine (mU x d w hW).mono ?_
 intro e w' h
 unfold Cy Cz
 cases hr:checked d (ig d) with
 | error er =>
  rw [hr] at h
  obtain ⟨he,hS⟩:=h.out.1 er rfl
  exact ⟨⟨none,0,0,none,0,0,none,0,0⟩,he,Ms w',hS⟩
 | ok d' =>
  rw [hr] at h
  obtain ⟨v,he,hv,hS⟩:=zT h
  exact ⟨v,he,hv,hS⟩
theorem H9 (m x:Mg) (l:List Mg):iW m (l++[x])=iW m l+(if bP x m then 1 else 0):=by
 unfold iW
 rw [List.countP_append]
 simp [List.countP_cons]
set_option maxHeartbeats 4000000 in
theorem Ia (nodes:Nat) (a:Option Addr) (cap:Nat) (l:List Int) (ac:Option Addr) (fT:Nat) (acts:List Ac) (w:World) (hI:Ints w a l.length l) (hA:nA w ac acts.length acts)
  (hn:nodes≤4) (hl:l.length≤3) (h1n:0 < nodes) (hN:dL (nodes:Int) l=0) (hm:acts.length≤80) :
  Calls Tryz.prog 11 #[.int .i64 nodes,.slice a l.length cap,.slice ac acts.length fT] w fun e w'=>e=.returned (.bool true)∧Since w w':=by
 have hD:=DJ nodes a cap l ac fT acts w hI hA hn hl hN hm
 have HI:Hid (Inv (doneD nodes l acts)):=(pX hN acts).1
 have HLN:Hid ((doneD nodes l acts).nodes.length=nodes∧(doneD nodes l acts).groups=l):=tV hN acts
 have HCE:Hid (∀ e,ig (doneD nodes l acts)=.error e→e=2):=fun e he=>Kr hN acts hm he
 obtain ⟨d,hd⟩:∃ d,doneD nodes l acts=d:=⟨_,rfl⟩
 rw [hd] at hD HI HLN HCE
 have IF:Hid (∀ y,Since w y→Ints y a l.length l):=fun y hy=>hI.since hy
 clear hN hd
 go_enter Tryz.func11,Tryz.ntmps11
 go_wp2_with fail
 refine hD.mono ?_
 rintro e w1 ⟨⟨ga,gl,gc,na,nl,nc,wa,wl,wk⟩,rfl,hX1,hS1⟩
 dsimp only
 obtain ⟨w2,hw2⟩:∃ y,w1.alloc (.cells #[.slice ga gl gc,.slice na nl nc,.slice wa wl wk] 26)=y:=⟨_,rfl⟩
 have hS2:=av hw2
 have hP2:aG w2 w1.heap.size ⟨ga,gl,gc,na,nl,nc,wa,wl,wk⟩:=by rw [←hw2];exact aG.new w1 ⟨ga,gl,gc,na,nl,nc,wa,wl,wk⟩ _
 have hX2:=hX1.since hS2
 have p0:=hP2.c0
 have p1:=hP2.c1
 have p2:=hP2.c2
 dsimp only at p0 p1 p2
 have hCC:=Mt ⟨ga,gl,gc,na,nl,nc,wa,wl,wk⟩ d w2 hX2
 dsimp only at hCC
 have hck:checked d (ig d)=ig d:=by unfold checked;rw [if_pos ((bQ d).2 HI.out.right)]
 have HC0:Hid (Cy d=(match ig d with | .error e=>e | .ok _=>0)∧Cz d=(match ig d with | .error _=>⟨[],[],[]⟩ | .ok d'=>d')):=by
  unfold Cy Cz;rw [hck];exact ⟨rfl,rfl⟩
 clear hck
 obtain ⟨X,hX⟩:∃ y,Cz d=y:=⟨_,rfl⟩
 obtain ⟨E,hE⟩:∃ y,Cy d=y:=⟨_,rfl⟩
 rw [hX,hE] at hCC
 have HXE:Hid (Cz d=X∧Cy d=E):=⟨hX,hE⟩
 clear hX hE
 have h12:=hS1.trans hS2
 go_wp2_with fail
 refine hCC.mono ?_
 rintro e w4 ⟨⟨xga,xgl,xgc,xna,xnl,xnc,xwa,xwl,xwc⟩,rfl,hX4,hS4⟩
 dsimp only at hX4 ⊢
 clear p0 p1 p2 hw2 hCC
 obtain ⟨w5,hw5⟩:∃ y,w4.alloc (.cells #[.slice xga xgl xgc,.slice xna xnl xnc,.slice xwa xwl xwc] 26)=y:=⟨_,rfl⟩
 have hS5:=av hw5
 have hX5:=hX4.since hS5
 have hQ5:aG w5 w4.heap.size ⟨xga,xgl,xgc,xna,xnl,xnc,xwa,xwl,xwc⟩:=by rw [←hw5];exact aG.new w4 ⟨xga,xgl,xgc,xna,xnl,xnc,xwa,xwl,xwc⟩ _
 have QF:Hid (∀ y,Since w5 y→aG y w4.heap.size ⟨xga,xgl,xgc,xna,xnl,xnc,xwa,xwl,xwc⟩):=fun y hy=>hQ5.since hy
 have q0:=hQ5.c0
 have q1:=hQ5.c1
 have q2:=hQ5.c2
 dsimp only at q0 q1 q2
 have h15:=h12.trans (hS4.trans hS5)
 have hAl:=xR ⟨xga,xgl,xgc,xna,xnl,xnc,xwa,xwl,xwc⟩ X w5 hX5
 dsimp only at hAl
 obtain ⟨A,hAe⟩:∃ y,q8 X=y:=⟨_,rfl⟩
 obtain ⟨FE,hFe⟩:∃ y,uS X=y:=⟨_,rfl⟩
 rw [hAe,hFe] at hAl
 have HAF:Hid (q8 X=A∧uS X=FE):=⟨hAe,hFe⟩
 clear hAe hFe hX4
 go_wp2_with fail
 refine hAl.mono ?_
 rintro e w6 ⟨sa,sc,rfl,hM6,hS6⟩
 have h16:=h15.trans hS6
 clear hw5 q0 q1 q2 hAl
 cases hr:ig d with
 | error er =>
  have hE2:E=2:=by
   have h1:=HC0.out.1
   rw [hr] at h1
   rw [←HXE.out.2,h1];exact HCE.out er hr
  subst hE2
  clear hr hM6
  go_wp2_with (go_at_call 45;refine (oV w6).mono ?_;rintro e w8 ⟨rfl,hS8⟩)
  go_ret
  exact ⟨by simp,h16.trans hS8⟩
 | ok d' =>
  have hE2:E=0:=by
   have h1:=HC0.out.1
   rw [hr] at h1
   rw [←HXE.out.2,h1]
  have Ib:X=d':=by
   have h1:=HC0.out.2
   rw [hr] at h1
   rw [←HXE.out.1,h1]
  subst hE2 Ib
  have HC:Hid (Mv d X):=DN HI.out.right hr
  have Ix:=HC.out.inv HI.out
  obtain ⟨al,hal⟩:=Jr Ix
  have hwe:aH X=0:=(bQ X).2 HC.out.right
  have hA2:A=al∧FE=0:=by
   obtain ⟨g1,g2⟩:=HAF.out
   unfold q8 at g1
   unfold uS at g2
   rw [if_pos hwe,hal] at g1 g2
   exact ⟨g1.symm,g2.symm⟩
  obtain ⟨rfl,rfl⟩:=hA2
  have HKEY:Hid (∀ (m:Mg) (n:Nat),m∈A→n < nodes→iW m (aQ X n)≤1∧(iW m (aQ X n)=1↔hasB l m.gr n=true)):=fun m n h1 h2=>by
   have:=Mw HI.out hr hal h1 (n:=n) (by rw [HLN.out.1];exact h2)
   rwa [HLN.out.2] at this
  have HXN:Hid (X.nodes.length=nodes):=by unfold Hid;rw [HC.out.grow.alike.n];exact HLN.out.1
  have hxn:=hX5.n.hlen
  dsimp only at hxn
  have hxl:xnl=nodes:=by have:=HXN.out;omega
  subst hxl
  obtain ⟨bm,om,hxe,hbm,hcm⟩:=hX5.n.cells (by dsimp only;omega)
  dsimp only at hxe
  subst hxe
  have HCM:Hid (∀ i x,X.nodes[i]? = some x→zX w5 bm (om+i*4) x):=hcm
  have hAm:=hM6.hmax
  have Rf:bm < w6.heap.size:=Nat.lt_of_lt_of_le hbm hS6.size
  have hq6:=(QF.out _ hS6).lt
  have QC:Hid (∀ y,Since w6 y→y.cell? ⟨w4.heap.size,1,none⟩=some (.slice (some ⟨bm,om,none⟩) xnl xnc)):=fun y hy=>(QF.out y (hS6.trans hy)).c1
  have nn1:((xnl:Int) != (xnl:Int))=false:=by simp
  have r1:=QC.out w6 (Since.refl _)
  clear hcm hxn hr hal hwe Ix hX5 hQ5
  go_wp2_with fail
  clear r1 nn1
  go_loopw [13] (fun i wr=>(∃ k:Nat,k≤A.length∧i=.int .i64 k)∧Since w6 wr) (fun i _=>A.length - (intOf i).toNat)
  case atStart=>exact ⟨⟨0,Nat.zero_le _,rfl⟩,Since.refl _⟩
  case round =>
   obtain ⟨wo,rfl⟩:∃ wo,wo=wr:=⟨_,rfl⟩
   obtain ⟨⟨k,hk,rfl⟩,hSk⟩:=hrel
   by_cases hlt:k < A.length
   ·obtain ⟨m,hmk⟩:∃ m,A[k]? = some m:=⟨_,List.getElem?_eq_getElem hlt⟩
    have HMM:Hid (m∈A):=List.mem_of_getElem? hmk
    obtain ⟨bA,oA,rfl,hbA,hcA⟩:=hM6.cells (by omega)
    have Rh:=aZ hcA k m hmk
    have k1:(k:Int) < (A.length:Int):=by omega
    clear hcA hmk
    go_wp2_with fail
    go_loopw [14] (fun i wr=>(∃ n:Nat,n≤xnl∧i=.int .i64 n)∧Since w6 wr) (fun i _=>xnl - (intOf i).toNat)
    case atStart=>exact ⟨⟨0,Nat.zero_le _,rfl⟩,hSk⟩
    case round =>
     obtain ⟨wp,rfl⟩:∃ wo,wo=wr:=⟨_,rfl⟩
     obtain ⟨⟨n,hnn,rfl⟩,hSn⟩:=hrel
     by_cases hln:n < xnl
     ·obtain ⟨x,hx⟩:=qD (d:=X) (k:=n) (by rw [HXN.out];exact hln)
      obtain ⟨_,_,_,⟨v3,k3,ta,tc,rfl,htc,hT⟩⟩:=HCM.out n x hx
      have n1:(n:Int) < (xnl:Int):=by omega
      have HKN:Hid (iW m x.told≤1∧(iW m x.told=1↔hasB l m.gr n=true)):=by
       have:=HKEY.out m n HMM.out hln
       rwa [mZ hx] at this
      have k3':=(hS6.cellAt hbm _).trans k3
      have hT6:=hT.since hS6
      have hTm:=hT.hmax
      have HTL:Hid (x.told.length≤40):=by
       have:=HC.out.right.vW n
       rwa [mZ hx] at this
      clear hx hT k3
      go_wp2_with fail
      go_loopw [15,16] (fun c i wr=>(∃ t q:Nat,t≤x.told.length∧i=.int .i64 t∧c=.int .i64 q∧q=iW m (x.told.take t))∧Since w6 wr) (fun _ i _=>x.told.length - (intOf i).toNat)
      case atStart=>exact ⟨⟨0,0,Nat.zero_le _,rfl,rfl,rfl⟩,hSn⟩
      case round =>
       obtain ⟨wq,rfl⟩:∃ wo,wo=wr:=⟨_,rfl⟩
       obtain ⟨⟨t,q,ht,rfl,rfl,hq⟩,hSt⟩:=hrel
       have HQ:Hid (q=iW m (x.told.take t)):=hq
       have Ve:q≤40:=by
        have h1:q≤(x.told.take t).length:=by rw [hq];exact List.countP_le_length
        rw [List.length_take] at h1
        have:=HTL.out
        omega
       have c1:=QC.out wq hSt
       have t3:=(hSt.cellAt Rf _).trans k3'
       clear hq
       by_cases hlt2:t < x.told.length
       ·obtain ⟨y,hy⟩:∃ y,x.told[t]? = some y:=⟨_,List.getElem?_eq_getElem hlt2⟩
        obtain ⟨bT,oT,rfl,hbT,hcT⟩:=hT6.cells (by omega)
        have TM:=aZ hcT t y hy
        have t1:(t:Int) < (x.told.length:Int):=by omega
        have HCN:Hid (iW m (x.told.take (t+1))=q+(if bP y m then 1 else 0)):=by
         unfold Hid;rw [List.take_add_one,hy]
         show iW m (x.told.take t++[y])=_
         rw [H9,←HQ.out]
        obtain ⟨y0,y1,y2,y3,y4⟩:=TM
        obtain ⟨m0,m1,m2,m3,m4⟩:=Rh
        have hnE:Nonempty (Later w6):=⟨⟨w6,Since.refl w6⟩⟩
        have hg1:∀ z:Later w6,z.w.cell? ⟨w4.heap.size,1,none⟩=some (.slice (some ⟨bm,om,none⟩) xnl xnc):=fun z=>QC.out z.w z.h
        have hg2:∀ z:Later w6,z.w.cell? ⟨bm,om+n*4+3,none⟩=some (.slice (some ⟨bT,oT,none⟩) x.told.length tc):=fun z=>(z.cell Rf).trans k3'
        have hg3:∀ (z:Later w6) (o:Nat),z.w.cell? ⟨bT,o,none⟩=w6.cell? ⟨bT,o,none⟩:=fun z o=>z.cell hbT
        have hg4:∀ (z:Later w6) (o:Nat),z.w.cell? ⟨bA,o,none⟩=w6.cell? ⟨bA,o,none⟩:=fun z o=>z.cell hbA
        clear hcT hy
        cases hs:bP y m
        ·have hqq:=kE y m false hs
         have HCF:=HCN.out
         rw [hs] at HCF
         simp only [Bool.false_eq_true,if_false,Nat.add_zero] at HCF
         have HCG:Hid (iW m (x.told.take (t+1))=q):=HCF
         clear hs HCF HCN
         go_wp2_with fail
         refine au (by kernel_rfl) (by kernel_rfl) hSt ?_
         repeat (go_big_quiet_step (fail))
         refine wpQuiet_nil ?_
         intro w9 hS9
         go_wp2_with fail
         go_roundw
         case rel=>exact ⟨⟨t+1,q,by omega,by go_num,rfl,HCG.out.symm⟩,hS9⟩
         case measure=>simp [intOf];omega
        ·have hqq:=kE y m true hs
         have HCF:=HCN.out
         rw [hs] at HCF
         simp only [if_true] at HCF
         have HCG:Hid (iW m (x.told.take (t+1))=q+1):=HCF
         clear hs HCF HCN
         go_wp2_with fail
         refine au (by kernel_rfl) (by kernel_rfl) hSt ?_
         repeat (go_big_quiet_step (fail))
         refine wpQuiet_nil ?_
         intro w9 hS9
         go_wp2_with fail
         go_roundw
         case rel=>exact ⟨⟨t+1,q+1,by omega,by go_num,by go_num,HCG.out.symm⟩,hS9⟩
         case measure=>simp [intOf];omega
       ·obtain rfl:t=x.told.length:=by omega
        have hqf:=HQ.out
        rw [List.take_length] at hqf
        obtain ⟨hk1,hk2⟩:=HKN.out
        rw [←hqf] at hk1 hk2
        obtain ⟨m0,m1,m2,m3,m4⟩:=Rh
        have g1:=(hSt.cellAt hbA _).trans m1
        have zY:=gG a l.length cap l m.gr n wq (IF.out _ (h16.trans hSt))
        have hgt:¬ (1:Int) < (q:Int):=by omega
        have hee:hasB l m.gr n=((q:Int) == 1):=by
         by_cases hq1:q=1
         ·rw [hk2.1 hq1,hq1];rfl
         ·have:hasB l m.gr n=false:=by
           cases hB:hasB l m.gr n
           ·rfl
           ·exact absurd (hk2.2 hB) hq1
          rw [this]
          have h0:q=0:=by omega
          rw [h0];rfl
        rw [hee] at zY
        clear hee hqf hk1 hk2
        go_wp2_with (go_at_call 50;refine zY.mono ?_;rintro e w' ⟨rfl,hw⟩;obtain rfl:=hw.symm)
        go_roundw
        case rel=>exact ⟨⟨n+1,by omega,by go_num⟩,hSt⟩
        case measure=>simp [intOf];omega
     ·have n1:¬ (n:Int) < (xnl:Int):=by omega
      go_wp2_with fail
      go_roundw
      case rel=>exact ⟨⟨k+1,by omega,by go_num⟩,hSn⟩
      case measure=>simp [intOf];omega
   ·have k1:¬ (k:Int) < (A.length:Int):=by omega
    go_wp2_with (go_at_call 45;refine (oV wo).mono ?_;rintro e w8 ⟨rfl,hS8⟩)
    go_ret
    exact ⟨rfl,h16.trans (hSk.trans hS8)⟩
theorem zH (nodes:Int) (a:Option Addr) (len cap:Nat) (l:List Int) (ac:Option Addr) (ji fT:Nat) (acts:List Ac) (w:World) (hI:Ints w a len l) (hA:nA w ac ji acts) :
  Calls Tryz.prog 11 #[.int .i64 nodes,.slice a len cap,.slice ac ji fT] w fun e w'=>e=.returned (.bool true)∧Since w w':=by
 have hl:=hI.hlen
 have ha:=hA.hlen
 by_cases hE:dL nodes l=0
 ·by_cases hm:80 < ji
  ·exact zW nodes a len cap l ac ji fT acts w hI hA (.inr hm)
  ·obtain ⟨h1,h2,h3,h4⟩:=lN hE
   obtain ⟨k,rfl⟩:∃ k:Nat,nodes=(k:Int):=⟨nodes.toNat,by omega⟩
   subst hl ha
   exact Ia k a cap l ac fT acts w hI hA (by omega) h4 (by omega) hE (by omega)
 ·exact zW nodes a len cap l ac ji fT acts w hI hA (.inl hE)
end Go.Proofs.YtiiifecfdkjmbaaGreat
namespace Go.Proofs.YtiiifecfdkjmbaaGreat.calmAll
set_option maxRecDepth 8000
open Go.ChangeShapes Go.WideShapes Go.ChangeAt Go.RowKit
set_option linter.unusedVariables false
set_option maxRecDepth 100000 in
theorem lifted (os:Os) (started:os.Started) (H:Type) (enc:TypeId × Value→H) :
  ReturnsInHanded {} Tryz.checked os 11 .any (Rows.calmAllSpec.pre6 enc Tryz.prog Tryz.f11 Rows.calmAllRow.domain false) (Rows.calmAllSpec.post enc Tryz.prog Tryz.f11 false true false false):=by
 refine returnsInHanded_of_change_sized (C:=Tryz.checked) own started (by kernel_rfl) Tryz.func11
  (ChangeSpec.witness6 (enc:=enc) (C:=Tryz.checked) false ⟨#[],#[.int .i64 0,.slice none 0 0,.slice none 0 0],[]⟩ 8 (by kernel_rfl) (by kernel_rfl) (by kernel_rfl) (by kernel_rfl)) ?_
 intro W base args ds gs before hval0 hW hcnd hsz0 _
 have hval:∀ (j:Nat) t v,Tryz.f11.params[j]? = some t→args[j]? = some v→Value.okWide Tryz.prog W .any base t v:=hval0
 have hsz:(DataW.weightsEach Tryz.prog (Tryz.f11.params.toList++Rows.calmAllSpec.plain.varTypes Tryz.prog) (ds++gs)).all (·≤reachBytes)=true:=hsz0
 have hW':=hW
 obtain ⟨p,q,hA0,hV,rfl,hfz,hnd⟩:=hW
 have hA:DataW.TrodAll enc Tryz.prog W 0 (fun _=>true) true Tryz.f11.params.toList args.toList ds p:=hA0
 rw [Tryz.params11] at hA hval hsz
 obtain ⟨v0,vs0,d0,ds0,p0,q0,hargs,rfl,rfl,h0,r0⟩:=trodAll_cons hA
 obtain ⟨v1,vs1,d1,ds1,p1,q1,rfl,rfl,rfl,h1,r1⟩:=trodAll_cons r0
 obtain ⟨v2,vs2,d2,ds2,p2,q2,rfl,rfl,rfl,h2,r2⟩:=trodAll_cons r1
 obtain ⟨rfl,rfl,rfl⟩:=trodAll_nil r2
 obtain rfl:args=#[v0,v1,v2]:=by cases args;simp_all
 obtain ⟨rfl,rfl⟩:=trodVars_none hV
 obtain ⟨a0,rfl,rfl,rfl,w0⟩:=open_int Tryz.underlying3 (hval 0 3 v0 rfl rfl) h0
 obtain ⟨a1,len1,LU,rfl⟩:=okWide_slice Tryz.underlying22 (hval 1 22 v1 rfl rfl)
 have lt1:∀ x∈p1,x.block < W.heap.size:=by obtain ⟨m,hm⟩:=h1;exact DataW.trod_lt m _ _ _ hm
 obtain ⟨z1,w1⟩:=qx h1 (fun el sp e=>by have:=sized_slice hsz (j:=1) (t:=22) (e:=3) rfl (by rw [e];rfl) Tryz.underlying22;rwa [zG] at this)
 obtain ⟨a2,len2,cap2,rfl⟩:=okWide_slice Tryz.underlying50 (hval 2 50 v2 rfl rfl)
 have lt2:∀ x∈p2,x.block < W.heap.size:=by obtain ⟨m,hm⟩:=h2;exact DataW.trod_lt m _ _ _ hm
 obtain ⟨z2,w2,c2⟩:=qm h2 (fun el sp e=>by have:=sized_slice hsz (j:=2) (t:=50) (e:=58) rfl (by rw [e];rfl) Tryz.underlying50;rwa [zi] at this)
 clear hA0 hval0
 refine (zH a0 a1 len1 LU z1 a2 len2 cap2 z2 W w1 w2).mono fun e W' ⟨he,LV⟩=>?_
 have bel:=LV.below
 subst he
 exact ⟨_,rfl,_,_,_,[],_,[],hW',trodAll_mk1 (shut_bool Tryz.underlying4 _),(trodAll_cons_mk (shut_int Tryz.underlying3 w0) (trodAll_cons_mk (Below.trod laidOut (by kernel_rfl) (of_decide_eq_true (by kernel_rfl)) h1 bel lt1) (trodAll_cons_mk (Below.trod laidOut (by kernel_rfl) (of_decide_eq_true (by kernel_rfl)) h2 bel lt2) trodAll_mk0))),rfl,bel.frame _,fun h=>by cases h⟩
theorem facts:joinedFacts Tryz.prog 11 Tryz.f11 Rows.calmAllSpec Rows.calmAllRow=true:=by
 delta joinedFacts
 rw [LW,Du,G8]
 kernel_rfl
theorem over:Rows.calmAllRow.holds Tryz.pinned (OpenSpec.ofChange Rows.calmAllSpec) :=
 OpenClaim.holds_of_wide 11 Tryz.f11 rfl rfl rfl rfl rfl rfl rfl ⟨rfl,rfl,rfl,rfl,rfl⟩ rfl rfl rfl rfl rfl (by kernel_rfl) Tryz.func11 facts
  (of_decide_eq_true (by kernel_rfl)) (by unfold Func.isWrapper;first | (rw [if_pos (by decide +kernel)];kernel_rfl) | (rw [if_neg (by decide +kernel)];exact ⟨rfl,rfl⟩))
  (fun os started H enc _=>lifted os started H enc)
end Go.Proofs.YtiiifecfdkjmbaaGreat.calmAll
namespace Go.Proofs.YtiiifecfdkjmbaaGreat
set_option maxRecDepth 8000
theorem calmAll_holds:Rows.CalmAllSaid:=calmAll.over
#print axioms calmAll_holds
end Go.Proofs.YtiiifecfdkjmbaaGreat
