/- Lemmas. -/
import Derived.Test.YtediempflagfkaaGreatDoorRange
set_option linter.unusedVariables false
set_option linter.unusedSimpArgs false
set_option linter.unnecessarySimpa false
set_option maxHeartbeats 4000000
namespace Go.Proofs.YtediempflagfkaaGreatDoor
open _root_.Go.Proofs.Tryz hiding checked
set_option maxRecDepth 8000
open Go.RowKit Go.Shelf
theorem jS{p:Nat->Bool}{k:Nat}(h0:(List.range k).all p=true)(hp:p k=true):(List.range (k+1)).all p=true:=by
 rw[List.range_succ,List.all_append,h0];simp[hp]
theorem nK{p:Nat->Bool}{k n:Nat}(hk:k < n)(hp:p k=false):(List.range n).all p=false:=by
 rw[List.all_eq_false];exact⟨k,by simpa using hk,by simp[hp]⟩
def xY(d:Wd)(n g k:Nat):Bool:=hasB d.au g n && hasB d.au g k
def fD(d:Wd)(n g k:Nat)(v:Int):Bool:=inB v 0 1048576 && (xY d n g k || decide (v=0))
def lY(d:Wd)(n g:Nat)(row:List Int):Bool:=decide (row.length=d.ah.length) && (List.range row.length).all fun k=>fD d n g k (row[k]?.getD 0)
def fu(d:Wd)(n:Nat)(last:List (List Int)):Bool:=(List.range last.length).all fun g=>lY d n g (last[g]?.getD [])
def nE(d:Wd)(nd:Nd):Bool:=inB nd.aK 0 1048576 && decide (nd.last.length=d.au.length)
def jm(d:Wd)(n:Nat)(nd:Nd):Bool:=bC nd.held && (bC nd.aG && (gQ nd.held && (gQ nd.aG && (bW d nd.held n && bW d nd.aG n))))
def aX(d:Wd)(n:Nat)(nd:Nd):Bool:=nE d nd && (fu d n nd.last && jm d n nd)
theorem fQ(w0:World)(a:Option Addr)(len cap:Nat)(ms:List Mg)(v:Bool)(hv:bC ms=v)(hM:gD w0 a len ms)(w:World)(h:ak w0 w) :
  Calls prog 112 #[.slice a len cap] w fun e w'=>e=.returned (.bool v)/\ak w0 w' :=
 (iF a len cap ms w (hM.ay h)).mono fun _ _ ⟨he,hw⟩=>⟨by rw[<-hv];exact he,h.trans hw⟩
theorem lV(w0:World)(a:Option Addr)(len cap:Nat)(ms:List Mg)(v:Bool)(hv:gQ ms=v)(hM:gD w0 a len ms)(w:World)(h:ak w0 w) :
  Calls prog 113 #[.slice a len cap] w fun e w'=>e=.returned (.bool v)/\ak w0 w' :=
 (Kt a len cap ms w (hM.ay h)).mono fun _ _ ⟨he,hw⟩=>⟨by rw[<-hv];exact he,by rw[hw];exact h⟩
set_option maxRecDepth 4000 in
theorem FH(x:WV)(d:Wd)(n:Nat)(nd:Nd)(w:World)(hW:WAt w x d)(hn:d.ah[n]? = some nd) :
  Calls prog 83 #[.agg #[.slice x.ga x.gl x.gc,.slice x.na x.nl x.nc,.slice x.wa x.wl x.wc],.int .i64 n] w fun e w'=>e=.returned (.bool (aX d n nd))/\ak w w':=by
 have hnl:=(zQ2.1 hn).1;obtain⟨ga,gl,gc,na,nl,nc,wa,wl,wc⟩:=x;have p9:=hW.n.bq;have hnm:=hW.n.dY;have hgl:=hW.g.bq;have hgm:=hW.g.dY;obtain⟨bn,on,hna,hbn,hcn⟩:=hW.n.cells (by omega);dsimp only at p9 hnm hgl hgm hna ⊢;subst hna;obtain⟨k0,⟨v1,k1,la,lc,rfl,hlc,hL⟩,⟨v2,k2,ha,hc,rfl,hhc,hH⟩,⟨v3,k3,ta,tc,rfl,htc,hT⟩⟩:=hcn n nd hn;have hlm:=hL.dY;obtain⟨w1,hw1⟩:∃w1,w.alloc (.cells #[.slice ga gl gc,.slice (some ⟨bn,on,none⟩) nl nc,.slice wa wl wc] 31)=w1:=⟨_,rfl⟩;obtain⟨w2,hw2⟩:∃w2,w1.alloc (.cells #[.int .i64 nd.aK,.slice la nd.last.length lc,.slice ha nd.held.length hc,.slice ta nd.aG.length tc] 64)=w2:=⟨_,rfl⟩;have hS1:=aF hw1;have hsz:w1.heap.size=w.heap.size+1:=by rw[<-hw1];simp
 have dO:=aF hw2;have hsz2:w2.heap.size=w.heap.size+1+1:=by rw[<-hw2];simp[hsz]
 have hS2:=hS1.trans dO;have b0:w1.cell? ⟨w.heap.size,0,none⟩=some (.slice ga gl gc):=by rw[<-hw1];simp[go_sem]
 have b1:w1.cell? ⟨w.heap.size,1,none⟩=some (.slice (some ⟨bn,on,none⟩) nl nc):=by rw[<-hw1];simp[go_sem]
 have b2:w1.cell? ⟨w.heap.size,2,none⟩=some (.slice wa wl wc):=by rw[<-hw1];simp[go_sem]
 have hn1:(n:Int) < (nl:Int):=by omega
 have j0:w1.cell? ⟨bn,on+n*4,none⟩=_:=(hS1.av hbn _).trans k0;have j1:w1.cell? ⟨bn,on+n*4+1,none⟩=_:=(hS1.av hbn _).trans k1;have j2:w1.cell? ⟨bn,on+n*4+2,none⟩=_:=(hS1.av hbn _).trans k2;have j3:w1.cell? ⟨bn,on+n*4+3,none⟩=_:=(hS1.av hbn _).trans k3;have n0:w2.cell? ⟨w.heap.size+1,0,none⟩=some (.int .i64 nd.aK):=by rw[<-hw2,<-hsz];simp[go_sem]
 have n1:w2.cell? ⟨w.heap.size+1,1,none⟩=some (.slice la nd.last.length lc):=by rw[<-hw2,<-hsz];simp[go_sem]
 have n2:w2.cell? ⟨w.heap.size+1,2,none⟩=some (.slice ha nd.held.length hc):=by rw[<-hw2,<-hsz];simp[go_sem]
 have n3:w2.cell? ⟨w.heap.size+1,3,none⟩=some (.slice ta nd.aG.length tc):=by rw[<-hw2,<-hsz];simp[go_sem]
 have B0:w2.cell? ⟨w.heap.size,0,none⟩=some (.slice ga gl gc):=(dO.av (by omega) _).trans b0;have B1:w2.cell? ⟨w.heap.size,1,none⟩=some (.slice (some ⟨bn,on,none⟩) nl nc):=(dO.av (by omega) _).trans b1;have B2:w2.cell? ⟨w.heap.size,2,none⟩=some (.slice wa wl wc):=(dO.av (by omega) _).trans b2;have hG2:Ints w2 ga gl d.au:=hW.g.ay hS2;have hW2:=hW.ay hS2;have hH2:=hH.ay hS2;have hT2:=hT.ay hS2;have hSr:=ak.refl w2;have HNL:Hid (d.ah.length=nl):=p9;have HGL:Hid (d.au.length=gl):=hgl;have hne:Nonempty (Later w2):=⟨⟨w2,ak.refl w2⟩⟩;have gw:∀(y:Later w2) (o:Nat),y.w.cell? ⟨w.heap.size,o,none⟩=w2.cell? ⟨w.heap.size,o,none⟩:=fun y o=>y.cell (by omega);have gn:∀(y:Later w2) (o:Nat),y.w.cell? ⟨w.heap.size+1,o,none⟩=w2.cell? ⟨w.heap.size+1,o,none⟩:=fun y o=>y.cell (by omega);clear hcn k0 k1 k2 k3 p9 hgl b2 hnl hH hT;cases c1:inB nd.aK 0 1048576
 ·have HF:Hid (aX d n nd=false):=by unfold Hid aX nE;rw[c1];rfl
  go_enter func83,ntmps83
  go_wp2_with (go_at_call 35;refine(bJ _ _ _ _).mono ?_;rintro e w' ⟨rfl,hw⟩;obtain rfl:=hw.symm)
  go_ret
  exact⟨by rw[HF.out];rfl,hS2⟩
 cases c2:((nd.last.length:Int) != (gl:Int))
 rotate_left
 ·have HF:Hid (aX d n nd=false):=by
   have:¬ nd.last.length=d.au.length:=by rw[HGL.out];have h:=c2;simp at h;omega
   unfold Hid aX nE;simp[this]
  go_enter func83,ntmps83
  go_wp2_with (go_at_call 35;refine(bJ _ _ _ _).mono ?_;rintro e w' ⟨rfl,hw⟩;obtain rfl:=hw.symm)
  go_ret
  exact⟨by rw[HF.out];rfl,hS2⟩
 have HD:Hid (nE d nd=true):=by
  have:nd.last.length=d.au.length:=by rw[HGL.out];have h:=c2;simp at h;omega
  unfold Hid nE;rw[c1];simp[this]
 go_enter func83,ntmps83
 go_wp2_with (go_at_call 35;refine(bJ _ _ _ _).mono ?_;rintro e w' ⟨rfl,hw⟩;obtain rfl:=hw.symm)
 clear hw1 hw2 j0 j1 j2 j3 b0 b1 c1
 go_loopw [6,7,8] (fun g _ _ wr=>(∃k:Nat,k<=nd.last.length/\g=.int .i64 k/\(List.range k).all (fun g=>lY d n g (nd.last[g]?.getD []))=true)/\ak w2 wr) (fun g _ _ _=>nd.last.length - (intOf g).toNat)
 case atStart=>exact⟨⟨0,Nat.zero_le _,rfl,rfl⟩,ak.refl _⟩
 case round =>
  obtain⟨⟨k,hk,rfl,hn⟩,hS⟩:=hrel;have HN:Hid ((List.range k).all (fun g=>lY d n g (nd.last[g]?.getD []))=true):=hn;clear hn;have r0:∀o:Nat,wr.cell? ⟨w.heap.size,o,none⟩=w2.cell? ⟨w.heap.size,o,none⟩:=fun o=>hS.av (by omega) o;have r1:∀o:Nat,wr.cell? ⟨w.heap.size+1,o,none⟩=w2.cell? ⟨w.heap.size+1,o,none⟩:=fun o=>hS.av (by omega) o;by_cases hlt:k < nd.last.length
  ·obtain⟨row,hrow⟩:∃row,nd.last[k]? = some row:=⟨_,zQ1 hlt⟩;obtain⟨bL,oL,rfl,hbL,hcL⟩:=hL.cells (by omega);obtain⟨v4,k4,ra,rc,rfl,hrc,hR⟩:=hcL k row hrow;have hRm:=hR.dY;have hRc:=hR.cells;have nT:Hid (nd.last[k]? = some row):=hrow
   have HFR:Hid (lY d n k row=false->aX d n nd=false):=by
    intro h;have:fu d n nd.last=false:=nK hlt (by rw[nT.out];exact h);unfold aX;rw[this];simp
   have gL:∀(y:Later w2) (o:Nat),y.w.cell? ⟨bL,o,none⟩=w.cell? ⟨bL,o,none⟩:=fun y o=>Later.old hS2 y o hbL;clear hcL hrow hR;cases c3:((row.length:Int) != (nl:Int))
   rotate_left
   ·have HF:Hid (aX d n nd=false):=HFR.out (by
     have:¬ row.length=d.ah.length:=by rw[HNL.out];have h:=c3;simp at h;omega
     unfold lY;simp[this])
    go_wp2_with fail
    refine aH (by kernel_rfl) (by kernel_rfl) hS ?_
    repeat (go_big_quiet_step (fail))
    refine wpQuiet_nil ?_;intro w9 hS9
    go_wp2
    go_ret
    exact⟨by rw[HF.out];rfl,hS2.trans hS9⟩
   have HRL:Hid (row.length=d.ah.length):=by unfold Hid;rw[HNL.out];have h:=c3;simp at h;omega
   have HFC:Hid (∀j v,row[j]? = some v->fD d n k j v=false->aX d n nd=false):=by
    intro j v hv h;refine HFR.out ?_;unfold lY;rw[nK (p:=fun k_1=>fD d n k k_1 (row[k_1]?.getD 0)) (zQ2.1 hv).1 (by rw[hv];exact h)];simp
   go_wp2_with fail
   refine aH (by kernel_rfl) (by kernel_rfl) hS ?_
   repeat (go_big_quiet_step (fail))
   refine wpQuiet_nil ?_;intro w9 hS9;clear HFR c3 r0 r1
   go_wp2_with fail
   go_loopw [7,8] (fun i _ wr=>(∃j:Nat,j<=row.length/\i=.int .i64 j/\(List.range j).all (fun j=>fD d n k j (row[j]?.getD 0))=true)/\ak w2 wr) (fun i _ _=>row.length - (intOf i).toNat)
   case atStart=>exact⟨⟨0,Nat.zero_le _,rfl,rfl⟩,hS9⟩
   case round =>
    obtain⟨⟨j,hj,rfl,hnj⟩,hSj⟩:=hrel;have HNJ:Hid ((List.range j).all (fun j=>fD d n k j (row[j]?.getD 0))=true):=hnj;have r0:∀o:Nat,wr.cell? ⟨w.heap.size,o,none⟩=w2.cell? ⟨w.heap.size,o,none⟩:=fun o=>hSj.av (by omega) o;have r1:∀o:Nat,wr.cell? ⟨w.heap.size+1,o,none⟩=w2.cell? ⟨w.heap.size+1,o,none⟩:=fun o=>hSj.av (by omega) o;have r2:∀o:Nat,wr.cell? ⟨bL,o,none⟩=w.cell? ⟨bL,o,none⟩:=fun o=>(hS2.trans hSj).av hbL o;clear hnj;by_cases hjl:j < row.length
    ·obtain⟨v,hv⟩:∃v,row[j]? = some v:=⟨_,zQ1 hjl⟩;obtain⟨bR,oR,rfl,hbR,hcR⟩:=hRc (by omega);have hvc:wr.cell? ⟨bR,oR+j,none⟩=some (.int .i64 v):=((hS2.trans hSj).av hbR _).trans (by have:=hcR j hjl;rw[hv]at this;exact this);have HV:Hid (row[j]? = some v):=hv;have HF:=fun h=>HFC.out j v HV.out h;have HF':Hid (fD d n k j v=false->aX d n nd=false):=HF;clear hv hcR hRc HF HFC;cases h1:hasB d.au k n
     all_goals cases h2:hasB d.au k j
     all_goals cases h3:inB v 0 1048576
     all_goals cases h4:(v != 0)
     all_goals
      have HC:Hid (fD d n k j v=(inB v 0 1048576 && ((hasB d.au k n && hasB d.au k j) || !(v != 0)))):=by
       unfold Hid fD xY;congr 2;rw[Bool.eq_iff_iff];simp
      go_wp2_with (first | (go_at_call 68;refine(eu _ _ _ d.au _ _ _ (hG2.ay (by assumption))).mono ?_;rintro e w' ⟨rfl,hw⟩;obtain rfl:=hw.symm) | (go_at_call 35;refine(bJ _ _ _ _).mono ?_;rintro e w' ⟨rfl,hw⟩;obtain rfl:=hw.symm))
      first
      | (go_ret
         exact⟨by rw[HF'.out (by rw[HC.out,h1,h2,h3,h4];rfl)];rfl,hS2.trans hSj⟩)
      | (go_roundw
         case rel=>exact⟨⟨j+1,by omega,by go_num,jS HNJ.out (by rw[HV.out];exact(HC.out.trans (by rw[h1,h2,h3,h4];rfl)))⟩,hSj⟩
         case measure=>simp[intOf];omega)
    ·have HR:Hid (lY d n k row=true):=by
      have:=HNJ.out;rw[show j=row.length from by omega]at this;unfold Hid lY;rw[this];simp[HRL.out]
     clear hRc HFC
     go_wp2_with fail
     go_roundw
     case rel=>exact⟨⟨k+1,by omega,by go_num,jS HN.out (by rw[nT.out];exact HR.out)⟩,hSj⟩
     case measure=>simp[intOf];omega
  ·have HLA:Hid (fu d n nd.last=true):=by
    have:=HN.out;rw[show k=nd.last.length from by omega]at this;exact this
   have HE:Hid (aX d n nd=jm d n nd):=by unfold Hid aX;rw[HD.out,HLA.out];rfl
   clear gw gn hne;have rf:∀y:World,ak w2 y->(∀o:Nat,y.cell? ⟨w.heap.size,o,none⟩=w2.cell? ⟨w.heap.size,o,none⟩)/\(∀o:Nat,y.cell? ⟨w.heap.size+1,o,none⟩=w2.cell? ⟨w.heap.size+1,o,none⟩):=fun y h=>⟨fun o=>h.av (by omega) o,fun o=>h.av (by omega) o⟩;have RF:Hid (∀y:World,ak w2 y->(∀o:Nat,y.cell? ⟨w.heap.size,o,none⟩=w2.cell? ⟨w.heap.size,o,none⟩)/\(∀o:Nat,y.cell? ⟨w.heap.size+1,o,none⟩=w2.cell? ⟨w.heap.size+1,o,none⟩)):=rf;clear rf;cases c5:bC nd.held
   ·have HF:Hid (aX d n nd=false):=by unfold Hid;rw[HE.out];unfold jm;rw[c5];rfl
    go_wp2_with (first | (go_at_call_of 112 (Value.slice ha nd.held.length hc);refine(fQ _ _ _ _ _ _ c5 hH2 _ (by assumption)).mono ?_;rintro e w' ⟨rfl,hw⟩;obtain⟨q0,q1⟩:=RF.out _ hw))
    go_ret
    rename_i hw _ _;exact⟨by rw[HF.out];rfl,hS2.trans hw⟩
   cases c6:bC nd.aG
   ·have HF:Hid (aX d n nd=false):=by unfold Hid;rw[HE.out];unfold jm;rw[c5,c6];rfl
    go_wp2_with (first | (go_at_call_of 112 (Value.slice ha nd.held.length hc);refine(fQ _ _ _ _ _ _ c5 hH2 _ (by assumption)).mono ?_;rintro e w' ⟨rfl,hw⟩;obtain⟨q0,q1⟩:=RF.out _ hw) | (go_at_call_of 112 (Value.slice ta nd.aG.length tc);refine(fQ _ _ _ _ _ _ c6 hT2 _ (by assumption)).mono ?_;rintro e w' ⟨rfl,hw⟩;obtain⟨q0,q1⟩:=RF.out _ hw))
    go_ret
    rename_i hw _ _;exact⟨by rw[HF.out];rfl,hS2.trans hw⟩
   cases c7:gQ nd.held
   ·have HF:Hid (aX d n nd=false):=by unfold Hid;rw[HE.out];unfold jm;rw[c5,c6,c7];rfl
    go_wp2_with (first | (go_at_call_of 112 (Value.slice ha nd.held.length hc);refine(fQ _ _ _ _ _ _ c5 hH2 _ (by assumption)).mono ?_;rintro e w' ⟨rfl,hw⟩;obtain⟨q0,q1⟩:=RF.out _ hw) | (go_at_call_of 112 (Value.slice ta nd.aG.length tc);refine(fQ _ _ _ _ _ _ c6 hT2 _ (by assumption)).mono ?_;rintro e w' ⟨rfl,hw⟩;obtain⟨q0,q1⟩:=RF.out _ hw) | (go_at_call_of 113 (Value.slice ha nd.held.length hc);refine(lV _ _ _ _ _ _ c7 hH2 _ (by assumption)).mono ?_;rintro e w' ⟨rfl,hw⟩;obtain⟨q0,q1⟩:=RF.out _ hw))
    go_ret
    rename_i hw _ _;exact⟨by rw[HF.out];rfl,hS2.trans hw⟩
   cases c8:gQ nd.aG
   ·have HF:Hid (aX d n nd=false):=by unfold Hid;rw[HE.out];unfold jm;rw[c5,c6,c7,c8];rfl
    go_wp2_with (first | (go_at_call_of 112 (Value.slice ha nd.held.length hc);refine(fQ _ _ _ _ _ _ c5 hH2 _ (by assumption)).mono ?_;rintro e w' ⟨rfl,hw⟩;obtain⟨q0,q1⟩:=RF.out _ hw) | (go_at_call_of 112 (Value.slice ta nd.aG.length tc);refine(fQ _ _ _ _ _ _ c6 hT2 _ (by assumption)).mono ?_;rintro e w' ⟨rfl,hw⟩;obtain⟨q0,q1⟩:=RF.out _ hw) | (go_at_call_of 113 (Value.slice ha nd.held.length hc);refine(lV _ _ _ _ _ _ c7 hH2 _ (by assumption)).mono ?_;rintro e w' ⟨rfl,hw⟩;obtain⟨q0,q1⟩:=RF.out _ hw) | (go_at_call_of 113 (Value.slice ta nd.aG.length tc);refine(lV _ _ _ _ _ _ c8 hT2 _ (by assumption)).mono ?_;rintro e w' ⟨rfl,hw⟩;obtain⟨q0,q1⟩:=RF.out _ hw))
    go_ret
    rename_i hw _ _;exact⟨by rw[HF.out];rfl,hS2.trans hw⟩
   cases c9:bW d nd.held n
   ·have HF:Hid (aX d n nd=false):=by unfold Hid;rw[HE.out];unfold jm;rw[c5,c6,c7,c8,c9];rfl
    go_wp2_with (first | (go_at_call_of 112 (Value.slice ha nd.held.length hc);refine(fQ _ _ _ _ _ _ c5 hH2 _ (by assumption)).mono ?_;rintro e w' ⟨rfl,hw⟩;obtain⟨q0,q1⟩:=RF.out _ hw) | (go_at_call_of 112 (Value.slice ta nd.aG.length tc);refine(fQ _ _ _ _ _ _ c6 hT2 _ (by assumption)).mono ?_;rintro e w' ⟨rfl,hw⟩;obtain⟨q0,q1⟩:=RF.out _ hw) | (go_at_call_of 113 (Value.slice ha nd.held.length hc);refine(lV _ _ _ _ _ _ c7 hH2 _ (by assumption)).mono ?_;rintro e w' ⟨rfl,hw⟩;obtain⟨q0,q1⟩:=RF.out _ hw) | (go_at_call_of 113 (Value.slice ta nd.aG.length tc);refine(lV _ _ _ _ _ _ c8 hT2 _ (by assumption)).mono ?_;rintro e w' ⟨rfl,hw⟩;obtain⟨q0,q1⟩:=RF.out _ hw) | (go_at_call_of 114 (Value.slice ha nd.held.length hc);refine(jN _ _ _ _ _ _ _ _ _ c9 hW2 hH2 _ (by assumption)).mono ?_;rintro e w' ⟨rfl,hw⟩;obtain⟨q0,q1⟩:=RF.out _ hw))
    go_ret
    rename_i hw _ _;exact⟨by rw[HF.out];rfl,hS2.trans hw⟩
   cases c10:bW d nd.aG n
   ·have HF:Hid (aX d n nd=false):=by unfold Hid;rw[HE.out];unfold jm;rw[c5,c6,c7,c8,c9,c10];rfl
    go_wp2_with (first | (go_at_call_of 112 (Value.slice ha nd.held.length hc);refine(fQ _ _ _ _ _ _ c5 hH2 _ (by assumption)).mono ?_;rintro e w' ⟨rfl,hw⟩;obtain⟨q0,q1⟩:=RF.out _ hw) | (go_at_call_of 112 (Value.slice ta nd.aG.length tc);refine(fQ _ _ _ _ _ _ c6 hT2 _ (by assumption)).mono ?_;rintro e w' ⟨rfl,hw⟩;obtain⟨q0,q1⟩:=RF.out _ hw) | (go_at_call_of 113 (Value.slice ha nd.held.length hc);refine(lV _ _ _ _ _ _ c7 hH2 _ (by assumption)).mono ?_;rintro e w' ⟨rfl,hw⟩;obtain⟨q0,q1⟩:=RF.out _ hw) | (go_at_call_of 113 (Value.slice ta nd.aG.length tc);refine(lV _ _ _ _ _ _ c8 hT2 _ (by assumption)).mono ?_;rintro e w' ⟨rfl,hw⟩;obtain⟨q0,q1⟩:=RF.out _ hw) | (go_at_call_of 114 (Value.slice ha nd.held.length hc);refine(jN _ _ _ _ _ _ _ _ _ c9 hW2 hH2 _ (by assumption)).mono ?_;rintro e w' ⟨rfl,hw⟩;obtain⟨q0,q1⟩:=RF.out _ hw) | (go_at_call_of 114 (Value.slice ta nd.aG.length tc);refine(jN _ _ _ _ _ _ _ _ _ c10 hW2 hT2 _ (by assumption)).mono ?_;rintro e w' ⟨rfl,hw⟩;obtain⟨q0,q1⟩:=RF.out _ hw))
    go_ret
    rename_i hw _ _;exact⟨by rw[HF.out];rfl,hS2.trans hw⟩
   ·have HF:Hid (aX d n nd=true):=by unfold Hid;rw[HE.out];unfold jm;rw[c5,c6,c7,c8,c9,c10];rfl
    go_wp2_with (first | (go_at_call_of 112 (Value.slice ha nd.held.length hc);refine(fQ _ _ _ _ _ _ c5 hH2 _ (by assumption)).mono ?_;rintro e w' ⟨rfl,hw⟩;obtain⟨q0,q1⟩:=RF.out _ hw) | (go_at_call_of 112 (Value.slice ta nd.aG.length tc);refine(fQ _ _ _ _ _ _ c6 hT2 _ (by assumption)).mono ?_;rintro e w' ⟨rfl,hw⟩;obtain⟨q0,q1⟩:=RF.out _ hw) | (go_at_call_of 113 (Value.slice ha nd.held.length hc);refine(lV _ _ _ _ _ _ c7 hH2 _ (by assumption)).mono ?_;rintro e w' ⟨rfl,hw⟩;obtain⟨q0,q1⟩:=RF.out _ hw) | (go_at_call_of 113 (Value.slice ta nd.aG.length tc);refine(lV _ _ _ _ _ _ c8 hT2 _ (by assumption)).mono ?_;rintro e w' ⟨rfl,hw⟩;obtain⟨q0,q1⟩:=RF.out _ hw) | (go_at_call_of 114 (Value.slice ha nd.held.length hc);refine(jN _ _ _ _ _ _ _ _ _ c9 hW2 hH2 _ (by assumption)).mono ?_;rintro e w' ⟨rfl,hw⟩;obtain⟨q0,q1⟩:=RF.out _ hw) | (go_at_call_of 114 (Value.slice ta nd.aG.length tc);refine(jN _ _ _ _ _ _ _ _ _ c10 hW2 hT2 _ (by assumption)).mono ?_;rintro e w' ⟨rfl,hw⟩;obtain⟨q0,q1⟩:=RF.out _ hw))
    go_ret
    rename_i hw _ _;exact⟨by rw[HF.out];rfl,hS2.trans hw⟩
end Go.Proofs.YtediempflagfkaaGreatDoor
