/- Lemmas. -/
import Derived.Test.YtediempflagfkaaGreatDoorLists
set_option linter.unusedVariables false
set_option linter.unusedSimpArgs false
set_option linter.unnecessarySimpa false
set_option maxHeartbeats 2000000
namespace Go.Proofs.YtediempflagfkaaGreatDoor
open _root_.Go.Proofs.Tryz hiding checked
set_option maxRecDepth 8000
open Go.RowKit Go.Shelf
attribute [local go_sem] Oper.semAt_some
theorem Mr(x:WV)(w:World) :
  Calls prog 187 #[.agg #[.slice x.ga x.gl x.gc,.slice x.na x.nl x.nc,.slice x.wa x.wl x.wc]] w fun e w'=>e=.returned (.func (.func 190) #[] #[.pointer (some ⟨w.heap.size,0,none⟩)])/\w'=w.alloc (.cells #[.slice x.ga x.gl x.gc,.slice x.na x.nl x.nc,.slice x.wa x.wl x.wc] 175):=by
 go_enter func187,ntmps187
 go_wp2
 go_ret
 exact⟨rfl,rfl⟩
def KQ(d:Wd)(last:List (List Int)):Bool:=(List.range last.length).all fun g=>decide ((last[g]?.getD []).length=d.ah.length)
def eX(last:List (List Int))(g k:Nat):Int:=((last[g]?.getD [])[k]?).getD 0
theorem AQ(d:Wd)(n:Nat)(last:List (List Int))(hl:KQ d last=true) :
  fu d n last=(pairs last.length d.ah.length).all fun p=>fD d n p.1 p.2 (eX last p.1 p.2):=by
 have bq:∀g,g < last.length->(last[g]?.getD []).length=d.ah.length:=by
  intro g hg;unfold KQ at hl;rw[List.all_eq_true]at hl;simpa using hl g (by simpa using hg)
 rw[Bool.eq_iff_iff];unfold fu lY eX;simp only[List.all_eq_true,Bool.and_eq_true,decide_eq_true_eq,List.mem_range,pairs,List.mem_flatMap,List.mem_map];constructor
 ·rintro h p ⟨g,hg,k,hk,rfl⟩;exact(h g hg).2 k (by rw[(h g hg).1];exact hk)
 ·intro h g hg;refine⟨bq g hg,fun k hk=>h (g,k) ⟨g,hg,k, ?_,rfl⟩⟩;rw[<-bq g hg];exact hk
set_option maxRecDepth 4000 in
theorem GD(x:WV)(d:Wd)(n:Nat)(nd:Nd)(w:World)(hW:WAt w x d)(hn:d.ah[n]? = some nd) :
  Calls prog 182 #[.agg #[.slice x.ga x.gl x.gc,.slice x.na x.nl x.nc,.slice x.wa x.wl x.wc],.int .i64 n] w fun e w'=>e=xU 1 (decide (nd.last.length=d.au.length) && fu d n nd.last)/\ak w w':=by
 have hnl:=(zQ2.1 hn).1;obtain⟨ga,gl,gc,na,nl,nc,wa,wl,wc⟩:=x;have p9:=hW.n.bq;have hnm:=hW.n.dY;have hgl:=hW.g.bq;have hgm:=hW.g.dY;dsimp only at p9 hnm hgl hgm ⊢;subst p9 hgl;obtain⟨bn,on,rfl,hbn,hcn⟩:=hW.n.cells (by dsimp only;omega);obtain⟨k0,⟨v1,k1,la,lc,rfl,hlc,hL⟩,-,-⟩:=hcn n nd hn;have hlm:=hL.dY;obtain⟨w1,hw1⟩:∃w1,((w.alloc (.cells #[.slice ga d.au.length gc,.slice (some ⟨bn,on,none⟩) d.ah.length nc,.slice wa wl wc] 175)).alloc (.cells #[.int .i64 n] 3)).alloc (.cells #[.slice la nd.last.length lc] 60)=w1:=⟨_,rfl⟩;have hS1:ak w w1:=by rw[<-hw1];exact(((ak.refl w).alloc _).alloc _).alloc _
 have hsz:w.heap.size+2 < w1.heap.size:=by rw[<-hw1];simp
 have b0:w1.cell? ⟨w.heap.size,0,none⟩=some (.slice ga d.au.length gc):=by rw[<-hw1];simp[go_sem]
 have b1:w1.cell? ⟨w.heap.size,1,none⟩=some (.slice (some ⟨bn,on,none⟩) d.ah.length nc):=by rw[<-hw1];simp[go_sem]
 have b2:w1.cell? ⟨w.heap.size,2,none⟩=some (.slice wa wl wc):=by rw[<-hw1];simp[go_sem]
 have b3:w1.cell? ⟨w.heap.size+1,0,none⟩=some (.int .i64 n):=by rw[<-hw1];simp[go_sem]
 have b4:w1.cell? ⟨w.heap.size+2,0,none⟩=some (.slice la nd.last.length lc):=by rw[<-hw1];simp[go_sem]
 refine iY func182 rfl ?_;simp only[ntmps182,List.size_toArray,List.length_cons,List.length_nil,Nat.reduceAdd,Nat.reduceSub,Array.replicate_succ,Array.replicate_zero,List.push_toArray,List.append_toArray,List.nil_append,List.cons_append];refine eY (dw ?_)
 go_wp2
 refine eY (dw ?_)
 go_wp2
 clear hw1 k0 k1 hcn;have hG1:Ints w1 ga d.au.length d.au:=hW.g.ay hS1;have hL1:=hL.ay lg hS1
 have RF:Hid (∀y,ak w1 y->y.cell? ⟨w.heap.size,0,none⟩=some (.slice ga d.au.length gc)/\y.cell? ⟨w.heap.size,1,none⟩=some (.slice (some ⟨bn,on,none⟩) d.ah.length nc)/\y.cell? ⟨w.heap.size,2,none⟩=some (.slice wa wl wc)
   /\ y.cell? ⟨w.heap.size+1,0,none⟩=some (.int .i64 n)/\y.cell? ⟨w.heap.size+2,0,none⟩=some (.slice la nd.last.length lc)):=fun y hy =>
  ⟨(hy.av (by omega) _).trans b0,(hy.av (by omega) _).trans b1,(hy.av (by omega) _).trans b2,(hy.av (by omega) _).trans b3,(hy.av (by omega) _).trans b4⟩
 cases h1:((nd.last.length:Int) == (d.au.length:Int))
 ·have HF:Hid ((decide (nd.last.length=d.au.length) && fu d n nd.last)=false):=by unfold Hid;rw[<-eq_len,h1];rfl
  refine eY (dw ?_)
  go_wp2_with (go_at_call 171;refine(iL _ _ (by first | exact h1 | rfl) _).mono ?_;rintro e w' ⟨rfl,rfl⟩)
  exact⟨by rw[HF.out];rfl,hS1.alloc _⟩
 have H1:Hid (((nd.last.length:Int) == (d.au.length:Int))=true):=h1;clear h1;refine eY (dw ?_)
 go_wp2_with (go_at_call 171;refine(gI _ _ (by exact H1.out) _).mono ?_;rintro e w' ⟨rfl,hw3⟩;have hS3:ak w1 w':=(by rw[hw3];exact ak.alloc (ak.refl _) _);obtain⟨g0,g1,g2,g3,g4⟩:=RF.out _ hS3;clear hw3)
 refine eY (dw ?_)
 go_wp2_with fail
 go_loopw [28] (fun i wr=>(∃k:Nat,k<=nd.last.length/\i=.int .i64 k/\(List.range k).all (fun g=>decide ((nd.last[g]?.getD []).length=d.ah.length))=true)/\ak w1 wr) (fun i _=>nd.last.length - (intOf i).toNat)
 case atStart=>exact⟨⟨0,Nat.zero_le _,rfl,rfl⟩,by assumption⟩
 case round =>
  obtain⟨⟨k,hk,rfl,hn⟩,hS⟩:=hrel;have HN:Hid ((List.range k).all (fun g=>decide ((nd.last[g]?.getD []).length=d.ah.length))=true):=hn;clear hn;obtain⟨f0,f1,f2,f3,f4⟩:=RF.out _ hS;by_cases hlt:k < nd.last.length
  ·obtain⟨row,hrow⟩:∃row,nd.last[k]? = some row:=⟨_,zQ1 hlt⟩;obtain⟨bL,oL,rfl,hbL,hcL⟩:=hL1.cells (by omega);obtain⟨v4,k4,ra,rc,rfl,hrc,hR⟩:=hcL k row hrow;have k5:wr.cell? ⟨bL,oL+k,none⟩=_:=(hS.av hbL _).trans k4;have nT:Hid (nd.last[k]? = some row):=hrow;clear hcL hrow k4;cases c3:((row.length:Int) == (d.ah.length:Int))
   ·have HF:Hid ((decide (nd.last.length=d.au.length) && fu d n nd.last)=false):=by
     have e:fu d n nd.last=false:=by
      unfold fu;refine nK hlt ?_;rw[nT.out];unfold lY;rw[Option.getD_some,<-eq_len,c3];rfl
     unfold Hid;rw[e];simp
    go_wp2_with (go_at_call 171;refine(iL _ _ (by first | exact c3 | rfl) _).mono ?_;rintro e w' ⟨rfl,rfl⟩)
    exact⟨by rw[HF.out];rfl,hS1.trans (hS.alloc _)⟩
   have C3:Hid (((row.length:Int) == (d.ah.length:Int))=true):=c3;clear c3
   go_wp2_with (go_at_call 171;refine(gI _ _ (by exact C3.out) _).mono ?_;rintro e w' ⟨rfl,rfl⟩)
   go_roundw
   case rel=>exact⟨⟨k+1,by omega,by go_num,jS HN.out (by rw[nT.out,Option.getD_some,<-eq_len];exact C3.out)⟩,hS.alloc _⟩
   case measure=>simp[intOf];omega
  ·have HLE:Hid (KQ d nd.last=true):=by
    have:=HN.out;rw[show k=nd.last.length from by omega]at this;exact this
   clear HN
   go_wp2_with fail
   refine eY (dw ?_)
   go_wp2_with (go_at_call 187;refine(Mr ⟨ga,d.au.length,gc,_,d.ah.length,nc,wa,wl,wc⟩ _).mono ?_;rintro e w' ⟨rfl,rfl⟩)
   refine uZ ?_;obtain⟨w5,hw5⟩:∃w5,wr.alloc (.cells #[.slice ga d.au.length gc,.slice (some ⟨bn,on,none⟩) d.ah.length nc,.slice wa wl wc] 175)=w5:=⟨_,rfl⟩;have hS5:ak w1 w5:=by rw[<-hw5];exact hS.alloc _
   have z0:w5.cell? ⟨wr.heap.size,0,none⟩=some (.slice ga d.au.length gc):=by rw[<-hw5];simp[go_sem]
   have z1:w5.cell? ⟨wr.heap.size,1,none⟩=some (.slice (some ⟨bn,on,none⟩) d.ah.length nc):=by rw[<-hw5];simp[go_sem]
   have hsz5:wr.heap.size < w5.heap.size:=by rw[<-hw5];simp
   rw[hw5];clear hw5
   refine yP (m:=1) func182 (gf:=190) (lb:=#[.pointer (some ⟨wr.heap.size,0,none⟩)]) rfl (enters_of func190 (by kernel_rfl) rfl) (Nat.le_refl _)
    (Mf 1 wr.heap.size w5.heap.size w5 hsz5 (Nat.le_refl _) ga d.au.length gc _ d.ah.length nc hgm (by omega) z0 z1) (fun _=>rfl)
    (fun i W=>ak w1 W/\((pairs d.au.length d.ah.length).take i).all (fun p=>fD d n p.1 p.2 (eX nd.last p.1 p.2))=true)
    (fun ch W=>ch=pan 1/\ak w1 W/\fu d n nd.last=false)
    (fun i A B hA hk=>⟨⟨hA.1.below.trans (hk.below.mono hS5.size)⟩,hA.2⟩) (fun _ _ _ _ h=>h.elim) ⟨hS5,rfl⟩ ?round ?done ?pan
   case done =>
    rintro D W hD ⟨hSW,hall⟩ hK;have hS9:ak w1 (W.putObj D (.deferred none)):=⟨hSW.below.trans ((KX.put (X:=none) (.deferred none) hK rfl hD).below.mono hS5.size)⟩
    have HB:Hid ((decide (nd.last.length=d.au.length) && fu d n nd.last)=true):=by
     have hll:=H1.out;rw[eq_len]at hll;have hle:nd.last.length=d.au.length:=by simpa using hll
     rw[List.take_of_length_le (by rw[kT];exact Nat.le_refl _)]at hall;unfold Hid;rw[hll,AQ d n nd.last HLE.out,hle];exact hall
    refine⟨by simp,.inl ⟨_,_,rfl,run_takeDeferred hK, ?_⟩⟩;exact⟨_,results_none rfl _ _ _,by rw[HB.out];rfl,hS1.trans hS9⟩
   case pan =>
    rintro D ch W hD ⟨rfl,hSW,hF⟩ hK;have hS9:ak w1 (W.putObj D (.deferred none)):=⟨hSW.below.trans ((KX.put (X:=none) (.deferred none) hK rfl hD).below.mono hS5.size)⟩;refine⟨by simp,.inl ⟨_,_,rfl,run_takeDeferred hK, ?_⟩⟩;exact⟨by rw[hF];simp[xU],hS1.trans hS9⟩
   case round =>
    rintro l i ⟨g,k⟩ W W' hsz' ⟨hSW,hall⟩ _ hx;obtain⟨hgl,hkl⟩:=DF hx;have hll:nd.last.length=d.au.length:=by have:=H1.out;rw[eq_len]at this;simpa using this
    obtain⟨row,hrow⟩:∃row,nd.last[g]? = some row:=⟨_,zQ1 (by omega)⟩
    have hrl:row.length=d.ah.length:=by
     have:=HLE.out;unfold KQ at this;rw[List.all_eq_true]at this;have:=this g (by simp;omega);rw[hrow]at this;simpa using this
    obtain⟨v,hv⟩:∃v,row[k]? = some v:=⟨_,zQ1 (by omega)⟩;obtain⟨bL,oL,rfl,hbL,hcL⟩:=hL1.cells (by omega);obtain⟨v4,k4,ra,rc,rfl,hrc,hR⟩:=hcL g row hrow;obtain⟨bR,oR,rfl,hbR,hcR⟩:=hR.cells (by omega);have k5:W'.cell? ⟨bL,oL+g,none⟩=_:=(hSW.av hbL _).trans k4;have k6:W'.cell? ⟨bR,oR+k,none⟩=some (.int .i64 v):=(hSW.av hbR _).trans (by have:=hcR k (by omega);rw[hv]at this;exact this);obtain⟨e0,e1,e2,e3,e4⟩:=RF.out _ hSW;have hIW:=hG1.ay hSW;have HLV:Hid (eX nd.last g k=v):=by unfold Hid eX;rw[hrow,Option.getD_some,hv];rfl
    have HX:Hid ((pairs d.au.length d.ah.length)[i]? = some (g,k)):=hx;have HA:Hid (((pairs d.au.length d.ah.length).take i).all (fun p=>fD d n p.1 p.2 (eX nd.last p.1 p.2))=true):=hall;have HLL:Hid (nd.last.length=d.au.length):=hll;have g1:(g:Int) < (nd.last.length:Int):=by omega
    have g2:(k:Int) < (row.length:Int):=by omega
    have HC:Hid (fD d n g k v=(inB v 0 1048576 && ((hasB d.au g n && hasB d.au g k) || (v == 0)))):=by
     unfold Hid fD xY;congr 2
    clear hcL hcR hrow hv hall hx k4 hll
    gi_wp2
    refine⟨trivial, ?_⟩
    have hok:∀b,fD d n g k v=b->(b=true->((pairs d.au.length d.ah.length).take (i+1)).all (fun p=>fD d n p.1 p.2 (eX nd.last p.1 p.2))=true)/\(b=false->fu d n nd.last=false):=by
     intro b hb;refine⟨fun h=>jI HX.out HA.out (by rw[HLV.out,hb];exact h),fun h=>?_⟩;rw[AQ d n nd.last HLE.out,HLL.out];exact ni HX.out (by rw[HLV.out,hb];exact h)
    have HOK:Hid (∀b,fD d n g k v=b->(b=true->((pairs d.au.length d.ah.length).take (i+1)).all (fun p=>fD d n p.1 p.2 (eX nd.last p.1 p.2))=true)/\(b=false->fu d n nd.last=false)):=hok;clear hok;have HIW:Hid (Ints W' ga d.au.length d.au):=hIW;cases h1:hasB d.au g n
    all_goals cases h2:hasB d.au g k
    all_goals cases h3:(v == 0)
    all_goals cases h4:inB v 0 1048576
    all_goals
     have HC1:=HC.out;rw[h1,h2,h3,h4]at HC1;have HC2:Hid (fD d n g k v=_):=HC1;clear HC1;have H2:Hid (hasB d.au g k=_):=h2;clear h2
     gi_wp2_with (first
      | (refine⟨trivial,rfl, ?_⟩;gi_at_call 151;refine(ng (iA _ _ _ d.au _ _ _ HIW.out)).mono ?_;(first | rw[h1] | rw[H2.out]);rintro e w' ⟨rfl,hw⟩;obtain rfl:=hw.symm)
      | (refine⟨trivial,rfl, ?_⟩;gi_at_call 181;refine(ng (pF _ _)).mono ?_;rw[h4];rintro e w' ⟨rfl,hw⟩;obtain rfl:=hw.symm)
      | (refine⟨trivial,rfl, ?_⟩;gi_at_call 171;refine(ng (rF _ _ _ (by first | rfl | (rw[h3];rfl)) _)).mono ?_;rintro e w' ⟨rfl,rfl⟩)
      | (refine⟨trivial,rfl, ?_⟩;gi_at_call 171;refine(ng (rG _ _ _ (by first | rfl | (rw[h3];rfl)) _)).mono ?_;rintro e w' ⟨rfl,rfl⟩)
      | (refine⟨trivial, ?_⟩;fail_if_success (refine⟨rfl, ?_⟩)))
     first
     | exact⟨NC.iD ((ak.refl W').alloc _),KX.iD ((ak.refl W').alloc _) hsz',hSW.alloc _,(HOK.out _ HC2.out).1 rfl⟩
     | exact⟨rfl,NC.iD ((ak.refl W').alloc _),rfl,hSW.alloc _,(HOK.out _ HC2.out).2 rfl⟩
end Go.Proofs.YtediempflagfkaaGreatDoor
namespace Go.Proofs.YtediempflagfkaaGreatDoor
open _root_.Go.Proofs.Tryz hiding checked
set_option maxRecDepth 8000
open Go.RowKit Go.Shelf
theorem Q0(w0:World)(x:WV)(d:Wd)(n:Nat)(nd:Nd)(hv:(decide (nd.last.length=d.au.length) && fu d n nd.last)=true)(hW:WAt w0 x d)(hn:d.ah[n]? = some nd)(w:World)(h:ak w0 w) :
  Calls prog 182 #[.agg #[.slice x.ga x.gl x.gc,.slice x.na x.nl x.nc,.slice x.wa x.wl x.wc],.int .i64 n] w fun e w'=>e=.returned (.tuple #[])/\ak w0 w' :=
 (GD x d n nd w (hW.ay h) hn).mono fun _ _ ⟨he,hw⟩=>⟨by rw[he,hv];rfl,h.trans hw⟩
theorem Q5(w0:World)(x:WV)(d:Wd)(n:Nat)(nd:Nd)(hv:(decide (nd.last.length=d.au.length) && fu d n nd.last)=false)(hW:WAt w0 x d)(hn:d.ah[n]? = some nd)(w:World)(h:ak w0 w) :
  Calls prog 182 #[.agg #[.slice x.ga x.gl x.gc,.slice x.na x.nl x.nc,.slice x.wa x.wl x.wc],.int .i64 n] w fun e w'=>e=.panicked (pan 1)/\ak w0 w' :=
 (GD x d n nd w (hW.ay h) hn).mono fun _ _ ⟨he,hw⟩=>⟨by rw[he,hv];rfl,h.trans hw⟩
def jJ(d:Wd)(n:Nat)(l:List Mg):Bool:=bC l && (bW d l n && gQ l)
theorem GH(d:Wd)(n:Nat)(nd:Nd):aX d n nd=(inB nd.aK 0 1048576 && ((decide (nd.last.length=d.au.length) && fu d n nd.last) && [nd.held,nd.aG].all (jJ d n))):=by
 unfold aX nE jm jJ;simp only[List.all_cons,List.all_nil,Bool.and_true]
 cases inB nd.aK 0 1048576 <;> cases decide (nd.last.length=d.au.length) <;> cases fu d n nd.last <;> cases bC nd.held <;> cases bC nd.aG <;> cases gQ nd.held <;> cases gQ nd.aG <;> simp
set_option maxRecDepth 4000 in
theorem GI(x:WV)(d:Wd)(n:Nat)(nd:Nd)(w:World)(hW:WAt w x d)(hn:d.ah[n]? = some nd) :
  Calls prog 173 #[.agg #[.slice x.ga x.gl x.gc,.slice x.na x.nl x.nc,.slice x.wa x.wl x.wc],.int .i64 n] w fun e w'=>e=xU 1 (aX d n nd)/\ak w w':=by
 have hnl:=(zQ2.1 hn).1;obtain⟨ga,gl,gc,na,nl,nc,wa,wl,wc⟩:=x;have p9:=hW.n.bq;have hnm:=hW.n.dY;dsimp only at p9 hnm ⊢;subst p9;obtain⟨bn,on,rfl,hbn,hcn⟩:=hW.n.cells (by dsimp only;omega);obtain⟨k0,⟨v1,k1,la,lc,rfl,hlc,hL⟩,⟨v2,k2,ha,hc,rfl,hhc,hH⟩,⟨v3,k3,ta,tc,rfl,htc,hT⟩⟩:=hcn n nd hn;obtain⟨w1,hw1⟩:∃w1,(w.alloc (.cells #[.slice ga gl gc,.slice (some ⟨bn,on,none⟩) d.ah.length nc,.slice wa wl wc] 175)).alloc (.cells #[.int .i64 nd.aK,.slice la nd.last.length lc,.slice ha nd.held.length hc,.slice ta nd.aG.length tc] 64)=w1:=⟨_,rfl⟩;have hS1:ak w w1:=by rw[<-hw1];exact((ak.refl w).alloc _).alloc _
 have hsz:w.heap.size+1 < w1.heap.size:=by rw[<-hw1];simp
 have b0:w1.cell? ⟨w.heap.size,0,none⟩=some (.slice ga gl gc):=by rw[<-hw1];simp[go_sem]
 have b1:w1.cell? ⟨w.heap.size,1,none⟩=some (.slice (some ⟨bn,on,none⟩) d.ah.length nc):=by rw[<-hw1];simp[go_sem]
 have b2:w1.cell? ⟨w.heap.size,2,none⟩=some (.slice wa wl wc):=by rw[<-hw1];simp[go_sem]
 have b3:w1.cell? ⟨w.heap.size+1,0,none⟩=some (.int .i64 nd.aK):=by rw[<-hw1];simp[go_sem]
 have b4:w1.cell? ⟨w.heap.size+1,2,none⟩=some (.slice ha nd.held.length hc):=by rw[<-hw1];simp[go_sem]
 have b5:w1.cell? ⟨w.heap.size+1,3,none⟩=some (.slice ta nd.aG.length tc):=by rw[<-hw1];simp[go_sem]
 have hW1:=hW.ay hS1;have hH1:=hH.ay hS1;have hT1:=hT.ay hS1
 have RF:Hid (∀y,ak w1 y->y.cell? ⟨w.heap.size,0,none⟩=some (.slice ga gl gc)/\y.cell? ⟨w.heap.size,1,none⟩=some (.slice (some ⟨bn,on,none⟩) d.ah.length nc)/\y.cell? ⟨w.heap.size,2,none⟩=some (.slice wa wl wc)
   /\ y.cell? ⟨w.heap.size+1,2,none⟩=some (.slice ha nd.held.length hc)/\y.cell? ⟨w.heap.size+1,3,none⟩=some (.slice ta nd.aG.length tc)):=fun y hy =>
  ⟨(hy.av (by omega) _).trans b0,(hy.av (by omega) _).trans b1,(hy.av (by omega) _).trans b2,(hy.av (by omega) _).trans b4,(hy.av (by omega) _).trans b5⟩
 have HE:Hid (aX d n nd=(inB nd.aK 0 1048576 && ((decide (nd.last.length=d.au.length) && fu d n nd.last) && [nd.held,nd.aG].all (jJ d n)))):=GH d n nd;have HN:Hid (d.ah[n]? = some nd):=hn;have n1:(n:Int) < (d.ah.length:Int):=by omega
 clear hcn hn hL hH hT;cases h1:inB nd.aK 0 1048576
 ·have HF:Hid (aX d n nd=false):=by unfold Hid;rw[HE.out,h1];rfl
  go_enter func173,ntmps173
  go_wp2_with (first
   | (go_at_call 181;refine(pF _ _).mono ?_;rw[h1];rintro e w' ⟨rfl,hw⟩;obtain rfl:=hw.symm)
   | (go_at_call 171;refine(iL _ _ rfl _).mono ?_;rintro e w' ⟨rfl,rfl⟩))
  exact⟨rfl,by rw[HF.out];rfl,hS1.alloc _⟩
 cases h2:(decide (nd.last.length=d.au.length) && fu d n nd.last)
 ·have HF:Hid (aX d n nd=false):=by unfold Hid;rw[HE.out,h2];simp
  have H2:Hid ((decide (nd.last.length=d.au.length) && fu d n nd.last)=false):=h2;clear h2
  go_enter func173,ntmps173
  go_wp2_with (first
   | (go_at_call 181;refine(pF _ _).mono ?_;rw[h1];rintro e w' ⟨rfl,hw⟩;obtain rfl:=hw.symm)
   | (go_at_call 171;refine(gI _ _ rfl _).mono ?_;rintro e w' ⟨rfl,hw3⟩;have hS3:ak w1 w':=(by rw[hw3];exact ak.alloc (ak.refl _) _);obtain⟨g0,g1,g2,g3,g4⟩:=RF.out _ hS3;clear hw3)
   | (go_at_call 182;refine(Q5 w1 ⟨ga,gl,gc,_,d.ah.length,nc,wa,wl,wc⟩ d n nd H2.out hW1 HN.out _ (by assumption)).mono ?_;rintro e w' ⟨rfl,hS4⟩))
  exact⟨rfl,by rw[HF.out];rfl,hS1.trans (by assumption)⟩
 have H2:Hid ((decide (nd.last.length=d.au.length) && fu d n nd.last)=true):=h2;clear h2
 go_enter func173,ntmps173
 go_wp2_with (first
  | (go_at_call 181;refine(pF _ _).mono ?_;rw[h1];rintro e w' ⟨rfl,hw⟩;obtain rfl:=hw.symm)
  | (go_at_call 171;refine(gI _ _ rfl _).mono ?_;rintro e w' ⟨rfl,hw3⟩;have hS3:ak w1 w':=(by rw[hw3];exact ak.alloc (ak.refl _) _);obtain⟨g0,g1,g2,g3,g4⟩:=RF.out _ hS3;clear hw3)
  | (go_at_call 182;refine(Q0 w1 ⟨ga,gl,gc,_,d.ah.length,nc,wa,wl,wc⟩ d n nd H2.out hW1 HN.out _ (by assumption)).mono ?_;rintro e w4 ⟨rfl,hS4⟩;obtain⟨q0,q1,q2,q3,q4⟩:=RF.out _ hS4))
 obtain⟨w5,hw5⟩:∃w5,w4.alloc (.cells #[.slice ha nd.held.length hc,.slice ta nd.aG.length tc] 62)=w5:=⟨_,rfl⟩;have hS5:ak w1 w5:=by rw[<-hw5];exact ak.alloc (by assumption) _
 have hsz5:w4.heap.size < w5.heap.size:=by rw[<-hw5];simp
 have z0:w5.cell? ⟨w4.heap.size,0,none⟩=some (.slice ha nd.held.length hc):=by rw[<-hw5];simp[go_sem]
 have z1:w5.cell? ⟨w4.heap.size,1,none⟩=some (.slice ta nd.aG.length tc):=by rw[<-hw5];simp[go_sem]
 rw[hw5];clear hw5 hw1
 have HLS:Hid (∀k:Nat,k < 2->∃a l c,[nd.held,nd.aG][k]? = some l/\w5.cell? ⟨w4.heap.size,0+k,none⟩=some (.slice a l.length c)/\gD w1 a l.length l):=by
  intro k hk
  match k,hk with
  | 0,_=>exact⟨ha,nd.held,hc,rfl,z0,hH1⟩
  | 1,_=>exact⟨ta,nd.aG,tc,rfl,z1,hT1⟩
 go_loopw [29] (fun i wr=>(∃k:Nat,k<=2/\i=.int .i64 k/\([nd.held,nd.aG].take k).all (jJ d n)=true)/\ak w5 wr) (fun i _=>2 - (intOf i).toNat)
 case atStart=>exact⟨⟨0,Nat.zero_le _,rfl,rfl⟩,ak.refl _⟩
 case round =>
  obtain⟨⟨k,hk,rfl,hnk⟩,hS⟩:=hrel;have HNK:Hid (([nd.held,nd.aG].take k).all (jJ d n)=true):=hnk;clear hnk;have xS:=hS5.trans hS;obtain⟨f0,f1,f2,f3,f4⟩:=RF.out _ xS;by_cases hlt:k < 2
  ·obtain⟨a,l,c,hl,hcell,hM⟩:=HLS.out k hlt;have hc9:wr.cell? ⟨w4.heap.size,0+k,none⟩=some (.slice a l.length c):=(hS.av hsz5 _).trans hcell;rw[Nat.zero_add]at hc9;have HL:Hid ([nd.held,nd.aG][k]? = some l):=hl
   have HFL:Hid (jJ d n l=false->aX d n nd=false):=by
    intro h;rw[HE.out,ni HL.out h];simp
   clear hl hcell;obtain⟨_,hlm,hmc⟩:=id hM;cases h3:bC l
   ·have HF:Hid (aX d n nd=false):=HFL.out (by unfold jJ;rw[h3];rfl);have H3:Hid (bC l=false):=h3;clear h3
    go_wp2_with (first
     | (go_at_call 183;refine(tN w1 _ _ _ _ _ H3.out hM _ xS).mono ?_;rintro e w6 ⟨rfl,hS6⟩)
     | (go_at_call 171;refine(iL _ _ rfl _).mono ?_;rintro e w' ⟨rfl,rfl⟩))
    exact⟨rfl,by rw[HF.out];rfl,hS1.trans (ak.alloc (by assumption) _)⟩
   have H3:Hid (bC l=true):=h3;clear h3;cases h4:bW d l n
   ·have HF:Hid (aX d n nd=false):=HFL.out (by unfold jJ;rw[h4];simp);have H4:Hid (bW d l n=false):=h4;clear h4
    go_wp2_with (first
     | (go_at_call 183;refine(tN w1 _ _ _ _ _ H3.out hM _ xS).mono ?_;rintro e w6 ⟨rfl,hS6⟩)
     | (go_at_call 171;refine(gI _ _ rfl _).mono ?_;rintro e w' ⟨rfl,hw7⟩;have hS7:ak w1 w':=(by rw[hw7];exact ak.alloc hS6 _);obtain⟨m0,m1,m2,m3,m4⟩:=RF.out _ hS7;clear hw7)
     | (go_at_call 184;refine(KO w1 ⟨ga,gl,gc,_,d.ah.length,nc,wa,wl,wc⟩ d _ _ _ l _ H4.out hW1 hM _ (by assumption)).mono ?_;rintro e w' ⟨rfl,hS8⟩))
    exact⟨rfl,by rw[HF.out];rfl,hS1.trans (by assumption)⟩
   have H4:Hid (bW d l n=true):=h4;clear h4
   go_wp2_with (first
    | (go_at_call 183;refine(tN w5 _ _ _ _ _ H3.out (hM.ay hS5) _ hS).mono ?_;rintro e w6 ⟨rfl,hS6⟩)
    | (go_at_call 171;refine(gI _ _ rfl _).mono ?_;rintro e w' ⟨rfl,hw7⟩;have hS7:ak w5 w':=(by rw[hw7];exact ak.alloc hS6 _);obtain⟨m0,m1,m2,m3,m4⟩:=RF.out _ (hS5.trans hS7);clear hw7)
    | (go_at_call 184;refine(KN w5 ⟨ga,gl,gc,_,d.ah.length,nc,wa,wl,wc⟩ d _ _ _ l _ H4.out (hW1.ay hS5) (hM.ay hS5) _ (by assumption)).mono ?_;rintro e w8 ⟨rfl,hS8⟩))
   go_loopw [43] (fun i wr=>(∃j:Nat,j<=l.length/\i=.int .i64 j/\(l.take j).all (fun m=>!m.nul)=true)/\ak w5 wr) (fun i _=>l.length - (intOf i).toNat)
   case atStart=>exact⟨⟨0,Nat.zero_le _,rfl,rfl⟩,by assumption⟩
   case round =>
    obtain⟨⟨j,hj,rfl,hnj⟩,hSj⟩:=hrel;have HNJ:Hid ((l.take j).all (fun m=>!m.nul)=true):=hnj;clear hnj;by_cases hjl:j < l.length
    ·obtain⟨b,off,rfl,hb,hcell⟩:=hmc (by omega);obtain⟨m,hm⟩:∃m,l[j]? = some m:=⟨_,zQ1 hjl⟩;have hS0:=hS5.trans hSj;obtain⟨d0,d1,d2,d3,d4⟩:=dM (w:=wr) (fun i u hi=>(hS0.av hb _).trans (hcell i u hi)) j m hm;have HM:Hid (l[j]? = some m):=hm;obtain⟨w9,hw9⟩:∃w9,wr.alloc (.cells #[.int .i64 m.fr,.int .i64 m.gr,.int .i64 m.st,.bool m.nul,.string m.body] 95)=w9:=⟨_,rfl⟩;have hS9:ak w5 w9:=by rw[<-hw9];exact hSj.alloc _
     have y3:w9.cell? ⟨wr.heap.size,3,none⟩=some (.bool m.nul):=by rw[<-hw9];simp[go_sem]
     clear hm hcell hmc;cases h6:!m.nul
     ·have HF:Hid (aX d n nd=false):=HFL.out (by
       have:gQ l=false:=ni HM.out h6;unfold jJ;rw[this];simp)
      go_wp2_with (go_at_call 171;refine(iL _ _ (by first | exact h6 | rfl) _).mono ?_;rintro e w' ⟨rfl,rfl⟩)
      exact⟨rfl,by rw[HF.out];rfl,hS1.trans (hS5.trans (hS9.alloc _))⟩
     ·have HF:Hid ((l.take (j+1)).all (fun m=>!m.nul)=true):=jI HM.out HNJ.out h6
      go_wp2_with (go_at_call 171;refine(gI _ _ (by first | exact h6 | rfl) _).mono ?_;rintro e w' ⟨rfl,rfl⟩)
      go_roundw
      case rel=>exact⟨⟨j+1,by omega,by go_num,HF.out⟩,hS9.alloc _⟩
      case measure=>simp[intOf];omega
    ·have HO:Hid (jJ d n l=true):=by
      have:=HNJ.out;rw[List.take_of_length_le (by omega)]at this;have e:gQ l=true:=this;unfold Hid jJ;rw[H3.out,H4.out,e];rfl
     clear hmc
     go_wp2_with fail
     go_roundw
     case rel=>exact⟨⟨k+1,by omega,by go_num,jI HL.out HNK.out HO.out⟩,hSj⟩
     case measure=>simp[intOf];omega
  ·have HF:Hid (aX d n nd=true):=by
    have:=HNK.out;rw[List.take_of_length_le (by simp;omega)]at this;unfold Hid;rw[HE.out,h1,H2.out,this];rfl
   go_wp2
   go_end0
   exact⟨by rw[HF.out];rfl,hS1.trans (hS5.trans hS)⟩
end Go.Proofs.YtediempflagfkaaGreatDoor
