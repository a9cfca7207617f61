/- Lemmas. -/
import Derived.Test.YtiiifecfdkjmbaaJudgeX
set_option maxHeartbeats 2000000
namespace Go.Proofs.Ytiiifecfdkjmbaa
open _root_.Go.Proofs.Try hiding checked
set_option maxRecDepth 8000
open Go.RowKit Go.Shelf
attribute [local go_sem] Oper.semAt_some
theorem zT (x:WV) (w:World) :
  Calls prog 138 #[.agg #[.slice x.ga x.gl x.gc,.slice x.na x.nl x.nc,.slice x.wa x.wl x.wc]] w fun e w'=>e=.returned (.func (.func 162) #[] #[.pointer (some ⟨w.heap.size,0,none⟩)])/\w'=w.alloc (.cells #[.slice x.ga x.gl x.gc,.slice x.na x.nl x.nc,.slice x.wa x.wl x.wc] 77):=by
 go_enter func138,ntmps138
 go_wp2
 go_ret
 exact ⟨rfl,rfl⟩
def y8 (d:Wd) (last:List (List Int)):Bool:=(List.range last.length).all fun g=>decide ((last[g]?.getD []).length=d.nodes.length)
def bT (last:List (List Int)) (g k:Nat):Int:=((last[g]?.getD [])[k]?).getD 0
theorem qg (d:Wd) (n:Nat) (last:List (List Int)) (hl:y8 d last=true) :
  bJ d n last=(pairs last.length d.nodes.length).all fun p=>bK d n p.1 p.2 (bT last p.1 p.2):=by
 have hlen:∀ g,g < last.length->(last[g]?.getD []).length=d.nodes.length:=by
  intro g hg
  unfold y8 at hl
  rw [List.all_eq_true] at hl
  simpa using hl g (by simpa using hg)
 rw [Bool.eq_iff_iff]
 unfold bJ iX bT
 simp only [List.all_eq_true,Bool.and_eq_true,decide_eq_true_eq,List.mem_range,pairs,List.mem_flatMap,List.mem_map]
 constructor
 ·rintro h p ⟨g,hg,k,hk,rfl⟩
  exact (h g hg).2 k (by rw [(h g hg).1];exact hk)
 ·intro h g hg
  refine ⟨hlen g hg,fun k hk=>h (g,k) ⟨g,hg,k, ?_,rfl⟩⟩
  rw [<-hlen g hg];exact hk
set_option maxRecDepth 4000 in
theorem vN (x:WV) (d:Wd) (n:Nat) (nd:Nd) (w:World) (hW:WAt w x d) (hn:d.nodes[n]? = some nd) :
  Calls prog 109 #[.agg #[.slice x.ga x.gl x.gc,.slice x.na x.nl x.nc,.slice x.wa x.wl x.wc],.int .i64 n] w fun e w'=>e=nI 1 (decide (nd.last.length=d.groups.length) && bJ d n nd.last)/\Since w w':=by
 have hnl:=(zQ2.1 hn).1
 obtain ⟨ga,gl,gc,na,nl,nc,wa,wl,wc⟩:=x
 have mQ:=hW.n.hlen
 have hnm:=hW.n.hmax
 have hgl:=hW.g.hlen
 have hgm:=hW.g.hmax
 dsimp only at mQ hnm hgl hgm ⊢
 subst mQ hgl
 obtain ⟨bn,on,rfl,hbn,hcn⟩:=hW.n.cells (by dsimp only;omega)
 obtain ⟨k0,⟨v1,k1,la,lc,rfl,hlc,hL⟩,-,-⟩:=hcn n nd hn
 have hlm:=hL.hmax
 obtain ⟨w1,hw1⟩:∃ w1,((w.alloc (.cells #[.slice ga d.groups.length gc,.slice (some ⟨bn,on,none⟩) d.nodes.length nc,.slice wa wl wc] 77)).alloc (.cells #[.int .i64 n] 3)).alloc (.cells #[.slice la nd.last.length lc] 43)=w1:=⟨_,rfl⟩
 have hS1:Since w w1:=by rw [<-hw1];exact (((Since.refl w).alloc _).alloc _).alloc _
 have hsz:w.heap.size+2 < w1.heap.size:=by rw [<-hw1];simp
 have b0:w1.cell? ⟨w.heap.size,0,none⟩=some (.slice ga d.groups.length gc):=by rw [<-hw1];simp [go_sem]
 have b1:w1.cell? ⟨w.heap.size,1,none⟩=some (.slice (some ⟨bn,on,none⟩) d.nodes.length nc):=by rw [<-hw1];simp [go_sem]
 have b2:w1.cell? ⟨w.heap.size,2,none⟩=some (.slice wa wl wc):=by rw [<-hw1];simp [go_sem]
 have b3:w1.cell? ⟨w.heap.size+1,0,none⟩=some (.int .i64 n):=by rw [<-hw1];simp [go_sem]
 have b4:w1.cell? ⟨w.heap.size+2,0,none⟩=some (.slice la nd.last.length lc):=by rw [<-hw1];simp [go_sem]
 refine kI func109 rfl ?_
 simp only [ntmps109,List.size_toArray,List.length_cons,List.length_nil,Nat.reduceAdd,Nat.reduceSub,Array.replicate_succ,Array.replicate_zero,List.push_toArray,List.append_toArray,List.nil_append,List.cons_append]
 refine fK (cu ?_)
 go_wp2
 refine fK (cu ?_)
 go_wp2
 clear hw1 k0 k1 hcn
 have hG1:Ints w1 ga d.groups.length d.groups:=hW.g.since hS1
 have hL1:=hL.since kD hS1
 have RF:Hid (∀ y,Since w1 y->y.cell? ⟨w.heap.size,0,none⟩=some (.slice ga d.groups.length gc)/\y.cell? ⟨w.heap.size,1,none⟩=some (.slice (some ⟨bn,on,none⟩) d.nodes.length nc)/\y.cell? ⟨w.heap.size,2,none⟩=some (.slice wa wl wc)
   /\ y.cell? ⟨w.heap.size+1,0,none⟩=some (.int .i64 n)/\y.cell? ⟨w.heap.size+2,0,none⟩=some (.slice la nd.last.length lc)):=fun y hy =>
  ⟨(hy.cellAt (by omega) _).trans b0,(hy.cellAt (by omega) _).trans b1,(hy.cellAt (by omega) _).trans b2,(hy.cellAt (by omega) _).trans b3,(hy.cellAt (by omega) _).trans b4⟩
 cases h1:((nd.last.length:Int) == (d.groups.length:Int))
 ·have HF:Hid ((decide (nd.last.length=d.groups.length) && bJ d n nd.last)=false):=by unfold Hid;rw [<-eq_len,h1];rfl
  refine fK (cu ?_)
  go_wp2_with (go_at_call 77;refine (dO _ _ (by first | exact h1 | rfl) _).mono ?_;rintro e w' ⟨rfl,rfl⟩)
  exact ⟨by rw [HF.out];rfl,hS1.alloc _⟩
 have H1:Hid (((nd.last.length:Int) == (d.groups.length:Int))=true):=h1
 clear h1
 refine fK (cu ?_)
 go_wp2_with (go_at_call 77;refine (cK _ _ (by exact H1.out) _).mono ?_;rintro e w' ⟨rfl,hw3⟩;have hS3:Since w1 w':=(by rw [hw3];exact Since.alloc (Since.refl _) _);obtain ⟨g0,g1,g2,g3,g4⟩:=RF.out _ hS3;clear hw3)
 refine fK (cu ?_)
 go_wp2_with fail
 go_loopw [28] (fun i wr=>(∃ k:Nat,k<=nd.last.length/\i=.int .i64 k/\(List.range k).all (fun g=>decide ((nd.last[g]?.getD []).length=d.nodes.length))=true)/\Since w1 wr) (fun i _=>nd.last.length - (intOf i).toNat)
 case atStart=>exact ⟨⟨0,Nat.zero_le _,rfl,rfl⟩,by assumption⟩
 case round =>
  obtain ⟨⟨k,hk,rfl,hn⟩,hS⟩:=hrel
  have HN:Hid ((List.range k).all (fun g=>decide ((nd.last[g]?.getD []).length=d.nodes.length))=true):=hn
  clear hn
  obtain ⟨f0,f1,f2,f3,f4⟩:=RF.out _ hS
  by_cases hlt:k < nd.last.length
  ·obtain ⟨row,hrow⟩:∃ row,nd.last[k]? = some row:=⟨_,zQ1 hlt⟩
   obtain ⟨bL,oL,rfl,hbL,hcL⟩:=hL1.cells (by omega)
   obtain ⟨v4,k4,ra,rc,rfl,hrc,hR⟩:=hcL k row hrow
   have k5:wr.cell? ⟨bL,oL+k,none⟩=_:=(hS.cellAt hbL _).trans k4
   have jZ:Hid (nd.last[k]? = some row):=hrow
   clear hcL hrow k4
   cases c3:((row.length:Int) == (d.nodes.length:Int))
   ·have HF:Hid ((decide (nd.last.length=d.groups.length) && bJ d n nd.last)=false):=by
     have e:bJ d n nd.last=false:=by
      unfold bJ
      refine jh hlt ?_
      rw [jZ.out];unfold iX;rw [Option.getD_some,<-eq_len,c3];rfl
     unfold Hid;rw [e];simp
    go_wp2_with (go_at_call 77;refine (dO _ _ (by first | exact c3 | rfl) _).mono ?_;rintro e w' ⟨rfl,rfl⟩)
    exact ⟨by rw [HF.out];rfl,hS1.trans (hS.alloc _)⟩
   have C3:Hid (((row.length:Int) == (d.nodes.length:Int))=true):=c3
   clear c3
   go_wp2_with (go_at_call 77;refine (cK _ _ (by exact C3.out) _).mono ?_;rintro e w' ⟨rfl,rfl⟩)
   go_roundw
   case rel=>exact ⟨⟨k+1,by omega,by go_num,fJ HN.out (by rw [jZ.out,Option.getD_some,<-eq_len];exact C3.out)⟩,hS.alloc _⟩
   case measure=>simp [intOf];omega
  ·have HLE:Hid (y8 d nd.last=true):=by
    have:=HN.out
    rw [show k=nd.last.length from by omega] at this
    exact this
   clear HN
   go_wp2_with fail
   refine fK (cu ?_)
   go_wp2_with (go_at_call 138;refine (zT ⟨ga,d.groups.length,gc,_,d.nodes.length,nc,wa,wl,wc⟩ _).mono ?_;rintro e w' ⟨rfl,rfl⟩)
   refine sD ?_
   obtain ⟨w5,hw5⟩:∃ w5,wr.alloc (.cells #[.slice ga d.groups.length gc,.slice (some ⟨bn,on,none⟩) d.nodes.length nc,.slice wa wl wc] 77)=w5:=⟨_,rfl⟩
   have hS5:Since w1 w5:=by rw [<-hw5];exact hS.alloc _
   have z0:w5.cell? ⟨wr.heap.size,0,none⟩=some (.slice ga d.groups.length gc):=by rw [<-hw5];simp [go_sem]
   have z1:w5.cell? ⟨wr.heap.size,1,none⟩=some (.slice (some ⟨bn,on,none⟩) d.nodes.length nc):=by rw [<-hw5];simp [go_sem]
   have hsz5:wr.heap.size < w5.heap.size:=by rw [<-hw5];simp
   rw [hw5]
   clear hw5
   refine sF (m:=1) func109 (gf:=162) (lb:=#[.pointer (some ⟨wr.heap.size,0,none⟩)]) rfl (enters_of func162 (by kernel_rfl) rfl) (Nat.le_refl _)
    (zM 1 wr.heap.size w5.heap.size w5 hsz5 (Nat.le_refl _) ga d.groups.length gc _ d.nodes.length nc hgm (by omega) z0 z1) (fun _=>rfl)
    (fun i W=>Since w1 W/\((pairs d.groups.length d.nodes.length).take i).all (fun p=>bK d n p.1 p.2 (bT nd.last p.1 p.2))=true)
    (fun ch W=>ch=pan 1/\Since w1 W/\bJ d n nd.last=false)
    (fun i A B hA hk=>⟨⟨hA.1.below.trans (hk.below.mono hS5.size)⟩,hA.2⟩) (fun _ _ _ _ h=>h.elim) ⟨hS5,rfl⟩ ?round ?done ?pan
   case done =>
    rintro D W hD ⟨hSW,hall⟩ hK
    have hS9:Since w1 (W.putObj D (.deferred none)):=⟨hSW.below.trans ((KX.put (X:=none) (.deferred none) hK rfl hD).below.mono hS5.size)⟩
    have HB:Hid ((decide (nd.last.length=d.groups.length) && bJ d n nd.last)=true):=by
     have hll:=H1.out
     rw [eq_len] at hll
     have hle:nd.last.length=d.groups.length:=by simpa using hll
     rw [List.take_of_length_le (by rw [jq];exact Nat.le_refl _)] at hall
     unfold Hid;rw [hll,qg d n nd.last HLE.out,hle];exact hall
    refine ⟨by simp,.inl ⟨_,_,rfl,run_takeDeferred hK, ?_⟩⟩
    exact ⟨_,results_none rfl _ _ _,by rw [HB.out];rfl,hS1.trans hS9⟩
   case pan =>
    rintro D ch W hD ⟨rfl,hSW,hF⟩ hK
    have hS9:Since w1 (W.putObj D (.deferred none)):=⟨hSW.below.trans ((KX.put (X:=none) (.deferred none) hK rfl hD).below.mono hS5.size)⟩
    refine ⟨by simp,.inl ⟨_,_,rfl,run_takeDeferred hK, ?_⟩⟩
    exact ⟨by rw [hF];simp [nI],hS1.trans hS9⟩
   case round =>
    rintro l i ⟨g,k⟩ W W' hsz' ⟨hSW,hall⟩ _ hx
    obtain ⟨hgl,hkl⟩:=zL hx
    have hll:nd.last.length=d.groups.length:=by have:=H1.out;rw [eq_len] at this;simpa using this
    obtain ⟨row,hrow⟩:∃ row,nd.last[g]? = some row:=⟨_,zQ1 (by omega)⟩
    have hrl:row.length=d.nodes.length:=by
     have:=HLE.out
     unfold y8 at this
     rw [List.all_eq_true] at this
     have:=this g (by simp;omega)
     rw [hrow] at this
     simpa using this
    obtain ⟨v,hv⟩:∃ v,row[k]? = some v:=⟨_,zQ1 (by omega)⟩
    obtain ⟨bL,oL,rfl,hbL,hcL⟩:=hL1.cells (by omega)
    obtain ⟨v4,k4,ra,rc,rfl,hrc,hR⟩:=hcL g row hrow
    obtain ⟨bR,oR,rfl,hbR,hcR⟩:=hR.cells (by omega)
    have k5:W'.cell? ⟨bL,oL+g,none⟩=_:=(hSW.cellAt hbL _).trans k4
    have k6:W'.cell? ⟨bR,oR+k,none⟩=some (.int .i64 v):=(hSW.cellAt hbR _).trans (by have:=hcR k (by omega);rw [hv] at this;exact this)
    obtain ⟨e0,e1,e2,e3,e4⟩:=RF.out _ hSW
    have hIW:=hG1.since hSW
    have HLV:Hid (bT nd.last g k=v):=by unfold Hid bT;rw [hrow,Option.getD_some,hv];rfl
    have HX:Hid ((pairs d.groups.length d.nodes.length)[i]? = some (g,k)):=hx
    have HA:Hid (((pairs d.groups.length d.nodes.length).take i).all (fun p=>bK d n p.1 p.2 (bT nd.last p.1 p.2))=true):=hall
    have HLL:Hid (nd.last.length=d.groups.length):=hll
    have g1:(g:Int) < (nd.last.length:Int):=by omega
    have g2:(k:Int) < (row.length:Int):=by omega
    have HC:Hid (bK d n g k v=(inB v 0 1048576 && ((hasB d.groups g n && hasB d.groups g k) || (v == 0)))):=by
     unfold Hid bK vO;congr 2
    clear hcL hcR hrow hv hall hx k4 hll
    gi_wp2
    refine ⟨trivial, ?_⟩
    have hok:∀ b,bK d n g k v=b->(b=true->((pairs d.groups.length d.nodes.length).take (i+1)).all (fun p=>bK d n p.1 p.2 (bT nd.last p.1 p.2))=true)/\(b=false->bJ d n nd.last=false):=by
     intro b hb
     refine ⟨fun h=>eX HX.out HA.out (by rw [HLV.out,hb];exact h),fun h=>?_⟩
     rw [qg d n nd.last HLE.out,HLL.out]
     exact iV HX.out (by rw [HLV.out,hb];exact h)
    have HOK:Hid (∀ b,bK d n g k v=b->(b=true->((pairs d.groups.length d.nodes.length).take (i+1)).all (fun p=>bK d n p.1 p.2 (bT nd.last p.1 p.2))=true)/\(b=false->bJ d n nd.last=false)):=hok
    clear hok
    have HIW:Hid (Ints W' ga d.groups.length d.groups):=hIW
    cases h1:hasB d.groups g n
    all_goals cases h2:hasB d.groups g k
    all_goals cases h3:(v == 0)
    all_goals cases h4:inB v 0 1048576
    all_goals
     have HC1:=HC.out
     rw [h1,h2,h3,h4] at HC1
     have HC2:Hid (bK d n g k v=_):=HC1
     clear HC1
     have H2:Hid (hasB d.groups g k=_):=h2
     clear h2
     gi_wp2_with (first
      | (refine ⟨trivial,rfl, ?_⟩;gi_at_call 25;refine (oo (gX _ _ _ d.groups _ _ _ HIW.out)).mono ?_;(first | rw [h1] | rw [H2.out]);rintro e w' ⟨rfl,hw⟩;obtain rfl:=hw.symm)
      | (refine ⟨trivial,rfl, ?_⟩;gi_at_call 108;refine (oo (jO _ _)).mono ?_;rw [h4];rintro e w' ⟨rfl,hw⟩;obtain rfl:=hw.symm)
      | (refine ⟨trivial,rfl, ?_⟩;gi_at_call 77;refine (oo (kE _ _ _ (by first | rfl | (rw [h3];rfl)) _)).mono ?_;rintro e w' ⟨rfl,rfl⟩)
      | (refine ⟨trivial,rfl, ?_⟩;gi_at_call 77;refine (oo (kF _ _ _ (by first | rfl | (rw [h3];rfl)) _)).mono ?_;rintro e w' ⟨rfl,rfl⟩)
      | (refine ⟨trivial, ?_⟩;fail_if_success (refine ⟨rfl, ?_⟩)))
     first
     | exact ⟨NC.ig ((Since.refl W').alloc _),KX.ig ((Since.refl W').alloc _) hsz',hSW.alloc _,(HOK.out _ HC2.out).1 rfl⟩
     | exact ⟨rfl,NC.ig ((Since.refl W').alloc _),rfl,hSW.alloc _,(HOK.out _ HC2.out).2 rfl⟩
end Go.Proofs.Ytiiifecfdkjmbaa
namespace Go.Proofs.Ytiiifecfdkjmbaa
open _root_.Go.Proofs.Try hiding checked
set_option maxRecDepth 8000
open Go.RowKit Go.Shelf
theorem D8 (w0:World) (x:WV) (d:Wd) (n:Nat) (nd:Nd) (hv:(decide (nd.last.length=d.groups.length) && bJ d n nd.last)=true) (hW:WAt w0 x d) (hn:d.nodes[n]? = some nd) (w:World) (h:Since w0 w) :
  Calls prog 109 #[.agg #[.slice x.ga x.gl x.gc,.slice x.na x.nl x.nc,.slice x.wa x.wl x.wc],.int .i64 n] w fun e w'=>e=.returned (.tuple #[])/\Since w0 w' :=
 (vN x d n nd w (hW.since h) hn).mono fun _ _ ⟨he,hw⟩=>⟨by rw [he,hv];rfl,h.trans hw⟩
theorem D9 (w0:World) (x:WV) (d:Wd) (n:Nat) (nd:Nd) (hv:(decide (nd.last.length=d.groups.length) && bJ d n nd.last)=false) (hW:WAt w0 x d) (hn:d.nodes[n]? = some nd) (w:World) (h:Since w0 w) :
  Calls prog 109 #[.agg #[.slice x.ga x.gl x.gc,.slice x.na x.nl x.nc,.slice x.wa x.wl x.wc],.int .i64 n] w fun e w'=>e=.panicked (pan 1)/\Since w0 w' :=
 (vN x d n nd w (hW.since h) hn).mono fun _ _ ⟨he,hw⟩=>⟨by rw [he,hv];rfl,h.trans hw⟩
def eY (d:Wd) (n:Nat) (l:List Mg):Bool:=aM l && (aH d l n && cO l)
theorem vP (d:Wd) (n:Nat) (nd:Nd):av d n nd=(inB nd.clock 0 1048576 && ((decide (nd.last.length=d.groups.length) && bJ d n nd.last) && [nd.held,nd.told].all (eY d n))):=by
 unfold av jP eG eY
 simp only [List.all_cons,List.all_nil,Bool.and_true]
 cases inB nd.clock 0 1048576 <;> cases decide (nd.last.length=d.groups.length) <;> cases bJ d n nd.last <;> cases aM nd.held <;> cases aM nd.told <;> cases cO nd.held <;> cases cO nd.told <;> simp
set_option maxRecDepth 4000 in
theorem vQ (x:WV) (d:Wd) (n:Nat) (nd:Nd) (w:World) (hW:WAt w x d) (hn:d.nodes[n]? = some nd) :
  Calls prog 79 #[.agg #[.slice x.ga x.gl x.gc,.slice x.na x.nl x.nc,.slice x.wa x.wl x.wc],.int .i64 n] w fun e w'=>e=nI 1 (av d n nd)/\Since w w':=by
 have hnl:=(zQ2.1 hn).1
 obtain ⟨ga,gl,gc,na,nl,nc,wa,wl,wc⟩:=x
 have mQ:=hW.n.hlen
 have hnm:=hW.n.hmax
 dsimp only at mQ hnm ⊢
 subst mQ
 obtain ⟨bn,on,rfl,hbn,hcn⟩:=hW.n.cells (by dsimp only;omega)
 obtain ⟨k0,⟨v1,k1,la,lc,rfl,hlc,hL⟩,⟨v2,k2,ha,hc,rfl,hhc,hH⟩,⟨v3,k3,ta,tc,rfl,htc,hT⟩⟩:=hcn n nd hn
 obtain ⟨w1,hw1⟩:∃ w1,(w.alloc (.cells #[.slice ga gl gc,.slice (some ⟨bn,on,none⟩) d.nodes.length nc,.slice wa wl wc] 77)).alloc (.cells #[.int .i64 nd.clock,.slice la nd.last.length lc,.slice ha nd.held.length hc,.slice ta nd.told.length tc] 45)=w1:=⟨_,rfl⟩
 have hS1:Since w w1:=by rw [<-hw1];exact ((Since.refl w).alloc _).alloc _
 have hsz:w.heap.size+1 < w1.heap.size:=by rw [<-hw1];simp
 have b0:w1.cell? ⟨w.heap.size,0,none⟩=some (.slice ga gl gc):=by rw [<-hw1];simp [go_sem]
 have b1:w1.cell? ⟨w.heap.size,1,none⟩=some (.slice (some ⟨bn,on,none⟩) d.nodes.length nc):=by rw [<-hw1];simp [go_sem]
 have b2:w1.cell? ⟨w.heap.size,2,none⟩=some (.slice wa wl wc):=by rw [<-hw1];simp [go_sem]
 have b3:w1.cell? ⟨w.heap.size+1,0,none⟩=some (.int .i64 nd.clock):=by rw [<-hw1];simp [go_sem]
 have b4:w1.cell? ⟨w.heap.size+1,2,none⟩=some (.slice ha nd.held.length hc):=by rw [<-hw1];simp [go_sem]
 have b5:w1.cell? ⟨w.heap.size+1,3,none⟩=some (.slice ta nd.told.length tc):=by rw [<-hw1];simp [go_sem]
 have hW1:=hW.since hS1
 have hH1:=hH.since hS1
 have hT1:=hT.since hS1
 have RF:Hid (∀ y,Since w1 y->y.cell? ⟨w.heap.size,0,none⟩=some (.slice ga gl gc)/\y.cell? ⟨w.heap.size,1,none⟩=some (.slice (some ⟨bn,on,none⟩) d.nodes.length nc)/\y.cell? ⟨w.heap.size,2,none⟩=some (.slice wa wl wc)
   /\ y.cell? ⟨w.heap.size+1,2,none⟩=some (.slice ha nd.held.length hc)/\y.cell? ⟨w.heap.size+1,3,none⟩=some (.slice ta nd.told.length tc)):=fun y hy =>
  ⟨(hy.cellAt (by omega) _).trans b0,(hy.cellAt (by omega) _).trans b1,(hy.cellAt (by omega) _).trans b2,(hy.cellAt (by omega) _).trans b4,(hy.cellAt (by omega) _).trans b5⟩
 have HE:Hid (av d n nd=(inB nd.clock 0 1048576 && ((decide (nd.last.length=d.groups.length) && bJ d n nd.last) && [nd.held,nd.told].all (eY d n)))):=vP d n nd
 have HN:Hid (d.nodes[n]? = some nd):=hn
 have n1:(n:Int) < (d.nodes.length:Int):=by omega
 clear hcn hn hL hH hT
 cases h1:inB nd.clock 0 1048576
 ·have HF:Hid (av d n nd=false):=by unfold Hid;rw [HE.out,h1];rfl
  go_enter func79,ntmps79
  go_wp2_with (first
   | (go_at_call 108;refine (jO _ _).mono ?_;rw [h1];rintro e w' ⟨rfl,hw⟩;obtain rfl:=hw.symm)
   | (go_at_call 77;refine (dO _ _ rfl _).mono ?_;rintro e w' ⟨rfl,rfl⟩))
  exact ⟨rfl,by rw [HF.out];rfl,hS1.alloc _⟩
 cases h2:(decide (nd.last.length=d.groups.length) && bJ d n nd.last)
 ·have HF:Hid (av d n nd=false):=by unfold Hid;rw [HE.out,h2];simp
  have H2:Hid ((decide (nd.last.length=d.groups.length) && bJ d n nd.last)=false):=h2
  clear h2
  go_enter func79,ntmps79
  go_wp2_with (first
   | (go_at_call 108;refine (jO _ _).mono ?_;rw [h1];rintro e w' ⟨rfl,hw⟩;obtain rfl:=hw.symm)
   | (go_at_call 77;refine (cK _ _ rfl _).mono ?_;rintro e w' ⟨rfl,hw3⟩;have hS3:Since w1 w':=(by rw [hw3];exact Since.alloc (Since.refl _) _);obtain ⟨g0,g1,g2,g3,g4⟩:=RF.out _ hS3;clear hw3)
   | (go_at_call 109;refine (D9 w1 ⟨ga,gl,gc,_,d.nodes.length,nc,wa,wl,wc⟩ d n nd H2.out hW1 HN.out _ (by assumption)).mono ?_;rintro e w' ⟨rfl,hS4⟩))
  exact ⟨rfl,by rw [HF.out];rfl,hS1.trans (by assumption)⟩
 have H2:Hid ((decide (nd.last.length=d.groups.length) && bJ d n nd.last)=true):=h2
 clear h2
 go_enter func79,ntmps79
 go_wp2_with (first
  | (go_at_call 108;refine (jO _ _).mono ?_;rw [h1];rintro e w' ⟨rfl,hw⟩;obtain rfl:=hw.symm)
  | (go_at_call 77;refine (cK _ _ rfl _).mono ?_;rintro e w' ⟨rfl,hw3⟩;have hS3:Since w1 w':=(by rw [hw3];exact Since.alloc (Since.refl _) _);obtain ⟨g0,g1,g2,g3,g4⟩:=RF.out _ hS3;clear hw3)
  | (go_at_call 109;refine (D8 w1 ⟨ga,gl,gc,_,d.nodes.length,nc,wa,wl,wc⟩ d n nd H2.out hW1 HN.out _ (by assumption)).mono ?_;rintro e w4 ⟨rfl,hS4⟩;obtain ⟨q0,q1,q2,q3,q4⟩:=RF.out _ hS4))
 obtain ⟨w5,hw5⟩:∃ w5,w4.alloc (.cells #[.slice ha nd.held.length hc,.slice ta nd.told.length tc] 39)=w5:=⟨_,rfl⟩
 have hS5:Since w1 w5:=by rw [<-hw5];exact Since.alloc (by assumption) _
 have hsz5:w4.heap.size < w5.heap.size:=by rw [<-hw5];simp
 have z0:w5.cell? ⟨w4.heap.size,0,none⟩=some (.slice ha nd.held.length hc):=by rw [<-hw5];simp [go_sem]
 have z1:w5.cell? ⟨w4.heap.size,1,none⟩=some (.slice ta nd.told.length tc):=by rw [<-hw5];simp [go_sem]
 rw [hw5]
 clear hw5 hw1
 have HLS:Hid (∀ k:Nat,k < 2->∃ a l c,[nd.held,nd.told][k]? = some l/\w5.cell? ⟨w4.heap.size,0+k,none⟩=some (.slice a l.length c)/\dn w1 a l.length l):=by
  intro k hk
  match k,hk with
  | 0,_=>exact ⟨ha,nd.held,hc,rfl,z0,hH1⟩
  | 1,_=>exact ⟨ta,nd.told,tc,rfl,z1,hT1⟩
 go_loopw [29] (fun i wr=>(∃ k:Nat,k<=2/\i=.int .i64 k/\([nd.held,nd.told].take k).all (eY d n)=true)/\Since w5 wr) (fun i _=>2 - (intOf i).toNat)
 case atStart=>exact ⟨⟨0,Nat.zero_le _,rfl,rfl⟩,Since.refl _⟩
 case round =>
  obtain ⟨⟨k,hk,rfl,hnk⟩,hS⟩:=hrel
  have HNK:Hid (([nd.held,nd.told].take k).all (eY d n)=true):=hnk
  clear hnk
  have mG:=hS5.trans hS
  obtain ⟨f0,f1,f2,f3,f4⟩:=RF.out _ mG
  by_cases hlt:k < 2
  ·obtain ⟨a,l,c,hl,hcell,hM⟩:=HLS.out k hlt
   have hc9:wr.cell? ⟨w4.heap.size,0+k,none⟩=some (.slice a l.length c):=(hS.cellAt hsz5 _).trans hcell
   rw [Nat.zero_add] at hc9
   have HL:Hid ([nd.held,nd.told][k]? = some l):=hl
   have HFL:Hid (eY d n l=false->av d n nd=false):=by
    intro h
    rw [HE.out,iV HL.out h];simp
   clear hl hcell
   obtain ⟨_,hlm,hmc⟩:=id hM
   cases h3:aM l
   ·have HF:Hid (av d n nd=false):=HFL.out (by unfold eY;rw [h3];rfl)
    have H3:Hid (aM l=false):=h3
    clear h3
    go_wp2_with (first
     | (go_at_call 110;refine (lq w1 _ _ _ _ _ H3.out hM _ mG).mono ?_;rintro e w6 ⟨rfl,hS6⟩)
     | (go_at_call 77;refine (dO _ _ rfl _).mono ?_;rintro e w' ⟨rfl,rfl⟩))
    exact ⟨rfl,by rw [HF.out];rfl,hS1.trans (Since.alloc (by assumption) _)⟩
   have H3:Hid (aM l=true):=h3
   clear h3
   cases h4:aH d l n
   ·have HF:Hid (av d n nd=false):=HFL.out (by unfold eY;rw [h4];simp)
    have H4:Hid (aH d l n=false):=h4
    clear h4
    go_wp2_with (first
     | (go_at_call 110;refine (lq w1 _ _ _ _ _ H3.out hM _ mG).mono ?_;rintro e w6 ⟨rfl,hS6⟩)
     | (go_at_call 77;refine (cK _ _ rfl _).mono ?_;rintro e w' ⟨rfl,hw7⟩;have hS7:Since w1 w':=(by rw [hw7];exact Since.alloc hS6 _);obtain ⟨m0,m1,m2,m3,m4⟩:=RF.out _ hS7;clear hw7)
     | (go_at_call 111;refine (yY w1 ⟨ga,gl,gc,_,d.nodes.length,nc,wa,wl,wc⟩ d _ _ _ l _ H4.out hW1 hM _ (by assumption)).mono ?_;rintro e w' ⟨rfl,hS8⟩))
    exact ⟨rfl,by rw [HF.out];rfl,hS1.trans (by assumption)⟩
   have H4:Hid (aH d l n=true):=h4
   clear h4
   go_wp2_with (first
    | (go_at_call 110;refine (lq w5 _ _ _ _ _ H3.out (hM.since hS5) _ hS).mono ?_;rintro e w6 ⟨rfl,hS6⟩)
    | (go_at_call 77;refine (cK _ _ rfl _).mono ?_;rintro e w' ⟨rfl,hw7⟩;have hS7:Since w5 w':=(by rw [hw7];exact Since.alloc hS6 _);obtain ⟨m0,m1,m2,m3,m4⟩:=RF.out _ (hS5.trans hS7);clear hw7)
    | (go_at_call 111;refine (yX w5 ⟨ga,gl,gc,_,d.nodes.length,nc,wa,wl,wc⟩ d _ _ _ l _ H4.out (hW1.since hS5) (hM.since hS5) _ (by assumption)).mono ?_;rintro e w8 ⟨rfl,hS8⟩))
   go_loopw [43] (fun i wr=>(∃ j:Nat,j<=l.length/\i=.int .i64 j/\(l.take j).all (fun m=>!m.nul)=true)/\Since w5 wr) (fun i _=>l.length - (intOf i).toNat)
   case atStart=>exact ⟨⟨0,Nat.zero_le _,rfl,rfl⟩,by assumption⟩
   case round =>
    obtain ⟨⟨j,hj,rfl,hnj⟩,hSj⟩:=hrel
    have HNJ:Hid ((l.take j).all (fun m=>!m.nul)=true):=hnj
    clear hnj
    by_cases hjl:j < l.length
    ·obtain ⟨b,off,rfl,hb,hcell⟩:=hmc (by omega)
     obtain ⟨m,hm⟩:∃ m,l[j]? = some m:=⟨_,zQ1 hjl⟩
     have hS0:=hS5.trans hSj
     obtain ⟨d0,d1,d2,d3,d4⟩:=aX (w:=wr) (fun i u hi=>(hS0.cellAt hb _).trans (hcell i u hi)) j m hm
     have HM:Hid (l[j]? = some m):=hm
     obtain ⟨w9,hw9⟩:∃ w9,wr.alloc (.cells #[.int .i64 m.fr,.int .i64 m.gr,.int .i64 m.st,.bool m.nul,.string m.body] 48)=w9:=⟨_,rfl⟩
     have hS9:Since w5 w9:=by rw [<-hw9];exact hSj.alloc _
     have y3:w9.cell? ⟨wr.heap.size,3,none⟩=some (.bool m.nul):=by rw [<-hw9];simp [go_sem]
     clear hm hcell hmc
     cases h6:!m.nul
     ·have HF:Hid (av d n nd=false):=HFL.out (by
       have:cO l=false:=iV HM.out h6
       unfold eY;rw [this];simp)
      go_wp2_with (go_at_call 77;refine (dO _ _ (by first | exact h6 | rfl) _).mono ?_;rintro e w' ⟨rfl,rfl⟩)
      exact ⟨rfl,by rw [HF.out];rfl,hS1.trans (hS5.trans (hS9.alloc _))⟩
     ·have HF:Hid ((l.take (j+1)).all (fun m=>!m.nul)=true):=eX HM.out HNJ.out h6
      go_wp2_with (go_at_call 77;refine (cK _ _ (by first | exact h6 | rfl) _).mono ?_;rintro e w' ⟨rfl,rfl⟩)
      go_roundw
      case rel=>exact ⟨⟨j+1,by omega,by go_num,HF.out⟩,hS9.alloc _⟩
      case measure=>simp [intOf];omega
    ·have HO:Hid (eY d n l=true):=by
      have:=HNJ.out
      rw [List.take_of_length_le (by omega)] at this
      have e:cO l=true:=this
      unfold Hid eY;rw [H3.out,H4.out,e];rfl
     clear hmc
     go_wp2_with fail
     go_roundw
     case rel=>exact ⟨⟨k+1,by omega,by go_num,eX HL.out HNK.out HO.out⟩,hSj⟩
     case measure=>simp [intOf];omega
  ·have HF:Hid (av d n nd=true):=by
    have:=HNK.out
    rw [List.take_of_length_le (by simp;omega)] at this
    unfold Hid;rw [HE.out,h1,H2.out,this];rfl
   go_wp2
   go_end0
   exact ⟨by rw [HF.out];rfl,hS1.trans (hS5.trans hS)⟩
end Go.Proofs.Ytiiifecfdkjmbaa
