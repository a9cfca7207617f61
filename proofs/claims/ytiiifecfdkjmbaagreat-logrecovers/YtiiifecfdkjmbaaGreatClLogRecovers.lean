/- The law LogRecovers answers true; conditions: the groups read as ints. For every argument furlonglaw.LogRecovers returns true, and what it was handed reads as before: log.Recover answers what the document says, errors too. No condition. -/
import Derived.Test.YtiiifecfdkjmbaaGreatRLogX
import Derived.Test.YtiiifecfdkjmbaaGreatRDo4X
import Derived.Test.YtiiifecfdkjmbaaGreatOpenX
namespace Go.Proofs.YtiiifecfdkjmbaaGreat
set_option maxRecDepth 8000
open Go.RowKit Go.Shelf
open _root_.Go.Proofs.YtiiifecfdkjmbaaGreat.Pure
set_option linter.unusedVariables false
set_option linter.unusedSimpArgs false
theorem Om {t:ByteArray} (h:nD t=0):t.size≤4096∧l9 t=gI t∧(l9 t).length=gJ t:=by
 unfold nD at h
 split at h
 ·rename_i h1;unfold l9;rw [if_pos h1];exact ⟨h1,rfl,dL t⟩
 ·cases h
set_option maxHeartbeats 2000000 in
theorem uE (nodes:Int) (a:Option Addr) (len cap:Nat) (g:List Int) (t:ByteArray) (w:World) (hI:Ints w a len g) :
  Calls Tryz.prog 20 #[.int .i64 nodes,.slice a len cap,.string t] w fun e w'=>e=.returned (.bool true)∧Since w w':=by
 obtain rfl:g.length=len:=hI.hlen
 have hA:=fun y (hy:Ints y a g.length g)=>lZ nodes a g.length cap g t y hy
 have hB:=fun y (hy:Ints y a g.length g)=>uG nodes a g.length cap g y hy
 have hC:=fun y=>vR t y
 have IF:Hid (∀ y,Since w y→Ints y a g.length g):=fun y hy=>hI.since hy
 by_cases hE:lC nodes g t=0
 ·have hN:dB nodes g=0:=by
   unfold lC at hE
   by_cases h:dB nodes g=0
   ·exact h
   ·rw [if_neg h] at hE;exact absurd hE h
  have hRp:nD t=0:=by unfold lC at hE;rwa [if_pos hN] at hE
  obtain ⟨h1,h2,h3,h4⟩:=ql hN
  obtain ⟨n,rfl⟩:∃ n:Nat,nodes=(n:Int):=⟨nodes.toNat,by omega⟩
  obtain ⟨ht,hrl,hrn⟩:=Om hRp
  have hD:tK n g t=doneD n g (l9 t):=by unfold tK;rw [if_pos hE,hrl];rfl
  have hNn:ru n g t=(l9 t).length:=by unfold ru;rw [if_pos hE,hrn]
  have hDo:=fun ac oO y (hy:Ints y a g.length g) (hya:kr y ac (l9 t).length (l9 t))=>xX n (by omega) g h4 a cap ac oO (l9 t) y hy hya
  rw [hE,hD,hNn] at hA
  rw [hN] at hB
  rw [hRp] at hC
  obtain ⟨l,hl⟩:∃ s,l9 t=s:=⟨_,rfl⟩
  obtain ⟨k,hk⟩:∃ s,uH t=s:=⟨_,rfl⟩
  rw [hl] at hA hC hDo
  rw [hk] at hC
  obtain ⟨D,hDD⟩:∃ s,doneD n g l=s:=⟨_,rfl⟩
  rw [hDD] at hA hDo
  clear hE hN hRp h1 h2 hrl hrn hD hNn hl hk ht hI hDD
  go_enter Tryz.func20,Tryz.ntmps20
  go_wp2_with fail
  refine (hA w (IF.out _ (Since.refl w))).mono ?_
  rintro e w1 ⟨⟨ga,gl,gc,na,nl,nc,wa0,wl,wc⟩,rfl,hW1,hS1⟩
  dsimp only at hW1 ⊢
  obtain ⟨w2,hw2⟩:∃ y,w1.alloc (.cells #[.slice ga gl gc,.slice na nl nc,.slice wa0 wl wc] 26)=y:=⟨_,rfl⟩
  have hS2:=ak hw2
  have hP2:aC w2 w1.heap.size ⟨ga,gl,gc,na,nl,nc,wa0,wl,wc⟩:=by rw [←hw2];exact aC.new w1 ⟨ga,gl,gc,na,nl,nc,wa0,wl,wc⟩ _
  have PF:Hid (∀ y,Since w2 y→aC y w1.heap.size ⟨ga,gl,gc,na,nl,nc,wa0,wl,wc⟩):=fun y hy=>hP2.since hy
  have c2:=hS1.trans hS2
  go_wp2_with (go_at_call 69;refine (hB w2 (IF.out _ c2)).mono ?_;rintro e w3 ⟨rfl,hS3⟩)
  clear hw2
  go_wp2_with fail
  refine (hC w3).mono ?_
  rintro e w4 ⟨a4,c4,rfl,hA4,hS4⟩
  obtain ⟨w5,hw5⟩:∃ y,w4.alloc (.cells #[.slice none 0 0,.slice none 0 0,.slice none 0 0] 26)=y:=⟨_,rfl⟩
  have hS5:=ak hw5
  have hN5:aA w5 w4.heap.size:=by rw [←hw5];exact aA.new w4 _
  have c5:=c2.trans (hS3.trans (hS4.trans hS5))
  go_wp2_with fail
  refine (hDo a4 c4 w5 (IF.out _ c5) (hA4.since hS5)).mono ?_
  rintro e w6 ⟨L,rfl,hO6,hS6⟩
  simp only [aH]
  obtain ⟨lt,r0,r1,r2,r3,r4,r5⟩:=hN5.since hS6
  obtain ⟨w7,hw7⟩:∃ y,zq w6 w4.heap.size (.slice (L (0,0,0)).a D.groups.length (L (0,0,0)).cap) (.slice (L (1,0,0)).a D.nodes.length (L (1,0,0)).cap) (.slice (L (2,0,0)).a D.wires.length (L (2,0,0)).cap)=y:=⟨_,rfl⟩
  have hF7:Fr (fun i=>i=w4.heap.size) w6 w7:=by rw [←hw7];exact cu w6 w4.heap.size _ _ _
  have Rw:Since w4 w7:=hF7.aB (hS5.trans hS6) (fun i hi e=>by omega)
  have hP7:aC w7 w4.heap.size (dS L D):=by
   rw [←hw7];exact ⟨Nat.lt_of_lt_of_le lt (cu w6 w4.heap.size _ _ _).size,mI r0,mJ r1,mK r2⟩
  have hO7:aW w5.heap.size w7 D L:=hO6.fr hF7 (fun b hb hc=>by have h1:=(hO6.blk hb).1;have h2:=hN5.lt;have h3:b=w4.heap.size:=hc;omega)
  have c27:=hS3.trans (hS4.trans Rw)
  have hWX:=hW1.since (hS2.trans c27)
  have NF:Hid (∀ y,Since w7 y→aC y w1.heap.size ⟨ga,gl,gc,na,nl,nc,wa0,wl,wc⟩∧aC y w4.heap.size (dS L D)):=fun y hy=>⟨PF.out _ (c27.trans hy),hP7.since hy⟩
  have hWY:=hO7.wat
  unfold zq at hw7
  clear hw5
  go_wp2_with (first
   | (go_at_call 62;refine (aT w7).mono ?_;rintro e wx ⟨rfl,hSx⟩;obtain ⟨⟨_,m0,m1,m2⟩,⟨_,m3,m4,m5⟩⟩:=NF.out _ hSx;unfold dS at m3 m4 m5;dsimp only at m0 m1 m2 m3 m4 m5)
   | (go_at_call 31;refine (d9 ⟨ga,gl,gc,na,nl,nc,wa0,wl,wc⟩ (dS L D) D wx (hWX.since hSx) (hWY.since hSx)).mono ?_;rintro e wy ⟨rfl,hSy⟩))
  go_ret
  exact ⟨by simp,c2.trans (c27.trans (hSx.trans hSy))⟩
 ·have hD:tK nodes g t=⟨[],[],[]⟩:=by unfold tK;rw [if_neg hE]
  have hNn:ru nodes g t=0:=by unfold ru;rw [if_neg hE]
  have hEE:lC nodes g t=if dB nodes g=0 then nD t else dB nodes g:=rfl
  rw [hD,hNn] at hA
  obtain ⟨l,hl⟩:∃ s,l9 t=s:=⟨_,rfl⟩
  obtain ⟨k,hk⟩:∃ s,uH t=s:=⟨_,rfl⟩
  obtain ⟨R,hR⟩:∃ s,nD t=s:=⟨_,rfl⟩
  obtain ⟨C,hC0⟩:∃ s,dB nodes g=s:=⟨_,rfl⟩
  obtain ⟨E,hE0⟩:∃ s,lC nodes g t=s:=⟨_,rfl⟩
  rw [hl,hk,hR] at hC
  rw [hC0] at hB
  rw [hE0] at hA hE
  rw [hE0,hR,hC0] at hEE
  have hEb:(E == 0)=false:=by simpa using hE
  have HEE:Hid (E=if C=0 then R else C):=hEE
  clear hl hk hR hC0 hE0 hD hNn hI hEE hE
  go_enter Tryz.func20,Tryz.ntmps20
  go_wp2_with fail
  refine (hA w (IF.out _ (Since.refl w))).mono ?_
  rintro e w1 ⟨⟨ga,gl,gc,na,nl,nc,wa0,wl,wc⟩,rfl,hW1,hS1⟩
  dsimp only at hW1 ⊢
  obtain ⟨w2,hw2⟩:∃ y,w1.alloc (.cells #[.slice ga gl gc,.slice na nl nc,.slice wa0 wl wc] 26)=y:=⟨_,rfl⟩
  have hS2:=ak hw2
  have hP2:aC w2 w1.heap.size ⟨ga,gl,gc,na,nl,nc,wa0,wl,wc⟩:=by rw [←hw2];exact aC.new w1 ⟨ga,gl,gc,na,nl,nc,wa0,wl,wc⟩ _
  have PF:Hid (∀ y,Since w2 y→aC y w1.heap.size ⟨ga,gl,gc,na,nl,nc,wa0,wl,wc⟩):=fun y hy=>hP2.since hy
  have c2:=hS1.trans hS2
  go_wp2_with (go_at_call 69;refine (hB w2 (IF.out _ c2)).mono ?_;rintro e w3 ⟨rfl,hS3⟩)
  clear hw2
  go_wp2_with fail
  refine (hC w3).mono ?_
  rintro e w4 ⟨a4,c4,rfl,hA4,hS4⟩
  obtain ⟨w5,hw5⟩:∃ y,w4.alloc (.cells #[.slice none 0 0,.slice none 0 0,.slice none 0 0] 26)=y:=⟨_,rfl⟩
  have hS5:=ak hw5
  have hN5:aA w5 w4.heap.size:=by rw [←hw5];exact aA.new w4 _
  have c25:=hS3.trans (hS4.trans hS5)
  have hWX:=hW1.since (hS2.trans c25)
  have NF:Hid (∀ y,Since w5 y→aC y w1.heap.size ⟨ga,gl,gc,na,nl,nc,wa0,wl,wc⟩∧aA y w4.heap.size):=fun y hy=>⟨PF.out _ (c25.trans hy),hN5.since hy⟩
  by_cases hC0:C=0
  ·have hEQ:=HEE.out
   rw [if_pos hC0] at hEQ
   subst hEQ
   have hCb:(C == 0)=true:=by simpa using hC0
   clear hC0 HEE
   go_wp2_with (first
    | (go_at_call 62;refine (aT w5).mono ?_;rintro e wx ⟨rfl,hSx⟩;obtain ⟨⟨_,m0,m1,m2⟩,⟨_,m3,m4,m5,_,_,_⟩⟩:=NF.out _ hSx;dsimp only at m0 m1 m2)
    | (go_at_call 31;refine (d9 ⟨ga,gl,gc,na,nl,nc,wa0,wl,wc⟩ ⟨none,0,0,none,0,0,none,0,0⟩ ⟨[],[],[]⟩ wx (hWX.since hSx) (qo wx)).mono ?_;rintro e wy ⟨rfl,hSy⟩))
   go_ret
   exact ⟨by simp,c2.trans (c25.trans (hSx.trans hSy))⟩
  ·have hEQ:=HEE.out
   rw [if_neg hC0] at hEQ
   subst hEQ
   clear hC0 HEE
   go_wp2_with (first
    | (go_at_call 62;refine (aT w5).mono ?_;rintro e wx ⟨rfl,hSx⟩;obtain ⟨⟨_,m0,m1,m2⟩,⟨_,m3,m4,m5,_,_,_⟩⟩:=NF.out _ hSx;dsimp only at m0 m1 m2)
    | (go_at_call 31;refine (d9 ⟨ga,gl,gc,na,nl,nc,wa0,wl,wc⟩ ⟨none,0,0,none,0,0,none,0,0⟩ ⟨[],[],[]⟩ wx (hWX.since hSx) (qo wx)).mono ?_;rintro e wy ⟨rfl,hSy⟩))
   go_ret
   exact ⟨by simp,c2.trans (c25.trans (hSx.trans hSy))⟩
end Go.Proofs.YtiiifecfdkjmbaaGreat
namespace Go.Proofs.YtiiifecfdkjmbaaGreat.logRecovers
set_option maxRecDepth 8000
open Go.ChangeShapes Go.WideShapes Go.ChangeAt Go.RowKit
set_option linter.unusedVariables false
set_option maxRecDepth 100000 in
theorem lifted (os:Os) (started:os.Started) (H:Type) (enc:TypeId × Value→H) :
  ReturnsInHanded {} Tryz.checked os 20 .any (Rows.logRecoversSpec.pre6 enc Tryz.prog Tryz.f20 Rows.logRecoversRow.domain false) (Rows.logRecoversSpec.post enc Tryz.prog Tryz.f20 false true false false):=by
 refine returnsInHanded_of_change_sized (C:=Tryz.checked) own started (by kernel_rfl) Tryz.func20
  (ChangeSpec.witness6 (enc:=enc) (C:=Tryz.checked) false ⟨#[],#[.int .i64 0,.slice none 0 0,.string ByteArray.empty],[]⟩ 8 (by kernel_rfl) (by kernel_rfl) (by kernel_rfl) (by kernel_rfl)) ?_
 intro W base args ds gs before hval0 hW hcnd hsz0 _
 have hval:∀ (j:Nat) t v,Tryz.f20.params[j]? = some t→args[j]? = some v→Value.okWide Tryz.prog W .any base t v:=hval0
 have hsz:(DataW.weightsEach Tryz.prog (Tryz.f20.params.toList++Rows.logRecoversSpec.plain.varTypes Tryz.prog) (ds++gs)).all (·≤reachBytes)=true:=hsz0
 have hW':=hW
 obtain ⟨p,q,hA0,hV,rfl,hfz,hnd⟩:=hW
 have hA:DataW.TrodAll enc Tryz.prog W 0 (fun _=>true) true Tryz.f20.params.toList args.toList ds p:=hA0
 rw [Tryz.params20] at hA hval hsz
 obtain ⟨v0,vs0,d0,ds0,p0,q0,hargs,rfl,rfl,h0,r0⟩:=trodAll_cons hA
 obtain ⟨v1,vs1,d1,ds1,p1,q1,rfl,rfl,rfl,h1,r1⟩:=trodAll_cons r0
 obtain ⟨v2,vs2,d2,ds2,p2,q2,rfl,rfl,rfl,h2,r2⟩:=trodAll_cons r1
 obtain ⟨rfl,rfl,rfl⟩:=trodAll_nil r2
 obtain rfl:args=#[v0,v1,v2]:=by cases args;simp_all
 obtain ⟨rfl,rfl⟩:=trodVars_none hV
 obtain ⟨a0,rfl,rfl,rfl,w0⟩:=open_int Tryz.underlying3 (hval 0 3 v0 rfl rfl) h0
 obtain ⟨a1,len1,KU,rfl⟩:=okWide_slice Tryz.underlying22 (hval 1 22 v1 rfl rfl)
 have lt1:∀ x∈p1,x.block < W.heap.size:=by obtain ⟨m,hm⟩:=h1;exact DataW.trod_lt m _ _ _ hm
 obtain ⟨z1,w1⟩:=qb h1 (fun el sp e=>by have:=sized_slice hsz (j:=1) (t:=22) (e:=3) rfl (by rw [e];rfl) Tryz.underlying22;rwa [vH] at this)
 obtain ⟨s2,rfl⟩:=okWide_string Tryz.underlying9 (hval 2 9 v2 rfl rfl)
 have lt2:∀ x∈p2,x.block < W.heap.size:=by obtain ⟨m,hm⟩:=h2;exact DataW.trod_lt m _ _ _ hm
 clear hA0 hval0
 refine (uE a0 a1 len1 KU z1 s2 W w1).mono fun e W' ⟨he,yU⟩=>?_
 have bel:=yU.below
 subst he
 exact ⟨_,rfl,_,_,_,[],_,[],hW',trodAll_mk1 (shut_bool Tryz.underlying4 _),(trodAll_cons_mk (shut_int Tryz.underlying3 w0) (trodAll_cons_mk (Below.trod laidOut (by kernel_rfl) (of_decide_eq_true (by kernel_rfl)) h1 bel lt1) (trodAll_cons_mk (Below.trod laidOut (by kernel_rfl) (of_decide_eq_true (by kernel_rfl)) h2 bel lt2) trodAll_mk0))),rfl,bel.frame _,fun h=>by cases h⟩
theorem facts:joinedFacts Tryz.prog 20 Tryz.f20 Rows.logRecoversSpec Rows.logRecoversRow=true:=by
 delta joinedFacts
 rw [BF,sM,wS]
 kernel_rfl
theorem over:Rows.logRecoversRow.holds Tryz.pinned (OpenSpec.ofChange Rows.logRecoversSpec) :=
 OpenClaim.holds_of_wide 20 Tryz.f20 rfl rfl rfl rfl rfl rfl rfl ⟨rfl,rfl,rfl,rfl,rfl⟩ rfl rfl rfl rfl rfl (by kernel_rfl) Tryz.func20 facts
  (of_decide_eq_true (by kernel_rfl)) (by unfold Func.isWrapper;first | (rw [if_pos (by decide +kernel)];kernel_rfl) | (rw [if_neg (by decide +kernel)];exact ⟨rfl,rfl⟩))
  (fun os started H enc _=>lifted os started H enc)
end Go.Proofs.YtiiifecfdkjmbaaGreat.logRecovers
namespace Go.Proofs.YtiiifecfdkjmbaaGreat
set_option maxRecDepth 8000
theorem logRecovers_holds:Rows.LogRecoversSaid:=logRecovers.over
#print axioms logRecovers_holds
end Go.Proofs.YtiiifecfdkjmbaaGreat
