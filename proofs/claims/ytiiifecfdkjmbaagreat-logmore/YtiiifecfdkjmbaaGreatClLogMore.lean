/- The law LogMore answers true; conditions: the groups read as ints. For every argument furlonglaw.LogMore returns true, and what it was handed reads as before: an act that is written behind a log is done to what is recovered from it, or changes nothing. No condition. -/
import Derived.Test.YtiiifecfdkjmbaaGreatRLogX
import Derived.Test.YtiiifecfdkjmbaaGreatOpenX
namespace Go.Proofs.YtiiifecfdkjmbaaGreat
set_option maxRecDepth 8000
open Go.RowKit Go.Shelf
open _root_.Go.Proofs.YtiiifecfdkjmbaaGreat.Pure
set_option linter.unusedVariables false
set_option linter.unusedSimpArgs false
theorem GD {n:Int} {g:List Int} {t:ByteArray} {x:Ac} (h1:lC n g t=0) (h2:wrE x=0) (h3:nD t=0) (h4:uH t=t.size) (h5:(l9 t).length < 80) (h6:t.size+(wrS x).size≤4096) :
  lC n g (t++wrS x)=0∧ru n g (t++wrS x)=ru n g t+1∧tK n g (t++wrS x)=eY (tK n g t) x:=by
 have hok:okA x=true:=by
  unfold wrE at h2
  cases h:okA x
  ·rw [h] at h2;cases h2
  ·rfl
 have hs:wrS x=aM x:=by unfold wrS;rw [hok];rfl
 rw [hs] at h6 ⊢
 have ht:t.size≤4096:=by omega
 unfold uH at h4
 rw [if_pos ht,GH] at h4
 unfold l9 at h5
 rw [if_pos ht,nX] at h5
 have hA:gI (t++aM x)=gI t++[x]:=by rw [nX,nX];exact zn hok 80 t h4 h5
 have hE:lC n g (t++aM x)=0:=by
  unfold lC at h1 ⊢
  by_cases hc:dB n g=0
  ·rw [if_pos hc];unfold nD;rw [ByteArray.size_append,if_pos h6]
  ·rw [if_neg hc] at h1;exact absurd h1 hc
 refine ⟨hE, ?_, ?_⟩
 ·unfold ru
  rw [if_pos hE,if_pos h1,←dL,hA,←dL t,List.length_append];rfl
 ·unfold tK
  rw [if_pos hE,if_pos h1,hA]
  unfold doneD
  rw [List.foldl_append];rfl
set_option maxHeartbeats 2000000 in
theorem zo (nodes:Int) (a:Option Addr) (cap:Nat) (g:List Int) (t:ByteArray) (x:Ac) (w:World) (hI:Ints w a g.length g)
  (b:ByteArray) (D D':Wd) (N:Nat) (l:List Ac) (K:Nat)
  (fA:Hid (∀ y,Ints y a g.length g→Calls Tryz.prog 68 #[.int .i64 nodes,.slice a g.length cap,.string t] y fun e w'=>∃ v:WV,e=.returned (.tuple #[.agg #[.slice v.ga v.gl v.gc,.slice v.na v.nl v.nc,.slice v.wa v.wl v.wc],.int .i64 N,.int .i64 0])∧WAt w' v D∧Since y w'))
  (fB:Hid (∀ y,Calls Tryz.prog 63 #[acV x] y fun e w'=>e=.returned (.tuple #[.string b,.int .i64 0])∧Since y w'))
  (fC:Hid (∀ y,Calls Tryz.prog 65 #[.string t] y fun e w'=>∃ a c,e=.returned (.tuple #[.slice a l.length c,.int .i64 t.size,.int .i64 0])∧kr w' a l.length l∧Since y w'))
  (fD:Hid (∀ y,Ints y a g.length g→Calls Tryz.prog 68 #[.int .i64 nodes,.slice a g.length cap,.string (t++b)] y fun e w'=>∃ v:WV,e=.returned (.tuple #[.agg #[.slice v.ga v.gl v.gc,.slice v.na v.nl v.nc,.slice v.wa v.wl v.wc],.int .i64 ((N:Int)+1),.int .i64 0])∧WAt w' v D'∧Since y w'))
  (hD:Hid (D'=eY D x)) (hN:N≤100) (hl:l.length < 80) (hsz:t.size+b.size≤4096) :
  Calls Tryz.prog 22 #[.int .i64 nodes,.slice a g.length cap,.string t,acV x] w fun e w'=>e=.returned (.bool true)∧Since w w':=by
 obtain ⟨w1,hw1⟩:∃ y,w.alloc (.cells #[.int .i64 x.kind,.int .i64 x.one,.int .i64 x.two,.string x.body] 58)=y:=⟨_,rfl⟩
 have hS1:=ak hw1
 have hB1:dh w1 w.heap.size (.int .i64 x.kind) (.int .i64 x.one) (.int .i64 x.two) (.string x.body):=by rw [←hw1];exact iC w _ _ _ _ _
 have AF:Hid (∀ y,Since w1 y→dh y w.heap.size (.int .i64 x.kind) (.int .i64 x.one) (.int .i64 x.two) (.string x.body)):=fun y hy=>hB1.since hy
 have IF:Hid (∀ y,Since w1 y→Ints y a g.length g):=fun y hy=>hI.since (hS1.trans hy)
 unfold acV at fB ⊢
 have Rv:¬ 9223372036854775807 < t.size+b.size:=by omega
 have k1:((t.size:Int) != (t.size:Int))=false:=by simp
 have k2:decide (80≤(l.length:Int))=false:=by simp;omega
 have k3:IntKind.i64.wrap ((t.size:Int)+(b.size:Int))=(t.size:Int)+(b.size:Int):=IntWalk.i64_in _ (by omega)
 have k4:¬ 4096 < (t.size:Int)+(b.size:Int):=by omega
 have k5:IntKind.i64.wrap ((N:Int)+1)=(N:Int)+1:=IntWalk.i64_in _ (by omega)
 clear hI hl hsz
 go_enter Tryz.func22,Tryz.ntmps22
 go_wp2_with fail
 refine (fA.out w1 (IF.out _ (Since.refl w1))).mono ?_
 rintro e w2 ⟨⟨ga,gl,gc,na,nl,nc,wa0,wl,wc⟩,rfl,hW2,hS2⟩
 dsimp only at hW2 ⊢
 obtain ⟨w3,hw3⟩:∃ y,w2.alloc (.cells #[.slice ga gl gc,.slice na nl nc,.slice wa0 wl wc] 26)=y:=⟨_,rfl⟩
 have hS3:=ak hw3
 have hP3:aC w3 w2.heap.size ⟨ga,gl,gc,na,nl,nc,wa0,wl,wc⟩:=by rw [←hw3];exact aC.new w2 ⟨ga,gl,gc,na,nl,nc,wa0,wl,wc⟩ _
 have PF:Hid (∀ y,Since w3 y→aC y w2.heap.size ⟨ga,gl,gc,na,nl,nc,wa0,wl,wc⟩):=fun y hy=>hP3.since hy
 have hW3:=hW2.since hS3
 have c3:=hS2.trans hS3
 obtain ⟨_,y0,y1,y2,y3,_⟩:=AF.out _ c3
 clear hw1
 go_wp2_with fail
 refine (fB.out w3).mono ?_
 rintro e w4 ⟨rfl,hS4⟩
 clear hw3 y0 y1 y2 y3
 go_wp2_with fail
 refine (fC.out w4).mono ?_
 rintro e w5 ⟨a5,c5,rfl,hA5,hS5⟩
 have c35:=hS4.trans hS5
 go_wp2_with fail
 refine (fD.out w5 (IF.out _ (c3.trans c35))).mono ?_
 rintro e w6 ⟨⟨ga',gl',gc',na',nl',nc',wa',wl',wc'⟩,rfl,hW6,hS6⟩
 dsimp only at hW6 ⊢
 obtain ⟨w7,hw7⟩:∃ y,w6.alloc (.cells #[.slice ga' gl' gc',.slice na' nl' nc',.slice wa' wl' wc'] 26)=y:=⟨_,rfl⟩
 have hS7:=ak hw7
 have hP7:aC w7 w6.heap.size ⟨ga',gl',gc',na',nl',nc',wa',wl',wc'⟩:=by rw [←hw7];exact aC.new w6 ⟨ga',gl',gc',na',nl',nc',wa',wl',wc'⟩ _
 have QF:Hid (∀ y,Since w7 y→aC y w6.heap.size ⟨ga',gl',gc',na',nl',nc',wa',wl',wc'⟩):=fun y hy=>hP7.since hy
 have c37:=c35.trans (hS6.trans hS7)
 obtain ⟨_,y0,y1,y2,y3,_⟩:=AF.out _ (c3.trans c37)
 obtain ⟨_,p0,p1,p2⟩:=PF.out _ c37
 dsimp only at p0 p1 p2
 have hDo:=Oj ⟨ga,gl,gc,na,nl,nc,wa0,wl,wc⟩ D x w7 (hW3.since c37)
 dsimp only [acV] at hDo
 obtain ⟨er,her⟩:∃ y,doE D x=y:=⟨_,rfl⟩
 obtain ⟨DW,hDW⟩:∃ y,doW D x=y:=⟨_,rfl⟩
 have HDE:Hid (doE D x=er):=her
 have HDW:Hid (doW D x=DW):=hDW
 rw [her,hDW] at hDo
 clear her hDW
 go_wp2_with fail
 refine hDo.mono ?_
 rintro e w8 ⟨⟨ha,hl,hc,ma,ml,mc,va,vl,vc⟩,rfl,hW8,hS8⟩
 dsimp only at hW8 ⊢
 clear hw7 y0 y1 y2 y3 p0 p1 p2 hDo
 obtain ⟨w9,hw9⟩:∃ y,w8.alloc (.cells #[.slice ha hl hc,.slice ma ml mc,.slice va vl vc] 26)=y:=⟨_,rfl⟩
 have hS9:=ak hw9
 have hP9:aC w9 w8.heap.size ⟨ha,hl,hc,ma,ml,mc,va,vl,vc⟩:=by rw [←hw9];exact aC.new w8 ⟨ha,hl,hc,ma,ml,mc,va,vl,vc⟩ _
 have z0:w9.frozen? ⟨w8.heap.size,0,none⟩=false:=by rw [←hw9];simp [go_sem]
 have z1:w9.frozen? ⟨w8.heap.size,1,none⟩=false:=by rw [←hw9];simp [go_sem]
 have z2:w9.frozen? ⟨w8.heap.size,2,none⟩=false:=by rw [←hw9];simp [go_sem]
 have c79:=hS8.trans hS9
 by_cases he:er=0
 ·have hb:(er != 0)=false:=by simp [he]
  have HX:Hid (D'=DW):=by
   have h1:=HDE.out;have h2:=HDW.out
   unfold Hid;rw [hD.out,←h2];exact PL (h1.trans he)
  have hWX:=hW8.since hS9
  rw [←HX.out] at hWX
  have hWY:=hW6.since (hS7.trans c79)
  have NF:Hid (∀ y,Since w9 y→aC y w6.heap.size ⟨ga',gl',gc',na',nl',nc',wa',wl',wc'⟩∧aC y w8.heap.size ⟨ha,hl,hc,ma,ml,mc,va,vl,vc⟩):=fun y hy=>⟨QF.out _ (c79.trans hy),hP9.since hy⟩
  clear he
  go_wp2_with (first
   | (go_at_call 62;refine (aT w9).mono ?_;rintro e wx ⟨rfl,hSx⟩;obtain ⟨⟨_,m0,m1,m2⟩,⟨_,m3,m4,m5⟩⟩:=NF.out _ hSx;dsimp only at m0 m1 m2 m3 m4 m5)
   | (go_at_call 31;refine (d9 ⟨ga',gl',gc',na',nl',nc',wa',wl',wc'⟩ ⟨ha,hl,hc,ma,ml,mc,va,vl,vc⟩ D' wx (hWY.since hSx) (hWX.since hSx)).mono ?_;rintro e wy ⟨rfl,hSy⟩))
  go_ret
  exact ⟨by simp,hS1.trans (c3.trans (c37.trans (c79.trans (hSx.trans hSy))))⟩
 ·have hb:(er != 0)=true:=by simpa using he
  have HX:Hid (D'=D):=by
   have h1:=HDE.out
   unfold Hid;rw [hD.out];exact Ol (by rw [h1];exact he)
  obtain ⟨_,p0,p1,p2⟩:=PF.out _ (c37.trans c79)
  dsimp only at p0 p1 p2
  obtain ⟨_,r0,r1,r2⟩:=hP9
  dsimp only at r0 r1 r2
  obtain ⟨wa,hwa⟩:∃ y,zq w9 w8.heap.size (.slice ga gl gc) (.slice na nl nc) (.slice wa0 wl wc)=y:=⟨_,rfl⟩
  have hFa:Fr (fun i=>i=w8.heap.size) w9 wa:=by rw [←hwa];exact cu w9 w8.heap.size _ _ _
  have hSa:Since w8 wa:=hFa.aB hS9 (fun i hi e=>by omega)
  have hPa:aC wa w8.heap.size ⟨ga,gl,gc,na,nl,nc,wa0,wl,wc⟩:=by
   rw [←hwa];exact ⟨Nat.lt_of_lt_of_le (by assumption) (cu w9 w8.heap.size _ _ _).size,mI r0,mJ r1,mK r2⟩
  have c7a:=hS8.trans hSa
  have hWX:=hW3.since (c37.trans c7a)
  rw [←HX.out] at hWX
  have hWY:=hW6.since (hS7.trans c7a)
  have NF:Hid (∀ y,Since wa y→aC y w6.heap.size ⟨ga',gl',gc',na',nl',nc',wa',wl',wc'⟩∧aC y w8.heap.size ⟨ga,gl,gc,na,nl,nc,wa0,wl,wc⟩):=fun y hy=>⟨QF.out _ (c7a.trans hy),hPa.since hy⟩
  unfold zq at hwa
  clear he
  go_wp2_with (first
   | (go_at_call 62;refine (aT wa).mono ?_;rintro e wx ⟨rfl,hSx⟩;obtain ⟨⟨_,m0,m1,m2⟩,⟨_,m3,m4,m5⟩⟩:=NF.out _ hSx;dsimp only at m0 m1 m2 m3 m4 m5)
   | (go_at_call 31;refine (d9 ⟨ga',gl',gc',na',nl',nc',wa',wl',wc'⟩ ⟨ga,gl,gc,na,nl,nc,wa0,wl,wc⟩ D' wx (hWY.since hSx) (hWX.since hSx)).mono ?_;rintro e wy ⟨rfl,hSy⟩))
  go_ret
  exact ⟨by simp,hS1.trans (c3.trans (c37.trans (c7a.trans (hSx.trans hSy))))⟩
set_option maxHeartbeats 2000000 in
theorem jk (nodes:Int) (a:Option Addr) (cap:Nat) (g:List Int) (t:ByteArray) (x:Ac) (w:World) (hI:Ints w a g.length g)
  (hno:lC nodes g t≠0∨(lC nodes g t=0∧wrE x≠0)∨(lC nodes g t=0∧wrE x=0∧nD t≠0)∨(lC nodes g t=0∧wrE x=0∧nD t=0∧uH t≠t.size)∨(lC nodes g t=0∧wrE x=0∧nD t=0∧uH t=t.size∧¬ (l9 t).length < 80)∨(lC nodes g t=0∧wrE x=0∧nD t=0∧uH t=t.size∧(l9 t).length < 80∧4096 < t.size+(wrS x).size∧t.size+(wrS x).size≤10000)) :
  Calls Tryz.prog 22 #[.int .i64 nodes,.slice a g.length cap,.string t,acV x] w fun e w'=>e=.returned (.bool true)∧Since w w':=by
 obtain ⟨w1,hw1⟩:∃ y,w.alloc (.cells #[.int .i64 x.kind,.int .i64 x.one,.int .i64 x.two,.string x.body] 58)=y:=⟨_,rfl⟩
 have hS1:=ak hw1
 have hB1:dh w1 w.heap.size (.int .i64 x.kind) (.int .i64 x.one) (.int .i64 x.two) (.string x.body):=by rw [←hw1];exact iC w _ _ _ _ _
 have AF:Hid (∀ y,Since w1 y→dh y w.heap.size (.int .i64 x.kind) (.int .i64 x.one) (.int .i64 x.two) (.string x.body)):=fun y hy=>hB1.since hy
 have hA:=lZ nodes a g.length cap g t w1 (hI.since hS1)
 have hB:=fun y=>sS x y
 have hC:=fun y=>uI t y
 obtain ⟨b,hb⟩:∃ s,wrS x=s:=⟨_,rfl⟩
 obtain ⟨F,hF⟩:∃ s,wrE x=s:=⟨_,rfl⟩
 obtain ⟨l,hl⟩:∃ s,l9 t=s:=⟨_,rfl⟩
 obtain ⟨K,hK⟩:∃ s,uH t=s:=⟨_,rfl⟩
 obtain ⟨R,hR⟩:∃ s,nD t=s:=⟨_,rfl⟩
 obtain ⟨E,hE⟩:∃ s,lC nodes g t=s:=⟨_,rfl⟩
 obtain ⟨N,hN⟩:∃ s,ru nodes g t=s:=⟨_,rfl⟩
 obtain ⟨D,hD⟩:∃ s,tK nodes g t=s:=⟨_,rfl⟩
 rw [hE,hN,hD] at hA
 rw [hb,hF] at hB
 rw [hl,hK,hR] at hC
 rw [hE,hF,hR,hK,hl,hb] at hno
 have HNO:Hid (E≠0∨(E=0∧F≠0)∨(E=0∧F=0∧R≠0)∨(E=0∧F=0∧R=0∧K≠t.size)∨(E=0∧F=0∧R=0∧K=t.size∧¬ l.length < 80)∨(E=0∧F=0∧R=0∧K=t.size∧l.length < 80∧4096 < t.size+b.size∧t.size+b.size≤10000)):=hno
 clear hb hF hl hK hR hE hN hD hno hI
 unfold acV at hB ⊢
 go_enter Tryz.func22,Tryz.ntmps22
 go_wp2_with fail
 refine hA.mono ?_
 rintro e w2 ⟨⟨ga,gl,gc,na,nl,nc,wa0,wl,wc⟩,rfl,hW2,hS2⟩
 dsimp only at hW2 ⊢
 obtain ⟨w3,hw3⟩:∃ y,w2.alloc (.cells #[.slice ga gl gc,.slice na nl nc,.slice wa0 wl wc] 26)=y:=⟨_,rfl⟩
 have hS3:=ak hw3
 have c3:=hS2.trans hS3
 obtain ⟨_,y0,y1,y2,y3,_⟩:=AF.out _ c3
 clear hw1 hA
 go_wp2_with fail
 refine (hB w3).mono ?_
 rintro e w4 ⟨rfl,hS4⟩
 clear hw3 y0 y1 y2 y3
 go_wp2_with fail
 refine (hC w4).mono ?_
 rintro e w5 ⟨a5,c5,rfl,hA5,hS5⟩
 have c35:=hS4.trans hS5
 have cw:=hS1.trans (c3.trans c35)
 clear hC hB hA5 hS4 hS5 hS1 c3 c35 hS2 hS3 AF hB1
 rcases HNO.out with h | ⟨h1,h⟩ | ⟨h1,h2,h⟩ | ⟨h1,h2,h3,h⟩ | ⟨h1,h2,h3,h4,h⟩ | ⟨h1,h2,h3,h4,h5,h,h6⟩
 ·have e1:(E != 0)=true:=by simpa using h
  clear h HNO
  go_wp2_with (go_at_call 62;refine (aT w5).mono ?_;rintro e wx ⟨rfl,hSx⟩)
  go_ret
  exact ⟨rfl,cw.trans hSx⟩
 ·have e1:(E != 0)=false:=by simp [h1]
  have e2:(F != 0)=true:=by simpa using h
  clear h h1 HNO
  go_wp2_with (go_at_call 62;refine (aT w5).mono ?_;rintro e wx ⟨rfl,hSx⟩)
  go_ret
  exact ⟨rfl,cw.trans hSx⟩
 ·have e1:(E != 0)=false:=by simp [h1]
  have e2:(F != 0)=false:=by simp [h2]
  have e3:(R != 0)=true:=by simpa using h
  clear h h1 h2 HNO
  go_wp2_with (go_at_call 62;refine (aT w5).mono ?_;rintro e wx ⟨rfl,hSx⟩)
  go_ret
  exact ⟨rfl,cw.trans hSx⟩
 ·have e1:(E != 0)=false:=by simp [h1]
  have e2:(F != 0)=false:=by simp [h2]
  have e3:(R != 0)=false:=by simp [h3]
  have e4:((K:Int) != (t.size:Int))=true:=by simp;omega
  clear h h1 h2 h3 HNO
  go_wp2_with (go_at_call 62;refine (aT w5).mono ?_;rintro e wx ⟨rfl,hSx⟩)
  go_ret
  exact ⟨rfl,cw.trans hSx⟩
 ·have e1:(E != 0)=false:=by simp [h1]
  have e2:(F != 0)=false:=by simp [h2]
  have e3:(R != 0)=false:=by simp [h3]
  have e4:((K:Int) != (t.size:Int))=false:=by simp;omega
  have e5:decide (80≤(l.length:Int))=true:=by simp;omega
  clear h h1 h2 h3 h4 HNO
  go_wp2_with (go_at_call 62;refine (aT w5).mono ?_;rintro e wx ⟨rfl,hSx⟩)
  go_ret
  exact ⟨rfl,cw.trans hSx⟩
 ·have e1:(E != 0)=false:=by simp [h1]
  have e2:(F != 0)=false:=by simp [h2]
  have e3:(R != 0)=false:=by simp [h3]
  have e4:((K:Int) != (t.size:Int))=false:=by simp;omega
  have e5:decide (80≤(l.length:Int))=false:=by simp;omega
  have k3:IntKind.i64.wrap ((t.size:Int)+(b.size:Int))=(t.size:Int)+(b.size:Int):=IntWalk.i64_in _ (by omega)
  have k4:4096 < (t.size:Int)+(b.size:Int):=by omega
  clear h h1 h2 h3 h4 h5 h6 HNO
  go_wp2_with (go_at_call 62;refine (aT w5).mono ?_;rintro e wx ⟨rfl,hSx⟩)
  go_ret
  exact ⟨rfl,cw.trans hSx⟩
theorem Lb (x:Ac):(wrS x).size≤259:=by
 unfold wrS
 cases h:okA x
 ·simp;exact Nat.zero_le _
 ·have hb:=lK x
  have:(x.body.size:Int)≤255:=by
   unfold okA at h
   have:=List.all_eq_true.1 h (x.body.size:Int) (by unfold nE;simp)
   simp at this
   omega
  simp only [if_true]
  omega
theorem yX (nodes:Int) (a:Option Addr) (len cap:Nat) (g:List Int) (t:ByteArray) (x:Ac) (w:World) (hI:Ints w a len g) :
  Calls Tryz.prog 22 #[.int .i64 nodes,.slice a len cap,.string t,acV x] w fun e w'=>e=.returned (.bool true)∧Since w w':=by
 obtain rfl:g.length=len:=hI.hlen
 by_cases h1:lC nodes g t=0
 ·by_cases h2:wrE x=0
  ·by_cases h3:nD t=0
   ·by_cases h4:uH t=t.size
    ·by_cases h5:(l9 t).length < 80
     ·by_cases h6:t.size+(wrS x).size≤4096
      ·obtain ⟨q1,q2,q3⟩:=GD h1 h2 h3 h4 h5 h6
       have hn:ru nodes g t≤100:=by unfold ru;split;exact Nat.le_trans (qm t) (by omega);omega
       refine zo nodes a cap g t x w hI (wrS x) (tK nodes g t) (tK nodes g (t++wrS x)) (ru nodes g t) (l9 t) (uH t) ?_ ?_ ?_ ?_ q3 hn h5 h6
       ·intro y hy;have k:=lZ nodes a g.length cap g t y hy;rwa [h1] at k
       ·intro y;have k:=sS x y;rwa [h2] at k
       ·intro y;have k:=uI t y;rwa [h3,h4] at k
       ·intro y hy;have k:=lZ nodes a g.length cap g (t++wrS x) y hy;rw [q1,q2] at k;exact k
      ·have ht:t.size≤4096:=by
        unfold nD at h3
        split at h3
        ·assumption
        ·cases h3
       have:=Lb x
       exact jk nodes a cap g t x w hI (.inr (.inr (.inr (.inr (.inr ⟨h1,h2,h3,h4,h5,by omega,by omega⟩)))))
     ·exact jk nodes a cap g t x w hI (.inr (.inr (.inr (.inr (.inl ⟨h1,h2,h3,h4,h5⟩)))))
    ·exact jk nodes a cap g t x w hI (.inr (.inr (.inr (.inl ⟨h1,h2,h3,h4⟩))))
   ·exact jk nodes a cap g t x w hI (.inr (.inr (.inl ⟨h1,h2,h3⟩)))
  ·exact jk nodes a cap g t x w hI (.inr (.inl ⟨h1,h2⟩))
 ·exact jk nodes a cap g t x w hI (.inl h1)
end Go.Proofs.YtiiifecfdkjmbaaGreat
namespace Go.Proofs.YtiiifecfdkjmbaaGreat.logMore
set_option maxRecDepth 8000
open Go.ChangeShapes Go.WideShapes Go.ChangeAt Go.RowKit
set_option linter.unusedVariables false
set_option maxRecDepth 100000 in
theorem lifted (os:Os) (started:os.Started) (H:Type) (enc:TypeId × Value→H) :
  ReturnsInHanded {} Tryz.checked os 22 .any (Rows.logMoreSpec.pre6 enc Tryz.prog Tryz.f22 Rows.logMoreRow.domain false) (Rows.logMoreSpec.post enc Tryz.prog Tryz.f22 false true false false):=by
 refine returnsInHanded_of_change_sized (C:=Tryz.checked) own started (by kernel_rfl) Tryz.func22
  (ChangeSpec.witness6 (enc:=enc) (C:=Tryz.checked) false ⟨#[],#[.int .i64 0,.slice none 0 0,.string ByteArray.empty,.agg #[.int .i64 0,.int .i64 0,.int .i64 0,.string ByteArray.empty]],[]⟩ 8 (by kernel_rfl) (by kernel_rfl) (by kernel_rfl) (by kernel_rfl)) ?_
 intro W base args ds gs before hval0 hW hcnd hsz0 _
 have hval:∀ (j:Nat) t v,Tryz.f22.params[j]? = some t→args[j]? = some v→Value.okWide Tryz.prog W .any base t v:=hval0
 have hsz:(DataW.weightsEach Tryz.prog (Tryz.f22.params.toList++Rows.logMoreSpec.plain.varTypes Tryz.prog) (ds++gs)).all (·≤reachBytes)=true:=hsz0
 have hW':=hW
 obtain ⟨p,q,hA0,hV,rfl,hfz,hnd⟩:=hW
 have hA:DataW.TrodAll enc Tryz.prog W 0 (fun _=>true) true Tryz.f22.params.toList args.toList ds p:=hA0
 rw [Tryz.params22] at hA hval hsz
 obtain ⟨v0,vs0,d0,ds0,p0,q0,hargs,rfl,rfl,h0,r0⟩:=trodAll_cons hA
 obtain ⟨v1,vs1,d1,ds1,p1,q1,rfl,rfl,rfl,h1,r1⟩:=trodAll_cons r0
 obtain ⟨v2,vs2,d2,ds2,p2,q2,rfl,rfl,rfl,h2,r2⟩:=trodAll_cons r1
 obtain ⟨v3,vs3,d3,ds3,p3,q3,rfl,rfl,rfl,h3,r3⟩:=trodAll_cons r2
 obtain ⟨rfl,rfl,rfl⟩:=trodAll_nil r3
 obtain rfl:args=#[v0,v1,v2,v3]:=by cases args;simp_all
 obtain ⟨rfl,rfl⟩:=trodVars_none hV
 obtain ⟨a0,rfl,rfl,rfl,w0⟩:=open_int Tryz.underlying3 (hval 0 3 v0 rfl rfl) h0
 obtain ⟨a1,len1,KU,rfl⟩:=okWide_slice Tryz.underlying22 (hval 1 22 v1 rfl rfl)
 have lt1:∀ x∈p1,x.block < W.heap.size:=by obtain ⟨m,hm⟩:=h1;exact DataW.trod_lt m _ _ _ hm
 obtain ⟨z1,w1⟩:=qb h1 (fun el sp e=>by have:=sized_slice hsz (j:=1) (t:=22) (e:=3) rfl (by rw [e];rfl) Tryz.underlying22;rwa [vH] at this)
 obtain ⟨s2,rfl⟩:=okWide_string Tryz.underlying9 (hval 2 9 v2 rfl rfl)
 have lt2:∀ x∈p2,x.block < W.heap.size:=by obtain ⟨m,hm⟩:=h2;exact DataW.trod_lt m _ _ _ hm
 obtain ⟨m3,rfl⟩:=nT (hval 3 58 v3 rfl rfl) h3
 have lt3:∀ x∈p3,x.block < W.heap.size:=by obtain ⟨m,hm⟩:=h3;exact DataW.trod_lt m _ _ _ hm
 clear hA0 hval0
 refine (yX a0 a1 len1 KU z1 s2 m3 W w1).mono fun e W' ⟨he,yU⟩=>?_
 have bel:=yU.below
 subst he
 exact ⟨_,rfl,_,_,_,[],_,[],hW',trodAll_mk1 (shut_bool Tryz.underlying4 _),(trodAll_cons_mk (shut_int Tryz.underlying3 w0) (trodAll_cons_mk (Below.trod laidOut (by kernel_rfl) (of_decide_eq_true (by kernel_rfl)) h1 bel lt1) (trodAll_cons_mk (Below.trod laidOut (by kernel_rfl) (of_decide_eq_true (by kernel_rfl)) h2 bel lt2) (trodAll_cons_mk (Below.trod laidOut (by kernel_rfl) (of_decide_eq_true (by kernel_rfl)) h3 bel lt3) trodAll_mk0)))),rfl,bel.frame _,fun h=>by cases h⟩
theorem facts:joinedFacts Tryz.prog 22 Tryz.f22 Rows.logMoreSpec Rows.logMoreRow=true:=by
 delta joinedFacts
 rw [BF,sM,wS]
 kernel_rfl
theorem over:Rows.logMoreRow.holds Tryz.pinned (OpenSpec.ofChange Rows.logMoreSpec) :=
 OpenClaim.holds_of_wide 22 Tryz.f22 rfl rfl rfl rfl rfl rfl rfl ⟨rfl,rfl,rfl,rfl,rfl⟩ rfl rfl rfl rfl rfl (by kernel_rfl) Tryz.func22 facts
  (of_decide_eq_true (by kernel_rfl)) (by unfold Func.isWrapper;first | (rw [if_pos (by decide +kernel)];kernel_rfl) | (rw [if_neg (by decide +kernel)];exact ⟨rfl,rfl⟩))
  (fun os started H enc _=>lifted os started H enc)
end Go.Proofs.YtiiifecfdkjmbaaGreat.logMore
namespace Go.Proofs.YtiiifecfdkjmbaaGreat
set_option maxRecDepth 8000
theorem logMore_holds:Rows.LogMoreSaid:=logMore.over
#print axioms logMore_holds
end Go.Proofs.YtiiifecfdkjmbaaGreat
