/- The law LogKept answers true; conditions: the groups read as ints, the acts as a list, the cut is an int. For every argument furlonglaw.LogKept returns true, and what it was handed reads as before: wherever a log is cut, what is recovered is what was done by the acts that are whole, and is right. No condition. -/
import Derived.Test.YtiiifecfdkjmbaaGreatRLogX
import Derived.Test.YtiiifecfdkjmbaaGreatRDo4X
import Derived.Test.YtiiifecfdkjmbaaGreatLChoose
import Derived.Test.YtiiifecfdkjmbaaGreatOpenX
namespace Go.Proofs.YtiiifecfdkjmbaaGreat
set_option maxRecDepth 8000
open Go.RowKit Go.Shelf
open _root_.Go.Proofs.YtiiifecfdkjmbaaGreat.Pure
set_option linter.unusedVariables false
set_option linter.unusedSimpArgs false
theorem Es:∀ (l:List Ac),(∀ x∈l,okA x=true)→(encR l).size≤259*l.length
 | [],_=>by simp [encR]
 | x::r,h=>by
  have:=Es r (fun y hy=>h y (by simp [hy]))
  have hx:=IX (h x (by simp))
  show (aM x++encR r).size≤_
  rw [ByteArray.size_append,List.length_cons]
  omega
def BN (l:List Ac) (k:Nat):List Value:=(List.range k).map fun i=>.int .i64 ((encR (l.take (i+1))).size:Int)
theorem GA (l:List Ac) (k:Nat):BN l (k+1)=BN l k++[.int .i64 ((encR (l.take (k+1))).size:Int)]:=by
 unfold BN;rw [List.range_succ,List.map_append];rfl
theorem kr.take {w:World} {a:Option Addr} {n:Nat} {l:List Ac} (h:kr w a n l) {k:Nat} (hk:k≤l.length):kr w a (l.take k).length (l.take k):=by
 refine ⟨rfl, ?_,fun hp=>?_⟩
 ·have:=h.hmax;have:=h.hlen;rw [List.length_take];omega
 ·rw [List.length_take] at hp
  obtain ⟨b,off,e,hb,hc⟩:=h.cells (by have:=h.hlen;omega)
  refine ⟨b,off,e,hb,fun i x hx=>hc i x ?_⟩
  rw [List.getElem?_take] at hx
  split at hx
  ·exact hx
  ·cases hx
set_option maxHeartbeats 2000000 in
theorem tY (nodes:Int) (a:Option Addr) (cap:Nat) (g:List Int) (ac:Option Addr) (oO:Nat) (l:List Ac) (cut:Int) (w:World) (hI:Ints w a g.length g) (hno:40 < l.length∨(¬ 40 < l.length∧¬ dB nodes g=0)) :
  Calls Tryz.prog 21 #[.int .i64 nodes,.slice a g.length cap,.slice ac l.length oO,.int .i64 cut] w fun e w'=>e=.returned (.bool true)∧Since w w':=by
 rcases hno with h | ⟨h1,h⟩
 ·have e1:decide (40 < (l.length:Int))=true:=by simp;omega
  clear h
  go_enter Tryz.func21,Tryz.ntmps21
  go_wp2_with (go_at_call 62;refine (aT w).mono ?_;rintro e wx ⟨rfl,hSx⟩)
  go_ret
  exact ⟨rfl,hSx⟩
 ·have e1:decide (40 < (l.length:Int))=false:=by simp;omega
  have hG:=uG nodes a g.length cap g w hI
  obtain ⟨er,her⟩:∃ y,dB nodes g=y:=⟨_,rfl⟩
  rw [her] at hG h
  have e2:(er != 0)=true:=by simpa using h
  clear h h1 her
  go_enter Tryz.func21,Tryz.ntmps21
  go_wp2_with (first
   | (go_at_call 69;refine hG.mono ?_;rintro e w2 ⟨rfl,hS2⟩)
   | (go_at_call 62;refine (aT w2).mono ?_;rintro e wx ⟨rfl,hSx⟩))
  go_ret
  exact ⟨rfl,hS2.trans hSx⟩
set_option maxRecDepth 8000 in
set_option maxHeartbeats 4000000 in
theorem A8 (n:Nat) (a:Option Addr) (cap:Nat) (g:List Int) (ac:Option Addr) (oO:Nat) (l:List Ac) (cut:Int) (w:World) (hI:Ints w a g.length g) (hA:kr w ac l.length l) (hcut:I64 cut) (hm:l.length≤40) (hN:dB (n:Int) g=0) (hac:l.length≤oO) :
  Calls Tryz.prog 21 #[.int .i64 n,.slice a g.length cap,.slice ac l.length oO,.int .i64 cut] w fun e w'=>e=.returned (.bool true)∧Since w w':=by
 have e1:decide (40 < (l.length:Int))=false:=by simp;omega
 have hG:=uG n a g.length cap g w hI
 rw [hN] at hG
 have IF:Hid (∀ y,Since w y→Ints y a g.length g):=fun y hy=>hI.since hy
 have AF:Hid (∀ y,Since w y→kr y ac l.length l):=fun y hy=>hA.since hy
 have HN:Hid (dB (n:Int) g=0):=hN
 clear hN
 go_enter Tryz.func21,Tryz.ntmps21
 go_wp2_with (go_at_call 69;refine hG.mono ?_;rintro e w2 ⟨rfl,hS2⟩)
 clear hG hI
 go_loopw [9,10,11] (fun s v i wr=>∃ (k:Nat) (sa:Option Addr) (sc:Nat),k≤l.length∧i=.int .i64 k∧s=.string (encR (l.take k))∧v=.slice sa k sc∧Row wr w2.heap.size 1 ⟨sa,sc⟩ k (BN l k)∧(∀ x∈l.take k,okA x=true)∧Since w2 wr) (fun _ _ i _=>l.length - (intOf i).toNat)
 case atStart=>exact ⟨0,none,0,Nat.zero_le _,rfl,rfl,rfl,Row.nil _ _ _,by simp,Since.refl w2⟩
 case round =>
  obtain ⟨wo,rfl⟩:∃ wo,wo=wr:=⟨_,rfl⟩
  obtain ⟨k,sa,sc,hk,rfl,rfl,rfl,hR,hok,hSr⟩:=hrel
  have hSz:=Es _ hok
  have PG:(l.take k).length≤40:=by rw [List.length_take];omega
  by_cases hlt:k < l.length
  ·obtain ⟨x,hx⟩:∃ x,l[k]? = some x:=⟨_,List.getElem?_eq_getElem hlt⟩
   obtain ⟨bA,oA,rfl,hbA,hcA⟩:=(AF.out _ (hS2.trans hSr)).cells (by omega)
   obtain ⟨x0,x1,x2,x3⟩:=hcA k x hx
   have n1:(k:Int) < (l.length:Int):=by omega
   have hWr:=sS x wo
   unfold acV at hWr
   have HET:=JJ hx
   have HTK:Hid (l.take (k+1)=l.take k++[x]):=by unfold Hid;rw [List.take_add_one,hx];rfl
   obtain ⟨s,hs⟩:∃ s,encR (l.take k)=s:=⟨_,rfl⟩
   rw [hs] at HET hSz
   rw [hs]
   have HS:Hid (encR (l.take k)=s):=hs
   clear hcA hx hs
   cases hxo:okA x with
   | false =>
    have hE:wrE x=3:=by unfold wrE;rw [hxo];rfl
    rw [hE] at hWr
    clear hE hxo HET
    go_wp2_with (first
     | (go_at_call 63;refine hWr.mono ?_;rintro e w3 ⟨rfl,hS3⟩)
     | (go_at_call 62;refine (aT w3).mono ?_;rintro e wx ⟨rfl,hSx⟩))
    go_ret
    exact ⟨rfl,hS2.trans (hSr.trans (hS3.trans hSx))⟩
   | true =>
    have hE:wrE x=0:=by unfold wrE;rw [hxo];rfl
    have hW:wrS x=aM x:=by unfold wrS;rw [hxo];rfl
    have hbx:=IX hxo
    rw [hE,hW] at hWr
    obtain ⟨b,hb⟩:∃ b,aM x=b:=⟨_,rfl⟩
    rw [hb] at hWr HET hbx
    have PI:Hid (encR (l.take (k+1))=s++b):=HET
    have HXO:Hid (okA x=true):=hxo
    have Rv:¬ 9223372036854775807 < s.size+b.size:=by omega
    have hsb:(s++b).size=s.size+b.size:=ByteArray.size_append
    obtain ⟨sb,PK⟩:∃ y,s++b=y:=⟨_,rfl⟩
    have HSB:Hid (s++b=sb):=PK
    clear hE hW hb HET hxo hsb PK
    go_wp2_with (first
     | (go_at_call 63;refine hWr.mono ?_;rintro e w3 ⟨rfl,hS3⟩)
     | (at_builtin;apply Hid.out))
    unfold Hid
    have hsrc:=gu (size:=1) (T:=3) (w:=w3) zl.und [.int .i64 ((s.size:Int)+(b.size:Int))] rfl (fun u hu=>by simp at hu;subst hu;rfl) 1
    have hRa:=hR.since (hS3.alloc (.cells #[.int .i64 ((s.size:Int)+(b.size:Int))] 3))
    have hSa:Since w2 (w3.alloc (.cells #[.int .i64 ((s.size:Int)+(b.size:Int))] 3)):=(hSr.trans hS3).alloc _
    refine iM zl rfl _ _ 22 rfl rfl hRa rfl hsrc (by omega) hSa.size ?_
    intro sa' sc' W3 hR4 hF4 hB4
    have hSf:Since w2 W3:=hF4.aB hSa (fun i hi hc=>by have:=(hRa.fE hc).2.1;omega)
    have HSZ:Hid (((encR (l.take (k+1))).size:Int)=(s.size:Int)+(b.size:Int)):=by unfold Hid;rw [PI.out,ByteArray.size_append];simp
    go_wp2
    go_roundw
    case rel =>
     refine ⟨k+1,sa',sc',by omega,by go_num,by rw [PI.out],rfl, ?_, ?_,hSf⟩
     ·rw [GA,HSZ.out];exact hR4
     ·rw [HTK.out]
      intro y hy
      rcases List.mem_append.1 hy with h | h
      ·exact hok y h
      ·simp at h;subst h;exact HXO.out
    case measure=>simp [intOf];omega
  ·obtain rfl:k=l.length:=by omega
   rw [List.take_length] at hok hSz ⊢
   have hkey:=fun (j c:Nat) (h1:c≤(encR l).size) (h2:(encR (l.take j)).size≤c) (h3:j≤l.length) (h4:j=l.length∨c < (encR (l.take (j+1))).size)=>BO l 80 j c hok (by omega) h1 h2 h3 h4
   obtain ⟨s,hs⟩:∃ s,encR l=s:=⟨_,rfl⟩
   rw [hs] at hSz hkey ⊢
   obtain ⟨sz,K9⟩:∃ f:Nat→Nat,∀ j,f j=(encR (l.take j)).size:=⟨_,fun _=>rfl⟩
   have hR':Row wo w2.heap.size 1 ⟨sa,sc⟩ l.length ((List.range l.length).map fun i=>.int .i64 (sz (i+1):Int)):=by
    have:BN l l.length=(List.range l.length).map fun i=>.int .i64 (sz (i+1):Int):=by unfold BN;refine List.map_congr_left fun i _=>?_;rw [K9]
    rw [←this];exact hR
   have HKEY:Hid (∀ j c,c≤s.size→sz j≤c→j≤l.length→(j=l.length∨c < sz (j+1))→kC 80 (s.extract 0 c)=l.take j):=fun j c h1 h2 h3 h4=>hkey j c h1 (by rw [←K9];exact h2) h3 (by rw [←K9];exact h4)
   have HS0:Hid (sz 0=0):=by unfold Hid;rw [K9];rfl
   have hsb:s.size≤20000:=by omega
   clear hkey K9 hs hok hSz hR
   have hRb:=hR'
   by_cases hbig:4096 < s.size
   ·have e2:(4096:Int) < (s.size:Int):=by omega
    clear hR' hRb
    go_wp2_with (go_at_call 62;refine (aT wo).mono ?_;rintro e wx ⟨rfl,hSx⟩)
    go_ret
    exact ⟨rfl,hS2.trans (hSr.trans hSx)⟩
   ·have e2:¬ (4096:Int) < (s.size:Int):=by omega
    have hCh:=K5 cut (s.size+1) hcut (by omega) (by omega) wo
    have hcl:=uF cut (n:=s.size+1) (by omega)
    obtain ⟨c,hc⟩:∃ c,kg cut (s.size+1)=c:=⟨_,rfl⟩
    rw [hc] at hCh hcl
    have ecast:((s.size+1:Nat):Int)=(s.size:Int)+1:=by simp
    rw [ecast] at hCh
    clear hc ecast
    go_wp2_with (go_at_call 52;refine hCh.mono ?_;rintro e w' ⟨rfl,hw⟩;obtain rfl:=hw.symm)
    clear hCh
    go_loopw [15] (fun i wr=>∃ j:Nat,j≤l.length∧i=.int .i64 j∧sz j≤c∧wr=wo) (fun i _=>l.length - (intOf i).toNat)
    case atStart=>exact ⟨0,Nat.zero_le _,rfl,by rw [HS0.out];omega,rfl⟩
    case round =>
     obtain ⟨j,hj,rfl,hjc,hwr⟩:=hrel
     obtain rfl:=hwr.symm
     have hcut':j < l.length→∃ b off,sa=some ⟨b,off,none⟩∧wo.cell? ⟨b,off+j,none⟩=some (.int .i64 (sz (j+1):Int)):=fun h=>by
      obtain ⟨b,off,e,_,_,_,hx⟩:=hR'.body (by have:=hR'.cap;dsimp only at this ⊢;omega)
      exact ⟨b,off,e,hx j _ (by simp [h])⟩
     by_cases hgo:j < l.length∧sz (j+1)≤c
     ·obtain ⟨b,off,rfl,hx⟩:=hcut' hgo.1
      have n1:(j:Int) < (l.length:Int):=by omega
      have HG:Hid (sz (j+1)≤c):=hgo.2
      obtain ⟨z,hz⟩:∃ z,sz (j+1)=z:=⟨_,rfl⟩
      rw [hz] at hx
      have n2:(z:Int)≤(c:Int):=by have:=hgo.2;omega
      have hgj:=hgo.1
      clear hcut' hgo hz hR' hRb
      go_wp2
      go_roundw
      case rel=>exact ⟨j+1,by omega,by go_num,HG.out,trivial⟩
      case measure=>simp [intOf];omega
     ·have hend:j=l.length∨c < sz (j+1):=by omega
      have hP:=HKEY.out j c (by omega) hjc hj hend
      have hE:lC (n:Int) g (s.extract 0 c)=0:=by
       unfold lC nD;rw [if_pos HN.out,ByteArray.size_extract,if_pos (by omega)]
      have hAL:gI (s.extract 0 c)=l.take j:=by rw [nX];exact hP
      have hRN:ru (n:Int) g (s.extract 0 c)=j:=by
       unfold ru;rw [if_pos hE,←dL,hAL,List.length_take];omega
      have hRD:tK (n:Int) g (s.extract 0 c)=doneD n g (l.take j):=by
       unfold tK;rw [if_pos hE,hAL];rfl
      have hRc:=fun y (hy:Ints y a g.length g)=>lZ n a g.length cap g (s.extract 0 c) y hy
      rw [hE,hRN,hRD] at hRc
      obtain ⟨h1,h2,h3,h4⟩:=ql HN.out
      have hDo:=fun y (hy:Ints y a g.length g) (hya:kr y ac (l.take j).length (l.take j))=>xX n (by omega) g h4 a cap ac oO (l.take j) y hy hya
      have hlj:(l.take j).length=j:=by rw [List.length_take];omega
      rw [hlj] at hDo
      have HWE:aK (doneD n g (l.take j))=0:=(bQ _).2 (La HN.out (l.take j)).1.right
      obtain ⟨D,hDD⟩:∃ D,doneD n g (l.take j)=D:=⟨_,rfl⟩
      rw [hDD] at hRc hDo HWE
      have HDo:Hid (∀ y,Ints y a g.length g→kr y ac j (l.take j)→_):=hDo
      have AT:Hid (∀ y,Since w y→kr y ac j (l.take j)):=fun y hy=>by have:=(AF.out y hy).take hj;rwa [hlj] at this
      obtain ⟨sx,hsx⟩:∃ y,s.extract 0 c=y:=⟨_,rfl⟩
      have hcs:(c:Int)≤(s.size:Int):=by omega
      clear hP hE hAL hRN hRD hDD hlj hR' hRb hA hDo h1 h2 h3
      have hwo:=hS2.trans hSr
      by_cases hjl:j < l.length
      ·obtain ⟨b,off,rfl,hx⟩:=hcut' hjl
       have n1:(j:Int) < (l.length:Int):=by omega
       obtain ⟨z,hz⟩:∃ z,sz (j+1)=z:=⟨_,rfl⟩
       have n2:¬ (z:Int)≤(c:Int):=by rw [hz] at hend;omega
       rw [hz] at hx
       clear hcut' hgo hz hend hjc
       go_wp2_with fail
       rw [hsx] at hRc
       refine (hRc wo (IF.out _ hwo)).mono ?_
       rintro e w5 ⟨⟨ga,gl,gc,na,nl,nc,wa0,wl,wc⟩,rfl,hW5,hS5⟩
       dsimp only at hW5 ⊢
       obtain ⟨w6,hw6⟩:∃ y,w5.alloc (.cells #[.slice ga gl gc,.slice na nl nc,.slice wa0 wl wc] 26)=y:=⟨_,rfl⟩
       have hS6:=ak hw6
       have hP6:aC w6 w5.heap.size ⟨ga,gl,gc,na,nl,nc,wa0,wl,wc⟩:=by rw [←hw6];exact aC.new w5 ⟨ga,gl,gc,na,nl,nc,wa0,wl,wc⟩ _
       have hW6:=hW5.since hS6
       have cw6:=hwo.trans (hS5.trans hS6)
       go_wp2_with fail
       clear hw6
       obtain ⟨W0,hW0⟩:∃ y,w6.drew=y:=⟨_,rfl⟩
       have hs0:=bD hW0
       obtain ⟨S0,hS0⟩:∃ S0:World→Prop,∀ w',S0 w'↔Since w6 w':=⟨_,fun _=>Iff.rfl⟩
       have au:=(hS0 W0).2 hs0
       have hne:Nonempty (aj S0):=⟨⟨_,au⟩⟩
       have dM:=aR w
       have y0:∀ y:aj S0,y.w.cell? ⟨w5.heap.size,0,none⟩=some (.slice ga gl gc):=fun y=>(hP6.since ((hS0 _).1 y.h)).c0
       have y1:∀ y:aj S0,y.w.cell? ⟨w5.heap.size,1,none⟩=some (.slice na nl nc):=fun y=>(hP6.since ((hS0 _).1 y.h)).c1
       have y2:∀ y:aj S0,y.w.cell? ⟨w5.heap.size,2,none⟩=some (.slice wa0 wl wc):=fun y=>(hP6.since ((hS0 _).1 y.h)).c2
       refine aU (fun w'=>∃ x:aj S0,w'=x.w) (by kernel_rfl) ?_
       rw [hW0]
       clear hW0
       refine bC 0 rfl (by kernel_rfl) ?_
       intro K hK
       go_simp
       refine (aT W0).mono ?_
       rintro e wA ⟨rfl,hSA⟩
       dsimp only
       have hA:=hs0.trans hSA
       have hsA:=(hS0 _).2 hA
       refine hK _ _ (fun _ _=>ah hsA) ?_
       clear hK K
       refine tW 1 rfl ?_
       go_big_quiet_op
       refine tW 2 rfl ?_
       go_big_quiet_op
       refine tW 3 rfl ?_
       go_big_quiet_op
       refine tW 4 rfl ?_
       go_big_quiet_op
       refine tW 5 rfl ?_
       go_big_quiet_op
       refine tW 6 rfl ?_
       go_big_quiet_op
       refine tW 7 rfl ?_
       go_big_quiet_op
       refine tW 8 rfl ?_
       go_big_quiet_op
       refine tW 9 rfl ?_
       go_big_quiet_op
       refine tW 10 rfl ?_
       go_big_quiet_op
       refine tM 11 rfl (ah hsA) ?_
       go_big_quiet_op
       refine bC 12 rfl (by kernel_rfl) ?_
       intro K hK
       go_simp
       have hCk:=eX ⟨ga,gl,gc,na,nl,nc,wa0,wl,wc⟩ D wA (hW6.since hA)
       rw [HWE] at hCk
       dsimp only at hCk
       refine hCk.mono ?_
       rintro e wB ⟨rfl,hSB⟩
       dsimp only
       have hB:=hA.trans hSB
       have hsB:=(hS0 _).2 hB
       refine hK _ _ (fun _ _=>ah hsB) ?_
       clear hK K
       refine tW 13 rfl ?_
       go_big_quiet_op
       refine tW 14 rfl ?_
       go_big_quiet_op
       refine tW 15 rfl ?_
       go_big_quiet_op
       refine tM 16 rfl (ah hsB) ?_
       go_big_quiet_op
       refine tW 17 rfl ?_
       go_big_quiet_op
       refine tW 18 rfl ?_
       go_big_quiet_op
       refine tW 19 rfl ?_
       go_big_quiet_op
       refine tW 20 rfl ?_
       go_big_quiet_op
       refine tM 21 rfl (ah hsB) ?_
       go_big_quiet_op
       refine bC 22 rfl (by kernel_rfl) ?_
       intro K hK
       go_simp
       refine (HDo.out wB (IF.out _ (cw6.trans hB)) (AT.out _ (cw6.trans hB))).mono ?_
       rintro e wC ⟨LC,rfl,hOC,hSC⟩
       simp only [aH]
       have hC:=hB.trans hSC
       have hsC:=(hS0 _).2 hC
       refine hK _ _ (fun _ _=>ah hsC) ?_
       clear hK K
       refine bC 23 rfl (by kernel_rfl) ?_
       intro K hK
       go_simp
       refine (d9 ⟨ga,gl,gc,na,nl,nc,wa0,wl,wc⟩ (dS LC D) D wC (hW6.since hC) hOC.wat).mono ?_
       rintro e wE ⟨rfl,hSE⟩
       dsimp only
       have hE:=hC.trans hSE
       refine hK _ _ (fun h=>absurd h (by decide +kernel)) ?_
       clear hK K
       refine tW 24 rfl ?_
       go_big_quiet_op
       refine tW 25 rfl ?_
       go_big_quiet_op
       refine dI (by kernel_rfl) ?_
       go_wp2_with fail
       refine bodyPost_ret (results_tmp rfl _ _ _) rfl ⟨rfl,cw6.trans hE⟩
      ·have n1:¬ (j:Int) < (l.length:Int):=by omega
       clear hcut' hgo hend hjc
       go_wp2_with fail
       rw [hsx] at hRc
       refine (hRc wo (IF.out _ hwo)).mono ?_
       rintro e w5 ⟨⟨ga,gl,gc,na,nl,nc,wa0,wl,wc⟩,rfl,hW5,hS5⟩
       dsimp only at hW5 ⊢
       obtain ⟨w6,hw6⟩:∃ y,w5.alloc (.cells #[.slice ga gl gc,.slice na nl nc,.slice wa0 wl wc] 26)=y:=⟨_,rfl⟩
       have hS6:=ak hw6
       have hP6:aC w6 w5.heap.size ⟨ga,gl,gc,na,nl,nc,wa0,wl,wc⟩:=by rw [←hw6];exact aC.new w5 ⟨ga,gl,gc,na,nl,nc,wa0,wl,wc⟩ _
       have hW6:=hW5.since hS6
       have cw6:=hwo.trans (hS5.trans hS6)
       go_wp2_with fail
       clear hw6
       obtain ⟨W0,hW0⟩:∃ y,w6.drew=y:=⟨_,rfl⟩
       have hs0:=bD hW0
       obtain ⟨S0,hS0⟩:∃ S0:World→Prop,∀ w',S0 w'↔Since w6 w':=⟨_,fun _=>Iff.rfl⟩
       have au:=(hS0 W0).2 hs0
       have hne:Nonempty (aj S0):=⟨⟨_,au⟩⟩
       have dM:=aR w
       have y0:∀ y:aj S0,y.w.cell? ⟨w5.heap.size,0,none⟩=some (.slice ga gl gc):=fun y=>(hP6.since ((hS0 _).1 y.h)).c0
       have y1:∀ y:aj S0,y.w.cell? ⟨w5.heap.size,1,none⟩=some (.slice na nl nc):=fun y=>(hP6.since ((hS0 _).1 y.h)).c1
       have y2:∀ y:aj S0,y.w.cell? ⟨w5.heap.size,2,none⟩=some (.slice wa0 wl wc):=fun y=>(hP6.since ((hS0 _).1 y.h)).c2
       refine aU (fun w'=>∃ x:aj S0,w'=x.w) (by kernel_rfl) ?_
       rw [hW0]
       clear hW0
       refine bC 0 rfl (by kernel_rfl) ?_
       intro K hK
       go_simp
       refine (aT W0).mono ?_
       rintro e wA ⟨rfl,hSA⟩
       dsimp only
       have hA:=hs0.trans hSA
       have hsA:=(hS0 _).2 hA
       refine hK _ _ (fun _ _=>ah hsA) ?_
       clear hK K
       refine tW 1 rfl ?_
       go_big_quiet_op
       refine tW 2 rfl ?_
       go_big_quiet_op
       refine tW 3 rfl ?_
       go_big_quiet_op
       refine tW 4 rfl ?_
       go_big_quiet_op
       refine tW 5 rfl ?_
       go_big_quiet_op
       refine tW 6 rfl ?_
       go_big_quiet_op
       refine tW 7 rfl ?_
       go_big_quiet_op
       refine tW 8 rfl ?_
       go_big_quiet_op
       refine tW 9 rfl ?_
       go_big_quiet_op
       refine tW 10 rfl ?_
       go_big_quiet_op
       refine tM 11 rfl (ah hsA) ?_
       go_big_quiet_op
       refine bC 12 rfl (by kernel_rfl) ?_
       intro K hK
       go_simp
       have hCk:=eX ⟨ga,gl,gc,na,nl,nc,wa0,wl,wc⟩ D wA (hW6.since hA)
       rw [HWE] at hCk
       dsimp only at hCk
       refine hCk.mono ?_
       rintro e wB ⟨rfl,hSB⟩
       dsimp only
       have hB:=hA.trans hSB
       have hsB:=(hS0 _).2 hB
       refine hK _ _ (fun _ _=>ah hsB) ?_
       clear hK K
       refine tW 13 rfl ?_
       go_big_quiet_op
       refine tW 14 rfl ?_
       go_big_quiet_op
       refine tW 15 rfl ?_
       go_big_quiet_op
       refine tM 16 rfl (ah hsB) ?_
       go_big_quiet_op
       refine tW 17 rfl ?_
       go_big_quiet_op
       refine tW 18 rfl ?_
       go_big_quiet_op
       refine tW 19 rfl ?_
       go_big_quiet_op
       refine tW 20 rfl ?_
       go_big_quiet_op
       refine tM 21 rfl (ah hsB) ?_
       go_big_quiet_op
       refine bC 22 rfl (by kernel_rfl) ?_
       intro K hK
       go_simp
       refine (HDo.out wB (IF.out _ (cw6.trans hB)) (AT.out _ (cw6.trans hB))).mono ?_
       rintro e wC ⟨LC,rfl,hOC,hSC⟩
       simp only [aH]
       have hC:=hB.trans hSC
       have hsC:=(hS0 _).2 hC
       refine hK _ _ (fun _ _=>ah hsC) ?_
       clear hK K
       refine bC 23 rfl (by kernel_rfl) ?_
       intro K hK
       go_simp
       refine (d9 ⟨ga,gl,gc,na,nl,nc,wa0,wl,wc⟩ (dS LC D) D wC (hW6.since hC) hOC.wat).mono ?_
       rintro e wE ⟨rfl,hSE⟩
       dsimp only
       have hE:=hC.trans hSE
       refine hK _ _ (fun h=>absurd h (by decide +kernel)) ?_
       clear hK K
       refine tW 24 rfl ?_
       go_big_quiet_op
       refine tW 25 rfl ?_
       go_big_quiet_op
       refine dI (by kernel_rfl) ?_
       go_wp2_with fail
       refine bodyPost_ret (results_tmp rfl _ _ _) rfl ⟨rfl,cw6.trans hE⟩
theorem yV (nodes:Int) (a:Option Addr) (len cap:Nat) (g:List Int) (ac:Option Addr) (M0 oO:Nat) (l:List Ac) (cut:Int) (w:World) (hI:Ints w a len g) (hA:kr w ac M0 l) (hac:M0≤oO) (hcut:I64 cut) :
  Calls Tryz.prog 21 #[.int .i64 nodes,.slice a len cap,.slice ac M0 oO,.int .i64 cut] w fun e w'=>e=.returned (.bool true)∧Since w w':=by
 obtain rfl:g.length=len:=hI.hlen
 obtain rfl:l.length=M0:=hA.hlen
 by_cases h:40 < l.length
 ·exact tY nodes a cap g ac oO l cut w hI (.inl h)
 ·by_cases hN:dB nodes g=0
  ·obtain ⟨h1,h2,h3,h4⟩:=ql hN
   obtain ⟨n,rfl⟩:∃ n:Nat,nodes=(n:Int):=⟨nodes.toNat,by omega⟩
   exact A8 n a cap g ac oO l cut w hI hA hcut (by omega) hN hac
  ·exact tY nodes a cap g ac oO l cut w hI (.inr ⟨h,hN⟩)
end Go.Proofs.YtiiifecfdkjmbaaGreat
namespace Go.Proofs.YtiiifecfdkjmbaaGreat.logKept
set_option maxRecDepth 8000
open Go.ChangeShapes Go.WideShapes Go.ChangeAt Go.RowKit
set_option linter.unusedVariables false
set_option maxRecDepth 100000 in
theorem lifted (os:Os) (started:os.Started) (H:Type) (enc:TypeId × Value→H) :
  ReturnsInHanded {} Tryz.checked os 21 .any (Rows.logKeptSpec.pre6 enc Tryz.prog Tryz.f21 Rows.logKeptRow.domain false) (Rows.logKeptSpec.post enc Tryz.prog Tryz.f21 false true false false):=by
 refine returnsInHanded_of_change_sized (C:=Tryz.checked) own started (by kernel_rfl) Tryz.func21
  (ChangeSpec.witness6 (enc:=enc) (C:=Tryz.checked) false ⟨#[],#[.int .i64 0,.slice none 0 0,.slice none 0 0,.int .i64 0],[]⟩ 8 (by kernel_rfl) (by kernel_rfl) (by kernel_rfl) (by kernel_rfl)) ?_
 intro W base args ds gs before hval0 hW hcnd hsz0 _
 have hval:∀ (j:Nat) t v,Tryz.f21.params[j]? = some t→args[j]? = some v→Value.okWide Tryz.prog W .any base t v:=hval0
 have hsz:(DataW.weightsEach Tryz.prog (Tryz.f21.params.toList++Rows.logKeptSpec.plain.varTypes Tryz.prog) (ds++gs)).all (·≤reachBytes)=true:=hsz0
 have hW':=hW
 obtain ⟨p,q,hA0,hV,rfl,hfz,hnd⟩:=hW
 have hA:DataW.TrodAll enc Tryz.prog W 0 (fun _=>true) true Tryz.f21.params.toList args.toList ds p:=hA0
 rw [Tryz.params21] at hA hval hsz
 obtain ⟨v0,vs0,d0,ds0,p0,q0,hargs,rfl,rfl,h0,r0⟩:=trodAll_cons hA
 obtain ⟨v1,vs1,d1,ds1,p1,q1,rfl,rfl,rfl,h1,r1⟩:=trodAll_cons r0
 obtain ⟨v2,vs2,d2,ds2,p2,q2,rfl,rfl,rfl,h2,r2⟩:=trodAll_cons r1
 obtain ⟨v3,vs3,d3,ds3,p3,q3,rfl,rfl,rfl,h3,r3⟩:=trodAll_cons r2
 obtain ⟨rfl,rfl,rfl⟩:=trodAll_nil r3
 obtain rfl:args=#[v0,v1,v2,v3]:=by cases args;simp_all
 obtain ⟨rfl,rfl⟩:=trodVars_none hV
 obtain ⟨a0,rfl,rfl,rfl,w0⟩:=open_int Tryz.underlying3 (hval 0 3 v0 rfl rfl) h0
 obtain ⟨a1,len1,KU,rfl⟩:=okWide_slice Tryz.underlying22 (hval 1 22 v1 rfl rfl)
 have lt1:∀ x∈p1,x.block < W.heap.size:=by obtain ⟨m,hm⟩:=h1;exact DataW.trod_lt m _ _ _ hm
 obtain ⟨z1,w1⟩:=qb h1 (fun el sp e=>by have:=sized_slice hsz (j:=1) (t:=22) (e:=3) rfl (by rw [e];rfl) Tryz.underlying22;rwa [vH] at this)
 obtain ⟨a2,len2,cap2,rfl⟩:=okWide_slice Tryz.underlying50 (hval 2 50 v2 rfl rfl)
 have lt2:∀ x∈p2,x.block < W.heap.size:=by obtain ⟨m,hm⟩:=h2;exact DataW.trod_lt m _ _ _ hm
 obtain ⟨z2,w2,c2⟩:=Cw h2 (fun el sp e=>by have:=sized_slice hsz (j:=2) (t:=50) (e:=58) rfl (by rw [e];rfl) Tryz.underlying50;rwa [KT] at this)
 obtain ⟨a3,rfl,rfl,rfl,w3⟩:=open_int Tryz.underlying3 (hval 3 3 v3 rfl rfl) h3
 clear hA0 hval0
 refine (yV a0 a1 len1 KU z1 a2 len2 cap2 z2 a3 W w1 w2 c2 (N9 w3)).mono fun e W' ⟨he,yU⟩=>?_
 have bel:=yU.below
 subst he
 exact ⟨_,rfl,_,_,_,[],_,[],hW',trodAll_mk1 (shut_bool Tryz.underlying4 _),(trodAll_cons_mk (shut_int Tryz.underlying3 w0) (trodAll_cons_mk (Below.trod laidOut (by kernel_rfl) (of_decide_eq_true (by kernel_rfl)) h1 bel lt1) (trodAll_cons_mk (Below.trod laidOut (by kernel_rfl) (of_decide_eq_true (by kernel_rfl)) h2 bel lt2) (trodAll_cons_mk (shut_int Tryz.underlying3 w3) trodAll_mk0)))),rfl,bel.frame _,fun h=>by cases h⟩
theorem facts:joinedFacts Tryz.prog 21 Tryz.f21 Rows.logKeptSpec Rows.logKeptRow=true:=by
 delta joinedFacts
 rw [BF,sM,wS]
 kernel_rfl
theorem over:Rows.logKeptRow.holds Tryz.pinned (OpenSpec.ofChange Rows.logKeptSpec) :=
 OpenClaim.holds_of_wide 21 Tryz.f21 rfl rfl rfl rfl rfl rfl rfl ⟨rfl,rfl,rfl,rfl,rfl⟩ rfl rfl rfl rfl rfl (by kernel_rfl) Tryz.func21 facts
  (of_decide_eq_true (by kernel_rfl)) (by unfold Func.isWrapper;first | (rw [if_pos (by decide +kernel)];kernel_rfl) | (rw [if_neg (by decide +kernel)];exact ⟨rfl,rfl⟩))
  (fun os started H enc _=>lifted os started H enc)
end Go.Proofs.YtiiifecfdkjmbaaGreat.logKept
namespace Go.Proofs.YtiiifecfdkjmbaaGreat
set_option maxRecDepth 8000
theorem logKept_holds:Rows.LogKeptSaid:=logKept.over
#print axioms logKept_holds
end Go.Proofs.YtiiifecfdkjmbaaGreat
