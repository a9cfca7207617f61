/- Lemmas. Lemmas. Lemmas. -/
import Derived.Test.YtiiifecfdkjmbaaWpWorld
import Derived.Test.YtiiifecfdkjmbaaRDoneX
import Derived.RegionIn
import Derived.BigRegionIn
import Derived.Test.YtiiifecfdkjmbaaSameW
import Derived.Test.YtiiifecfdkjmbaaWrRead
set_option maxHeartbeats 2000000
namespace Go.Proofs.Ytiiifecfdkjmbaa
open _root_.Go.Proofs.Try hiding checked
set_option maxRecDepth 8000
open Go.RowKit Go.Shelf
open Pu
set_option linter.unusedVariables false
set_option linter.unusedSimpArgs false
theorem kC {α:Type} (f:α->List UInt8) (B:Nat):∀ (xs:List α),(∀ x∈xs,(f x).length<=B)->(xs.flatMap f).length<=xs.length*B
 | [],_=>by simp
 | x::r,h=>by
  have h1:=h x (by simp)
  have h2:=kC f B r (fun y hy=>h y (by simp [hy]))
  rw [List.flatMap_cons,List.length_append,List.length_cons,Nat.add_mul]
  omega
theorem Cv {m:Mg} (h:OkM m):(jm m).length<=262:=by
 have:=h.body
 have e:m.body.data.toList.length=m.body.size:=rfl
 unfold jm b3 b1;simp only [List.length_append,List.length_cons,List.length_nil,e];omega
theorem oK {l:List Mg} (h:l.length < 256/\∀ m∈l,OkM m):(bE l).length<=66811:=by
 have h1:=kC jm 262 l (fun m hm=>Cv (h.2 m hm))
 have h2:l.length*262<=255*262:=Nat.mul_le_mul_right _ (by omega)
 unfold bE;rw [List.length_append,oJ];omega
theorem yL {d:Wd} (h:Right d):(bO d).length<=10000000:=by
 have ho:=xO h
 obtain ⟨h1,h2,h3,h4⟩:=j6 h.chk
 have hn4:d.nodes.length<=4:=by omega
 have e1:(d.groups.flatMap b1).length=d.groups.length:=by rw [<-zA,gV];omega
 have e2:(d.nodes.flatMap dq9).length<=d.nodes.length*200000:=kC dq9 200000 d.nodes (fun x hx=>by
  have hk:=ho.ns x hx
  have a1:=oK hk.held
  have a2:=oK hk.told
  have a3:=kC (fun r:List Int=>r.flatMap b3) 12 x.last (fun r hr=>by
   have:=(hk.last.2 r hr).1
   rw [<-zy,gV];omega)
  have a4:=hk.last.1
  unfold dq9;simp only [List.length_append,yK];omega)
 have e3:(d.wires.flatMap fun r=>r.flatMap bE).length<=d.wires.length*300000:=kC _ 300000 d.wires (fun r hr=>by
  have hk:=ho.ws.2 r hr
  have a1:=kC bE 66811 r (fun l hl=>oK (hk.2 l hl))
  have a2:r.length*66811<=4*66811:=Nat.mul_le_mul_right _ (by omega)
  omega)
 have e4:d.nodes.length*200000<=4*200000:=Nat.mul_le_mul_right _ hn4
 have e5:d.wires.length*300000<=4*300000:=Nat.mul_le_mul_right _ (by rw [ho.ws.1];exact hn4)
 unfold bO;simp only [List.length_append,oJ];omega
def wrB (d:Wd):List UInt8:=if aA d=0 then bO d else []
set_option maxRecDepth 8000 in
theorem jN (x:WV) (d:Wd) (w:World) (hW:WAt w x d) :
  Calls prog 35 #[.agg #[.slice x.ga x.gl x.gc,.slice x.na x.nl x.nc,.slice x.wa x.wl x.wc]] w fun e w'=>e=.returned (.tuple #[.string (bs (wrB d)),.int .i64 (aA d)])/\Since w w':=by
 obtain ⟨w1,hw1⟩:∃ y,w.alloc (.cells #[.slice x.ga x.gl x.gc,.slice x.na x.nl x.nc,.slice x.wa x.wl x.wc] 26)=y:=⟨_,rfl⟩
 have hS1:=au hw1
 have hBx:aT w1 w.heap.size x:=by rw [<-hw1];exact aT.new w x _
 have q0:=hBx.c0
 have q1:=hBx.c1
 have q2:=hBx.c2
 have hl1:=hBx.lt
 have hW1:=hW.since hS1
 cases hE:(aA d != 0)
 ·have h0:aA d=0:=by simpa using hE
  have HE:Hid (aA d=0):=h0
  have HB:Hid (wrB d=bO d):=by unfold Hid wrB;rw [if_pos h0]
  have HLB:=yL ((jr d).1 h0)
  clear h0
  go_enter func35,ntmps35
  go_wp2_with (first
   | (go_at_call 17;refine (jK x d w1 hW1).mono ?_;rintro e w2 ⟨rfl,hS2⟩;have f0:=(hS2.cellAt hl1 _).trans q0;have f1:=(hS2.cellAt hl1 _).trans q1;have f2:=(hS2.cellAt hl1 _).trans q2;obtain ⟨w3,hw3⟩:∃ y,w2.alloc (.cells #[.slice none 0 0] 118)=y:=⟨_,rfl⟩;have hS3:Since w2 w3:=(by rw [<-hw3];exact (Since.refl w2).alloc _);have hl2:w.heap.size < w2.heap.size:=zQ4 hl1 hS2.size;have g0:=(hS3.cellAt hl2 _).trans f0;have g1:=(hS3.cellAt hl2 _).trans f1;have g2:=(hS3.cellAt hl2 _).trans f2;have hP3:Pen w2.heap.size w3 w2.heap.size ⟨none,0⟩ []:=(by rw [<-hw3];exact ⟨by simp,Nat.le_refl _,by simp [go_sem],by simp [go_sem],Row.nil _ _ _,by unfold Sl.blk;simp⟩);have hW2:=hW1.since hS2)
   | (go_at_call 71;refine (uP w2 w2.heap.size w2.heap.size x d ⟨none,0⟩ [] w3 hP3 (Nat.le_refl _) hS3 hW2 (by simp only [List.length_nil];omega)).mono ?_;rintro e w4 ⟨rfl,s4,hP4,hF4,hN4⟩;rw [List.nil_append] at hP4;have c4:=hP4.c;have hS4:Since w2 w4:=PX.base hP3 (Nat.le_refl _) hS3 hF4;obtain ⟨bb,off,e4,_,_,_,hx4⟩:=hP4.row.body (by have:=hP4.row.cap;have:0 < (bO d).length:=(by unfold bO;rw [List.length_append,oJ];omega);omega);obtain ⟨sa,sc⟩:=s4;dsimp only at e4;subst e4;have hcv:=run_convert_bytes_back (P:=prog) w4 116 9 5 ⟨bb,off,none⟩ sc (bO d) (by kernel_rfl) (by kernel_rfl) (by kernel_rfl) (fun j hj=>by rw [Addr.add_lit];refine hx4 j _ ?_;rw [List.getElem?_map,zQ1 hj];rfl)))
  refine bodyPost_ret (v:=.tuple #[.string (bs (bO d)),.int .i64 0]) ?_ rfl ⟨by rw [HB.out,HE.out],(hS1.trans hS2).trans hS4⟩
  simp [results,results35,go_sem,bs]
 ·have HB:Hid (wrB d=[]):=by unfold Hid wrB;rw [if_neg (by simpa using hE)]
  go_enter func35,ntmps35
  go_wp2_with (go_at_call 17;refine (jK x d w1 hW1).mono ?_;rintro e w2 ⟨rfl,hS2⟩)
  refine bodyPost_ret (v:=.tuple #[.string ⟨#[]⟩,.int .i64 (aA d)]) ?_ rfl ⟨by rw [HB.out];rfl,hS1.trans hS2⟩
  simp [results,results35,go_sem]
end Go.Proofs.Ytiiifecfdkjmbaa
set_option maxHeartbeats 2000000
namespace Go.Proofs.Ytiiifecfdkjmbaa
open _root_.Go.Proofs.Try hiding checked
set_option maxRecDepth 8000
open Go.RowKit Go.Shelf
open Pu
set_option linter.unusedVariables false
set_option linter.unusedSimpArgs false
theorem D6 (a b:List UInt8):bs a++bs b=bs (a++b):=by
 apply ByteArray.ext
 rw [ByteArray.data_append]
 unfold bs
 simp
theorem r9 {d:Wd} (h:aA d=0) (hl:(bO d).length<=4096):rC (bO d)=0/\rD (bO d)=d:=by
 unfold rC rD
 rw [if_pos hl,if_pos hl]
 exact rd_some (vE h)
theorem AV {d:Wd} (h:aA d=0) (b:UInt8) (r:List UInt8) (hl:(bO d++b::r).length<=4096):rC (bO d++b::r)=1:=by
 unfold rC
 rw [if_pos hl]
 refine (tK ?_).1
 have:=sj d (b::r) (xO ((jr d).1 h))
 unfold fU
 rw [this]
set_option maxRecDepth 8000 in
theorem rE (D:Wd) (T:List UInt8)
  (hb:Hid (∀ w:World,Calls prog 44 #[.slice (some ⟨w.heap.size,0,none⟩) 1 1] (w.alloc (.cells #[.int .i64 1,.int .i64 0,.int .i64 0,.string ⟨#[97]⟩] 73)) fun e w'=>∃ L,e=.returned (bS L D)/\aP w.heap.size w' D L/\Since w w'))
  (hwr:Hid (∀ (x:WV) (w:World),WAt w x D->Calls prog 35 #[.agg #[.slice x.ga x.gl x.gc,.slice x.na x.nl x.nc,.slice x.wa x.wl x.wc]] w fun e w'=>e=.returned (.tuple #[.string (bs T),.int .i64 0])/\Since w w'))
  (hnil:Hid (∀ (w:World),Calls prog 35 #[.agg #[.slice none 0 0,.slice none 0 0,.slice none 0 0]] w fun e w'=>e=.returned (.tuple #[.string ⟨#[]⟩,.int .i64 3])/\Since w w'))
  (hrd:Hid (∀ (w:World),Calls prog 36 #[.string (bs T)] w fun e w'=>Since w w'/\∃ v:WV,e=.returned (.tuple #[.agg #[.slice v.ga v.gl v.gc,.slice v.na v.nl v.nc,.slice v.wa v.wl v.wc],.int .i64 0])/\WAt w' v D))
  (hrx:Hid (∀ (w:World),Calls prog 36 #[.string (bs (T++[120]))] w fun e w'=>Since w w'/\∃ v:WV,e=.returned (.tuple #[.agg #[.slice v.ga v.gl v.gc,.slice v.na v.nl v.nc,.slice v.wa v.wl v.wc],.int .i64 1])))
  (h98:(bs T).size=98) (w:World) :
  Calls prog 37 #[] w fun e w'=>e=.returned (.bool true)/\Since w w':=by
 have hc:Since w w:=Since.refl w
 have hap:bs T++⟨#[120]⟩=bs (T++[120]):=D6 T [120]
 go_enter func37,ntmps37
 go_wp2_with (first
  | (go_at_call 45;refine (yZ _ _ _ _ _).mono ?_;rintro e w1 ⟨rfl,hS1⟩)
  | (go_at_call 44;refine (hb.out w1).mono ?_;rintro e w2 ⟨L,rfl,hO2,hS2⟩;simp only [bS])
  | (go_at_call_of 35 (Value.agg #[.slice (L (0,0,0)).a D.groups.length (L (0,0,0)).cap,.slice (L (1,0,0)).a D.nodes.length (L (1,0,0)).cap,.slice (L (2,0,0)).a D.wires.length (L (2,0,0)).cap]);refine (hwr.out (rF L D) w2 hO2.wat).mono ?_;rintro e w3 ⟨rfl,hS3⟩)
  | (go_at_call_of 36 (Value.string (bs T));refine (hrd.out w3).mono ?_;rintro e w4 ⟨hS4,⟨ga,gl,gc,na,nl,nc,wa,wl,wc⟩,rfl,hW4⟩;dsimp only;obtain ⟨w5,hw5⟩:∃ y,w4.alloc (.cells #[.slice ga gl gc,.slice na nl nc,.slice wa wl wc] 26)=y:=⟨_,rfl⟩;have hS5:Since w4 w5:=(by rw [<-hw5];exact (Since.refl w4).alloc _);have hB5:aT w5 w4.heap.size ⟨ga,gl,gc,na,nl,nc,wa,wl,wc⟩:=(by rw [<-hw5];exact aT.new w4 ⟨ga,gl,gc,na,nl,nc,wa,wl,wc⟩ _))
  | (go_at_call 36;refine (hrx.out w5).mono ?_;rintro e w6 ⟨hS6,⟨ga',gl',gc',na',nl',nc',wa',wl',wc'⟩,rfl⟩;dsimp only;obtain ⟨w7,hw7⟩:∃ y,w6.alloc (.cells #[.slice ga' gl' gc',.slice na' nl' nc',.slice wa' wl' wc'] 26)=y:=⟨_,rfl⟩;have hS7:Since w6 w7:=(by rw [<-hw7];exact (Since.refl w6).alloc _))
  | (go_at_call_of 35 (Value.agg #[.slice none 0 0,.slice none 0 0,.slice none 0 0]);refine (hnil.out w7).mono ?_;rintro e w8 ⟨rfl,hS8⟩))
 have D7:Since w5 w8:=hS6.trans (hS7.trans hS8)
 have Hr:Since w w8:=(hS1.trans (hS2.trans (hS3.trans (hS4.trans hS5)))).trans D7
 have hB8:=hB5.since D7
 have hW8:=(hW4.since hS5).since D7
 obtain ⟨V0,hW0⟩:∃ y,w8.drew=y:=⟨_,rfl⟩
 have hs0:=iW hW0
 obtain ⟨S0,hS0⟩:∃ S0:World->Prop,∀ w',S0 w'↔Since w8 w':=⟨_,fun _=>Iff.rfl⟩
 have c0:∀ y:aB S0,y.w.cell? ⟨w4.heap.size,0,none⟩=some (.slice ga gl gc):=fun y=>(hB8.since ((hS0 _).1 y.h)).c0
 have c1:∀ y:aB S0,y.w.cell? ⟨w4.heap.size,1,none⟩=some (.slice na nl nc):=fun y=>(hB8.since ((hS0 _).1 y.h)).c1
 have c2:∀ y:aB S0,y.w.cell? ⟨w4.heap.size,2,none⟩=some (.slice wa wl wc):=fun y=>(hB8.since ((hS0 _).1 y.h)).c2
 have aN:=(hS0 V0).2 hs0
 have hne:Nonempty (aB S0):=⟨⟨_,aN⟩⟩
 have xP:=lu w
 have ht0:=hs0
 refine p8 (fun w'=>∃ x:aB S0,w'=x.w) (by kernel_rfl) ?_
 rw [hW0]
 clear hW0
 refine tW 0 rfl ?_;go_big_quiet_op
 refine tW 1 rfl ?_;go_big_quiet_op
 refine tW 2 rfl ?_;go_big_quiet_op
 refine tW 3 rfl ?_;go_big_quiet_op
 refine tW 4 rfl ?_;go_big_quiet_op
 refine tW 5 rfl ?_;go_big_quiet_op
 refine tW 6 rfl ?_;go_big_quiet_op
 refine tW 7 rfl ?_;go_big_quiet_op
 refine tW 8 rfl ?_;go_big_quiet_op
 refine tW 9 rfl ?_;go_big_quiet_op
 refine tW 10 rfl ?_;go_big_quiet_op
 refine tW 11 rfl ?_;go_big_quiet_op
 refine tW 12 rfl ?_;go_big_quiet_op
 refine tW 13 rfl ?_;go_big_quiet_op
 refine tW 14 rfl ?_;go_big_quiet_op
 refine tW 15 rfl ?_;go_big_quiet_op
 refine tM 16 rfl (ah aN) ?_;go_big_quiet_op
 refine tW 17 rfl ?_;go_big_quiet_op
 refine tW 18 rfl ?_;go_big_quiet_op
 refine tW 19 rfl ?_;go_big_quiet_op
 refine tM 20 rfl (ah aN) ?_;go_big_quiet_op
 refine lC 21 rfl (by kernel_rfl) ?_
 intro K hK
 go_simp
 refine (yZ _ _ _ _ V0).mono ?_
 rintro e V5 ⟨rfl,hs5⟩
 have ht5:=ht0.trans hs5
 have Ht:=(hS0 V5).2 ht5
 refine hK _ _ (fun _ _=>ah Ht) ?_
 clear hK K
 refine lC 22 rfl (by kernel_rfl) ?_
 intro K hK
 go_simp
 have hs6:Since V5 (V5.alloc (.cells #[.int .i64 1,.int .i64 0,.int .i64 0,.string ⟨#[97]⟩] 73)):=(Since.refl V5).alloc _
 have nX:=(hS0 _).2 (ht5.trans hs6)
 refine hK _ _ (fun _ _=>ah nX) ?_
 clear hK K
 refine lC 23 rfl (by kernel_rfl) ?_
 intro K hK
 go_simp
 refine (hb.out V5).mono ?_
 rintro e V7 ⟨LD,rfl,hOD,hs7⟩
 simp only [bS]
 have ht7:=ht5.trans hs7
 have Hu:=(hS0 V7).2 ht7
 refine hK _ _ (fun _ _=>ah Hu) ?_
 clear hK K
 refine lC 24 rfl (by kernel_rfl) ?_
 intro K hK
 have hsw:=kY ⟨ga,gl,gc,na,nl,nc,wa,wl,wc⟩ (rF LD D) D V7 (hW8.since ht7) hOD.wat
 unfold rF at hsw
 dsimp only at hsw
 go_simp
 refine hsw.mono ?_
 rintro e V8 ⟨rfl,hs8⟩
 have ht8:=ht7.trans hs8
 have iP:=(hS0 V8).2 ht8
 refine hK _ _ (fun h=>absurd h (by decide +kernel)) ?_
 clear hK K
 refine tW 25 rfl ?_;go_big_quiet_op
 refine tW 26 rfl ?_;go_big_quiet_op
 refine su (by kernel_rfl) ?_
 clear c0 c1 c2 hne xP
 go_wp2_with fail
 go_ret
 exact ⟨by simp,Hr.trans ht8⟩
def AX:List Ac:=[⟨1,0,0,⟨#[97]⟩⟩]
def xD:Wd:=doneD 3 [3,6] AX
theorem xE:aA xD=0/\aA ⟨[],[],[]⟩=3/\(bO xD).length=98:=⟨by decide +kernel,by decide +kernel,by decide +kernel⟩
theorem CO (w:World):Calls prog 44 #[.slice (some ⟨w.heap.size,0,none⟩) 1 1] (w.alloc (.cells #[.int .i64 1,.int .i64 0,.int .i64 0,.string ⟨#[97]⟩] 73)) fun e w'=>∃ L,e=.returned (bS L xD)/\aP w.heap.size w' xD L/\Since w w':=by
 refine (zN _ _ AX (by decide) _ (AY w AX (by decide) _)).mono ?_
 rintro e w' ⟨L,rfl,hO,hS⟩
 exact ⟨L,rfl,hO.mono (by simp),((Since.refl w).alloc _).trans hS⟩
theorem xQ {d:Wd} (h:aA d=0):wrB d=bO d:=by unfold wrB;rw [if_pos h]
theorem eP (w:World):Calls prog 37 #[] w fun e w'=>e=.returned (.bool true)/\Since w w':=by
 obtain ⟨h0,hn,h98⟩:=xE
 refine rE xD (bO xD) (fun w=>CO w) (fun x w hW=>?_) (fun w=>?_) (fun w=>?_) (fun w=>?_) (by rw [iL,h98]) w
 ·have h:=jN x xD w hW
  rw [xQ h0,h0] at h;exact h
 ·have h:=jN ⟨none,0,0,none,0,0,none,0,0⟩ ⟨[],[],[]⟩ w (p9 w)
  rw [hn] at h
  have e:wrB ⟨[],[],[]⟩=[]:=by unfold wrB;rw [hn];rfl
  rw [e] at h;exact h
 ·have h:=kG (bO xD) w
  obtain ⟨e1,e2⟩:=r9 h0 (by omega)
  rw [e1,e2] at h;exact h
 ·have h:=kG (bO xD++[120]) w
  rw [AV h0 120 [] (by rw [List.length_append,h98];decide)] at h
  exact h.mono fun e w' ⟨hS,v,he,_⟩=>⟨hS,v,he⟩
end Go.Proofs.Ytiiifecfdkjmbaa
set_option maxHeartbeats 2000000
namespace Go.Proofs.Ytiiifecfdkjmbaa
open _root_.Go.Proofs.Try hiding checked
set_option maxRecDepth 8000
open Go.RowKit Go.Shelf
open Pu
set_option linter.unusedVariables false
set_option linter.unusedSimpArgs false
theorem AZ {s:List UInt8} (h:rC s=0):aA (rD s)=0/\wrB (rD s)=s:=by
 unfold rC at h
 unfold rD
 by_cases hl:s.length<=4096
 ·rw [if_pos hl] at h ⊢
  cases hr:fU s with
  | none=>rw [(tK hr).1] at h;cases h
  | some d =>
   rw [(rd_some hr).2]
   obtain ⟨h1,h2⟩:=xR hr
   exact ⟨h1,by rw [xQ h1];exact h2⟩
 ·rw [if_neg hl] at h;cases h
set_option maxRecDepth 8000 in
theorem tN (x:WV) (d:Wd) (s T:List UInt8) (E G:Int) (D2:Wd) (w:World) (hW:WAt w x d)
  (hwr:Hid (∀ (x:WV) (w:World),WAt w x d->Calls prog 35 #[.agg #[.slice x.ga x.gl x.gc,.slice x.na x.nl x.nc,.slice x.wa x.wl x.wc]] w fun e w'=>e=.returned (.tuple #[.string (bs T),.int .i64 E])/\Since w w'))
  (hrt:Hid (E=0->T.length<=4096->∀ (w:World),Calls prog 36 #[.string (bs T)] w fun e w'=>Since w w'/\∃ v:WV,e=.returned (.tuple #[.agg #[.slice v.ga v.gl v.gc,.slice v.na v.nl v.nc,.slice v.wa v.wl v.wc],.int .i64 0])/\WAt w' v d))
  (hrd:Hid (∀ (w:World),Calls prog 36 #[.string (bs s)] w fun e w'=>Since w w'/\∃ v:WV,e=.returned (.tuple #[.agg #[.slice v.ga v.gl v.gc,.slice v.na v.nl v.nc,.slice v.wa v.wl v.wc],.int .i64 G])/\WAt w' v D2))
  (hw2:Hid (G=0->∀ (x:WV) (w:World),WAt w x D2->Calls prog 35 #[.agg #[.slice x.ga x.gl x.gc,.slice x.na x.nl x.nc,.slice x.wa x.wl x.wc]] w fun e w'=>e=.returned (.tuple #[.string (bs s),.int .i64 0])/\Since w w')) :
  Calls prog 11 #[.agg #[.slice x.ga x.gl x.gc,.slice x.na x.nl x.nc,.slice x.wa x.wl x.wc],.string (bs s)] w fun e w'=>e=.returned (.bool true)/\Since w w':=by
 obtain ⟨ga,gl,gc,na,nl,nc,wa,wl,wc⟩:=x
 dsimp only
 obtain ⟨w1,hw1⟩:∃ y,w.alloc (.cells #[.slice ga gl gc,.slice na nl nc,.slice wa wl wc] 26)=y:=⟨_,rfl⟩
 have hS1:=au hw1
 have hB1:aT w1 w.heap.size ⟨ga,gl,gc,na,nl,nc,wa,wl,wc⟩:=by rw [<-hw1];exact aT.new w ⟨ga,gl,gc,na,nl,nc,wa,wl,wc⟩ _
 have PF:Hid (∀ y,Since w1 y->y.cell? ⟨w.heap.size,0,none⟩=some (.slice ga gl gc)/\y.cell? ⟨w.heap.size,1,none⟩=some (.slice na nl nc)/\y.cell? ⟨w.heap.size,2,none⟩=some (.slice wa wl wc)):=fun y hy=>⟨(hB1.since hy).c0,(hB1.since hy).c1,(hB1.since hy).c2⟩
 have hW1:=hW.since hS1
 have WF:Hid (∀ y,Since w1 y->WAt y ⟨ga,gl,gc,na,nl,nc,wa,wl,wc⟩ d):=fun y hy=>hW1.since hy
 obtain ⟨p0,p1,p2⟩:=PF.out _ (Since.refl w1)
 have hlw:w.heap.size < w1.heap.size:=hB1.lt
 obtain ⟨HG0,HG1⟩:Hid (G=0\/G≠0)/\True:=⟨by unfold Hid;omega,trivial⟩
 clear hB1 hW
 cases hE:(E == 0)
 ·go_enter func11,ntmps11
  cases hG:(G != 0)
  ·have h0:G=0:=by simpa using hG
   have hw3:=hw2.out h0
   clear h0
   go_wp2_with (first
  | (go_at_call_of 35 (Value.agg #[.slice ga gl gc,.slice na nl nc,.slice wa wl wc]);refine (hwr.out ⟨ga,gl,gc,na,nl,nc,wa,wl,wc⟩ w1 hW1).mono ?_;rintro e w2 ⟨rfl,hS2⟩;obtain ⟨f0,f1,f2⟩:=PF.out _ hS2)
  | (go_at_call_of 36 (Value.string (bs s));refine (hrd.out w2).mono ?_;rintro e w6 ⟨hS6,⟨ga',gl',gc',na',nl',nc',wa',wl',wc'⟩,rfl,hW6⟩;dsimp only;obtain ⟨w7,hw7⟩:∃ y,w6.alloc (.cells #[.slice ga' gl' gc',.slice na' nl' nc',.slice wa' wl' wc'] 26)=y:=⟨_,rfl⟩;have hS7:Since w6 w7:=(by rw [<-hw7];exact (Since.refl w6).alloc _);obtain ⟨_,g0,g1,g2⟩:aT w7 w6.heap.size ⟨ga',gl',gc',na',nl',nc',wa',wl',wc'⟩:=(by rw [<-hw7];exact aT.new w6 ⟨ga',gl',gc',na',nl',nc',wa',wl',wc'⟩ _);have hW7:=hW6.since hS7)
  | (go_at_call_of 35 (Value.agg #[.slice ga' gl' gc',.slice na' nl' nc',.slice wa' wl' wc']);refine (hw3 ⟨ga',gl',gc',na',nl',nc',wa',wl',wc'⟩ w7 hW7).mono ?_;rintro e w8 ⟨rfl,hS8⟩)
  | (go_at_call 37;refine (eP w8).mono ?_;rintro e w9 ⟨rfl,hS9⟩))
   go_ret
   exact ⟨by simp,hS1.trans (hS2.trans (hS6.trans (hS7.trans (hS8.trans hS9))))⟩
  ·go_wp2_with (first
  | (go_at_call_of 35 (Value.agg #[.slice ga gl gc,.slice na nl nc,.slice wa wl wc]);refine (hwr.out ⟨ga,gl,gc,na,nl,nc,wa,wl,wc⟩ w1 hW1).mono ?_;rintro e w2 ⟨rfl,hS2⟩;obtain ⟨f0,f1,f2⟩:=PF.out _ hS2)
  | (go_at_call_of 36 (Value.string (bs s));refine (hrd.out w2).mono ?_;rintro e w6 ⟨hS6,⟨ga',gl',gc',na',nl',nc',wa',wl',wc'⟩,rfl,hW6⟩;dsimp only;obtain ⟨w7,hw7⟩:∃ y,w6.alloc (.cells #[.slice ga' gl' gc',.slice na' nl' nc',.slice wa' wl' wc'] 26)=y:=⟨_,rfl⟩;have hS7:Since w6 w7:=(by rw [<-hw7];exact (Since.refl w6).alloc _))
  | (go_at_call 37;refine (eP w7).mono ?_;rintro e w9 ⟨rfl,hS9⟩))
   go_ret
   exact ⟨by simp,hS1.trans (hS2.trans (hS6.trans (hS7.trans hS9)))⟩
 ·have hE0:E=0:=by simpa using hE
  cases hL:decide (((bs T).size:Int)<=4096)
  ·clear hE0
   go_enter func11,ntmps11
   cases hG:(G != 0)
   ·have h0:G=0:=by simpa using hG
    have hw3:=hw2.out h0
    clear h0
    go_wp2_with (first
  | (go_at_call_of 35 (Value.agg #[.slice ga gl gc,.slice na nl nc,.slice wa wl wc]);refine (hwr.out ⟨ga,gl,gc,na,nl,nc,wa,wl,wc⟩ w1 hW1).mono ?_;rintro e w2 ⟨rfl,hS2⟩;obtain ⟨f0,f1,f2⟩:=PF.out _ hS2)
  | (go_at_call_of 36 (Value.string (bs s));refine (hrd.out w2).mono ?_;rintro e w6 ⟨hS6,⟨ga',gl',gc',na',nl',nc',wa',wl',wc'⟩,rfl,hW6⟩;dsimp only;obtain ⟨w7,hw7⟩:∃ y,w6.alloc (.cells #[.slice ga' gl' gc',.slice na' nl' nc',.slice wa' wl' wc'] 26)=y:=⟨_,rfl⟩;have hS7:Since w6 w7:=(by rw [<-hw7];exact (Since.refl w6).alloc _);obtain ⟨_,g0,g1,g2⟩:aT w7 w6.heap.size ⟨ga',gl',gc',na',nl',nc',wa',wl',wc'⟩:=(by rw [<-hw7];exact aT.new w6 ⟨ga',gl',gc',na',nl',nc',wa',wl',wc'⟩ _);have hW7:=hW6.since hS7)
  | (go_at_call_of 35 (Value.agg #[.slice ga' gl' gc',.slice na' nl' nc',.slice wa' wl' wc']);refine (hw3 ⟨ga',gl',gc',na',nl',nc',wa',wl',wc'⟩ w7 hW7).mono ?_;rintro e w8 ⟨rfl,hS8⟩)
  | (go_at_call 37;refine (eP w8).mono ?_;rintro e w9 ⟨rfl,hS9⟩))
    go_ret
    exact ⟨by simp,hS1.trans (hS2.trans (hS6.trans (hS7.trans (hS8.trans hS9))))⟩
   ·go_wp2_with (first
  | (go_at_call_of 35 (Value.agg #[.slice ga gl gc,.slice na nl nc,.slice wa wl wc]);refine (hwr.out ⟨ga,gl,gc,na,nl,nc,wa,wl,wc⟩ w1 hW1).mono ?_;rintro e w2 ⟨rfl,hS2⟩;obtain ⟨f0,f1,f2⟩:=PF.out _ hS2)
  | (go_at_call_of 36 (Value.string (bs s));refine (hrd.out w2).mono ?_;rintro e w6 ⟨hS6,⟨ga',gl',gc',na',nl',nc',wa',wl',wc'⟩,rfl,hW6⟩;dsimp only;obtain ⟨w7,hw7⟩:∃ y,w6.alloc (.cells #[.slice ga' gl' gc',.slice na' nl' nc',.slice wa' wl' wc'] 26)=y:=⟨_,rfl⟩;have hS7:Since w6 w7:=(by rw [<-hw7];exact (Since.refl w6).alloc _))
  | (go_at_call 37;refine (eP w7).mono ?_;rintro e w9 ⟨rfl,hS9⟩))
    go_ret
    exact ⟨by simp,hS1.trans (hS2.trans (hS6.trans (hS7.trans hS9)))⟩
  ·have hLt:T.length<=4096:=by rw [iL] at hL;simp at hL;omega
   have hr3:=hrt.out hE0 hLt
   clear hE0 hLt
   go_enter func11,ntmps11
   go_wp2_with (first
  | (go_at_call_of 35 (Value.agg #[.slice ga gl gc,.slice na nl nc,.slice wa wl wc]);refine (hwr.out ⟨ga,gl,gc,na,nl,nc,wa,wl,wc⟩ w1 hW1).mono ?_;rintro e w2 ⟨rfl,hS2⟩;obtain ⟨f0,f1,f2⟩:=PF.out _ hS2)
  | (go_at_call_of 36 (Value.string (bs T));refine (hr3 w2).mono ?_;rintro e w3 ⟨hS3,⟨ga2,gl2,gc2,na2,nl2,nc2,wa2,wl2,wc2⟩,rfl,hW3⟩;dsimp only;obtain ⟨w4,hw4⟩:∃ y,w3.alloc (.cells #[.slice ga2 gl2 gc2,.slice na2 nl2 nc2,.slice wa2 wl2 wc2] 26)=y:=⟨_,rfl⟩;have hS4:Since w3 w4:=(by rw [<-hw4];exact (Since.refl w3).alloc _);obtain ⟨_,g0,g1,g2⟩:aT w4 w3.heap.size ⟨ga2,gl2,gc2,na2,nl2,nc2,wa2,wl2,wc2⟩:=(by rw [<-hw4];exact aT.new w3 ⟨ga2,gl2,gc2,na2,nl2,nc2,wa2,wl2,wc2⟩ _);have hW4:=hW3.since hS4;have nY:=hS2.trans (hS3.trans hS4);obtain ⟨j0,j1,j2⟩:=PF.out _ nY;have hV4:=WF.out _ nY)
  | (go_at_call 16;refine (kY ⟨ga2,gl2,gc2,na2,nl2,nc2,wa2,wl2,wc2⟩ ⟨ga,gl,gc,na,nl,nc,wa,wl,wc⟩ d w4 hW4 hV4).mono ?_;rintro e w5 ⟨rfl,hS5⟩;have mG:=nY.trans hS5))
   cases hG:(G != 0)
   ·have h0:G=0:=by simpa using hG
    have hw3:=hw2.out h0
    clear h0
    go_wp2_with (first
  | (go_at_call_of 36 (Value.string (bs s));refine (hrd.out w5).mono ?_;rintro e w6 ⟨hS6,⟨ga',gl',gc',na',nl',nc',wa',wl',wc'⟩,rfl,hW6⟩;dsimp only;obtain ⟨w7,hw7⟩:∃ y,w6.alloc (.cells #[.slice ga' gl' gc',.slice na' nl' nc',.slice wa' wl' wc'] 26)=y:=⟨_,rfl⟩;have hS7:Since w6 w7:=(by rw [<-hw7];exact (Since.refl w6).alloc _);obtain ⟨_,g0,g1,g2⟩:aT w7 w6.heap.size ⟨ga',gl',gc',na',nl',nc',wa',wl',wc'⟩:=(by rw [<-hw7];exact aT.new w6 ⟨ga',gl',gc',na',nl',nc',wa',wl',wc'⟩ _);have hW7:=hW6.since hS7)
  | (go_at_call_of 35 (Value.agg #[.slice ga' gl' gc',.slice na' nl' nc',.slice wa' wl' wc']);refine (hw3 ⟨ga',gl',gc',na',nl',nc',wa',wl',wc'⟩ w7 hW7).mono ?_;rintro e w8 ⟨rfl,hS8⟩)
  | (go_at_call 37;refine (eP w8).mono ?_;rintro e w9 ⟨rfl,hS9⟩))
    go_ret
    exact ⟨by simp,hS1.trans (mG.trans (hS6.trans (hS7.trans (hS8.trans hS9))))⟩
   ·go_wp2_with (first
  | (go_at_call_of 36 (Value.string (bs s));refine (hrd.out w5).mono ?_;rintro e w6 ⟨hS6,⟨ga',gl',gc',na',nl',nc',wa',wl',wc'⟩,rfl,hW6⟩;dsimp only;obtain ⟨w7,hw7⟩:∃ y,w6.alloc (.cells #[.slice ga' gl' gc',.slice na' nl' nc',.slice wa' wl' wc'] 26)=y:=⟨_,rfl⟩;have hS7:Since w6 w7:=(by rw [<-hw7];exact (Since.refl w6).alloc _))
  | (go_at_call 37;refine (eP w7).mono ?_;rintro e w9 ⟨rfl,hS9⟩))
    go_ret
    exact ⟨by simp,hS1.trans (mG.trans (hS6.trans (hS7.trans hS9)))⟩
theorem pE (x:WV) (d:Wd) (s:ByteArray) (w:World) (hW:WAt w x d) :
  Calls prog 11 #[.agg #[.slice x.ga x.gl x.gc,.slice x.na x.nl x.nc,.slice x.wa x.wl x.wc],.string s] w fun e w'=>e=.returned (.bool true)/\Since w w':=by
 obtain ⟨l,rfl⟩:∃ l,s=bs l:=⟨_,(FD s).symm⟩
 refine tN x d l (wrB d) (aA d) (rC l) (rD l) w hW (fun x w h=>jN x d w h) (fun h0 hl w=>?_) (fun w=>kG l w) (fun hG x w h=>?_)
 ·have h:=kG (wrB d) w
  rw [xQ h0] at h hl ⊢
  obtain ⟨e1,e2⟩:=r9 h0 hl
  rw [e1,e2] at h;exact h
 ·have k:=jN x (rD l) w h
  obtain ⟨e1,e2⟩:=AZ hG
  rw [e1,e2] at k;exact k
end Go.Proofs.Ytiiifecfdkjmbaa
