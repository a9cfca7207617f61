/- Lemmas. Lemmas. -/
import Derived.Test.YtiiifecfdkjmbaaWpMsgs
set_option maxHeartbeats 4000000
namespace Go.Proofs.Ytiiifecfdkjmbaa
open _root_.Go.Proofs.Try hiding checked
set_option maxRecDepth 8000
open Go.RowKit Go.Shelf
open Pu
set_option linter.unusedVariables false
set_option linter.unusedSimpArgs false
theorem zy:je 3=b3:=funext yH
theorem zA:je 1=b1:=funext qW
theorem gN.less {n m:Nat} {s t:Sl} (h:gN m s t) (hm:n<=m):gN n s t:=by
 rcases h with e | ⟨b,e,hb⟩
 ·exact .inl e
 ·exact .inr ⟨b,e,by omega⟩
theorem PX.from {P:Nat} {s:Sl} {a b c:World} (h:Since a b) (k:Fr (PX P s) b c):Fr (PX P s) a c:=(h.fr _).trans k (fun _ _ x=>x) (fun _ _ x=>x)
theorem yK (n:Int):(b3 n).length=3:=rfl
set_option maxRecDepth 8000 in
theorem wT (w0:World) (lo P:Nat) (x:Nd) (la ha ta:Option Addr) (lc hc tc:Nat) (s:Sl) (l:List UInt8) (w:World) (h:Pen lo w P s l) (hlo:w0.heap.size<=lo) (hS0:Since w0 w) (hL:Slices iq w0 la x.last.length x.last) (hH:dn w0 ha x.held.length x.held) (hT:dn w0 ta x.told.length x.told) (hlen:l.length+(dq9 x).length<=100000000) :
  Calls prog 99 #[.pointer (some ⟨P,0,none⟩),.agg #[.int .i64 x.clock,.slice la x.last.length lc,.slice ha x.held.length hc,.slice ta x.told.length tc]] w fun e w'=>e=.returned (.tuple #[])/\∃ s',Pen lo w' P s' (l++dq9 x)/\Fr (PX P s) w w'/\gN w.heap.size s s':=by
 obtain ⟨ck,last,held,told⟩:=x
 dsimp only at hL hH hT ⊢
 obtain ⟨w1,hw1⟩:∃ y,w.alloc (.cells #[.int .i64 ck,.slice la last.length lc,.slice ha held.length hc,.slice ta told.length tc] 45)=y:=⟨_,rfl⟩
 obtain ⟨w2,hw2⟩:∃ y,w1.alloc (.cells #[.int .i64 ck] 3)=y:=⟨_,rfl⟩
 have hS1:=au hw1
 have hS2:=au hw2
 have hl1:w.heap.size < w1.heap.size:=by rw [<-hw1];simp
 have hBx:aV w1 w.heap.size (.int .i64 ck) (.slice la last.length lc) (.slice ha held.length hc) (.slice ta told.length tc):=by rw [<-hw1];exact aV.new w _ _ _ _ _
 have hI2:Ints w2 (some ⟨w1.heap.size,0,none⟩) 1 [ck]:=by rw [<-hw2];exact j4
 have hP1:=h.since hS1
 have hP2:=hP1.since hS2
 have hap:∀ b off,(some ⟨w1.heap.size,0,none⟩:Option Addr)=some ⟨b,off,none⟩->¬ PX P s b:=fun b off e=>by cases e;exact hP1.apart (Nat.le_refl _)
 have hab:=h.apart (Nat.le_refl w.heap.size)
 have Fb:=hS0.trans hS1
 have BF:Hid (∀ y,Fr (PX P s) w1 y->aV y w.heap.size (.int .i64 ck) (.slice la last.length lc) (.slice ha held.length hc) (.slice ta told.length tc)):=fun y hy=>hBx.fr hy hab
 have SF:Hid (∀ y,Fr (PX P s) w1 y->Since w0 y):=fun y hy=>PX.base hP1 hlo Fb hy
 have oI:Hid (l.length+3+(last.flatMap (fun r=>r.flatMap b3)).length+(bE held).length+(bE told).length<=100000000):=by
  unfold dq9 at hlen
  simp only [List.length_append,yK] at hlen
  unfold Hid;omega
 have jf:Hid (l++dq9 ⟨ck,last,held,told⟩=(((l++b3 ck)++last.flatMap (fun r=>r.flatMap b3))++bE held)++bE told):=by
  unfold Hid dq9;simp only [List.append_assoc]
 obtain ⟨q0,q1,q2,q3⟩:_/\_/\_/\_:=⟨hBx.c0,hBx.c1,hBx.c2,hBx.c3⟩
 have hlm:=hL.hmax
 clear hlen hBx
 go_enter func99,ntmps99
 go_wp2_with (go_at_call 98;refine (dQ lo P 3 (by omega) _ 1 1 [ck] s l w2 hP2 hI2 (fun _=>hap) (by have:=oI.out;omega)).mono ?_;rintro e w3 ⟨rfl,s3,hP3,hF3,hN3⟩;have pG:=PX.from hS2 hF3;obtain ⟨_,g0,g1,g2,g3,_,_,_,_⟩:=BF.out _ pG)
 have qX:gN w1.heap.size s s3:=hN3.less hS2.size
 have hhd:[ck].flatMap (je 3)=b3 ck:=by simp [yH]
 rw [hhd] at hP3
 obtain ⟨l3,hl3⟩:∃ y,l++b3 ck=y:=⟨_,rfl⟩
 have HLN:Hid (l3.length+(last.flatMap (fun r=>r.flatMap b3)).length+(bE held).length+(bE told).length<=100000000):=by
  unfold Hid;rw [<-hl3,List.length_append,yK];exact oI.out
 rw [hl3] at hP3 jf
 clear hl3 hhd hF3 hN3 hw1 hw2 hI2 hP2 hap oI hS2 q0 q1 q2 q3 g0 g1 g2 g3
 go_loopw [14] (fun i wr=>∃ (k:Nat) (s':Sl),k<=last.length/\i=.int .i64 k/\Pen lo wr P s' (l3++(last.take k).flatMap (fun r=>r.flatMap b3))/\Fr (PX P s) w1 wr/\gN w1.heap.size s s') (fun i _=>last.length - (intOf i).toNat)
 case atStart=>exact ⟨0,s3,Nat.zero_le _,rfl,by simpa using hP3,pG,qX⟩
 case round =>
  obtain ⟨wo,rfl⟩:∃ wo,wo=wr:=⟨_,rfl⟩
  obtain ⟨k,s1,hk,rfl,hP,hF,hN⟩:=hrel
  by_cases hlt:k < last.length
  ·obtain ⟨row,hrow⟩:∃ row,last[k]? = some row:=⟨_,zQ1 hlt⟩
   obtain ⟨b,off,rfl,hb,hc⟩:=hL.cells (by omega)
   obtain ⟨v4,k4,ra,rc,rfl,hrc,hR⟩:=hc k row hrow
   have hSo:=SF.out _ hF
   have c0:=(hSo.cellAt hb _).trans k4
   have k1:(k:Int) < (last.length:Int):=by omega
   have HT:Hid ((last.take (k+1)).flatMap (fun r=>r.flatMap b3)=(last.take k).flatMap (fun r=>r.flatMap b3)++row.flatMap b3):=by unfold Hid;rw [List.take_add_one,hrow];simp
   obtain ⟨l4,hl4⟩:∃ y,l3++(last.take k).flatMap (fun r=>r.flatMap b3)=y:=⟨_,rfl⟩
   have HL4:Hid (l3++(last.take k).flatMap (fun r=>r.flatMap b3)=l4):=hl4
   have HLM:Hid (l4.length+3*row.length<=100000000):=by
    have h1:=iE (fun r:List Int=>r.flatMap b3) last (k+1)
    rw [HT.out,List.length_append,<-zy,gV,zy] at h1
    have:=HLN.out
    unfold Hid;rw [<-hl4,List.length_append];omega
   have hIr:=hR.since hSo
   have hap:∀ b off,ra=some ⟨b,off,none⟩->0 < row.length->¬ PX P s1 b:=fun b off e hp=>by
    obtain ⟨b',off',e',hb',_⟩:=hR.cells hp
    rw [e] at e';cases e'
    exact hP.old (by omega)
   rw [hl4] at hP
   clear hl4 hc k4 hrow hR
   go_wp2_with (go_at_call 98;refine (dQ lo P 3 (by omega) _ _ _ row s1 l4 wo hP hIr (fun hp b off e=>hap b off e hp) HLM.out).mono ?_;rintro e w5 ⟨rfl,s5,hP5,hF5,hN5⟩)
   refine ⟨⟨k+1,s5,by omega,by go_num, ?_,PX.trans hF hF5 hN,hN.trans hN5 hF.size⟩,by simp [intOf];omega⟩
   rw [HT.out,<-List.append_assoc,HL4.out,<-zy];exact hP5
  ·obtain rfl:k=last.length:=by omega
   rw [List.take_length] at hP
   obtain ⟨_,g0,g1,g2,g3,_,_,_,_⟩:=BF.out _ hF
   have hSo:=SF.out _ hF
   go_wp2_with (first
    | (go_at_call_of 100 (Value.slice ha held.length hc);refine (lW w0 lo P ha held.length hc held s1 _ wo hP hlo hSo hH (by rw [List.length_append];have:=HLN.out;omega)).mono ?_;rintro e w6 ⟨rfl,s6,hP6,hF6,hN6⟩;have wU:=PX.trans hF hF6 hN;have Cr:=hN.trans hN6 hF.size;obtain ⟨_,f0,f1,f2,f3,_,_,_,_⟩:=BF.out _ wU;have hS6:=SF.out _ wU)
    | (go_at_call_of 100 (Value.slice ta told.length tc);refine (lW w0 lo P ta told.length tc told s6 _ w6 hP6 hlo hS6 hT (by rw [List.length_append,List.length_append];have:=HLN.out;omega)).mono ?_;rintro e w7 ⟨rfl,s7,hP7,hF7,hN7⟩))
   go_end0
   exact ⟨rfl,s7,by rw [jf.out];exact hP7,PX.from hS1 (PX.trans wU hF7 Cr),(Cr.trans hN7 wU.size).less hS1.size⟩
end Go.Proofs.Ytiiifecfdkjmbaa
set_option maxHeartbeats 4000000
namespace Go.Proofs.Ytiiifecfdkjmbaa
open _root_.Go.Proofs.Try hiding checked
set_option maxRecDepth 8000
open Go.RowKit Go.Shelf
open Pu
set_option linter.unusedVariables false
set_option linter.unusedSimpArgs false
theorem oJ (n:Int):(b1 n).length=1:=rfl
set_option maxRecDepth 8000 in
theorem uP (w0:World) (lo P:Nat) (x:WV) (d:Wd) (s:Sl) (l:List UInt8) (w:World) (h:Pen lo w P s l) (hlo:w0.heap.size<=lo) (hS0:Since w0 w) (hW:WAt w0 x d) (hlen:l.length+(bO d).length<=100000000) :
  Calls prog 71 #[.pointer (some ⟨P,0,none⟩),.agg #[.slice x.ga x.gl x.gc,.slice x.na x.nl x.nc,.slice x.wa x.wl x.wc]] w fun e w'=>e=.returned (.tuple #[])/\∃ s',Pen lo w' P s' (l++bO d)/\Fr (PX P s) w w'/\gN w.heap.size s s':=by
 obtain ⟨ga,gl,gc,na,nl,nc,wa,wl,wc⟩:=x
 obtain ⟨gs,ns,ws⟩:=d
 obtain ⟨hG,hgc,hN0,hnc,hR0,hrc⟩:=hW
 dsimp only at hG hgc hN0 hnc hR0 hrc ⊢
 obtain rfl:=hG.hlen
 obtain rfl:=hN0.hlen
 obtain rfl:=hR0.hlen
 have hgm:=hG.hmax
 have hnm:=hN0.hmax
 have hwm:=hR0.hmax
 obtain ⟨w1,hw1⟩:∃ y,w.alloc (.cells #[.slice ga gs.length gc,.slice na ns.length nc,.slice wa ws.length wc] 26)=y:=⟨_,rfl⟩
 obtain ⟨w2,hw2⟩:∃ y,w1.alloc (.cells #[.int .i64 gs.length] 3)=y:=⟨_,rfl⟩
 have hS1:=au hw1
 have hS2:=au hw2
 have hBx:aT w1 w.heap.size ⟨ga,gs.length,gc,na,ns.length,nc,wa,ws.length,wc⟩:=by rw [<-hw1];exact aT.new w ⟨ga,gs.length,gc,na,ns.length,nc,wa,ws.length,wc⟩ _
 have hI2:Ints w2 (some ⟨w1.heap.size,0,none⟩) 1 [(gs.length:Int)]:=by rw [<-hw2];exact j4
 have hP1:=h.since hS1
 have hP2:=hP1.since hS2
 have hap:0 < 1->∀ b off,(some ⟨w1.heap.size,0,none⟩:Option Addr)=some ⟨b,off,none⟩->¬ PX P s b:=fun _ b off e=>by cases e;exact hP1.apart (Nat.le_refl _)
 have hab:=h.apart (Nat.le_refl w.heap.size)
 have Fb:=hS0.trans hS1
 have hl1:=hBx.lt
 have BF:Hid (∀ y,Fr (PX P s) w1 y->y.cell? ⟨w.heap.size,0,none⟩=some (.slice ga gs.length gc)/\y.cell? ⟨w.heap.size,1,none⟩=some (.slice na ns.length nc)/\y.cell? ⟨w.heap.size,2,none⟩=some (.slice wa ws.length wc)):=fun y hy =>
  ⟨(hy.cell (p:=⟨w.heap.size,0,none⟩) hl1 hab).trans hBx.c0,(hy.cell (p:=⟨w.heap.size,1,none⟩) hl1 hab).trans hBx.c1,(hy.cell (p:=⟨w.heap.size,2,none⟩) hl1 hab).trans hBx.c2⟩
 have SF:Hid (∀ y,Fr (PX P s) w1 y->Since w0 y):=fun y hy=>PX.base hP1 hlo Fb hy
 have oI:Hid (l.length+1+gs.length+1+(ns.flatMap dq9).length+(ws.flatMap fun r=>r.flatMap bE).length<=100000000):=by
  unfold bO at hlen
  have e:(gs.flatMap b1).length=gs.length:=by rw [<-zA,gV];omega
  simp only [List.length_append,oJ,e] at hlen
  unfold Hid;omega
 have jf:Hid (l++bO ⟨gs,ns,ws⟩=((((l++b1 gs.length)++gs.flatMap b1)++b1 ns.length)++ns.flatMap dq9)++ws.flatMap fun r=>r.flatMap bE):=by
  unfold Hid bO;simp only [List.append_assoc]
 have q0:=hBx.c0
 dsimp only at q0
 clear hlen hBx
 go_enter func71,ntmps71
 go_wp2_with (first
  | (go_at_call_of 98 (Value.slice (some ⟨w1.heap.size,0,none⟩) 1 1);refine (dQ lo P 1 (by omega) _ 1 1 [(gs.length:Int)] s l w2 hP2 hI2 hap (by have:=oI.out;omega)).mono ?_;rintro e w3 ⟨rfl,s3,hP3,hF3,hN3⟩;have pG:=PX.from hS2 hF3;have qX:gN w1.heap.size s s3:=hN3.less hS2.size;obtain ⟨g0,g1,g2⟩:=BF.out _ pG;have hI3:=hG.since (SF.out _ pG);rw [show [(gs.length:Int)].flatMap (je 1)=b1 gs.length from (by simp [qW])] at hP3;obtain ⟨l3,hl3⟩:∃ y,l++b1 gs.length=y:=⟨_,rfl⟩;have hn3:l3.length=l.length+1:=(by rw [<-hl3];simp [oJ]);rw [hl3] at hP3 jf;have ha3:0 < gs.length->∀ b off,ga=some ⟨b,off,none⟩->¬ PX P s3 b:=(fun hp b off e=>by obtain ⟨b',off',e',hb',_⟩:=hG.cells hp;rw [e] at e';cases e';exact hP3.old (by omega)))
  | (go_at_call_of 98 (Value.slice ga gs.length gc);refine (dQ lo P 1 (by omega) _ _ _ gs s3 l3 w3 hP3 hI3 ha3 (by have:=oI.out;omega)).mono ?_;rintro e w4 ⟨rfl,s4,hP4,hF4,hN4⟩;have Dn:=PX.trans pG hF4 qX;have Fh:=qX.trans hN4 pG.size;obtain ⟨j0,j1,j2⟩:=BF.out _ Dn;rw [zA] at hP4;obtain ⟨l4,hl4⟩:∃ y,l3++gs.flatMap b1=y:=⟨_,rfl⟩;have hn4:l4.length=l.length+1+gs.length:=(by rw [<-hl4,List.length_append,hn3,<-zA,gV];omega);rw [hl4] at hP4 jf;obtain ⟨w5,hw5⟩:∃ y,w4.alloc (.cells #[.int .i64 ns.length] 3)=y:=⟨_,rfl⟩;have hS5:Since w4 w5:=(by rw [<-hw5];exact (Since.refl w4).alloc _);have hI5:Ints w5 (some ⟨w4.heap.size,0,none⟩) 1 [(ns.length:Int)]:=(by rw [<-hw5];exact j4);have hP5:=hP4.since hS5;have ha5:0 < 1->∀ b off,(some ⟨w4.heap.size,0,none⟩:Option Addr)=some ⟨b,off,none⟩->¬ PX P s4 b:=(fun _ b off e=>by cases e;exact hP4.apart (Nat.le_refl _)))
  | (go_at_call_of 98 (Value.slice (some ⟨w4.heap.size,0,none⟩) 1 1);refine (dQ lo P 1 (by omega) _ 1 1 [(ns.length:Int)] s4 l4 w5 hP5 hI5 ha5 (by have:=oI.out;omega)).mono ?_;rintro e w6 ⟨rfl,s6,hP6,hF6,hN6⟩;have wU:=PX.trans Dn (PX.from hS5 hF6) Fh;have Cr:=Fh.trans (hN6.less hS5.size) Dn.size;obtain ⟨i0,i1,i2⟩:=BF.out _ wU;rw [show [(ns.length:Int)].flatMap (je 1)=b1 ns.length from (by simp [qW])] at hP6;obtain ⟨l6,hl6⟩:∃ y,l4++b1 ns.length=y:=⟨_,rfl⟩;have HLN:Hid (l6.length+(ns.flatMap dq9).length+(ws.flatMap fun r=>r.flatMap bE).length<=100000000):=(by unfold Hid;rw [<-hl6,List.length_append,hn4,oJ];have:=oI.out;omega);rw [hl6] at hP6 jf))
 clear hw1 hw2 hw5 hI2 hI3 hI5 hP1 hP2 hP3 hP4 hP5 hap ha3 ha5 hF3 hF4 hF6 hN3 hN4 hN6 hl3 hl4 hl6 hn3 hn4 oI hS2 hS5 g0 g1 g2 j0 j1 j2 i0 i1 i2 q0 pG qX Dn Fh hG
 go_loopw [29] (fun i wr=>∃ (k:Nat) (s':Sl),k<=ns.length/\i=.int .i64 k/\Pen lo wr P s' (l6++(ns.take k).flatMap dq9)/\Fr (PX P s) w1 wr/\gN w1.heap.size s s') (fun i _=>ns.length - (intOf i).toNat)
 case atStart=>exact ⟨0,s6,Nat.zero_le _,rfl,by simpa using hP6,wU,Cr⟩
 case round =>
  obtain ⟨wo,rfl⟩:∃ wo,wo=wr:=⟨_,rfl⟩
  obtain ⟨k,s1,hk,rfl,hP,hF,hN⟩:=hrel
  by_cases hlt:k < ns.length
  ·obtain ⟨nd,hnd⟩:∃ nd,ns[k]? = some nd:=⟨_,zQ1 hlt⟩
   obtain ⟨b,off,rfl,hb,hc⟩:=hN0.cells (by omega)
   obtain ⟨k0,⟨v1,k1,la,lc,rfl,hlc,hL⟩,⟨v2,k2,ha,hc',rfl,hhc,hH⟩,⟨v3,k3,ta,tc,rfl,htc,hT⟩⟩:=hc k nd hnd
   have hSo:=SF.out _ hF
   have c0:=(hSo.cellAt hb _).trans k0
   have c1:=(hSo.cellAt hb _).trans k1
   have c2:=(hSo.cellAt hb _).trans k2
   have c3:=(hSo.cellAt hb _).trans k3
   have kk:(k:Int) < (ns.length:Int):=by omega
   have HT:Hid ((ns.take (k+1)).flatMap dq9=(ns.take k).flatMap dq9++dq9 nd):=by unfold Hid;rw [List.take_add_one,hnd];simp
   obtain ⟨l7,hl7⟩:∃ y,l6++(ns.take k).flatMap dq9=y:=⟨_,rfl⟩
   have HL7:Hid (l6++(ns.take k).flatMap dq9=l7):=hl7
   have HLM:Hid (l7.length+(dq9 nd).length<=100000000):=by
    have h1:=iE dq9 ns (k+1)
    rw [HT.out,List.length_append] at h1
    have:=HLN.out
    unfold Hid;rw [<-hl7,List.length_append];omega
   obtain ⟨x7,hx7⟩:∃ y,wo.alloc (.cells #[.int .i64 nd.clock,.slice la nd.last.length lc,.slice ha nd.held.length hc',.slice ta nd.told.length tc] 45)=y:=⟨_,rfl⟩
   have hs7:=au hx7
   obtain ⟨_,e0,e1,e2,e3,_,_,_,_⟩:aV x7 wo.heap.size (.int .i64 nd.clock) (.slice la nd.last.length lc) (.slice ha nd.held.length hc') (.slice ta nd.told.length tc):=by rw [<-hx7];exact aV.new wo _ _ _ _ _
   rw [hl7] at hP
   have hP7:=hP.since hs7
   have Jk:=hSo.trans hs7
   clear hl7 hc k0 k1 k2 k3 hnd
   go_wp2_with (go_at_call 99;refine (wT w0 lo P nd la ha ta lc hc' tc s1 l7 x7 hP7 hlo Jk hL hH hT HLM.out).mono ?_;rintro e w8 ⟨rfl,s8,hP8,hF8,hN8⟩)
   refine ⟨⟨k+1,s8,by omega,by go_num, ?_,PX.trans hF (PX.from hs7 hF8) hN,hN.trans (hN8.less hs7.size) hF.size⟩,by simp [intOf];omega⟩
   rw [HT.out,<-List.append_assoc,HL7.out];exact hP8
  ·obtain rfl:k=ns.length:=by omega
   rw [List.take_length] at hP
   obtain ⟨g0,g1,g2⟩:=BF.out _ hF
   obtain ⟨l7,hl7⟩:∃ y,l6++ns.flatMap dq9=y:=⟨_,rfl⟩
   have Jl:Hid (l7.length+(ws.flatMap fun r=>r.flatMap bE).length<=100000000):=by
    have:=HLN.out
    unfold Hid;rw [<-hl7,List.length_append];omega
   rw [hl7] at hP jf
   clear hl7 wU Cr hP6
   go_wp2_with fail
   clear g0 g1 g2
   go_loopw [40] (fun i wr=>∃ (k:Nat) (s':Sl),k<=ws.length/\i=.int .i64 k/\Pen lo wr P s' (l7++(ws.take k).flatMap fun r=>r.flatMap bE)/\Fr (PX P s) w1 wr/\gN w1.heap.size s s') (fun i _=>ws.length - (intOf i).toNat)
   case atStart=>exact ⟨0,s1,Nat.zero_le _,rfl,by simpa using hP,hF,hN⟩
   case round =>
    clear hP hF hN
    obtain ⟨wq,rfl⟩:∃ wq,wq=wr:=⟨_,rfl⟩
    obtain ⟨k,s2,hk,rfl,hP,hF,hN⟩:=hrel
    by_cases hlt:k < ws.length
    ·obtain ⟨row,hrow⟩:∃ row,ws[k]? = some row:=⟨_,zQ1 hlt⟩
     obtain ⟨b,off,rfl,hb,hc⟩:=hR0.cells (by omega)
     obtain ⟨v1,k1,ra,rc,rfl,hrc,hR⟩:=hc k row hrow
     have hSo:=SF.out _ hF
     have c1:=(hSo.cellAt hb _).trans k1
     have kk:(k:Int) < (ws.length:Int):=by omega
     have hrm:=hR.hmax
     have HT:Hid ((ws.take (k+1)).flatMap (fun r=>r.flatMap bE)=(ws.take k).flatMap (fun r=>r.flatMap bE)++row.flatMap bE):=by unfold Hid;rw [List.take_add_one,hrow];simp
     obtain ⟨l8,hl8⟩:∃ y,l7++(ws.take k).flatMap (fun r=>r.flatMap bE)=y:=⟨_,rfl⟩
     have HL8:Hid (l7++(ws.take k).flatMap (fun r=>r.flatMap bE)=l8):=hl8
     have HLM:Hid (l8.length+(row.flatMap bE).length<=100000000):=by
      have h1:=iE (fun r:List (List Mg)=>r.flatMap bE) ws (k+1)
      rw [HT.out,List.length_append] at h1
      have:=Jl.out
      unfold Hid;rw [<-hl8,List.length_append];omega
     rw [hl8] at hP
     clear hl8 hc k1 hrow
     go_wp2_with fail
     clear c1
     go_loopw [46] (fun i wr=>∃ (j:Nat) (s':Sl),j<=row.length/\i=.int .i64 j/\Pen lo wr P s' (l8++(row.take j).flatMap bE)/\Fr (PX P s) w1 wr/\gN w1.heap.size s s') (fun i _=>row.length - (intOf i).toNat)
     case atStart=>exact ⟨0,s2,Nat.zero_le _,rfl,by simpa using hP,hF,hN⟩
     case round =>
      clear hP hF hN
      obtain ⟨wi,rfl⟩:∃ wi,wi=wr:=⟨_,rfl⟩
      obtain ⟨j,s3,hj,rfl,hP,hF,hN⟩:=hrel
      by_cases hjl:j < row.length
      ·obtain ⟨on,hon⟩:∃ on,row[j]? = some on:=⟨_,zQ1 hjl⟩
       obtain ⟨b2,off2,rfl,hb2,hc2⟩:=hR.cells (by omega)
       obtain ⟨v2,k2,ma,mc,rfl,hmc,hM⟩:=hc2 j on hon
       have hSi:=SF.out _ hF
       have c2:=(hSi.cellAt hb2 _).trans k2
       have jj:(j:Int) < (row.length:Int):=by omega
       have HTJ:Hid ((row.take (j+1)).flatMap bE=(row.take j).flatMap bE++bE on):=by unfold Hid;rw [List.take_add_one,hon];simp
       obtain ⟨l9,hl9⟩:∃ y,l8++(row.take j).flatMap bE=y:=⟨_,rfl⟩
       have HL9:Hid (l8++(row.take j).flatMap bE=l9):=hl9
       have HLJ:Hid (l9.length+(bE on).length<=100000000):=by
        have h1:=iE bE row (j+1)
        rw [HTJ.out,List.length_append] at h1
        have:=HLM.out
        unfold Hid;rw [<-hl9,List.length_append];omega
       rw [hl9] at hP
       clear hl9 hc2 k2 hon
       go_wp2_with (go_at_call 100;refine (lW w0 lo P ma on.length mc on s3 l9 wi hP hlo hSi hM HLJ.out).mono ?_;rintro e w8 ⟨rfl,s8,hP8,hF8,hN8⟩)
       refine ⟨⟨j+1,s8,by omega,by go_num, ?_,PX.trans hF hF8 hN,hN.trans hN8 hF.size⟩,by simp [intOf];omega⟩
       rw [HTJ.out,<-List.append_assoc,HL9.out];exact hP8
      ·obtain rfl:j=row.length:=by omega
       rw [List.take_length] at hP
       go_wp2
       refine ⟨⟨k+1,s3,by omega,by go_num, ?_,hF,hN⟩,by simp [intOf];omega⟩
       rw [HT.out,<-List.append_assoc,HL8.out];exact hP
    ·obtain rfl:k=ws.length:=by omega
     rw [List.take_length] at hP
     go_wp2
     go_end0
     exact ⟨rfl,s2,by rw [jf.out];exact hP,PX.from hS1 hF,hN.less hS1.size⟩
end Go.Proofs.Ytiiifecfdkjmbaa
