/- Lemmas. -/
import Derived.Test.YtiiifecfdkjmbaaWrNode
set_option maxHeartbeats 4000000
namespace Go.Proofs.Ytiiifecfdkjmbaa
open _root_.Go.Proofs.Try hiding checked
set_option maxRecDepth 8000
open Go.RowKit Go.Shelf
open Pu
set_option linter.unusedVariables false
set_option linter.unusedSimpArgs false
structure Bx3 (w:World) (p:Nat) (a b c:Value):Prop where
 lt:p < w.heap.size
 c0:w.cell? ⟨p,0,none⟩=some a
 c1:w.cell? ⟨p,1,none⟩=some b
 c2:w.cell? ⟨p,2,none⟩=some c
 z0:w.frozen? ⟨p,0,none⟩=false
 z1:w.frozen? ⟨p,1,none⟩=false
 z2:w.frozen? ⟨p,2,none⟩=false
theorem Bx3.fr {X:Nat->Prop} {w w':World} {p:Nat} {a b c:Value} (h:Bx3 w p a b c) (k:Fr X w w') (hX:¬ X p):Bx3 w' p a b c :=
 ⟨zQ4 h.lt k.size,(k.cell (p:=⟨p,0,none⟩) h.lt hX).trans h.c0,(k.cell (p:=⟨p,1,none⟩) h.lt hX).trans h.c1,(k.cell (p:=⟨p,2,none⟩) h.lt hX).trans h.c2,
  (k.frozen (p:=⟨p,0,none⟩) h.lt hX).trans h.z0,(k.frozen (p:=⟨p,1,none⟩) h.lt hX).trans h.z1,(k.frozen (p:=⟨p,2,none⟩) h.lt hX).trans h.z2⟩
theorem Bx3.fresh (w:World) (T:TypeId):Bx3 (w.alloc (.cells #[.slice none 0 0,.slice none 0 0,.slice none 0 0] T)) w.heap.size (.slice none 0 0) (.slice none 0 0) (.slice none 0 0):=by
 constructor <;> simp [go_sem]
theorem Bx3.s0 {w:World} {p:Nat} {a b c:Value} (h:Bx3 w p a b c) (x:Value):Bx3 (w.setCell ⟨p,0,none⟩ x) p x b c :=
 ⟨dA h.lt,dP _ _ _ _ h.c0,(aJ _ _ _ (by decide)).trans h.c1,(aJ _ _ _ (by decide)).trans h.c2,by rw [World.frozen?_setCell];exact h.z0,by rw [World.frozen?_setCell];exact h.z1,by rw [World.frozen?_setCell];exact h.z2⟩
theorem Bx3.s1 {w:World} {p:Nat} {a b c:Value} (h:Bx3 w p a b c) (x:Value):Bx3 (w.setCell ⟨p,1,none⟩ x) p a x c :=
 ⟨dA h.lt,(aJ _ _ _ (by decide)).trans h.c0,dP _ _ _ _ h.c1,(aJ _ _ _ (by decide)).trans h.c2,by rw [World.frozen?_setCell];exact h.z0,by rw [World.frozen?_setCell];exact h.z1,by rw [World.frozen?_setCell];exact h.z2⟩
theorem Bx3.s2 {w:World} {p:Nat} {a b c:Value} (h:Bx3 w p a b c) (x:Value):Bx3 (w.setCell ⟨p,2,none⟩ x) p a b x :=
 ⟨dA h.lt,(aJ _ _ _ (by decide)).trans h.c0,(aJ _ _ _ (by decide)).trans h.c1,dP _ _ _ _ h.c2,by rw [World.frozen?_setCell];exact h.z0,by rw [World.frozen?_setCell];exact h.z1,by rw [World.frozen?_setCell];exact h.z2⟩
theorem Bx3.all {w:World} {p:Nat} {a b c:Value} (h:Bx3 w p a b c) (x y z:Value):Bx3 (((w.setCell ⟨p,0,none⟩ x).setCell ⟨p,1,none⟩ y).setCell ⟨p,2,none⟩ z) p x y z:=((h.s0 x).s1 y).s2 z
theorem RdB.set1 {w:World} {B:Nat} {s:List UInt8} {g n:Int} (h:RdB w B s g n) (g':Int):RdB (w.setCell ⟨B,1,none⟩ (.int .i64 g')) B s g' n :=
 ⟨dA h.lt,(aJ _ _ _ (by decide)).trans h.c0,dP _ _ _ _ h.c1,(aJ _ _ _ (by decide)).trans h.c2,by rw [World.frozen?_setCell];exact h.z0,by rw [World.frozen?_setCell];exact h.z1,by rw [World.frozen?_setCell];exact h.z2⟩
theorem RdB.set2 {w:World} {B:Nat} {s:List UInt8} {g n:Int} (h:RdB w B s g n) (g':Int):RdB (w.setCell ⟨B,2,none⟩ (.int .i64 g')) B s g g' :=
 ⟨dA h.lt,(aJ _ _ _ (by decide)).trans h.c0,(aJ _ _ _ (by decide)).trans h.c1,dP _ _ _ _ h.c2,by rw [World.frozen?_setCell];exact h.z0,by rw [World.frozen?_setCell];exact h.z1,by rw [World.frozen?_setCell];exact h.z2⟩
theorem FB.self {B o:Nat} {w w':World} (h:FB B w w') (v:Value):FB B w (w'.setCell ⟨B,o,none⟩ v):=Fr.setCell h ⟨B,o,none⟩ v (fun _=>rfl)
theorem Fp {W:World} {d:Wd} {ga na wa:Option Addr} {gc nc wc:Nat} (k1:iq W (.slice ga d.groups.length gc) d.groups) (k2:yQ W (.slice na d.nodes.length nc) d.nodes) (k3:bW (bW dI) W (.slice wa d.wires.length wc) d.wires):WAt W ⟨ga,d.groups.length,gc,na,d.nodes.length,nc,wa,d.wires.length,wc⟩ d:=by
 obtain ⟨a,c,e,h1,h2⟩:=k1
 cases e
 obtain ⟨a,c,e,h3,h4⟩:=k2
 cases e
 obtain ⟨a,c,e,h5,h6⟩:=k3
 cases e
 exact ⟨h2,h1,h4,h3,h6,h5⟩
set_option maxRecDepth 8000 in
theorem xH (B:Nat) (s:List UInt8) (w:World) (h:RdB w B s 0 0) :
  Calls prog 102 #[.pointer (some ⟨B,0,none⟩)] w fun e w'=>FB B w w'/\((fT s=none/\e=.panicked (pan 1))\/∃ d r ga gc na nc wa wc g n,fT s=some (d,r)/\e=.returned (.agg #[.slice ga d.groups.length gc,.slice na d.nodes.length nc,.slice wa d.wires.length wc])/\Sg w.heap.size w'.heap.size (fun W=>WAt W ⟨ga,d.groups.length,gc,na,d.nodes.length,nc,wa,d.wires.length,wc⟩ d) w'/\RdB w' B r g n):=by
 obtain ⟨w1,hw1⟩:∃ y,w.alloc (.cells #[.slice none 0 0,.slice none 0 0,.slice none 0 0] 26)=y:=⟨_,rfl⟩
 obtain ⟨w2,hw2⟩:∃ y,w1.alloc (.cells #[.slice none 0 0,.slice none 0 0,.slice none 0 0] 26)=y:=⟨_,rfl⟩
 have hS1:=au hw1
 have hS2:=au hw2
 have hl1:w.heap.size < w1.heap.size:=by rw [<-hw1];simp
 have hl2:w1.heap.size < w2.heap.size:=by rw [<-hw2];simp
 have hA1:Bx3 w1 w.heap.size (.slice none 0 0) (.slice none 0 0) (.slice none 0 0):=by rw [<-hw1];exact Bx3.fresh w _
 have hA0:=hA1.fr (hS2.fr fun _=>False) (fun x=>x)
 have hP0:Bx3 w2 w1.heap.size (.slice none 0 0) (.slice none 0 0) (.slice none 0 0):=by rw [<-hw2];exact Bx3.fresh w1 _
 have hQ0:=h.since (hS1.trans hS2)
 have hF0:FB B w w2:=(hS1.trans hS2).fb
 have hB:=h.lt
 have hBp:B≠w1.heap.size:=by omega
 have hBa:B≠w.heap.size:=by omega
 obtain ⟨pl,hpl⟩:∃ y,fT s=y:=⟨_,rfl⟩
 have HPL:Hid (fT s=pl):=hpl
 rw [hpl]
 clear hA1 hpl
 go_enter func102,ntmps102
 go_wp2_with (first
  | (go_at_call 128;refine (gW B s 0 0 w2 hQ0).mono ?_;rintro e W1 ⟨hG1,(⟨hn,rfl⟩ | ⟨x1,r1,hs1,rfl,hx1,hR1⟩)⟩;have HNO:Hid (pl=none):=(by unfold Hid;rw [<-HPL.out];unfold fT;rw [hn];rfl);have HFX:FB B w W1:=FB.trans' hF0 hG1;rotate_left;obtain ⟨k1,rfl⟩:∃ n:Nat,x1=(n:Int):=⟨x1.toNat,by omega⟩;have wZ:FB B w W1:=FB.trans' hF0 hG1;have pI:=hP0.fr hG1 (Ne.symm hBp);have xg:=hA0.fr hG1 (Ne.symm hBa);have hz1:=hG1.size;obtain ⟨U1,hU1⟩:∃ y,W1.setCell ⟨B,1,none⟩ (.int .i64 k1)=y:=⟨_,rfl⟩;have hl3:w1.heap.size < (W1.setCell ⟨B,1,none⟩ (.int .i64 k1)).heap.size:=dA (by omega);have hA1:=xg.fr (eD W1 B 1 (.int .i64 k1)) (by omega);have hP1:=pI.fr (eD W1 B 1 (.int .i64 k1)) (by omega);have hQ1:=hR1.set1 k1;have hF1:=FB.self (o:=1) wZ (.int .i64 k1);have q1:=hR1.c1;have z1:=hR1.z1;rw [hU1] at hP1 hA1 hQ1 hF1 hl3;have Js:=hQ1.c1;have JR:=hQ1.c2;clear pI xg wZ)
  | (go_at_call 129;refine (rT B k1 (by omega) r1 k1 0 U1 hQ1).mono ?_;rintro e W2 ⟨hG2,(⟨hn,rfl⟩ | ⟨x2,r2,ga,gc,hs2,rfl,hL2,hg2,hR2⟩)⟩;have HNO:Hid (pl=none):=(by unfold Hid;rw [<-HPL.out];unfold fT;rw [hs1,ak,Int.toNat_natCast,hn];rfl);have HFX:FB B w W2:=FB.trans' hF1 hG2;rotate_left;have xk:FB B w W2:=FB.trans' hF1 hG2;have nW:=hP1.fr hG2 (Ne.symm hBp);have xq:=hA1.fr hG2 (Ne.symm hBa);have hz2:=hG2.size;obtain ⟨U2,hU2⟩:∃ y,W2.setCell ⟨w1.heap.size,0,none⟩ (.slice ga x2.length gc)=y:=⟨_,rfl⟩;have hl4:w1.heap.size < (W2.setCell ⟨w1.heap.size,0,none⟩ (.slice ga x2.length gc)).heap.size:=dA (by omega);have hA2:=xq.fr (eD W2 w1.heap.size 0 (.slice ga x2.length gc)) (by omega);have hP2:=nW.s0 (.slice ga x2.length gc);have hQ2:=RdB.off (p:=w1.heap.size) (o:=0) hR2 hBp (.slice ga x2.length gc);have hF2:=FB.put (p:=w1.heap.size) (o:=0) xk (by omega) (.slice ga x2.length gc);have q2:=nW.c0;have z2:=nW.z0;have gA:=hg2.put w1.heap.size 0 (.slice ga x2.length gc) (by omega);rw [hU2] at hP2 hA2 hQ2 hF2 hl4 gA;have Jt:=hQ2.c1;have JU:=hQ2.c2;clear nW xq xk;have HL2:Hid (x2.length=k1):=hL2;clear hL2)
  | (go_at_call 128;refine (gW B r2 k1 0 U2 hQ2).mono ?_;rintro e W3 ⟨hG3,(⟨hn,rfl⟩ | ⟨x3,r3,hs3,rfl,hx3,hR3⟩)⟩;have HNO:Hid (pl=none):=(by unfold Hid;rw [<-HPL.out];unfold fT;rw [hs1,ak,Int.toNat_natCast,hs2,ak,hn];rfl);have HFX:FB B w W3:=FB.trans' hF2 hG3;rotate_left;obtain ⟨k3,rfl⟩:∃ n:Nat,x3=(n:Int):=⟨x3.toNat,by omega⟩;have xu:FB B w W3:=FB.trans' hF2 hG3;have pJ:=hP2.fr hG3 (Ne.symm hBp);have xw:=hA2.fr hG3 (Ne.symm hBa);have hz3:=hG3.size;obtain ⟨U3,hU3⟩:∃ y,W3.setCell ⟨B,2,none⟩ (.int .i64 k3)=y:=⟨_,rfl⟩;have hl5:w1.heap.size < (W3.setCell ⟨B,2,none⟩ (.int .i64 k3)).heap.size:=dA (by omega);have hA3:=xw.fr (eD W3 B 2 (.int .i64 k3)) (by omega);have hP3:=pJ.fr (eD W3 B 2 (.int .i64 k3)) (by omega);have hQ3:=hR3.set2 k3;have hF3:=FB.self (o:=2) xu (.int .i64 k3);have q3:=hR3.c2;have z3:=hR3.z2;have gA':=(Sg.fb gA hG3 (by omega)).put B 2 (.int .i64 k3) (by omega);clear gA;have gA:=gA';clear gA';rw [hU3] at hP3 hA3 hQ3 hF3 hl5 gA;have Ju:=hQ3.c1;have JV:=hQ3.c2;clear pJ xw xu)
  | (go_at_call 130;refine (uW B k1 k3 (by omega) (by omega) k3 (by omega) r3 U3 hQ3).mono ?_;rintro e W4 ⟨hG4,(⟨hn,rfl⟩ | ⟨x4,r4,na,nc,hs4,rfl,hL4,hg4,hR4⟩)⟩;have HNO:Hid (pl=none):=(by unfold Hid;rw [<-HPL.out];unfold fT;rw [hs1,ak,Int.toNat_natCast,hs2,ak,hs3,ak,Int.toNat_natCast,hn];rfl);have HFX:FB B w W4:=FB.trans' hF3 hG4;rotate_left;have xA:FB B w W4:=FB.trans' hF3 hG4;have pK:=hP3.fr hG4 (Ne.symm hBp);have xB:=hA3.fr hG4 (Ne.symm hBa);have hz4:=hG4.size;obtain ⟨U4,hU4⟩:∃ y,W4.setCell ⟨w1.heap.size,1,none⟩ (.slice na x4.length nc)=y:=⟨_,rfl⟩;have hl6:w1.heap.size < (W4.setCell ⟨w1.heap.size,1,none⟩ (.slice na x4.length nc)).heap.size:=dA (by omega);have hA4:=xB.fr (eD W4 w1.heap.size 1 (.slice na x4.length nc)) (by omega);have hP4:=pK.s1 (.slice na x4.length nc);have hQ4:=RdB.off (p:=w1.heap.size) (o:=1) hR4 hBp (.slice na x4.length nc);have hF4:=FB.put (p:=w1.heap.size) (o:=1) xA (by omega) (.slice na x4.length nc);have q4:=pK.c1;have z4:=pK.z1;have gA':=(Sg.fb gA hG4 (by omega)).put w1.heap.size 1 (.slice na x4.length nc) (by omega);clear gA;have gA:=gA';clear gA';have gB:=hg4.put w1.heap.size 1 (.slice na x4.length nc) (by omega);rw [hU4] at hP4 hA4 hQ4 hF4 hl6 gA gB;have Jv:=hQ4.c1;have JW:=hQ4.c2;clear pK xB xA;have HL4:Hid (x4.length=k3):=hL4;clear hL4)
  | (go_at_call 132;refine (wY B k3 (by omega) k3 (by omega) r4 k1 U4 hQ4).mono ?_;rintro e W5 ⟨hG5,(⟨hn,rfl⟩ | ⟨x5,r5,wa,wc,hs5,rfl,hL5,hg5,hR5⟩)⟩;have HNO:Hid (pl=none):=(by unfold Hid;rw [<-HPL.out];unfold fT;rw [hs1,ak,Int.toNat_natCast,hs2,ak,hs3,ak,Int.toNat_natCast,hs4,ak,hn];rfl);have HFX:FB B w W5:=FB.trans' hF4 hG5;rotate_left;have Cz:FB B w W5:=FB.trans' hF4 hG5;have uV:=hP4.fr hG5 (Ne.symm hBp);have CB:=hA4.fr hG5 (Ne.symm hBa);have hz5:=hG5.size;obtain ⟨U5,hU5⟩:∃ y,W5.setCell ⟨w1.heap.size,2,none⟩ (.slice wa x5.length wc)=y:=⟨_,rfl⟩;have hl7:w1.heap.size < (W5.setCell ⟨w1.heap.size,2,none⟩ (.slice wa x5.length wc)).heap.size:=dA (by omega);have hA5:=CB.fr (eD W5 w1.heap.size 2 (.slice wa x5.length wc)) (by omega);have hP5:=uV.s2 (.slice wa x5.length wc);have hQ5:=RdB.off (p:=w1.heap.size) (o:=2) hR5 hBp (.slice wa x5.length wc);have hF5:=FB.put (p:=w1.heap.size) (o:=2) Cz (by omega) (.slice wa x5.length wc);have q5:=uV.c2;have z5:=uV.z2;have gA':=(Sg.fb gA hG5 (by omega)).put w1.heap.size 2 (.slice wa x5.length wc) (by omega);clear gA;have gA:=gA';clear gA';have gB':=(Sg.fb gB hG5 (by omega)).put w1.heap.size 2 (.slice wa x5.length wc) (by omega);clear gB;have gB:=gB';clear gB';have gC:=hg5.put w1.heap.size 2 (.slice wa x5.length wc) (by omega);rw [hU5] at hP5 hA5 hQ5 hF5 hl7 gA gB gC;have JX:=hQ5.c1;have JY:=hQ5.c2;clear uV CB Cz;have HL5:Hid (x5.length=k3):=hL5;clear hL5;obtain ⟨V,hV⟩:∃ y,(((U5.setCell ⟨w.heap.size,0,none⟩ (.slice ga x2.length gc)).setCell ⟨w.heap.size,1,none⟩ (.slice na x4.length nc)).setCell ⟨w.heap.size,2,none⟩ (.slice wa x5.length wc))=y:=⟨_,rfl⟩;have hAV:=hA5.all (.slice ga x2.length gc) (.slice na x4.length nc) (.slice wa x5.length wc);have hpf:=pU U5 w.heap.size (.slice ga x2.length gc) (.slice na x4.length nc) (.slice wa x5.length wc);have hFV:FB B w _:=Fr.trans hF5 hpf (fun _ _ e=>e) (fun i hi e=>absurd e (by omega));have hQV:=hQ5.fr hpf hBa;have gA':=gA.fr hpf (fun i a _ e=>by omega);have gB':=gB.fr hpf (fun i a _ e=>by omega);have gC':=gC.fr hpf (fun i a _ e=>by omega);unfold Ci at hFV hQV gA' gB' gC';rw [hV] at hAV hFV hQV gA' gB' gC';obtain ⟨_,e0,e1,e2,_,_,_⟩:=hP5;obtain ⟨_,a0,a1,a2,y0,y1,y2⟩:=hA5;obtain ⟨_,v0,v1,v2,_,_,_⟩:=hAV;clear gA gB gC))
 all_goals first | exact ⟨rfl,HFX,.inl ⟨HNO.out,rfl⟩⟩ | skip
 refine bodyPost_ret (v:=.agg #[.slice ga x2.length gc,.slice na x4.length nc,.slice wa x5.length wc]) ?_ rfl ?_
 ·simp [results,results102,go_sem,v0,v1,v2]
 refine ⟨hFV,.inr ⟨⟨x2,x4,x5⟩,r5,ga,gc,na,nc,wa,wc,_,_, ?_,rfl, ?_,hQV⟩⟩
 ·rw [<-HPL.out];unfold fT;rw [hs1,ak,Int.toNat_natCast,hs2,ak,hs3,ak,Int.toNat_natCast,hs4,ak,hs5,ak]
 ·have hle:=hFV.size
  exact Sg.G8 (gA'.mono (by omega) gA'.1 (Nat.le_refl _)) (gB'.mono (by omega) gB'.1 (Nat.le_refl _)) (gC'.mono (by omega) gC'.1 (Nat.le_refl _)) (fun W k1 k2 k3=>Fp (d:=⟨x2,x4,x5⟩) k1 k2 k3)
end Go.Proofs.Ytiiifecfdkjmbaa
