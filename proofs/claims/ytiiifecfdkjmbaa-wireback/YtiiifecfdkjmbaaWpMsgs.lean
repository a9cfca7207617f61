/- Lemmas. -/
import Derived.Test.YtiiifecfdkjmbaaWpPut
set_option maxHeartbeats 4000000
namespace Go.Proofs.Ytiiifecfdkjmbaa
open _root_.Go.Proofs.Try hiding checked
set_option maxRecDepth 8000
open Go.RowKit Go.Shelf
open Pu
set_option linter.unusedVariables false
set_option linter.unusedSimpArgs false
theorem Pen.apart {lo:Nat} {w:World} {P:Nat} {s:Sl} {l:List UInt8} (h:Pen lo w P s l) {b:Nat} (hb:w.heap.size<=b):¬ PX P s b:=by
 rintro (e | e)
 ·have:=h.lt;omega
 ·have:=(h.row.aR e).2.2.1;omega
theorem Pen.old {lo:Nat} {w:World} {P:Nat} {s:Sl} {l:List UInt8} (h:Pen lo w P s l) {b:Nat} (hb:b < lo):¬ PX P s b:=by
 rintro (e | e)
 ·have:=h.lop;omega
 ·have:=(h.row.aR e).2.1;omega
theorem mF {n b P:Nat} {s s':Sl} (h:¬ PX P s b) (k:gN n s s') (hb:b < n):¬ PX P s' b:=by
 rcases k with rfl | ⟨c,e,hc⟩
 ·exact h
 ·rintro (x | x)
  ·exact h (.inl x)
  ·rw [e] at x;cases x;omega
theorem PX.base {P:Nat} {s:Sl} {w0 w w':World} {lo:Nat} {l:List UInt8} (h:Pen lo w P s l) (hlo:w0.heap.size<=lo) (hS:Since w0 w) (k:Fr (PX P s) w w'):Since w0 w' :=
 k.aC hS (fun i hi e=>h.old (by omega) e)
theorem sQ (w:World) (a b c d:Int):Ints (w.alloc (.cells #[.int .i64 a,.int .i64 b,.int .i64 c,.int .i64 d] 3)) (some ⟨w.heap.size,0,none⟩) 4 [a,b,c,d]:=by
 refine ⟨rfl,by omega,fun _=>⟨_,_,rfl,by simp,fun i hi=>?_⟩⟩
 have:i=0\/i=1\/i=2\/i=3:=by omega
 rcases this with rfl | rfl | rfl | rfl <;> simp [go_sem]
theorem nV (s:ByteArray):byteCells s=s.data.toList.map u8V:=rfl
theorem iE {α:Type} (f:α->List UInt8) (xs:List α) (k:Nat):((xs.take k).flatMap f).length<=(xs.flatMap f).length:=by
 have h:xs.flatMap f=(xs.take k).flatMap f++(xs.drop k).flatMap f:=by rw [<-List.flatMap_append,List.take_append_drop]
 rw [h,List.length_append];omega
theorem sS (w:World) (T:TypeId) (m:Mg):dR (w.alloc (.cells #[.int .i64 m.fr,.int .i64 m.gr,.int .i64 m.st,.bool m.nul,.string m.body] T)) w.heap.size 0 m:=by
 constructor <;> simp [go_sem]
theorem dR.fr {X:Nat->Prop} {w w':World} {b o:Nat} {m:Mg} (h:dR w b o m) (hb:b < w.heap.size) (k:Fr X w w') (hX:¬ X b):dR w' b o m :=
 ⟨(k.cell (p:=⟨b,o,none⟩) hb hX).trans h.c0,(k.cell (p:=⟨b,o+1,none⟩) hb hX).trans h.c1,(k.cell (p:=⟨b,o+2,none⟩) hb hX).trans h.c2,(k.cell (p:=⟨b,o+3,none⟩) hb hX).trans h.c3,(k.cell (p:=⟨b,o+4,none⟩) hb hX).trans h.c4⟩
attribute [local go_sem] Oper.semAt_some
set_option maxRecDepth 8000 in
theorem lW (w0:World) (lo P:Nat) (a:Option Addr) (len cap:Nat) (ms:List Mg) (s:Sl) (l:List UInt8) (w:World) (h:Pen lo w P s l) (hlo:w0.heap.size<=lo) (hS0:Since w0 w) (hM:dn w0 a len ms) (hlen:l.length+(bE ms).length<=100000000) :
  Calls prog 100 #[.pointer (some ⟨P,0,none⟩),.slice a len cap] w fun e w'=>e=.returned (.tuple #[])/\∃ s',Pen lo w' P s' (l++bE ms)/\Fr (PX P s) w w'/\gN w.heap.size s s':=by
 obtain ⟨rfl,hmax,hc0⟩:=hM
 obtain ⟨w1,hw1⟩:∃ y,w.alloc (.cells #[.int .i64 ms.length] 3)=y:=⟨_,rfl⟩
 have hS1:=au hw1
 have hI1:Ints w1 (some ⟨w.heap.size,0,none⟩) 1 [(ms.length:Int)]:=by rw [<-hw1];exact j4
 have hP1:=h.since hS1
 have oI:Hid (l.length+(1+(ms.flatMap jm).length)<=100000000):=by
  unfold Hid;unfold bE at hlen;rw [List.length_append] at hlen;exact hlen
 have hap:∀ b off,(some ⟨w.heap.size,0,none⟩:Option Addr)=some ⟨b,off,none⟩->¬ PX P s b:=fun b off e=>by cases e;exact h.apart (Nat.le_refl _)
 clear hlen
 go_enter func100,ntmps100
 go_wp2_with (go_at_call 98;refine (dQ lo P 1 (by omega) _ 1 1 [(ms.length:Int)] s l w1 hP1 hI1 (fun _=>hap) (by have:=oI.out;omega)).mono ?_;rintro e w2 ⟨rfl,s2,hP2,hF2,hN2⟩)
 have Jf:Fr (PX P s) w w2:=(hS1.fr _).trans hF2 (fun _ _ x=>x) (fun _ _ x=>x)
 have Jg:gN w.heap.size s s2:=by
  rcases hN2 with e | ⟨b,e,hb⟩
  ·exact .inl e
  ·exact .inr ⟨b,e,zQ5 hS1.size hb⟩
 have hhd:[(ms.length:Int)].flatMap (je 1)=b1 ms.length:=by simp [qW]
 rw [hhd] at hP2
 have jf:Hid (l++bE ms=(l++b1 ms.length)++ms.flatMap jm):=by unfold Hid bE;rw [List.append_assoc]
 obtain ⟨l2,hl2⟩:∃ y,l++b1 ms.length=y:=⟨_,rfl⟩
 have HLN:Hid (l2.length+(ms.flatMap jm).length<=100000000):=by
  unfold Hid;rw [<-hl2,List.length_append];have:=oI.out;have e:(b1 ms.length).length=1:=rfl;omega
 rw [hl2] at hP2 jf
 clear hl2 hhd hF2 hN2 hw1 hI1 hP1 hap oI hS1
 go_loopw [14] (fun i wr=>∃ (k:Nat) (s':Sl),k<=ms.length/\i=.int .i64 k/\Pen lo wr P s' (l2++(ms.take k).flatMap jm)/\Fr (PX P s) w wr/\gN w.heap.size s s') (fun i _=>ms.length - (intOf i).toNat)
 case atStart=>exact ⟨0,s2,Nat.zero_le _,rfl,by simpa using hP2,Jf,Jg⟩
 case round =>
  obtain ⟨wo,rfl⟩:∃ wo,wo=wr:=⟨_,rfl⟩
  obtain ⟨k,s1,hk,rfl,hP,hF,hN⟩:=hrel
  by_cases hlt:k < ms.length
  ·obtain ⟨m,hm⟩:∃ m,ms[k]? = some m:=⟨_,zQ1 hlt⟩
   obtain ⟨b,off,rfl,hb,hc⟩:=hc0 (by omega)
   have hSo:Since w0 wo:=PX.base h hlo hS0 hF
   obtain ⟨d0,d1,d2,d3,d4⟩:=aX (w:=wo) (fun i u hi=>(hSo.cellAt hb _).trans (hc i u hi)) k m hm
   have k1:(k:Int) < (ms.length:Int):=by omega
   have HT:Hid ((ms.take (k+1)).flatMap jm=(ms.take k).flatMap jm++jm m):=by unfold Hid;rw [List.take_add_one,hm];simp
   have HLK:Hid (l2.length+((ms.take k).flatMap jm).length+(jm m).length<=100000000):=by
    have h1:=iE jm ms (k+1)
    rw [HT.out,List.length_append] at h1
    have:=HLN.out
    unfold Hid;omega
   obtain ⟨fr,gr,st,nul,body⟩:=m
   dsimp only at d0 d1 d2 d3 d4
   obtain ⟨l3,hl3⟩:∃ y,l2++(ms.take k).flatMap jm=y:=⟨_,rfl⟩
   have HL3:Hid (l2++(ms.take k).flatMap jm=l3):=hl3
   have HLM:Hid (l3.length+(4+body.size+3)<=100000000):=by
    have:=HLK.out
    have e:(jm ⟨fr,gr,st,nul,body⟩).length=4+body.size+3:=by
     unfold jm b3 b1;simp only [List.length_append,List.length_cons,List.length_nil]
     have:body.data.toList.length=body.size:=rfl
     omega
    rw [e] at this
    rw [<-hl3,List.length_append];exact this
   have HMB:Hid (∀ q:Int,q=qC nul->jm ⟨fr,gr,st,nul,body⟩=(([fr,gr,q,(body.size:Int)].flatMap (je 1))++body.data.toList)++[st].flatMap (je 3)):=by
    intro q hq
    subst hq
    unfold jm
    simp [qW,yH]
   rw [hl3] at hP
   clear hl3 hm hc hc0 HLK hS0 h
   cases nul
   ·have E5:=HMB.out 0 rfl
    obtain ⟨x1,hx1⟩:∃ y,wo.alloc (.cells #[.int .i64 fr,.int .i64 gr,.int .i64 st,.bool false,.string body] 48)=y:=⟨_,rfl⟩
    obtain ⟨x2,hx2⟩:∃ y,x1.alloc (.cells #[.int .i64 fr,.int .i64 gr,.int .i64 0,.int .i64 body.size] 3)=y:=⟨_,rfl⟩
    have hs1:=au hx1
    have hs2:=au hx2
    have hlb:wo.heap.size < x1.heap.size:=by rw [<-hx1];simp
    have hB1:dR x1 wo.heap.size 0 ⟨fr,gr,st,false,body⟩:=by rw [<-hx1];exact sS wo _ ⟨fr,gr,st,false,body⟩
    have hB2:=hB1.fr hlb (hs2.fr fun _=>False) (fun x=>x)
    obtain ⟨e0,e1,e2,e3,e4⟩:=hB1
    dsimp only at e0 e1 e2 e3 e4
    rw [Nat.zero_add] at e1 e2 e3 e4
    have hI2:Ints x2 (some ⟨x1.heap.size,0,none⟩) 4 [fr,gr,0,(body.size:Int)]:=by rw [<-hx2];exact sQ x1 fr gr 0 body.size
    have hQ1:=hP.since hs1
    have hQ2:=hQ1.since hs2
    have hap:∀ b off,(some ⟨x1.heap.size,0,none⟩:Option Addr)=some ⟨b,off,none⟩->¬ PX P s1 b:=fun b off e=>by cases e;exact hQ1.apart (Nat.le_refl _)
    have hBx:=hP.apart (Nat.le_refl wo.heap.size)
    go_wp2_with (go_at_call 98;refine (dQ lo P 1 (by omega) _ 4 4 [fr,gr,0,(body.size:Int)] s1 l3 x2 hQ2 hI2 (fun _=>hap) (by have:=HLM.out;omega)).mono ?_;rintro e x3 ⟨rfl,s3,hP3,hF3,hN3⟩)
    have yI:wo.heap.size < x2.heap.size:=zQ4 hlb hs2.size
    have hB3:=hB2.fr yI hF3 hBx
    have hBx3:=mF hBx hN3 yI
    have yJ:wo.heap.size < x3.heap.size:=zQ4 yI hF3.size
    have pG:Fr (PX P s1) wo x3:=((hs1.trans hs2).fr _).trans hF3 (fun _ _ x=>x) (fun _ _ x=>x)
    have qX:gN wo.heap.size s1 s3:=by
     rcases hN3 with e | ⟨b,e,hb⟩
     ·exact .inl e
     ·exact .inr ⟨b,e,by omega⟩
    obtain ⟨l4,hl4⟩:∃ y,l3++[fr,gr,0,(body.size:Int)].flatMap (je 1)=y:=⟨_,rfl⟩
    have HL4:Hid (l3++[fr,gr,0,(body.size:Int)].flatMap (je 1)=l4):=hl4
    have E8:l4.length=l3.length+4:=by rw [<-hl4,List.length_append,gV];rfl
    rw [hl4] at hP3
    have Cn:Hid (l4.length+body.size+3<=100000000):=by have:=HLM.out;unfold Hid;omega
    have Jh:l4.length<=100000000/\body.size<=100000000:=by have:=Cn.out;omega
    clear hx1 hx2 e0 e1 e2 e3 e4 hB2 hI2 hQ1 hQ2 hap hF3 hN3 hl4 E8 hs1 hs2 d0 d1 d2 d3 d4
    obtain ⟨W0,hW0⟩:∃ y,x3.drew=y:=⟨_,rfl⟩
    have hs0:=iW hW0
    obtain ⟨S0,hS0⟩:∃ S0:World->Prop,∀ w',S0 w'↔Since x3 w':=⟨_,fun _=>Iff.rfl⟩
    have c0:∀ y:aB S0,y.w.cell? ⟨P,0,none⟩=some (.slice s3.a l4.length s3.cap):=fun y=>(hP3.since ((hS0 _).1 y.h)).c
    have m4:∀ y:aB S0,y.w.cell? ⟨wo.heap.size,4,none⟩=some (.string body):=fun y=>(by have:=(hB3.fr yJ (((hS0 _).1 y.h).fr fun _=>False) (fun x=>x)).c4;rwa [Nat.zero_add] at this)
    have aN:=(hS0 W0).2 hs0
    have hne:Nonempty (aB S0):=⟨⟨_,aN⟩⟩
    have xP:=lu w
    have hQ0:=hP3.since hs0
    have hB0:=hB3.fr yJ (hs0.fr fun _=>False) (fun x=>x)
    have hsrc:=Src.ofString (P:=prog) (w:=W0) (tx:=9) (by kernel_rfl) body
    have hlo1:lo<=W0.heap.size:=zQ5 hQ0.lop (Nat.le_of_lt hQ0.lt)
    have hrow3:=hQ0.row
    have uO:wo.heap.size < W0.heap.size:=zQ4 yJ hs0.size
    refine p8 (fun w'=>∃ x:aB S0,w'=x.w) (by kernel_rfl) ?_
    rw [hW0]
    clear hW0
    refine tW 0 rfl ?_;go_big_quiet_op
    refine tW 1 rfl ?_;go_big_quiet_op
    refine tW 2 rfl ?_;go_big_quiet_op
    refine tW 3 rfl ?_;go_big_quiet_op
    refine tM 4 rfl (ah aN) ?_;go_big_quiet_op
    refine tW 5 rfl ?_;go_big_quiet_op
    refine tM 6 rfl (ah aN) ?_;go_big_quiet_op
    refine lC 7 rfl (by kernel_rfl) ?_
    intro K hK
    refine dw Dm (by rfl) _ _ 9 (by rfl) (by rfl) hrow3 (by rfl) hsrc (by omega) hlo1 ?_
    intro sa' sc' W6 lX hF6 hB6
    have hnB:=hQ0.off
    have y3:=(hF6.cell (p:=⟨P,0,none⟩) hQ0.lt hnB).trans hQ0.c
    have z3:=(hF6.frozen (p:=⟨P,0,none⟩) hQ0.lt hnB).trans hQ0.z
    obtain ⟨W7,hW7⟩:∃ y,W6.setCell ⟨P,0,none⟩ (.slice sa' (l4.length+body.size) sc')=y:=⟨_,rfl⟩
    rw [nV] at lX
    obtain ⟨hP7,hF7,hN7⟩:=hQ0.push (s':=⟨sa',sc'⟩) (m:=body.data.toList) lX hF6 hB6 hW7
    have hB7:=hB0.fr uO hF7 hBx3
    have hBx7:=mF hBx3 hN7 uO
    have Ji:wo.heap.size < W7.heap.size:=zQ4 uO hF7.size
    clear lX hF6 hB6 hnB
    refine hK _ _ (fun h=>absurd h (by decide +kernel)) ?_
    clear hK K
    simp only [Act.put,zQ7,zQ8,zQ9]
    refine tW 8 rfl ?_;go_big_quiet_op
    refine tW 9 rfl ?_;go_big_quiet_op
    refine lC 10 rfl (by kernel_rfl) ?_
    intro K hK
    go_simp
    refine hK _ _ (fun h=>absurd h (by decide +kernel)) ?_
    clear hK K
    refine su (by kernel_rfl) ?_
    clear c0 m4 hne aN hS0 y3 z3 hsrc hrow3
    have Co:Fr (PX P s1) wo W7:=PX.trans pG ((hs0.fr _).trans hF7 (fun _ _ x=>x) (fun _ _ x=>x)) qX
    have Cq:gN wo.heap.size s1 ⟨sa',sc'⟩:=qX.trans hN7 (Nat.le_of_lt uO)
    obtain ⟨x8,hx8⟩:∃ y,W7.alloc (.cells #[.int .i64 st] 3)=y:=⟨_,rfl⟩
    have hs8:=au hx8
    have hI8:Ints x8 (some ⟨W7.heap.size,0,none⟩) 1 [st]:=by rw [<-hx8];exact j4
    have hap:∀ b off,(some ⟨W7.heap.size,0,none⟩:Option Addr)=some ⟨b,off,none⟩->¬ PX P ⟨sa',sc'⟩ b:=fun b off e=>by cases e;exact hP7.apart (Nat.le_refl _)
    have hQ8:=hP7.since hs8
    obtain ⟨f0,f1,f2,f3,f4⟩:=hB7
    dsimp only at f0 f1 f2 f3 f4
    rw [Nat.zero_add] at f1 f2 f3 f4
    go_wp2_with (go_at_call 98;refine (dQ lo P 3 (by omega) _ 1 1 [st] ⟨sa',sc'⟩ (l4++body.data.toList) x8 hQ8 hI8 (fun _=>hap) (by rw [List.length_append];have:=Cn.out;have e:body.data.toList.length=body.size:=rfl;omega)).mono ?_;rintro e x9 ⟨rfl,s9,hP9,hF9,hN9⟩)
    have E9:Fr (PX P s) w x9:=PX.trans hF (PX.trans Co ((hs8.fr _).trans hF9 (fun _ _ x=>x) (fun _ _ x=>x)) Cq) hN
    have Fa:gN w.heap.size s s9:=(hN.trans Cq hF.size).trans hN9 (by have:=hF.size;have:=Co.size;have:=hs8.size;omega)
    refine ⟨⟨k+1,s9,by omega,by go_num, ?_,E9,Fa⟩,by simp [intOf];omega⟩
    rw [HT.out,E5,<-List.append_assoc,HL3.out,<-List.append_assoc,<-List.append_assoc,HL4.out]
    exact hP9
   ·have E5:=HMB.out 1 rfl
    obtain ⟨x1,hx1⟩:∃ y,wo.alloc (.cells #[.int .i64 fr,.int .i64 gr,.int .i64 st,.bool true,.string body] 48)=y:=⟨_,rfl⟩
    obtain ⟨x2,hx2⟩:∃ y,x1.alloc (.cells #[.int .i64 fr,.int .i64 gr,.int .i64 1,.int .i64 body.size] 3)=y:=⟨_,rfl⟩
    have hs1:=au hx1
    have hs2:=au hx2
    have hlb:wo.heap.size < x1.heap.size:=by rw [<-hx1];simp
    have hB1:dR x1 wo.heap.size 0 ⟨fr,gr,st,true,body⟩:=by rw [<-hx1];exact sS wo _ ⟨fr,gr,st,true,body⟩
    have hB2:=hB1.fr hlb (hs2.fr fun _=>False) (fun x=>x)
    obtain ⟨e0,e1,e2,e3,e4⟩:=hB1
    dsimp only at e0 e1 e2 e3 e4
    rw [Nat.zero_add] at e1 e2 e3 e4
    have hI2:Ints x2 (some ⟨x1.heap.size,0,none⟩) 4 [fr,gr,1,(body.size:Int)]:=by rw [<-hx2];exact sQ x1 fr gr 1 body.size
    have hQ1:=hP.since hs1
    have hQ2:=hQ1.since hs2
    have hap:∀ b off,(some ⟨x1.heap.size,0,none⟩:Option Addr)=some ⟨b,off,none⟩->¬ PX P s1 b:=fun b off e=>by cases e;exact hQ1.apart (Nat.le_refl _)
    have hBx:=hP.apart (Nat.le_refl wo.heap.size)
    go_wp2_with (go_at_call 98;refine (dQ lo P 1 (by omega) _ 4 4 [fr,gr,1,(body.size:Int)] s1 l3 x2 hQ2 hI2 (fun _=>hap) (by have:=HLM.out;omega)).mono ?_;rintro e x3 ⟨rfl,s3,hP3,hF3,hN3⟩)
    have yI:wo.heap.size < x2.heap.size:=zQ4 hlb hs2.size
    have hB3:=hB2.fr yI hF3 hBx
    have hBx3:=mF hBx hN3 yI
    have yJ:wo.heap.size < x3.heap.size:=zQ4 yI hF3.size
    have pG:Fr (PX P s1) wo x3:=((hs1.trans hs2).fr _).trans hF3 (fun _ _ x=>x) (fun _ _ x=>x)
    have qX:gN wo.heap.size s1 s3:=by
     rcases hN3 with e | ⟨b,e,hb⟩
     ·exact .inl e
     ·exact .inr ⟨b,e,by omega⟩
    obtain ⟨l4,hl4⟩:∃ y,l3++[fr,gr,1,(body.size:Int)].flatMap (je 1)=y:=⟨_,rfl⟩
    have HL4:Hid (l3++[fr,gr,1,(body.size:Int)].flatMap (je 1)=l4):=hl4
    have E8:l4.length=l3.length+4:=by rw [<-hl4,List.length_append,gV];rfl
    rw [hl4] at hP3
    have Cn:Hid (l4.length+body.size+3<=100000000):=by have:=HLM.out;unfold Hid;omega
    have Jh:l4.length<=100000000/\body.size<=100000000:=by have:=Cn.out;omega
    clear hx1 hx2 e0 e1 e2 e3 e4 hB2 hI2 hQ1 hQ2 hap hF3 hN3 hl4 E8 hs1 hs2 d0 d1 d2 d3 d4
    obtain ⟨W0,hW0⟩:∃ y,x3.drew=y:=⟨_,rfl⟩
    have hs0:=iW hW0
    obtain ⟨S0,hS0⟩:∃ S0:World->Prop,∀ w',S0 w'↔Since x3 w':=⟨_,fun _=>Iff.rfl⟩
    have c0:∀ y:aB S0,y.w.cell? ⟨P,0,none⟩=some (.slice s3.a l4.length s3.cap):=fun y=>(hP3.since ((hS0 _).1 y.h)).c
    have m4:∀ y:aB S0,y.w.cell? ⟨wo.heap.size,4,none⟩=some (.string body):=fun y=>(by have:=(hB3.fr yJ (((hS0 _).1 y.h).fr fun _=>False) (fun x=>x)).c4;rwa [Nat.zero_add] at this)
    have aN:=(hS0 W0).2 hs0
    have hne:Nonempty (aB S0):=⟨⟨_,aN⟩⟩
    have xP:=lu w
    have hQ0:=hP3.since hs0
    have hB0:=hB3.fr yJ (hs0.fr fun _=>False) (fun x=>x)
    have hsrc:=Src.ofString (P:=prog) (w:=W0) (tx:=9) (by kernel_rfl) body
    have hlo1:lo<=W0.heap.size:=zQ5 hQ0.lop (Nat.le_of_lt hQ0.lt)
    have hrow3:=hQ0.row
    have uO:wo.heap.size < W0.heap.size:=zQ4 yJ hs0.size
    refine p8 (fun w'=>∃ x:aB S0,w'=x.w) (by kernel_rfl) ?_
    rw [hW0]
    clear hW0
    refine tW 0 rfl ?_;go_big_quiet_op
    refine tW 1 rfl ?_;go_big_quiet_op
    refine tW 2 rfl ?_;go_big_quiet_op
    refine tW 3 rfl ?_;go_big_quiet_op
    refine tM 4 rfl (ah aN) ?_;go_big_quiet_op
    refine tW 5 rfl ?_;go_big_quiet_op
    refine tM 6 rfl (ah aN) ?_;go_big_quiet_op
    refine lC 7 rfl (by kernel_rfl) ?_
    intro K hK
    refine dw Dm (by rfl) _ _ 9 (by rfl) (by rfl) hrow3 (by rfl) hsrc (by omega) hlo1 ?_
    intro sa' sc' W6 lX hF6 hB6
    have hnB:=hQ0.off
    have y3:=(hF6.cell (p:=⟨P,0,none⟩) hQ0.lt hnB).trans hQ0.c
    have z3:=(hF6.frozen (p:=⟨P,0,none⟩) hQ0.lt hnB).trans hQ0.z
    obtain ⟨W7,hW7⟩:∃ y,W6.setCell ⟨P,0,none⟩ (.slice sa' (l4.length+body.size) sc')=y:=⟨_,rfl⟩
    rw [nV] at lX
    obtain ⟨hP7,hF7,hN7⟩:=hQ0.push (s':=⟨sa',sc'⟩) (m:=body.data.toList) lX hF6 hB6 hW7
    have hB7:=hB0.fr uO hF7 hBx3
    have hBx7:=mF hBx3 hN7 uO
    have Ji:wo.heap.size < W7.heap.size:=zQ4 uO hF7.size
    clear lX hF6 hB6 hnB
    refine hK _ _ (fun h=>absurd h (by decide +kernel)) ?_
    clear hK K
    simp only [Act.put,zQ7,zQ8,zQ9]
    refine tW 8 rfl ?_;go_big_quiet_op
    refine tW 9 rfl ?_;go_big_quiet_op
    refine lC 10 rfl (by kernel_rfl) ?_
    intro K hK
    go_simp
    refine hK _ _ (fun h=>absurd h (by decide +kernel)) ?_
    clear hK K
    refine su (by kernel_rfl) ?_
    clear c0 m4 hne aN hS0 y3 z3 hsrc hrow3
    have Co:Fr (PX P s1) wo W7:=PX.trans pG ((hs0.fr _).trans hF7 (fun _ _ x=>x) (fun _ _ x=>x)) qX
    have Cq:gN wo.heap.size s1 ⟨sa',sc'⟩:=qX.trans hN7 (Nat.le_of_lt uO)
    obtain ⟨x8,hx8⟩:∃ y,W7.alloc (.cells #[.int .i64 st] 3)=y:=⟨_,rfl⟩
    have hs8:=au hx8
    have hI8:Ints x8 (some ⟨W7.heap.size,0,none⟩) 1 [st]:=by rw [<-hx8];exact j4
    have hap:∀ b off,(some ⟨W7.heap.size,0,none⟩:Option Addr)=some ⟨b,off,none⟩->¬ PX P ⟨sa',sc'⟩ b:=fun b off e=>by cases e;exact hP7.apart (Nat.le_refl _)
    have hQ8:=hP7.since hs8
    obtain ⟨f0,f1,f2,f3,f4⟩:=hB7
    dsimp only at f0 f1 f2 f3 f4
    rw [Nat.zero_add] at f1 f2 f3 f4
    go_wp2_with (go_at_call 98;refine (dQ lo P 3 (by omega) _ 1 1 [st] ⟨sa',sc'⟩ (l4++body.data.toList) x8 hQ8 hI8 (fun _=>hap) (by rw [List.length_append];have:=Cn.out;have e:body.data.toList.length=body.size:=rfl;omega)).mono ?_;rintro e x9 ⟨rfl,s9,hP9,hF9,hN9⟩)
    have E9:Fr (PX P s) w x9:=PX.trans hF (PX.trans Co ((hs8.fr _).trans hF9 (fun _ _ x=>x) (fun _ _ x=>x)) Cq) hN
    have Fa:gN w.heap.size s s9:=(hN.trans Cq hF.size).trans hN9 (by have:=hF.size;have:=Co.size;have:=hs8.size;omega)
    refine ⟨⟨k+1,s9,by omega,by go_num, ?_,E9,Fa⟩,by simp [intOf];omega⟩
    rw [HT.out,E5,<-List.append_assoc,HL3.out,<-List.append_assoc,<-List.append_assoc,HL4.out]
    exact hP9
  ·obtain rfl:k=ms.length:=by omega
   rw [List.take_length] at hP
   go_wp2
   go_end0
   exact ⟨rfl,s1,by rw [jf.out];exact hP,hF,hN⟩
end Go.Proofs.Ytiiifecfdkjmbaa
