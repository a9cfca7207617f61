/- Lemmas. Lemmas. -/
import Derived.Lib.Join
import Derived.Test.YtediempflagfkaaGreatDoorDkC5
import Derived.Lib.AppendStr
import Derived.Lib.UnsafeStr
set_option linter.unusedVariables false
set_option linter.unusedSimpArgs false
set_option linter.unnecessarySimpa false
set_option maxHeartbeats 2000000
namespace Go.Proofs.YtediempflagfkaaGreatDoor
open _root_.Go.Proofs.Tryz hiding checked
set_option maxRecDepth 8000
open Go.RowKit Go.Shelf
open Pu
theorem Pn:Builder.Extra prog Tryz.Nq_ren where
 sizeBuilder:=by kernel_rfl
 liesBuilder:=by kernel_rfl
 t5:=underlying5
 a5:=Tryz.isAgg5
 z5:=Tryz.sizeOf5
 v5:=Tryz.zeroValue5
 infoByte:=by kernel_rfl
 cellsByte:=by kernel_rfl
 sizeByte:=by kernel_rfl
 neB5:=by decide
theorem Qk:ET 110 9 1 16:=Ai (z:=.string ⟨#[]⟩) (by kernel_rfl) (by kernel_rfl) rfl
theorem LH(x:Mg)(l:List Mg):Lib.join (((x::l).map fun m=>m.body).map (·.data.toList)) [32]=mK (x::l):=by
 rw[List.map_map,List.map_cons,Lib.join_cons];unfold mK Lib.joinTail;rw[List.map_cons];show _=_++List.flatMap _ _;rw[List.flatMap_def];rfl
set_option maxRecDepth 8000 in
theorem Jd(B:Nat)(x:WV)(d:Wd)(a b:Int)(t:List UInt8)(er:Int)(h0:er≠0)(w:World)(hB:Ck w B x)(hW:WAt w x d)(hr:aM d a=er):Calls prog 60 #[.pointer (some ⟨B,0,none⟩),.agg #[.int .i64 a,.int .i64 b,.string (bs t)]] w fun e w'=>e=.panicked (pan er)/\ak w w':=by
 have her:(er == 0)=false:=by simpa using h0
 have hof:=fun y (hy:ak w y)=>zn x d a y (hW.ay hy);rw[hr]at hof;obtain⟨z,hz⟩:∃y,nU d a=y:=⟨_,rfl⟩;rw[hz]at hof;obtain⟨ga,gl,gc,na,nl,nc,wa,wl,wc⟩:=x;dsimp only at hof;have hBl:=hB.lt;obtain⟨w1,hw1⟩:∃y,w.alloc (.cells #[.int .i64 a,.int .i64 b,.string (bs t)] 80)=y:=⟨_,rfl⟩;have hS1:=aF hw1;have hl1:w.heap.size < w1.heap.size:=by rw[<-hw1];simp
 have o0:w1.cell? ⟨w.heap.size,0,none⟩=some (.int .i64 a):=by rw[<-hw1];simp[go_sem]
 have hB1:=hB.fr (hS1.fr fun _=>False) (fun x=>x);obtain⟨q,hq⟩:∃y,w.heap.size=y:=⟨_,rfl⟩;clear hr hW hB hz h0
 go_enter func60,ntmps60
 go_wp2_with fail
 rw[hq]at o0 hl1 hBl;clear hw1 hq;obtain⟨S0,hS0⟩:∃S0:World->Prop,∀w',S0 w'↔ak w1 w':=⟨_,fun _=>Iff.rfl⟩;have c0:∀y:aA S0,y.w.cell? ⟨B,0,none⟩=some (.slice ga gl gc):=fun y=>(((hS0 _).1 y.h).av hB1.lt _).trans hB1.c0;have c1:∀y:aA S0,y.w.cell? ⟨B,1,none⟩=some (.slice na nl nc):=fun y=>(((hS0 _).1 y.h).av hB1.lt _).trans hB1.c1;have c2:∀y:aA S0,y.w.cell? ⟨B,2,none⟩=some (.slice wa wl wc):=fun y=>(((hS0 _).1 y.h).av hB1.lt _).trans hB1.c2;have c3:∀y:aA S0,y.w.cell? ⟨q,0,none⟩=some (.int .i64 a):=fun y=>(((hS0 _).1 y.h).av hl1 _).trans o0;obtain⟨W0,hW0⟩:∃y,w1.drew=y:=⟨_,rfl⟩;have rC:=aY hW0;have lF:=(hS0 W0).2 rC;have FW:Nonempty (aA S0):=⟨⟨_,lF⟩⟩;have Aj:=aO W0;refine aW (fun w'=>∃x:aA S0,w'=x.w) (by kernel_rfl) ?_;rw[hW0];clear hW0;refine tW 0 rfl ?_;go_big_quiet_op;refine tW 1 rfl ?_;go_big_quiet_op;refine tW 2 rfl ?_;go_big_quiet_op;refine tM 3 rfl (aj lF) ?_;go_big_quiet_op;refine tW 4 rfl ?_;go_big_quiet_op;refine tM 5 rfl (aj lF) ?_;go_big_quiet_op;refine aV 6 rfl (by kernel_rfl) ?_;intro K hK;go_simp;refine(hof W0 (hS1.trans rC)).mono ?_;rintro e W1 ⟨rfl,hSc⟩;dsimp only;refine hK _ _ (fun h=>absurd h (by decide +kernel)) ?_;clear hK K;refine tW 7 rfl ?_;go_big_quiet_op;refine tW 8 rfl ?_;go_big_quiet_op;refine tW 9 rfl ?_;go_big_quiet_op;refine tW 10 rfl ?_;go_big_quiet_op;refine tW 11 rfl ?_;go_big_quiet_op;refine bE (by kernel_rfl) ?_
 go_wp2_with (go_at_call 32;refine(iZ _ _).mono ?_;rintro e w' ⟨rfl,rfl⟩)
 exact⟨rfl,rfl,hS1.trans (rC.trans hSc)⟩
set_option maxRecDepth 8000 in
theorem LC(B:Nat)(x:WV)(d:Wd)(n:Nat)(a b:Int)(han:a=n)(t:List UInt8)(w:World)(hB:Ck w B x)(hW:WAt w x d)(hT:Tb w)(hr:aM d a=0)(x0:Nd)(hx0:d.ah[n]? = some x0)(fk:Nat)(hfk:nU d a=fk)(hf9:fk<=1000000000)(hh9:x0.held.length<=1000000000):Calls prog 60 #[.pointer (some ⟨B,0,none⟩),.agg #[.int .i64 a,.int .i64 b,.string (bs t)]] w fun e w'=>Hid (GvR B w d (.ok (d,dn x0.held.length++32::dn fk)) e w'):=by
 have HAN:Hid (a=n):=han;clear han;have hof:=fun y (hy:ak w y)=>zn x d a y (hW.ay hy);rw[hr,hfk]at hof;obtain⟨ga,gl,gc,na,nl,nc,wa,wl,wc⟩:=x;obtain⟨b0,o0',rfl,n8,hb0,-,⟨ha,hc,hk2⟩,-⟩:=yL hW hx0;have n9:(n:Int) < (nl:Int):=by omega
 dsimp only at hof;have hd1:=mQ 10 x0.held.length (by omega);have hd2:=mQ 10 fk (by omega);have hz1:¬ 9223372036854775807 < (bs (dn x0.held.length)).size+1:=by rw[bX];omega
 have hz2:¬ 9223372036854775807 < (bs (dn x0.held.length)++⟨#[32]⟩).size+(bs (dn fk)).size:=by rw[show(⟨#[32]⟩:ByteArray)=bs [32] from rfl,iP,bX,bX,List.length_append,List.length_singleton];omega
 have HTX:Hid (bs (dn x0.held.length)++⟨#[32]⟩++bs (dn fk)=bs (dn x0.held.length++32::dn fk)):=by unfold Hid;rw[show(⟨#[32]⟩:ByteArray)=bs [32] from rfl,iP,iP,List.append_assoc];rfl
 have hi1:=fun y (hy:Tb y)=>qK x0.held.length (by omega) y hy;have hi2:=fun y (hy:Tb y)=>qK fk (by omega) y hy;clear hd1 hd2;have hBl:=hB.lt;obtain⟨w1,hw1⟩:∃y,w.alloc (.cells #[.int .i64 a,.int .i64 b,.string (bs t)] 80)=y:=⟨_,rfl⟩;have hS1:=aF hw1;have hl1:w.heap.size < w1.heap.size:=by rw[<-hw1];simp
 have o0:w1.cell? ⟨w.heap.size,0,none⟩=some (.int .i64 a):=by rw[<-hw1];simp[go_sem]
 have hB1:=hB.fr (hS1.fr fun _=>False) (fun x=>x);obtain⟨q,hq⟩:∃y,w.heap.size=y:=⟨_,rfl⟩;clear hr hW hB hfk
 go_enter func60,ntmps60
 go_wp2_with fail
 rw[hq]at o0 hl1 hBl;clear hw1 hq;obtain⟨S0,hS0⟩:∃S0:World->Prop,∀w',S0 w'↔ak w1 w':=⟨_,fun _=>Iff.rfl⟩;have c0:∀y:aA S0,y.w.cell? ⟨B,0,none⟩=some (.slice ga gl gc):=fun y=>(((hS0 _).1 y.h).av hB1.lt _).trans hB1.c0;have c1:∀y:aA S0,y.w.cell? ⟨B,1,none⟩=some (.slice (some ⟨b0,o0',none⟩) nl nc):=fun y=>(((hS0 _).1 y.h).av hB1.lt _).trans hB1.c1;have c2:∀y:aA S0,y.w.cell? ⟨B,2,none⟩=some (.slice wa wl wc):=fun y=>(((hS0 _).1 y.h).av hB1.lt _).trans hB1.c2;have c3:∀y:aA S0,y.w.cell? ⟨q,0,none⟩=some (.int .i64 a):=fun y=>(((hS0 _).1 y.h).av hl1 _).trans o0;obtain⟨W0,hW0⟩:∃y,w1.drew=y:=⟨_,rfl⟩;have rC:=aY hW0;have lF:=(hS0 W0).2 rC;have FW:Nonempty (aA S0):=⟨⟨_,lF⟩⟩;have Aj:=aO W0;refine aW (fun w'=>∃x:aA S0,w'=x.w) (by kernel_rfl) ?_;rw[hW0];clear hW0;refine tW 0 rfl ?_;go_big_quiet_op;refine tW 1 rfl ?_;go_big_quiet_op;refine tW 2 rfl ?_;go_big_quiet_op;refine tM 3 rfl (aj lF) ?_;go_big_quiet_op;refine tW 4 rfl ?_;go_big_quiet_op;refine tM 5 rfl (aj lF) ?_;go_big_quiet_op;refine aV 6 rfl (by kernel_rfl) ?_;intro K hK;go_simp;refine(hof W0 (hS1.trans rC)).mono ?_;rintro e W1 ⟨rfl,hSc⟩;dsimp only;refine hK _ _ (fun h=>absurd h (by decide +kernel)) ?_;clear hK K;refine tW 7 rfl ?_;go_big_quiet_op;refine tW 8 rfl ?_;go_big_quiet_op;refine tW 9 rfl ?_;go_big_quiet_op;refine tW 10 rfl ?_;go_big_quiet_op;refine tW 11 rfl ?_;go_big_quiet_op;refine bE (by kernel_rfl) ?_;clear c0 c1 c2 c3 FW Aj lF
 go_wp2_with (go_at_call 32;refine(l9 _ _).mono ?_;rintro e w' ⟨rfl,hw⟩;obtain rfl:=hw.symm)
 have xH:=hS1.trans (rC.trans hSc);have hT1:Tb W1:=hT.ay xH;have g0:W1.cell? ⟨q,0,none⟩=some (.int .i64 n):=by rw[<-HAN.out];exact((rC.trans hSc).av hl1 _).trans o0
 have hB2:=hB1.fr ((rC.trans hSc).fr fun _=>False) (fun x=>x);have hqz:q < W1.heap.size:=zQ4 hl1 (rC.trans hSc).size;have hbz:b0 < W1.heap.size:=zQ4 hb0 xH.size;have g2:W1.cell? ⟨b0,o0'+n*4+2,none⟩=some (.slice ha x0.held.length hc):=(xH.av hb0 _).trans hk2;obtain⟨S1,Cw⟩:∃S0:World->Prop,∀w',S0 w'↔ak W1 w':=⟨_,fun _=>Iff.rfl⟩;have c1:∀y:aA S1,y.w.cell? ⟨B,1,none⟩=some (.slice (some ⟨b0,o0',none⟩) nl nc):=fun y=>(((Cw _).1 y.h).av hB2.lt _).trans hB2.c1;have c2:∀y:aA S1,y.w.cell? ⟨q,0,none⟩=some (.int .i64 n):=fun y=>(((Cw _).1 y.h).av hqz _).trans g0;have c3:∀y:aA S1,y.w.cell? ⟨b0,o0'+n*4+2,none⟩=some (.slice ha x0.held.length hc):=fun y=>(((Cw _).1 y.h).av hbz _).trans g2;obtain⟨W2,hW2⟩:∃y,W1.drew=y:=⟨_,rfl⟩;have Jg:=aY hW2;have sD:=(Cw W2).2 Jg;have Ql:Nonempty (aA S1):=⟨⟨_,sD⟩⟩;have NH:=aO W2;refine aW (fun w'=>∃x:aA S1,w'=x.w) (by kernel_rfl) ?_;rw[hW2];clear hW2;refine tW 0 rfl ?_;go_big_quiet_op;refine tW 1 rfl ?_;go_big_quiet_op;refine tW 2 rfl ?_;go_big_quiet_op;refine tW 3 rfl ?_;go_big_quiet_op;refine tM 4 rfl (aj sD) ?_;go_big_quiet_op;refine tW 5 rfl ?_;go_big_quiet_op;refine tM 6 rfl (aj sD) ?_;go_big_quiet_op;refine tW 7 rfl ?_;go_big_quiet_op;refine tW 8 rfl ?_;go_big_quiet_op;refine tM 9 rfl (aj sD) ?_;go_big_quiet_op;refine tM 10 rfl (aj sD) ?_;go_big_quiet_op;refine tW 13 rfl ?_;go_big_quiet_op;refine aV 11 rfl (by kernel_rfl) ?_;intro K hK;go_simp;refine(hi1 W2 (hT1.ay Jg)).mono ?_;rintro e W3 ⟨rfl,hS3⟩;dsimp only;refine hK _ _ (fun h=>absurd h (by decide +kernel)) ?_;clear hK K;refine tW 12 rfl ?_;go_big_quiet_op;refine aV 14 rfl (by kernel_rfl) ?_;intro K hK;go_simp;refine(hi2 W3 ((hT1.ay Jg).ay hS3)).mono ?_;rintro e W4 ⟨rfl,hS4⟩;dsimp only;refine hK _ _ (fun h=>absurd h (by decide +kernel)) ?_;clear hK K;refine tW 15 rfl ?_;go_big_quiet_op;refine tW 16 rfl ?_;go_big_quiet_op;refine bE (by kernel_rfl) ?_
 go_wp2_with fail
 go_ret
 exact(show Hid _ by rw[HTX.out];exact Ah (xH.trans (Jg.trans (hS3.trans hS4))))
set_option maxRecDepth 8000 in
theorem Jc(B:Nat)(x:WV)(d:Wd)(a b:Int)(t:List UInt8)(w:World)(hB:Ck w B x)(hW:WAt w x d)(hr:¬ a < d.ah.length):Calls prog 59 #[.pointer (some ⟨B,0,none⟩),.agg #[.int .i64 a,.int .i64 b,.string (bs t)]] w fun e w'=>e=.panicked (pan 4)/\ak w w':=by
 obtain⟨ga,gl,gc,na,nl,nc,wa,wl,wc⟩:=x;have hnl:=hW.n.bq;dsimp only at hnl;have d1:decide (a < (nl:Int))=false:=by simp;omega
 have hBl:=hB.lt;obtain⟨w1,hw1⟩:∃y,w.alloc (.cells #[.int .i64 a,.int .i64 b,.string (bs t)] 80)=y:=⟨_,rfl⟩;have hS1:=aF hw1;have hl1:w.heap.size < w1.heap.size:=by rw[<-hw1];simp
 have o0:w1.cell? ⟨w.heap.size,0,none⟩=some (.int .i64 a):=by rw[<-hw1];simp[go_sem]
 have hB1:=hB.fr (hS1.fr fun _=>False) (fun x=>x);obtain⟨q,hq⟩:∃y,w.heap.size=y:=⟨_,rfl⟩;clear hr hW hB hnl
 go_enter func59,ntmps59
 go_wp2_with fail
 rw[hq]at o0 hl1 hBl;clear hw1 hq;obtain⟨S0,hS0⟩:∃S0:World->Prop,∀w',S0 w'↔ak w1 w':=⟨_,fun _=>Iff.rfl⟩;have c1:∀y:aA S0,y.w.cell? ⟨B,1,none⟩=some (.slice na nl nc):=fun y=>(((hS0 _).1 y.h).av hB1.lt _).trans hB1.c1;have c3:∀y:aA S0,y.w.cell? ⟨q,0,none⟩=some (.int .i64 a):=fun y=>(((hS0 _).1 y.h).av hl1 _).trans o0;obtain⟨W0,hW0⟩:∃y,w1.drew=y:=⟨_,rfl⟩;have rC:=aY hW0;have lF:=(hS0 W0).2 rC;have FW:Nonempty (aA S0):=⟨⟨_,lF⟩⟩;have Aj:=aO W0;refine aW (fun w'=>∃x:aA S0,w'=x.w) (by kernel_rfl) ?_;rw[hW0];clear hW0;refine tW 0 rfl ?_;go_big_quiet_op;refine tM 1 rfl (aj lF) ?_;go_big_quiet_op;refine tW 2 rfl ?_;go_big_quiet_op;refine tW 3 rfl ?_;go_big_quiet_op;refine tW 4 rfl ?_;go_big_quiet_op;refine tW 5 rfl ?_;go_big_quiet_op;refine tM 6 rfl (aj lF) ?_;go_big_quiet_op;refine tM 7 rfl (aj lF) ?_;go_big_quiet_op;refine tW 8 rfl ?_;go_big_quiet_op;refine aV 9 rfl (by kernel_rfl) ?_;intro K hK;go_simp;refine(iZ _ _).mono ?_;rintro e w' ⟨rfl,hw⟩;obtain rfl:=hw.symm;dsimp only;exact⟨rfl,rfl,hS1.trans rC⟩
set_option maxRecDepth 8000 in
theorem LB(B:Nat)(x:WV)(d:Wd)(n:Nat)(a b:Int)(han:a=n)(t:List UInt8)(w:World)(hB:Ck w B x)(hW:WAt w x d)(x0:Nd)(hx0:d.ah[n]? = some x0)(h40:x0.aG.length<=40)(htl:(mK x0.aG).length<=1000000):Calls prog 59 #[.pointer (some ⟨B,0,none⟩),.agg #[.int .i64 a,.int .i64 b,.string (bs t)]] w fun e w'=>Hid (GvR B w d (.ok (d,mK x0.aG)) e w'):=by
 have HAN:Hid (a=n):=han;clear han;obtain⟨ga,gl,gc,na,nl,nc,wa,wl,wc⟩:=x;obtain⟨b0,o0',rfl,n8,hb0,-,-,⟨ta,tc,hk3,hMt⟩⟩:=yL hW hx0;have n9:(n:Int) < (nl:Int):=by omega
 have d1:decide (a < (nl:Int))=true:=by have:=HAN.out;simp;omega
 have hBl:=hB.lt;obtain⟨w1,hw1⟩:∃y,w.alloc (.cells #[.int .i64 a,.int .i64 b,.string (bs t)] 80)=y:=⟨_,rfl⟩;have hS1:=aF hw1;have hl1:w.heap.size < w1.heap.size:=by rw[<-hw1];simp
 have o0:w1.cell? ⟨w.heap.size,0,none⟩=some (.int .i64 a):=by rw[<-hw1];simp[go_sem]
 have hB1:=hB.fr (hS1.fr fun _=>False) (fun x=>x);obtain⟨q,hq⟩:∃y,w.heap.size=y:=⟨_,rfl⟩;clear hW hB hx0
 go_enter func59,ntmps59
 go_wp2_with fail
 rw[hq]at o0 hl1 hBl;clear hw1 hq;obtain⟨S0,hS0⟩:∃S0:World->Prop,∀w',S0 w'↔ak w1 w':=⟨_,fun _=>Iff.rfl⟩;have c1:∀y:aA S0,y.w.cell? ⟨B,1,none⟩=some (.slice (some ⟨b0,o0',none⟩) nl nc):=fun y=>(((hS0 _).1 y.h).av hB1.lt _).trans hB1.c1;have c3:∀y:aA S0,y.w.cell? ⟨q,0,none⟩=some (.int .i64 a):=fun y=>(((hS0 _).1 y.h).av hl1 _).trans o0;obtain⟨W0,hW0⟩:∃y,w1.drew=y:=⟨_,rfl⟩;have rC:=aY hW0;have lF:=(hS0 W0).2 rC;have FW:Nonempty (aA S0):=⟨⟨_,lF⟩⟩;have Aj:=aO W0;refine aW (fun w'=>∃x:aA S0,w'=x.w) (by kernel_rfl) ?_;rw[hW0];clear hW0;refine tW 0 rfl ?_;go_big_quiet_op;refine tM 1 rfl (aj lF) ?_;go_big_quiet_op;refine tW 2 rfl ?_;go_big_quiet_op;refine tW 3 rfl ?_;go_big_quiet_op;refine tW 4 rfl ?_;go_big_quiet_op;refine tW 5 rfl ?_;go_big_quiet_op;refine tM 6 rfl (aj lF) ?_;go_big_quiet_op;refine tM 7 rfl (aj lF) ?_;go_big_quiet_op;refine tW 8 rfl ?_;go_big_quiet_op;refine aV 9 rfl (by kernel_rfl) ?_;intro K hK;go_simp;refine(l9 _ _).mono ?_;rintro e w' ⟨rfl,hw⟩;obtain rfl:=hw.symm;dsimp only;refine hK _ _ (fun h=>absurd h (by decide +kernel)) ?_;clear hK K;refine bE (by kernel_rfl) ?_;clear c1 c3 FW Aj lF d1
 go_wp2_with fail
 have xH:=hS1.trans rC;have g0:W0.cell? ⟨q,0,none⟩=some (.int .i64 n):=by rw[<-HAN.out];exact(rC.av hl1 _).trans o0
 have hB2:=hB1.fr (rC.fr fun _=>False) (fun x=>x);have hqz:q < W0.heap.size:=zQ4 hl1 rC.size;have hbz:b0 < W0.heap.size:=zQ4 hb0 xH.size;have g2:W0.cell? ⟨b0,o0'+n*4+3,none⟩=some (.slice ta x0.aG.length tc):=(xH.av hb0 _).trans hk3;obtain⟨S1,Cw⟩:∃S0:World->Prop,∀w',S0 w'↔ak W0 w':=⟨_,fun _=>Iff.rfl⟩;have c1:∀y:aA S1,y.w.cell? ⟨B,1,none⟩=some (.slice (some ⟨b0,o0',none⟩) nl nc):=fun y=>(((Cw _).1 y.h).av hB2.lt _).trans hB2.c1;have c2:∀y:aA S1,y.w.cell? ⟨q,0,none⟩=some (.int .i64 n):=fun y=>(((Cw _).1 y.h).av hqz _).trans g0;have c3:∀y:aA S1,y.w.cell? ⟨b0,o0'+n*4+3,none⟩=some (.slice ta x0.aG.length tc):=fun y=>(((Cw _).1 y.h).av hbz _).trans g2;obtain⟨W2,hW2⟩:∃y,W0.drew=y:=⟨_,rfl⟩;have Jg:=aY hW2;have sD:=(Cw W2).2 Jg;have Ql:Nonempty (aA S1):=⟨⟨_,sD⟩⟩;have NH:=aO W2;refine aW (fun w'=>∃x:aA S1,w'=x.w) (by kernel_rfl) ?_;rw[hW2];clear hW2;refine tW 0 rfl ?_;go_big_quiet_op;refine tW 1 rfl ?_;go_big_quiet_op;refine tW 2 rfl ?_;go_big_quiet_op;refine tW 3 rfl ?_;go_big_quiet_op;refine tM 4 rfl (aj sD) ?_;go_big_quiet_op;refine tW 5 rfl ?_;go_big_quiet_op;refine tM 6 rfl (aj sD) ?_;go_big_quiet_op;refine tW 7 rfl ?_;go_big_quiet_op;refine tW 8 rfl ?_;go_big_quiet_op;refine tM 9 rfl (aj sD) ?_;go_big_quiet_op;refine tM 10 rfl (aj sD) ?_;go_big_quiet_op;refine tW 11 rfl ?_;go_big_quiet_op;refine bE (by kernel_rfl) ?_;clear c1 c2 c3 Ql NH sD Cw hS0;have Sd:=xH.trans Jg;have HMT:Hid (gD W2 ta x0.aG.length x0.aG):=hMt.ay Sd;clear hMt g0 g2 hk3 o0
 go_wp2_with fail
 go_loopw [5,7,29] (fun bv _ i wr=>∃(k:Nat) (sa:Option Addr) (sc:Nat),k<=x0.aG.length/\i=.int .i64 k/\bv=.slice sa k sc/\Row wr W2.heap.size 1 ⟨sa,sc⟩ k ((x0.aG.take k).map fun m=>Value.string m.body)/\ak W2 wr) (fun _ _ i _=>x0.aG.length - (intOf i).toNat)
 case atStart=>exact⟨0,none,0,Nat.zero_le _,rfl,rfl,Row.nil _ _ _,ak.refl _⟩
 case round =>
  obtain⟨wo,rfl⟩:∃wo,wo=wr:=⟨_,rfl⟩;obtain⟨k,sa,sc,hk,rfl,rfl,hR,hS⟩:=hrel;by_cases hlt:k < x0.aG.length
  ·obtain⟨m,hm⟩:∃m,x0.aG[k]? = some m:=⟨_,zQ1 hlt⟩;obtain⟨bt,ot,eta,hbt,hcl⟩:=HMT.out.cells (by omega);have hma:=dM hcl k m hm;have r0:=(hS.av hbt _).trans hma.c0;have r1:=(hS.av hbt _).trans hma.c1;have r2:=(hS.av hbt _).trans hma.c2;have r3:=(hS.av hbt _).trans hma.c3;have r4:=(hS.av hbt _).trans hma.c4;have HTK:Hid ((x0.aG.take (k+1)).map (fun m=>Value.string m.body)=(x0.aG.take k).map (fun m=>Value.string m.body)++[.string m.body]):=by unfold Hid;rw[List.take_add_one,hm,List.map_append];rfl
   have d1:decide ((k:Int) < (x0.aG.length:Int))=true:=by simp;omega
   obtain⟨w4,hw4⟩:∃y,wo.alloc (.cells #[.int .i64 0,.int .i64 0,.int .i64 0,.bool false,.string ⟨#[]⟩] 95)=y:=⟨_,rfl⟩;have hS4:=aF hw4;obtain⟨p,hp⟩:∃y,wo.heap.size=y:=⟨_,rfl⟩;have hp4:p < w4.heap.size:=by rw[<-hp,<-hw4];simp
   have e0:w4.cell? ⟨p,0,none⟩=some (.int .i64 0):=by rw[<-hp,<-hw4];simp[go_sem]
   have e1:w4.cell? ⟨p,1,none⟩=some (.int .i64 0):=by rw[<-hp,<-hw4];simp[go_sem]
   have e2:w4.cell? ⟨p,2,none⟩=some (.int .i64 0):=by rw[<-hp,<-hw4];simp[go_sem]
   have e3:w4.cell? ⟨p,3,none⟩=some (.bool false):=by rw[<-hp,<-hw4];simp[go_sem]
   have e4:w4.cell? ⟨p,4,none⟩=some (.string ⟨#[]⟩):=by rw[<-hp,<-hw4];simp[go_sem]
   have y0:w4.frozen? ⟨p,0,none⟩=false:=by rw[<-hp,<-hw4];simp[go_sem]
   have y1:w4.frozen? ⟨p,1,none⟩=false:=by rw[<-hp,<-hw4];simp[go_sem]
   have y2:w4.frozen? ⟨p,2,none⟩=false:=by rw[<-hp,<-hw4];simp[go_sem]
   have y3:w4.frozen? ⟨p,3,none⟩=false:=by rw[<-hp,<-hw4];simp[go_sem]
   have y4:w4.frozen? ⟨p,4,none⟩=false:=by rw[<-hp,<-hw4];simp[go_sem]
   obtain⟨V,hV⟩:∃y,(((((w4.setCell ⟨p,0,none⟩ (.int .i64 m.fr)).setCell ⟨p,1,none⟩ (.int .i64 m.gr)).setCell ⟨p,2,none⟩ (.int .i64 m.st)).setCell ⟨p,3,none⟩ (.bool m.nul)).setCell ⟨p,4,none⟩ (.string m.body))=y:=⟨_,rfl⟩;have hFV:Fr (fun i=>i=p) w4 V:=by rw[<-hV];exact(((((Fr.refl (fun i=>i=p) w4).setCell ⟨p,0,none⟩ _ (fun _=>rfl)).setCell ⟨p,1,none⟩ _ (fun _=>rfl)).setCell ⟨p,2,none⟩ _ (fun _=>rfl)).setCell ⟨p,3,none⟩ _ (fun _=>rfl)).setCell ⟨p,4,none⟩ _ (fun _=>rfl)
   have hSV:ak wo V:=hFV.aI hS4 (fun i hi e=>by omega)
   have v4:V.cell? ⟨p,4,none⟩=some (.string m.body):=by
    rw[<-hV];exact gN _ _ _ _ (((bH _ _ _ (by decide)).trans ((bH _ _ _ (by decide)).trans ((bH _ _ _ (by decide)).trans (bH _ _ _ (by decide))))).trans e4)
   obtain⟨w6,hw6⟩:∃y,V.alloc (.cells #[.string m.body] 9)=y:=⟨_,rfl⟩;have hS6:=aF hw6;have hsrc:=iy (size:=1) (T:=9) (w:=V) Qk.und [.string m.body] rfl (fun u hu=>by simp at hu;subst hu;rfl) 1;rw[show(V.alloc (.cells [Value.string m.body].toArray 9))=w6 from hw6]at hsrc;have hRa:=(hR.ay hSV).ay hS6;have hSa:ak W2 w6:=hS.trans (hSV.trans hS6);have HW4:Hid (wo.alloc (.cells #[.int .i64 0,.int .i64 0,.int .i64 0,.bool false,.string ⟨#[]⟩] 95)=w4):=hw4;subst eta;clear hcl hma HMT hm hR hS hFV hbt
   go_wp2_with (at_builtin;refine iK Qk rfl _ _ 110 rfl rfl hRa rfl hsrc (by omega) hSa.size ?_;intro sa' sc' W3 hR4 hF4 hB4)
   refine⟨⟨k+1,sa',sc',by omega,by go_num,rfl,by rw[HTK.out];exact hR4,hF4.aI hSa (fun i hi e=>by have:=(hRa.gW e).2.1;omega)⟩,by simp[intOf];omega⟩
  ·obtain rfl:k=x0.aG.length:=by omega
   rw[List.take_length]at hR;have hSw:ak w wo:=Sd.trans hS;obtain⟨l,hl⟩:∃y,x0.aG=y:=⟨_,rfl⟩;rw[hl]at hR htl h40 ⊢;have HL:Hid (x0.aG=l):=hl;clear hl HMT
   cases l with
   | nil =>
    clear hR
    go_wp2_with fail
    go_ret
    exact(show Hid _ by rw[HL.out];exact Ah (t:=mK []) hSw)
   | cons m l =>
    obtain⟨bk,o,eb,-,hbk,-,hce⟩:=hR.body (by have:(m::l).length<=sc:=hR.cap;show 0 < sc;rw[List.length_cons]at this;omega);dsimp only at eb;subst eb;have hcap:(m::l).length<=sc:=hR.cap;obtain⟨xs,hxs⟩:∃y,(m::l).map (fun m=>m.body)=y:=⟨_,rfl⟩;have hxl:xs.length=l.length+1:=by rw[<-hxs];simp
    have hj:=LH m l;rw[hxs]at hj
    have hjn:=Any.strings_Join Tryz.Nq Pn bk o sc xs ⟨#[32]⟩ wo (fun j x hx=>by
     refine hce j _ ?_;rw[<-hxs,List.getElem?_map]at hx;rw[List.getElem?_map]
     cases hq:(m::l)[j]? with
     | none=>rw[hq]at hx;cases hx
     | some m'=>rw[hq]at hx;cases hx;rfl) hbk (by simp at h40;omega) (by simp at hcap;omega) (by
      have:(Lib.join (xs.map (·.data.toList)) [32]).length<=140737488355328:=by rw[hj];omega
      exact this)
    have hj2:Lib.join (xs.map (·.data.toList)) ((⟨#[32]⟩:ByteArray).data.toList)=mK (m::l):=hj;rw[hj2,hxl]at hjn;clear hj hj2 hce hxs hR hcap;have d0:((l.length:Int)+1 == 0)=false:=by rw[beq_eq_false_iff_ne];omega
    go_wp2_with (go_at_call 79;refine hjn.mono ?_;rintro e W3 ⟨rfl,hbl⟩)
    go_ret
    exact(show Hid _ by rw[HL.out];exact Ah (t:=mK (m::l)) (hSw.trans ⟨hbl⟩))
end Go.Proofs.YtediempflagfkaaGreatDoor
set_option maxHeartbeats 1000000
namespace Go.Proofs.YtediempflagfkaaGreatDoor
open _root_.Go.Proofs.Tryz hiding checked
set_option maxRecDepth 8000
open Go.RowKit Go.Shelf
open Pu
theorem R7:Builder.Extra prog Tryz.QJ_ren where
 sizeBuilder:=by kernel_rfl
 liesBuilder:=by kernel_rfl
 t5:=underlying5
 a5:=Tryz.isAgg5
 z5:=Tryz.sizeOf5
 v5:=Tryz.zeroValue5
 infoByte:=by kernel_rfl
 cellsByte:=by kernel_rfl
 sizeByte:=by kernel_rfl
 neB5:=by decide
structure Bld (B:Nat) (w:World) (b:Nat) (p v:Value) (l:List UInt8):Prop where
 hB:B<=b
 blk:w.heap[b]? = some (.cells #[p,v] 41 (0,0))
 row:w.ownsRow B 5 1 v l.length (Lib.byteCells l)
 off:v.ownBlock≠some b
 hp:p=.pointer none\/p=.pointer (some ⟨b,0,none⟩)
def BX(b:Nat)(v:Value)(i:Nat):Prop:=i=b\/v.ownBlock=some i
def Nl(n:Nat)(v v':Value):Prop:=v'.ownBlock=v.ownBlock\/∃g,v'.ownBlock=some g/\n<=g
theorem Ee{X:Nat->Prop}{w w':World}{B:Nat}{e:TypeId}{v:Value}{n:Nat}{xs:List Value}(h:w.ownsRow B e 1 v n xs)(k:Fr X w w')(hv:∀g,v.ownBlock=some g->¬ X g):w'.ownsRow B e 1 v n xs:=by
 refine⟨h.1, ?_⟩;rcases h.2 with hn | ⟨g,cap,cur,rfl,hb,hg,r⟩
 ·exact .inl hn
 ·exact .inr ⟨g,cap,cur,rfl,hb,(k.block g (zQ3.1 hg).1 (hv g rfl)).trans hg,r⟩
theorem zM{w:World}{B:Nat}{e:TypeId}{v:Value}{n:Nat}{xs:List Value}(h:w.ownsRow B e 1 v n xs){g:Nat}(hg:v.ownBlock=some g):B<=g/\g < w.heap.size:=by
 rcases h.2 with ⟨rfl,_⟩ | ⟨g',cap,cur,rfl,hb,hgg,_⟩
 ·simp[Value.ownBlock]at hg
 ·simp[Value.ownBlock]at hg;subst hg;exact⟨hb,(zQ3.1 hgg).1⟩
theorem Bld.lt{B:Nat}{w:World}{b:Nat}{p v:Value}{l:List UInt8}(h:Bld B w b p v l):b < w.heap.size:=(zQ3.1 h.blk).1
theorem Bld.fr{X:Nat->Prop}{B:Nat}{w w':World}{b:Nat}{p v:Value}{l:List UInt8}(h:Bld B w b p v l)(k:Fr X w w')(hb:¬ X b)(hv:∀g,v.ownBlock=some g->¬ X g):Bld B w' b p v l :=
 ⟨h.hB,(k.block b h.lt hb).trans h.blk,Ee h.row k hv,h.off,h.hp⟩
theorem Bld.ay{B:Nat}{w w':World}{b:Nat}{p v:Value}{l:List UInt8}(h:Bld B w b p v l)(k:ak w w'):Bld B w' b p v l:=h.fr (k.fr fun _=>False) (fun x=>x) (fun _ _ x=>x)
theorem Bld.isB{B:Nat}{w:World}{b:Nat}{p v:Value}{l:List UInt8}(h:Bld B w b p v l):Lib.IsBuilderF 41 5 B b (Lib.byteCells l) w:=by
 have k:Lib.BuilderAtF 41 5 B b p (Lib.byteCells l) w:=⟨h.hB,v,h.blk,by rw[Lib.byteCells_length];exact World.ownsRowF_of h.row,h.off⟩;rcases h.hp with e | e
 ·rw[e]at k;exact .inl k
 ·rw[e]at k;exact .inr k
theorem Np{w w':World}{r:Option Nat}(h:w.grownBy w' r):Fr (fun i=>r=some i) w w':=⟨h.os,h.tape,h.output,h.size,fun k hk hn=>h.block k hk (fun e=>hn e.symm)⟩
theorem IV:∃i,prog.info? 5=some i/\i.zero=some (.int .u8 0)/\i.size=1/\i.bytes=1:=by
 obtain⟨i0,hi,hz0,hz1,hz2⟩:=info_parts Pn.infoByte;exact⟨i0,hi,hz0,hz1,hz2⟩
theorem uT:prog.underlying 39=some (.slice 5):=by kernel_rfl
theorem Dm{w:World}{B n m:Nat}{v x:Value}{xs news:List Value}{tx:TypeId}(hown:w.ownsRow B 5 1 v n xs)(hs:Src prog 1 tx x m news w)(hb:n+m<=1000000000)(hBw:B<=w.heap.size){v':Value}{w':World}
  (hr:(Builtin.append_ #[39,tx] 39 #[v,x]).run prog w=.ok v' w'):v'.ownBlock=v.ownBlock\/v'.ownBlock=some w.heap.size:=by
 obtain⟨i,hi,hz,h1,h2⟩:=IV;obtain⟨a,cap,rfl,hR⟩:=oW hown;obtain⟨s',w2,hr2,-,-,hS⟩:=vU (P:=prog) w 39 tx 39 5 i (.int .u8 0) 1 1 uT hi hz h1 h2 rfl hR hs (by unfold maxLen;omega) (by omega) hBw;have e:(Sl.v ⟨a,cap⟩ n)=.slice a n cap:=rfl;rw[e,hr]at hr2;cases hr2;rcases hS with rfl | ⟨_,hk⟩
 ·left;cases a <;> rfl
 ·right
  obtain⟨sa,sc⟩:=s';unfold Sl.blk at hk;split at hk
  ·cases hk
  ·dsimp only at hk ⊢
   cases sa with
   | none=>simp at hk
   | some ad=>simpa[Sl.v,Value.ownBlock] using hk
theorem xu(B b:Nat)(p v:Value)(l:List UInt8)(w:World)(h:Bld B w b p v l):Calls prog 27 #[.pointer (some ⟨b,0,none⟩)] w fun e w'=>e=.returned (.tuple #[])/\Bld B w' b (.pointer (some ⟨b,0,none⟩)) v l/\Fr (fun i=>i=b) w w':=by
 have c0:w.cell? ⟨b,0,none⟩=some p:=by rw[Lib.cell_of_heap h.blk];rfl
 rcases h.hp with rfl | rfl
 ·refine(Any.Builder_copyCheck_fresh (ρ:=Tryz.Nq_ren) { Tryz.Nq with } Pn.toX72 b w c0 (by simp[World.shape?,h.blk];rfl) (Lib.frozen_of_heap h.blk 0)).mono ?_
  rintro e w' ⟨rfl,rfl⟩;have hF:Fr (fun i=>i=b) w (w.setCell ⟨b,0,none⟩ (.pointer (some ⟨b,0,none⟩))):=(Fr.refl (fun i=>i=b) w).setCell ⟨b,0,none⟩ _ (fun _=>rfl);refine⟨rfl,⟨h.hB, ?_,Ee h.row hF (fun g hg e=>h.off (by rw[hg,e])),h.off,.inr rfl⟩,hF⟩;simp[World.setCell,Array.getElem?_modify,h.blk]
 ·refine(Any.Builder_copyCheck_used (ρ:=Tryz.Nq_ren) { Tryz.Nq with } Pn.toX72 b w c0).mono ?_
  rintro e w' ⟨rfl,rfl⟩;exact⟨rfl,h,Fr.refl _ _⟩
theorem Bld.push{B:Nat}{w w2:World}{b:Nat}{v v':Value}{l m:List UInt8}(h:Bld B w b (.pointer (some ⟨b,0,none⟩)) v l)(ho:w2.ownsRow B 5 1 v' (l.length+m.length) (Lib.byteCells l++Lib.byteCells m))(hg:w.grownBy w2 v.ownBlock)(hw:v'.ownBlock=v.ownBlock\/v'.ownBlock=some w.heap.size) :
  w2.cell? ⟨b,1,none⟩=some v/\w2.frozen? ⟨b,1,none⟩=false/\Bld B (w2.setCell ⟨b,1,none⟩ v') b (.pointer (some ⟨b,0,none⟩)) v' (l++m)/\Fr (BX b v) w (w2.setCell ⟨b,1,none⟩ v')/\Nl w.heap.size v v':=by
 have hlt:=h.lt;have hk:w2.heap[b]? = some (.cells #[.pointer (some ⟨b,0,none⟩),v] 41 (0,0)):=(hg.block b hlt (fun e=>h.off e.symm)).trans h.blk
 have hoff:v'.ownBlock≠some b:=by
  rcases hw with e | e
  ·rw[e];exact h.off
  ·rw[e];intro e2;cases e2;omega
 have hF:Fr (fun i=>i=b) w2 (w2.setCell ⟨b,1,none⟩ v'):=(Fr.refl (fun i=>i=b) w2).setCell ⟨b,1,none⟩ _ (fun _=>rfl);refine⟨by rw[Lib.cell_of_heap hk];rfl,Lib.frozen_of_heap hk 1,⟨h.hB, ?_, ?_,hoff,.inr rfl⟩,(Np hg).trans hF (fun _ _ x=>.inr x) (fun _ _ x=>.inl x), ?_⟩
 ·simp[World.setCell,Array.getElem?_modify,hk]
 ·rw[List.length_append,Lib.byteCells_append];exact Ee ho hF (fun g hg e=>hoff (by rw[hg,e]))
 ·rcases hw with e | e
  ·exact .inl e
  ·exact .inr ⟨_,e,Nat.le_refl _⟩
theorem mF{w:World}{B:Nat}{e:TypeId}{v:Value}{n:Nat}{xs:List Value}(h:w.ownsRow B e 1 v n xs):∃a c,v=.slice a n c:=by
 rcases h.2 with ⟨rfl,rfl⟩ | ⟨g,cap,cur,rfl,_⟩
 ·exact⟨none,0,rfl⟩
 ·exact⟨_,cap,rfl⟩
theorem KA{b:Nat}{v:Value}{a c d:World}(h:Fr (fun i=>i=b) a c)(k:Fr (BX b v) c d):Fr (BX b v) a d:=h.trans k (fun _ _ x=>.inl x) (fun _ _ x=>x)
structure Wrote (B:Nat) (w1:World) (b:Nat) (sa:Option Addr) (sc:Nat) (l m:List UInt8) (sa':Option Addr) (sc':Nat) (w2:World):Prop where
 e1:w2.cell? ⟨b,1,none⟩=some (.slice sa l.length sc)
 e2:w2.frozen? ⟨b,1,none⟩=false
 bld:Bld B (w2.setCell ⟨b,1,none⟩ (.slice sa' (l.length+m.length) sc')) b (.pointer (some ⟨b,0,none⟩)) (.slice sa' (l.length+m.length) sc') (l++m)
 fr:Fr (BX b (.slice sa l.length sc)) w1 (w2.setCell ⟨b,1,none⟩ (.slice sa' (l.length+m.length) sc'))
 new:Nl w1.heap.size (.slice sa l.length sc) (.slice sa' (l.length+m.length) sc')
theorem Lp{B:Nat}{w1:World}{b:Nat}{sa:Option Addr}{sc:Nat}{l t:List UInt8}(hl:l.length+t.length<=1000000)(hb1:Bld B w1 b (.pointer (some ⟨b,0,none⟩)) (.slice sa l.length sc) l)(hBw:B<=w1.heap.size) :
  ∃sa' sc' w2,(Builtin.append_ #[39,9] 39 #[.slice sa l.length sc,.string (bs t)]).run prog w1=.ok (.slice sa' (l.length+t.length) sc') w2/\Wrote B w1 b sa sc l t sa' sc' w2:=by
 obtain⟨i,hi,hz,h1,h2⟩:=IV;have hsz:=bX t;obtain⟨v',w2,hr,ho,hg,-⟩:=Lib.run_append_own_string (P:=prog) w1 B 39 9 39 5 i uT underlying9 hi hz h1 h2 _ _ _ hb1.row (bs t) (by unfold maxLen;omega) (by omega) hBw;have hw:=Dm hb1.row (Src.ofString w1 underlying9 (bs t)) (by omega) hBw hr;rw[hsz,Lib.strCells_eq,kK]at ho;obtain⟨e1,e2,hb2,hF2,hN⟩:=hb1.push ho hg hw;obtain⟨sa',sc',rfl⟩:=mF ho;exact⟨sa',sc',w2,hr,⟨e1,e2,hb2,hF2,hN⟩⟩
theorem IW{B:Nat}{w0 w1:World}{b:Nat}{sa:Option Addr}{sc:Nat}{l:List UInt8}(c:UInt8)(hl:l.length+1<=1000000)(hb0:Bld B w0 b (.pointer (some ⟨b,0,none⟩)) (.slice sa l.length sc) l)(hBw:B<=w0.heap.size)(hw1:w0.alloc (.cells #[.int .u8 (c.toNat:Int)] 5)=w1) :
  ∃sa' sc' w2,(Builtin.append_ #[39,39] 39 #[.slice sa l.length sc,.slice (some ⟨w0.heap.size,0,none⟩) 1 1]).run prog w1=.ok (.slice sa' (l.length+1) sc') w2/\Wrote B w1 b sa sc l [c] sa' sc' w2:=by
 obtain⟨i,hi,hz,h1,h2⟩:=IV;have hS:=aF hw1;have hb1:=hb0.ay hS;have hBw1:=zQ5 hBw hS.size
 have hc:∀j u,([.int .u8 (c.toNat:Int)]:List Value)[j]? = some u->w1.cell? ((⟨w0.heap.size,0,none⟩:Addr).add j)=some u:=by
  intro j u hj
  cases j with
  | zero=>simp at hj;subst hj;rw[<-hw1,Addr.add_lit];simp[go_sem]
  | succ j=>simp at hj
 have h1c:∀u∈([.int .u8 (c.toNat:Int)]:List Value),u.oneCell'=true:=fun u hu=>by simp at hu;subst hu;rfl
 obtain⟨v',w2,hr,ho,hg,-⟩:=run_append_own (P:=prog) w1 B 39 39 5 i (.int .u8 0) 1 1 uT hi hz h1 h2 rfl (by decide) _ _ _ hb1.row ⟨w0.heap.size,0,none⟩ 1 1 [.int .u8 (c.toNat:Int)] rfl hc h1c (by unfold maxLen;omega) (by omega) hBw1;have hw:=Dm hb1.row (Src.ofSlice w1 uT ⟨w0.heap.size,0,none⟩ 1 1 [.int .u8 (c.toNat:Int)] rfl hc h1c) (by omega) hBw1 hr;obtain⟨e1,e2,hb2,hF2,hN⟩:=hb1.push (m:=[c]) ho hg hw;obtain⟨sa',sc',rfl⟩:=mF ho;exact⟨sa',sc',w2,hr,⟨e1,e2,hb2,hF2,hN⟩⟩
theorem vG{w:World}{ops:Array Oper}{rest:List Oper}{o:Oper}{a:Act}{Q:Exit->Act->World->Prop}(hgd:o.guard=none)(ds dx:Operand)(t tx:TypeId)(ho:o.op=.call { callee:=.builtin .append,args:=#[ds,dx],argTypes:=#[t,tx] })
  {v x v':Value} {w':World} (hd:a.eval ds=v) (hx:a.eval dx=x) (hr:(Builtin.append_ #[t,tx] o.type #[v,x]).run prog w=.ok v' w') (h:wpList prog ops Q rest (a.put o.dst v') w'):wpList prog ops Q (o::rest) a w:=by
 refine wpList_plain hgd fun K hK=>?_;unfold Oper.wp execOp;simp only[ho,resolve,invoke,builtin,Sem.run_bind,Sem.run_pure,Result.andThen_ok,List.map_toArray,List.map_cons,List.map_nil,hd,hx,hr];exact hK _ _ h
set_option maxRecDepth 8000 in
theorem zF(B b:Nat)(p v:Value)(l t:List UInt8)(hl:l.length+t.length<=1000000)(w:World)(h:Bld B w b p v l)(hBw:B<=w.heap.size) :
  Calls prog 10 #[.pointer (some ⟨b,0,none⟩),.string (bs t)] w fun e w'=>(∃x,e=.returned x)/\∃v',Bld B w' b (.pointer (some ⟨b,0,none⟩)) v' (l++t)/\Fr (BX b v) w w'/\Nl w.heap.size v v':=by
 have hck:=xu B b p v l w h;obtain⟨sa,sc,rfl⟩:=mF h.row;clear h
 go_enter func10,ntmps10
 go_wp2_with (first
  | (go_at_call 27;refine hck.mono ?_;rintro e w1 ⟨rfl,hb1,hF1⟩;have c1:w1.cell? ⟨b,1,none⟩=some (.slice sa l.length sc):=(by rw[Lib.cell_of_heap hb1.blk];rfl);obtain⟨sa',sc',w2,hr,hWr⟩:=Lp hl hb1 (zQ5 hBw hF1.size);have d1:=hWr.e1;have d2:=hWr.e2;have HR:=(show Hid _ from hr);clear hr;obtain⟨V,hV⟩:∃y,w2.setCell ⟨b,1,none⟩ (.slice sa' (l.length+t.length) sc')=y:=⟨_,rfl⟩)
  | (at_builtin;refine vG rfl _ _ _ _ rfl rfl rfl HR.out ?_))
 go_ret2
 have hb2:=hWr.bld;have hF2:=hWr.fr;rw[hV]at hb2 hF2;refine⟨⟨_,rfl⟩,_,hb2,KA hF1 hF2, ?_⟩;rcases hWr.new with e | ⟨g,e,hg⟩
 ·exact .inl e
 ·exact .inr ⟨g,e,zQ5 hF1.size hg⟩
set_option maxRecDepth 8000 in
theorem Cr(B b:Nat)(p v:Value)(l:List UInt8)(c:UInt8)(hl:l.length+1<=1000000)(w:World)(h:Bld B w b p v l)(hBw:B<=w.heap.size) :
  Calls prog 13 #[.pointer (some ⟨b,0,none⟩),.int .u8 (c.toNat:Int)] w fun e w'=>(∃x,e=.returned x)/\∃v',Bld B w' b (.pointer (some ⟨b,0,none⟩)) v' (l++[c])/\Fr (BX b v) w w'/\Nl w.heap.size v v':=by
 have hck:=xu B b p v l w h;obtain⟨sa,sc,rfl⟩:=mF h.row;clear h
 go_enter func13,ntmps13
 go_wp2_with (first
  | (go_at_call 27;refine hck.mono ?_;rintro e w0 ⟨rfl,hb1,hF1⟩;obtain⟨w1,hw1⟩:∃y,w0.alloc (.cells #[.int .u8 (c.toNat:Int)] 5)=y:=⟨_,rfl⟩;have c1:w0.cell? ⟨b,1,none⟩=some (.slice sa l.length sc):=(by rw[Lib.cell_of_heap hb1.blk];rfl);obtain⟨sa',sc',w2,hr,hWr⟩:=IW c hl hb1 (zQ5 hBw hF1.size) hw1;have d1:=hWr.e1;have d2:=hWr.e2;have HR:=(show Hid _ from hr);clear hr;obtain⟨V,hV⟩:∃y,w2.setCell ⟨b,1,none⟩ (.slice sa' (l.length+1) sc')=y:=⟨_,rfl⟩;have hS1:ak w0 w1:=(by rw[<-hw1];exact(ak.refl w0).alloc _))
  | (at_builtin;refine vG rfl _ _ _ _ rfl rfl rfl HR.out ?_))
 go_ret
 have hb2:=hWr.bld;have hF2:=hWr.fr;rw[show w2.setCell ⟨b,1,none⟩ (.slice sa' (l.length+[c].length) sc')=V from hV]at hb2 hF2;refine⟨⟨_,rfl⟩,_,hb2,KA hF1 ((hS1.fr _).trans hF2 (fun _ _ x=>x) (fun _ _ x=>x)), ?_⟩;rcases hWr.new with e | ⟨g,e,hg⟩
 ·exact .inl e
 ·exact .inr ⟨g,e,zQ5 (zQ5 hF1.size hS1.size) hg⟩
theorem IX(B b:Nat)(p v:Value)(l:List UInt8)(w:World)(h:Bld B w b p v l)(hBw:B<=w.heap.size) :
  Calls prog 14 #[.pointer (some ⟨b,0,none⟩)] w fun e w'=>e=.returned (.string (bs l))/\Below B w w'/\NC w w':=by
 refine(Any.Builder_String_any_k Tryz.QJ R7 B b l w h.isB hBw).mono ?_;rintro e w' ⟨rfl,_,hb,hk⟩;refine⟨rfl,hb,fun k o ho hc=>hk k o ho (fun e=>?_) (fun c fz e=>?_)⟩
 ·cases e;rw[h.blk]at ho;cases ho;cases hc
 ·subst e;cases hc
end Go.Proofs.YtediempflagfkaaGreatDoor
