/- Lemmas. Lemmas. -/
import Derived.Test.YtiiifecfdkjmbaaGreatCsAttend
import Derived.Test.YtiiifecfdkjmbaaGreatCsMarks
import Derived.Test.YtiiifecfdkjmbaaGreatAgX
set_option maxHeartbeats 4000000
namespace Go.Proofs.YtiiifecfdkjmbaaGreat
open _root_.Go.Proofs.Tryz hiding checked
set_option maxRecDepth 8000
open Go.RowKit Go.Shelf
open Pu
set_option linter.unusedVariables false
set_option linter.unusedSimpArgs false
def SW (B:Nat) (M:SM) (i:Nat):Prop:=i=B\/i=M.ra\/M.sl.blk=some i\/i∈M.ps
def stamped (m:Mg) (c:Int):Mg:={ m with st:=c }
theorem j5.put {w:World} {b:Nat} {m:Mg} (h:j5 w b m) (c:Int):j5 (w.setCell ⟨b,2,none⟩ (.int .i64 c)) b (stamped m c):=by
 refine ⟨by simpa using h.lt,⟨(bJ w b (.int .i64 c) (by decide)).trans h.at0.c0,(bJ w b (.int .i64 c) (by decide)).trans h.at0.c1,kK w b 2 (.int .i64 c) h.at0.c2,(bJ w b (.int .i64 c) (by decide)).trans h.at0.c3,(bJ w b (.int .i64 c) (by decide)).trans h.at0.c4⟩⟩
theorem EO (lo B n:Nat) (x:WV) (d:Wd) (M:SM) (m:Mg) (nd:Nd) (p:Nat) (w:World) (h:fT lo w B x d M) (hfr:m.fr=(n:Int)) (hn:M.ps[n]? = some p) (hnd:d.nodes[n]? = some nd) (hk:(M.ks.map Prod.fst).Nodup) (hnew:stamped m nd.clock∉M.ks.map Prod.fst) (hsl:M.sent.length<=1000) :
  Calls prog 177 #[.pointer (some ⟨B,0,none⟩),.agg #[.int .i64 m.fr,.int .i64 m.gr,.int .i64 m.st,.bool m.nul,.string m.body]] w fun e w'=>e=.returned (.tuple #[])/\∃ (M':SM) (q:Nat),fT lo w' B x d M'/\M'.sent=M.sent++[stamped m nd.clock]/\M'.ks=M.ks++[(stamped m nd.clock,q)]/\M'.ps=M.ps/\q∉M.sets/\(∀ y,y∈M'.cont q↔y∈M.cont p)/\(∀ y,y∈M'.cont p↔y∈M.cont p\/y=stamped m nd.clock)/\(∀ i,i∈M.sets->i≠p->M'.cont i=M.cont i)/\M'.ra=M.ra/\(M'.sl=M.sl\/∃ b,M'.sl.blk=some b/\w.heap.size<=b)/\Fr (SW B M) w w':=by
 obtain ⟨fr,gr,st,nul,body⟩:=m;dsimp only at hfr;subst hfr;have hnl:=(zQ2.1 hn).1;have hcap:=h.pow.cap;obtain ⟨pb,po,hpa,_,hpb,hpc,hpx⟩:=h.pow.body (by omega);have hpS:p∈M.sets:=List.mem_append.2 (.inr (List.mem_of_getElem? hn));have HPA:Hid (M.pl.a=some ⟨pb,po,none⟩):=hpa
 have HPN:Hid (∀ y,Row y lo 1 M.pl M.ps.length (M.ps.map fun p=>.map (some p))->y.cell? ⟨pb,po+n,none⟩=some (.map (some p))):=fun y hy=>by
  obtain ⟨b',o',e',_,_,_,hx'⟩:=hy.body (by omega);rw [hpa] at e'
  injection e' with e'
  injection e' with e1 e2 _
  subst e1 e2;exact hx' n _ (by rw [List.getElem?_map,hn];rfl)
 have n1:(n:Int) < (M.ps.length:Int):=by omega
 obtain ⟨ga,gl,gc,na,nl,nc,wa,wl,wc⟩:=x;have WZ:=(zQ2.1 hnd).1;have hlen:=h.wAt.n.hlen;dsimp only at hlen;obtain ⟨bn,on,e,hbn,hcn⟩:=h.wAt.n.cells (by dsimp only;omega);dsimp only at e;subst e
 have HND:Hid (∀ y d0,d0=d->WAt y ⟨ga,gl,gc,some ⟨bn,on,none⟩,nl,nc,wa,wl,wc⟩ d0->y.cell? ⟨bn,on+n*4,none⟩=some (.int .i64 nd.clock)):=fun y d0 hd hy=>by
  subst hd;obtain ⟨b',o',e',_,hc'⟩:=hy.n.cells (by dsimp only;omega);dsimp only at e'
  injection e' with e'
  injection e' with e1 e2 _
  subst e1 e2;exact (hc' n nd hnd).clk
 have n2:(n:Int) < (nl:Int):=by omega
 obtain ⟨w1,hw1⟩:∃ y,w.alloc (.cells #[.int .i64 n,.int .i64 gr,.int .i64 st,.bool nul,.string body] 42)=y:=⟨_,rfl⟩;have hM1:j5 w1 w.heap.size ⟨n,gr,st,nul,body⟩:=by rw [<-hw1];exact j5.new w _ ⟨n,gr,st,nul,body⟩
 have hZ1:w1.frozen? ⟨w.heap.size,2,none⟩=false:=by rw [<-hw1];simp [go_sem]
 have hS1:=ay hw1;have hR1:=h.since hS1;have hsm:Hid (Mg.mk n gr nd.clock nul body=stamped ⟨n,gr,st,nul,body⟩ nd.clock):=rfl;have HSB:Hid (∀ i,SB B M i->i < w.heap.size):=fun i hi=>(h.blk hi).2;have HNO:Hid (¬ SB B M w.heap.size):=fun hc=>by have:=(h.blk hc).2;omega
 clear hpa hpx hpc hcap hnl hcn hlen
 go_enter func177,ntmps177
 go_wp2_with fail
 clear hw1;obtain ⟨W0,hW0⟩:∃ y,w1.drew=y:=⟨_,rfl⟩;have hs0:=aQ hW0;obtain ⟨S0,hS0⟩:∃ S0:World->Prop,∀ w',S0 w'↔Since w1 w':=⟨_,fun _=>Iff.rfl⟩;have c1:∀ y:ak S0,y.w.cell? ⟨B,1,none⟩=some (.slice (some ⟨bn,on,none⟩) nl nc):=fun y=>(hR1.since ((hS0 _).1 y.h)).c1;have cn:∀ y:ak S0,y.w.cell? ⟨bn,on+n*4,none⟩=some (.int .i64 nd.clock):=fun y=>HND.out _ _ rfl (hR1.since ((hS0 _).1 y.h)).wAt;have m0:∀ y:ak S0,y.w.cell? ⟨w.heap.size,0,none⟩=some (.int .i64 n):=fun y=>(hM1.since ((hS0 _).1 y.h)).c0;have au:=(hS0 W0).2 hs0;have hne:Nonempty (ak S0):=⟨⟨_,au⟩⟩;have dH:=aI w;have m2:=(hM1.since hs0).c2;rw [Nat.zero_add] at m2;have z2:W0.frozen? ⟨w.heap.size,2,none⟩=false:=(hs0.below.frozen (p:=⟨w.heap.size,2,none⟩) hM1.lt).trans hZ1;obtain ⟨w2,hw2⟩:∃ y,W0.setCell ⟨w.heap.size,2,none⟩ (.int .i64 nd.clock)=y:=⟨_,rfl⟩;have hM2:j5 w2 w.heap.size ⟨n,gr,nd.clock,nul,body⟩:=by rw [<-hw2];exact (hM1.fr (hs0.fr fun _=>False) (fun f=>f)).put nd.clock
 have hS2:Since w w2:=by rw [<-hw2];exact ((hS1.trans hs0).fr (fun i=>i=w.heap.size)).trans (show Fr (fun i=>i=w.heap.size) W0 _ from (Fr.refl _ _).setCell ⟨w.heap.size,2,none⟩ _ (fun _=>rfl)) (fun _ _ f=>f) (fun _ _ f=>f) |>.since (fun i hi e=>by omega)
 have hR2:=h.since hS2;clear hR1 hZ1 h;refine aK (fun w'=>∃ x:ak S0,w'=x.w) (by kernel_rfl) ?_;rw [hW0];clear hW0;refine tW 0 rfl ?_;go_big_quiet_op;refine tW 1 rfl ?_;go_big_quiet_op;refine tW 2 rfl ?_;go_big_quiet_op;refine tW 3 rfl ?_;go_big_quiet_op;refine tM 4 rfl (aj au) ?_;go_big_quiet_op;refine tW 5 rfl ?_;go_big_quiet_op;refine tM 6 rfl (aj au) ?_;go_big_quiet_op;refine tW 7 rfl ?_;go_big_quiet_op;refine tW 8 rfl ?_;go_big_quiet_op;refine tM 9 rfl (aj au) ?_;go_big_quiet_op;refine tW 10 rfl ?_;go_big_quiet_op;refine aR 11 rfl (by kernel_rfl) ?_;intro K hK;go_simp;refine hK _ _ (fun h=>absurd h (by decide +kernel)) ?_;clear hK K;refine bH (by kernel_rfl) ?_;clear c1 cn m0 hne au hS0 m2 z2 hM1 hs0 hw2 hS1;obtain ⟨W4,hW0⟩:∃ y,w2.drew=y:=⟨_,rfl⟩;have hs4:=aQ hW0;obtain ⟨S4,hS4⟩:∃ S0:World->Prop,∀ w',S0 w'↔Since w2 w':=⟨_,fun _=>Iff.rfl⟩;have c3:∀ y:ak S4,y.w.cell? ⟨B,3,none⟩=some (.slice M.sl.a M.sent.length M.sl.cap):=fun y=>(hR2.since ((hS4 _).1 y.h)).c3;have m0:∀ y:ak S4,y.w.cell? ⟨w.heap.size,0,none⟩=some (.int .i64 n):=fun y=>(hM2.since ((hS4 _).1 y.h)).c0;have m1:∀ y:ak S4,y.w.cell? ⟨w.heap.size,1,none⟩=some (.int .i64 gr):=fun y=>(hM2.since ((hS4 _).1 y.h)).c1;have m2:∀ y:ak S4,y.w.cell? ⟨w.heap.size,2,none⟩=some (.int .i64 nd.clock):=fun y=>(hM2.since ((hS4 _).1 y.h)).c2;have m3:∀ y:ak S4,y.w.cell? ⟨w.heap.size,3,none⟩=some (.bool nul):=fun y=>(hM2.since ((hS4 _).1 y.h)).c3;have m4:∀ y:ak S4,y.w.cell? ⟨w.heap.size,4,none⟩=some (.string body):=fun y=>(hM2.since ((hS4 _).1 y.h)).c4;have BJ:=(hS4 W4).2 hs4;have hne:Nonempty (ak S4):=⟨⟨_,BJ⟩⟩;obtain ⟨W5,hW5⟩:∃ y,W4.alloc (.cells #[.int .i64 n,.int .i64 gr,.int .i64 nd.clock,.bool nul,.string body] 42)=y:=⟨_,rfl⟩;have SG:=ay hW5;have hs5:=hs4.trans SG
 have hsrc:Src prog 5 39 (.slice (some ⟨W4.heap.size,0,none⟩) 1 1) 1 [.int .i64 n,.int .i64 gr,.int .i64 nd.clock,.bool nul,.string body] W5:=by
  rw [<-hW5];exact fM (size:=5) iE.und [.int .i64 n,.int .i64 gr,.int .i64 nd.clock,.bool nul,.string body] rfl (fun u hu=>by simp at hu;rcases hu with rfl | rfl | rfl | rfl | rfl <;> rfl) 1
 have hR5:=hR2.since hs5;have j6:=(hS4 W5).2 hs5;have SH:lo<=W5.heap.size:=zQ5 hR5.bl (Nat.le_of_lt hR5.bh);have PU:=hR5.row
 go_wp2_with fail
 refine aK (fun w'=>∃ x:ak S4,w'=x.w) (by kernel_rfl) ?_;rw [hW0];clear hW0;refine tW 0 rfl ?_;go_big_quiet_op;refine tW 1 rfl ?_;go_big_quiet_op;refine tW 2 rfl ?_;go_big_quiet_op;refine tW 3 rfl ?_;go_big_quiet_op;refine tM 4 rfl (aj BJ) ?_;go_big_quiet_op;refine tM 5 rfl (aj BJ) ?_;go_big_quiet_op;refine aR 6 rfl (by kernel_rfl) ?_;intro K hK;go_simp;refine hK _ _ (fun _ _=>aj j6) ?_;clear hK K;refine aR 7 rfl (by kernel_rfl) ?_;intro K hK;refine fF iE (by rfl) _ _ 39 (by rfl) (by rfl) PU (by rfl) hsrc (by omega) SH ?_;intro sa' sc' W6 PV hF6 hB6;have hnB:¬ M.sl.blk=some B:=fun e=>(hR5.sne B e).1 rfl;have y3:=(hF6.cell (p:=⟨B,3,none⟩) hR5.bh hnB).trans hR5.c3;have z3:=(hF6.frozen (p:=⟨B,3,none⟩) hR5.bh hnB).trans (hR5.z 3 (by decide));have hM6:j5 W6 w.heap.size ⟨n,gr,nd.clock,nul,body⟩:=(hM2.fr (hs5.fr fun _=>False) (fun f=>f)).fr hF6 (fun e=>HNO.out (.inr (.inr (.inr (.inl e)))));obtain ⟨W7,hW7⟩:∃ y,W6.setCell ⟨B,3,none⟩ (.slice sa' (M.sent.length+1) sc')=y:=⟨_,rfl⟩;have QN:Fr (fun i=>M.sl.blk=some i) w2 W6:=(hs5.fr fun _=>False).trans hF6 (fun _ _ f=>f.elim) (fun _ _ f=>f);have hR7:=hR2.push (sl':=⟨sa',sc'⟩) ⟨n,gr,nd.clock,nul,body⟩ PV QN (hB6.imp (fun e=>e) (fun e=>⟨_,e.2,hs5.size⟩)) hW7;have k67:Fr (fun i=>i=B) W6 W7:=by rw [<-hW7];exact (Fr.refl _ _).setCell ⟨B,3,none⟩ _ (fun _=>rfl)
 have hM7:=hM6.fr k67 (fun e=>HNO.out (.inl e));have hF7:Fr (SW B M) w W7:=((hS2.fr fun _=>False).trans QN (fun _ _ f=>f.elim) (fun _ _ f=>.inr (.inr (.inl f)))).trans k67 (fun _ _ f=>f) (fun _ _ f=>.inl f);have Vd:Hid ((⟨sa',sc'⟩:Sl)=M.sl\/∃ b,Sl.blk ⟨sa',sc'⟩=some b/\w.heap.size<=b):=hB6.imp (fun e=>e) (fun e=>⟨_,e.2,(hS2.trans hs5).size⟩);clear hM6 hB6 hF6 k67 QN PV hnB;refine hK _ _ (fun h=>absurd h (by decide +kernel)) ?_;clear hK K;simp only [Act.put,zQ7,zQ8,zQ9];refine tW 8 rfl ?_;go_big_quiet_op;refine tW 9 rfl ?_;go_big_quiet_op;refine aR 10 rfl (by kernel_rfl) ?_;intro K hK;go_simp;refine hK _ _ (fun h=>absurd h (by decide +kernel)) ?_;clear hK K;refine bH (by kernel_rfl) ?_;clear c3 m0 m1 m2 m3 m4 hne BJ j6 hS4 hs4 SG hs5 hW5 hsrc hR5 SH PU hW7 y3 z3 hR2 hM2 hS2
 obtain ⟨M7,QO⟩:∃ y:SM,y={ M with sl:=⟨sa',sc'⟩,sent:=M.sent++[⟨n,gr,nd.clock,nul,body⟩] }:=⟨_,rfl⟩
 rw [<-QO] at hR7
 have E7:Hid (M7.ra=M.ra/\M7.ps=M.ps/\M7.pl=M.pl/\M7.sets=M.sets/\M7.cont=M.cont/\M7.ks=M.ks/\M7.sent=M.sent++[⟨n,gr,nd.clock,nul,body⟩]/\M7.sl=⟨sa',sc'⟩):=by
  unfold Hid;subst QO;exact ⟨rfl,rfl,rfl,rfl,rfl,rfl,rfl,rfl⟩
 clear QO;obtain ⟨W8,hW0⟩:∃ y,W7.drew=y:=⟨_,rfl⟩;have hs8:=aQ hW0;obtain ⟨S8,hS8⟩:∃ S0:World->Prop,∀ w',S0 w'↔Since W7 w':=⟨_,fun _=>Iff.rfl⟩;have c4:∀ y:ak S8,y.w.cell? ⟨B,4,none⟩=some (.map (some M.ra)):=fun y=>((hR7.since ((hS8 _).1 y.h)).c4).trans (by rw [E7.out.1]);have c5:∀ y:ak S8,y.w.cell? ⟨B,5,none⟩=some (.slice (some ⟨pb,po,none⟩) M.ps.length M.pl.cap):=fun y=>((hR7.since ((hS8 _).1 y.h)).c5).trans (by rw [E7.out.2.2.1,E7.out.2.1,HPA.out]);have cp:∀ y:ak S8,y.w.cell? ⟨pb,po+n,none⟩=some (.map (some p)):=fun y=>HPN.out _ (by have:=(hR7.since ((hS8 _).1 y.h)).pow;rw [E7.out.2.2.1,E7.out.2.1] at this;exact this);have m0:∀ y:ak S8,y.w.cell? ⟨w.heap.size,0,none⟩=some (.int .i64 n):=fun y=>(hM7.since ((hS8 _).1 y.h)).c0;have m1:∀ y:ak S8,y.w.cell? ⟨w.heap.size,1,none⟩=some (.int .i64 gr):=fun y=>(hM7.since ((hS8 _).1 y.h)).c1;have m2:∀ y:ak S8,y.w.cell? ⟨w.heap.size,2,none⟩=some (.int .i64 nd.clock):=fun y=>(hM7.since ((hS8 _).1 y.h)).c2;have m3:∀ y:ak S8,y.w.cell? ⟨w.heap.size,3,none⟩=some (.bool nul):=fun y=>(hM7.since ((hS8 _).1 y.h)).c3;have m4:∀ y:ak S8,y.w.cell? ⟨w.heap.size,4,none⟩=some (.string body):=fun y=>(hM7.since ((hS8 _).1 y.h)).c4;have fE:=(hS8 W8).2 hs8;have hne:Nonempty (ak S8):=⟨⟨_,fE⟩⟩;have hR8:=hR7.since hs8;have MH:iN W8 p (M.cont p):=by have:=(hR8.set p (by rw [E7.out.2.2.2.1];exact hpS)).2;rw [E7.out.2.2.2.2.1] at this;exact this
 have hCl:=Kt p _ _ W8 MH;obtain ⟨W9,hW9⟩:∃ y,W8.alloc (.map (ents (M.cont p)) (M.cont p).length)=y:=⟨_,rfl⟩;rw [hW9] at hCl;have QS:=ay hW9;have PW:MapAt W9 M.ra M.ks:=by have:=(hR8.since QS).map;rw [E7.out.1,E7.out.2.2.2.2.2.1] at this;exact this
 obtain ⟨W10,OM⟩:∃ y,W9.putObj M.ra (.map (rE (M.ks++[(Mg.mk n gr nd.clock nul body,W8.heap.size)])) (M.ks++[(Mg.mk n gr nd.clock nul body,W8.heap.size)]).length)=y:=⟨_,rfl⟩;have hmu:=BK Hy PW hnew W8.heap.size;dsimp only [stamped] at hmu;rw [OM] at hmu;unfold mgV at hmu;dsimp only at hmu;have Ve:lo<=W8.heap.size:=zQ5 hR8.bl (Nat.le_of_lt hR8.bh);have xX:=hR8.addKey ⟨n,gr,nd.clock,nul,body⟩ (M.cont p) hW9 (W':=W10) (by rw [E7.out.1,E7.out.2.2.2.2.2.1];exact OM) Ve;have SI:Fr (fun i=>i=M.ra) W9 W10:=by rw [<-OM];exact Fr.put _ _ _
 have QT:Fr (fun i=>i=M.ra) W8 W10:=(QS.fr fun _=>False).trans SI (fun _ _ f=>f.elim) (fun _ _ f=>f);have KC:=(hM7.fr (hs8.fr fun _=>False) (fun f=>f)).fr QT (fun e=>HNO.out (.inr (.inl e)));have xY:Fr (SW B M) w W10:=(hF7.trans (hs8.fr fun _=>False) (fun _ _ f=>f) (fun _ _ f=>f.elim)).trans QT (fun _ _ f=>f) (fun _ _ f=>.inr (.inl f));have hp8:p≠W8.heap.size:=fun e=>by have:=(zQ3.1 MH).1;omega
 have hq8:W8.heap.size∉M.sets:=fun hc=>by have:=hR8.oC (r:=W8.heap.size) (by rw [E7.out.2.2.2.1];exact hc);omega
 go_wp2_with fail
 refine aK (fun w'=>∃ x:ak S8,w'=x.w) (by kernel_rfl) ?_;rw [hW0];clear hW0;refine tW 0 rfl ?_;go_big_quiet_op;refine tW 1 rfl ?_;go_big_quiet_op;refine tW 2 rfl ?_;go_big_quiet_op;refine tM 3 rfl (aj fE) ?_;go_big_quiet_op;refine tM 4 rfl (aj fE) ?_;go_big_quiet_op;refine tW 5 rfl ?_;go_big_quiet_op;refine tW 6 rfl ?_;go_big_quiet_op;refine tW 7 rfl ?_;go_big_quiet_op;refine tM 8 rfl (aj fE) ?_;go_big_quiet_op;refine tW 9 rfl ?_;go_big_quiet_op;refine tM 10 rfl (aj fE) ?_;go_big_quiet_op;refine tW 11 rfl ?_;go_big_quiet_op;refine tM 12 rfl (aj fE) ?_;go_big_quiet_op;refine aR 13 rfl (by kernel_rfl) ?_;intro K hK;go_simp;refine hCl.mono ?_;rintro e w' ⟨rfl,hw⟩;obtain rfl:=hw.symm;dsimp only;refine hK _ _ (fun _ _=>aj ((hS8 _).2 (hs8.trans QS))) ?_;clear hK K;refine aR 14 rfl (by kernel_rfl) ?_;intro K hK;go_simp;refine hK _ _ (fun h=>absurd h (by decide +kernel)) ?_;clear hK K;refine bH (by kernel_rfl) ?_;clear c4 c5 cp m0 m1 m2 m3 m4 hne fE hS8 hmu hCl PW hW9 OM MH hR7 hM7 QT SI
 obtain ⟨M10,MI⟩:∃ y:SM,y={ M7 with ks:=M7.ks++[(Mg.mk n gr nd.clock nul body,W8.heap.size)],cont:=fun i=>if i=W8.heap.size then M.cont p else M7.cont i }:=⟨_,rfl⟩
 rw [<-MI] at xX
 have E10:Hid (M10.ps=M.ps/\M10.ks=M.ks++[(Mg.mk n gr nd.clock nul body,W8.heap.size)]/\M10.sent=M.sent++[⟨n,gr,nd.clock,nul,body⟩]/\(∀ i,M10.cont i=if i=W8.heap.size then M.cont p else M.cont i)/\M10.ra=M.ra/\M10.sl=⟨sa',sc'⟩):=by
  unfold Hid;subst MI;exact ⟨E7.out.2.1,by show M7.ks++_=_;rw [E7.out.2.2.2.2.2.1],E7.out.2.2.2.2.2.2.1,fun i=>by show (if i=W8.heap.size then M.cont p else M7.cont i)=_;rw [E7.out.2.2.2.2.1],E7.out.1,E7.out.2.2.2.2.2.2.2⟩
 have hLn:=Cq lo B n ⟨ga,gl,gc,some ⟨bn,on,none⟩,nl,nc,wa,wl,wc⟩ d M10 ⟨n,gr,nd.clock,nul,body⟩ p W8.heap.size W10 xX (by rw [E10.out.1];exact hn) (by rw [E10.out.2.1];simp) (by
  rw [E10.out.2.1,List.map_append,List.nodup_append];exact ⟨hk,by simp,fun a ha b hb e=>by simp at hb;subst hb;subst e;exact hnew ha⟩)
 have m0:=KC.at0.c0;have m1:=KC.at0.c1;have m2:=KC.at0.c2;have m3:=KC.at0.c3;have m4:=KC.at0.c4;simp only [Nat.zero_add] at m1 m2 m3 m4;clear KC MI xX E7
 go_wp2_with (go_at_call 178;refine hLn.mono ?_;rintro e w11 ⟨rfl,A',hA',E5,Dq⟩)
 clear m0 m1 m2 m3 m4
 go_end0
 refine ⟨rfl,_,W8.heap.size,E5,E10.out.2.2.1,E10.out.2.1,E10.out.1,hq8,fun y=>?_,fun y=>?_,fun i hi hip=>?_,E10.out.2.2.2.2.1,by rw [show (SM.sl _)=M10.sl from rfl,E10.out.2.2.2.2.2];exact Vd.out,xY.trans Dq (fun _ _ f=>f) (fun i _ f=>f ▸ .inr (.inr (.inr (List.mem_of_getElem? hn))))⟩
 ·show y∈(if W8.heap.size=p then A' else M10.cont W8.heap.size)↔_;rw [if_neg (Ne.symm hp8),E10.out.2.2.2.1,if_pos rfl]
 ·show y∈(if p=p then A' else M10.cont p)↔_;rw [if_pos rfl,hA',E10.out.2.2.2.1,if_neg hp8,E10.out.2.2.2.1,if_pos rfl,or_self];rfl
 ·show (if i=p then A' else M10.cont i)=_;rw [if_neg hip,E10.out.2.2.2.1,if_neg (fun e:i=W8.heap.size=>hq8 (e ▸ hi))]
end Go.Proofs.YtiiifecfdkjmbaaGreat
set_option maxHeartbeats 2000000
namespace Go.Proofs.YtiiifecfdkjmbaaGreat
open _root_.Go.Proofs.Tryz hiding checked
set_option maxRecDepth 8000
open Go.RowKit Go.Shelf
open Pu
set_option linter.unusedVariables false
set_option linter.unusedSimpArgs false
theorem OD (ix:Ix):0 < szI ix:=by
 unfold szI
 repeat' split
 all_goals decide
theorem Mq (lo B:Nat) (x:WV) (s:Sc) (M:SM) (a:Ac) (w:World) (h:fT lo w B x s.d M) (HRP:Hid (wL s M)) (I:Hid (jf s)) (h4:Hid (¬ a.kind=4)) (HPL:Hid (M.ps.length=s.d.nodes.length)) (HLN:Hid (M.sent.length<=1000)) :
  Calls prog 132 #[.pointer (some ⟨B,0,none⟩),acV a] w fun e w'=>e=.returned (.tuple #[])/\∃ x' M',fT lo w' B x' (bT s a).d M'/\wL (bT s a) M'/\M'.ps=M.ps/\M'.ra=M.ra/\(M'.sl=M.sl\/∃ b,M'.sl.blk=some b/\w.heap.size<=b)/\Fr (SW B M) w w':=by
 obtain ⟨kind,one,two,body⟩:=a;unfold acV;dsimp only;obtain ⟨ga,gl,gc,na,nl,nc,wa,wl,wc⟩:=x;obtain ⟨w1,hw1⟩:∃ wp,w.alloc (.cells #[.int .i64 kind,.int .i64 one,.int .i64 two,.string body] 58)=wp:=⟨_,rfl⟩;have hS1:=ay hw1;have hl1:w.heap.size < w1.heap.size:=by rw [<-hw1];simp
 have hA1:OE w1 w.heap.size 0 ⟨kind,one,two,body⟩:=by rw [<-hw1];constructor <;> simp [go_sem]
 have hR1:=h.since hS1;have SA:=hR1.wAt;have HKN:Hid ((M.ks.map Prod.fst).Nodup):=Cm I.out HRP.out;have QH:Hid M.sets.Nodup:=h.nd;have HSB:Hid (∀ i,SB B M i->lo<=i):=fun i hi=>(h.blk hi).1;have HSH:Hid (∀ i,SB B M i->i < w.heap.size):=fun i hi=>(h.blk hi).2;have HWT:Hid (∀ W',Fr (fun i=>SB B M i\/NK lo w i) w W'->WAt W' ⟨ga,gl,gc,na,nl,nc,wa,wl,wc⟩ s.d):=h.wat;have hBl:=h.bh;obtain ⟨r,hr⟩:∃ r,doD s.d ⟨kind,one,two,body⟩=r:=⟨_,rfl⟩;clear h
 go_enter func132,ntmps132
 go_wp2_with fail
 clear hw1;obtain ⟨W0,hW0⟩:∃ y,w1.drew=y:=⟨_,rfl⟩;have hs0:=aQ hW0;obtain ⟨S0,hS0⟩:∃ S0:World->Prop,∀ w',S0 w'↔Since w1 w':=⟨_,fun _=>Iff.rfl⟩;have c0:∀ y:ak S0,y.w.cell? ⟨B,0,none⟩=some (.slice ga gl gc):=fun y=>(hR1.since ((hS0 _).1 y.h)).c0;have c1:∀ y:ak S0,y.w.cell? ⟨B,1,none⟩=some (.slice na nl nc):=fun y=>(hR1.since ((hS0 _).1 y.h)).c1;have c2:∀ y:ak S0,y.w.cell? ⟨B,2,none⟩=some (.slice wa wl wc):=fun y=>(hR1.since ((hS0 _).1 y.h)).c2;have a0:∀ y:ak S0,y.w.cell? ⟨w.heap.size,0,none⟩=some (.int .i64 kind):=fun y=>(((hS0 _).1 y.h).cellAt hl1 _).trans hA1.c0;have a1:∀ y:ak S0,y.w.cell? ⟨w.heap.size,1,none⟩=some (.int .i64 one):=fun y=>(((hS0 _).1 y.h).cellAt hl1 _).trans hA1.c1;have a2:∀ y:ak S0,y.w.cell? ⟨w.heap.size,2,none⟩=some (.int .i64 two):=fun y=>(((hS0 _).1 y.h).cellAt hl1 _).trans hA1.c2;have a3:∀ y:ak S0,y.w.cell? ⟨w.heap.size,3,none⟩=some (.string body):=fun y=>(((hS0 _).1 y.h).cellAt hl1 _).trans hA1.c3;have au:=(hS0 W0).2 hs0;have hne:Nonempty (ak S0):=⟨⟨_,au⟩⟩;have dH:=aI w;obtain ⟨WA,hWA⟩:∃ y,W0.alloc (.cells #[.slice none 0 0,.slice none 0 0,.slice none 0 0] 26)=y:=⟨_,rfl⟩;have hsA:=ay hWA;have hNA:aD WA W0.heap.size:=by rw [<-hWA];exact aD.new W0 _
 have Ht:=Cn ⟨ga,gl,gc,na,nl,nc,wa,wl,wc⟩ s.d ⟨kind,one,two,body⟩ W0 (SA.since hs0);have Hu:=Cn ⟨ga,gl,gc,na,nl,nc,wa,wl,wc⟩ s.d ⟨kind,one,two,body⟩ WA (SA.since (hs0.trans hsA));unfold acV at Ht Hu;dsimp only at Ht Hu;rw [hr] at Ht Hu;refine aK (fun w'=>∃ x:ak S0,w'=x.w) (by kernel_rfl) ?_;rw [hW0];clear hW0;refine tW 0 rfl ?_;go_big_quiet_op;refine tW 1 rfl ?_;go_big_quiet_op;refine tW 2 rfl ?_;go_big_quiet_op;refine tM 3 rfl (aj au) ?_;go_big_quiet_op;refine tM 4 rfl (aj au) ?_;go_big_quiet_op
 cases r with
 | error er =>
  have her:(er != 0)=true:=by simpa using JA hr
  have HST:Hid (bT s ⟨kind,one,two,body⟩=s):=Mr hr;clear hr;refine rP 5 9 rfl rfl (by kernel_rfl) ?e1 ?e2
  case' e1 =>
   intro K hK;go_simp;refine Ht.mono ?_;rintro e wC hR3;obtain ⟨rfl,hS3⟩:=hR3.out.1 er rfl;dsimp only;have hsC:=hs0.trans hS3;refine hK _ _ (fun h=>absurd h (by decide +kernel)) ?_;clear hK K;refine tW 6 rfl ?_;go_big_quiet_op;refine tW 7 rfl ?_;go_big_quiet_op;refine tW 8 rfl ?_;go_big_quiet_op;refine aR 9 rfl (by kernel_rfl) ?_;intro K hK;go_simp;refine hK _ _ (fun _ _=>aj ((hS0 _).2 (hsC.alloc _))) ?_;clear hK K;refine aR 10 rfl (by kernel_rfl) ?_;intro K hK;go_simp;refine hK _ _ (fun h=>absurd h (by decide +kernel)) ?_;clear hK K;refine tW 11 rfl ?_;go_big_quiet_op;refine bH (by kernel_rfl) ?_;have hsF:Since w1 (wC.alloc (.cells #[.slice none 0 0,.slice none 0 0,.slice none 0 0] 26)):=hsC.alloc _
  case' e2 =>
   intro K hK;go_simp;refine hK _ _ (fun _ _=>aj ((hS0 _).2 (hs0.trans hsA))) ?_;clear hK K;refine aR 5 rfl (by kernel_rfl) ?_;intro K hK;go_simp;refine Hu.mono ?_;rintro e wC hR3;obtain ⟨rfl,hS3⟩:=hR3.out.1 er rfl;dsimp only;have hsC:=(hs0.trans hsA).trans hS3;refine hK _ _ (fun h=>absurd h (by decide +kernel)) ?_;clear hK K;refine tW 6 rfl ?_;go_big_quiet_op;refine tW 7 rfl ?_;go_big_quiet_op;refine tW 8 rfl ?_;go_big_quiet_op;obtain ⟨lt,r0,r1,r2,r3,r4,r5⟩:=hNA.since hS3;refine aR 10 rfl (by kernel_rfl) ?_;intro K hK;go_simp;refine hK _ _ (fun h=>absurd h (by decide +kernel)) ?_;clear hK K;refine tW 11 rfl ?_;go_big_quiet_op;refine bH (by kernel_rfl) ?_;have hsF:=aM (w:=w1) (p:=W0.heap.size) hs0.size hsC
  all_goals
   clear c0 c1 c2 a0 a1 a2 a3 hne;have zF:=(show Hid _ from hR1.since hsF)
   go_wp2
   refine bodyPost_ret (results_none rfl _ _ _) rfl ?_;rw [HST.out];exact ⟨rfl,_,M,zF.out,HRP.out,rfl,rfl,.inl rfl,(hS1.trans hsF).fr _⟩
 | ok d' =>
  have hkd:=Dj hr h4.out;have HS1:Hid (kind=1\/kind=2->∃ n:Nat,one=(n:Int)/\n < s.d.nodes.length/\d'.nodes.length=s.d.nodes.length/\eB d' ⟨kind,one,two,body⟩∉s.sent/\bT s ⟨kind,one,two,body⟩=mq s d' n (eB d' ⟨kind,one,two,body⟩)):=fun hk=>zn I.out hr hk;have HS3:Hid (kind=3->∃ (f t:Nat) (m:Mg) (rest:List Mg),one=(f:Int)/\two=(t:Int)/\f < s.d.nodes.length/\t < s.d.nodes.length/\Right s.d/\d'.nodes.length=s.d.nodes.length/\aA s.d f t=m::rest/\m∈s.sent/\bT s ⟨kind,one,two,body⟩=rQ s d' t m):=fun hk=>zG I.out hr hk;clear hr h4;refine rP 5 9 rfl rfl (by kernel_rfl) ?o1 ?o2
  case' o1 =>
   intro K hK;go_simp;refine Ht.mono ?_;rintro e wC hR3;obtain ⟨L',rfl,hO,hS3⟩:=hR3.out.2 d' rfl;simp only [aS];have hsC:=hs0.trans hS3;refine hK _ _ (fun h=>absurd h (by decide +kernel)) ?_;clear hK K;refine tW 6 rfl ?_;go_big_quiet_op;refine tW 7 rfl ?_;go_big_quiet_op;refine tW 8 rfl ?_;go_big_quiet_op;refine aR 9 rfl (by kernel_rfl) ?_;intro K hK;go_simp;refine hK _ _ (fun _ _=>aj ((hS0 _).2 (hsC.alloc _))) ?_;clear hK K;obtain ⟨WF,hWF⟩:∃ y,wC.alloc (.cells #[.slice (L' (0,0,0)).a d'.groups.length (L' (0,0,0)).cap,.slice (L' (1,0,0)).a d'.nodes.length (L' (1,0,0)).cap,.slice (L' (2,0,0)).a d'.wires.length (L' (2,0,0)).cap] 26)=y:=⟨_,rfl⟩;have QI:=ay hWF;have q0:WF.cell? ⟨wC.heap.size,0,none⟩=some (.slice (L' (0,0,0)).a d'.groups.length (L' (0,0,0)).cap):=by rw [<-hWF];simp [go_sem]
   have q1:WF.cell? ⟨wC.heap.size,1,none⟩=some (.slice (L' (1,0,0)).a d'.nodes.length (L' (1,0,0)).cap):=by rw [<-hWF];simp [go_sem]
   have q2:WF.cell? ⟨wC.heap.size,2,none⟩=some (.slice (L' (2,0,0)).a d'.wires.length (L' (2,0,0)).cap):=by rw [<-hWF];simp [go_sem]
   have qlt:wC.heap.size < WF.heap.size:=by rw [<-hWF];simp
   have qge:w1.heap.size<=wC.heap.size:=hsC.size;have hsF:=hsC.trans QI;have hOF:=hO.since QI;refine aR 10 rfl (by kernel_rfl) ?_;intro K hK;go_simp;refine hK _ _ (fun h=>absurd h (by decide +kernel)) ?_;clear hK K;refine tW 11 rfl ?_;go_big_quiet_op;refine bH (by kernel_rfl) ?_;obtain ⟨qb,hqb⟩:∃ y,wC.heap.size=y:=⟨_,rfl⟩;rw [hqb] at q0 q1 q2 qlt qge ⊢;clear hqb hO hR3 hS3 hsC hWF QI Ht Hu hNA hsA hWA
  case' o2 =>
   intro K hK;go_simp;refine hK _ _ (fun _ _=>aj ((hS0 _).2 (hs0.trans hsA))) ?_;clear hK K;refine aR 5 rfl (by kernel_rfl) ?_;intro K hK;go_simp;refine Hu.mono ?_;rintro e wC hR3;obtain ⟨L',rfl,hO,hS3⟩:=hR3.out.2 d' rfl;simp only [aS];have hsC:=(hs0.trans hsA).trans hS3;refine hK _ _ (fun h=>absurd h (by decide +kernel)) ?_;clear hK K;refine tW 6 rfl ?_;go_big_quiet_op;refine tW 7 rfl ?_;go_big_quiet_op;refine tW 8 rfl ?_;go_big_quiet_op;have hNC:=hNA.since hS3;obtain ⟨hOF,QJ⟩:=hO.result (w0:=W0) (p:=W0.heap.size) hNA.lt (Nat.le_refl _) (hsA.trans hS3) hsA.size;have hbx:=OG (d:=d') (L:=L') hNC;obtain ⟨lt,r0,r1,r2,r3,r4,r5⟩:=hNC;obtain ⟨WF,hWF⟩:∃ y,((wC.setCell ⟨W0.heap.size,0,none⟩ (.slice (L' (0,0,0)).a d'.groups.length (L' (0,0,0)).cap)).setCell ⟨W0.heap.size,1,none⟩ (.slice (L' (1,0,0)).a d'.nodes.length (L' (1,0,0)).cap)).setCell ⟨W0.heap.size,2,none⟩ (.slice (L' (2,0,0)).a d'.wires.length (L' (2,0,0)).cap)=y:=⟨_,rfl⟩;rw [hWF] at hOF QJ hbx;obtain ⟨qlt,q0,q1,q2,_,_,_⟩:=hbx;have hsF:=hs0.trans QJ;have qge:w1.heap.size<=W0.heap.size:=hs0.size;refine aR 10 rfl (by kernel_rfl) ?_;intro K hK;go_simp;refine hK _ _ (fun h=>absurd h (by decide +kernel)) ?_;clear hK K;refine tW 11 rfl ?_;go_big_quiet_op;refine bH (by kernel_rfl) ?_;obtain ⟨qb,hqb⟩:∃ y,W0.heap.size=y:=⟨_,rfl⟩;have hOF:=hOF.mono (Nat.le_refl _);rw [hqb] at q0 q1 q2 qlt qge ⊢;clear hqb hO hR3 hS3 hsC hWF QJ lt r0 r1 r2 r3 r4 r5 Ht Hu hNA hsA hWA
  all_goals
   have hPL:=HPL.out;clear c0 c1 c2 a0 a1 a2 a3 hne au hS0 HPL;obtain ⟨v,hv⟩:∃ y,fV L' d'=y:=⟨_,rfl⟩;have q0:WF.cell? ⟨qb,0,none⟩=some (.slice v.ga v.gl v.gc):=by rw [<-hv];exact q0
   have q1:WF.cell? ⟨qb,1,none⟩=some (.slice v.na v.nl v.nc):=by rw [<-hv];exact q1
   have q2:WF.cell? ⟨qb,2,none⟩=some (.slice v.wa v.wl v.wc):=by rw [<-hv];exact q2
   have hRF:=hR1.since hsF;have b0:=hRF.c0;have b1:=hRF.c1;have b2:=hRF.c2;dsimp only at b0 b1 b2;obtain ⟨WG,hWG⟩:∃ y,WF.alloc (.cells #[.slice ga gl gc,.slice na nl nc,.slice wa wl wc] 26)=y:=⟨_,rfl⟩;have hsG:=ay hWG;have hlG:WF.heap.size < WG.heap.size:=by rw [<-hWG];simp
   have p2:WG.cell? ⟨WF.heap.size,2,none⟩=some (.slice wa wl wc):=by rw [<-hWG];simp [go_sem]
   have hRG:=hRF.since hsG;have g0:=(hsG.cellAt qlt 0).trans q0;have g1:=(hsG.cellAt qlt 1).trans q1;have g2:=(hsG.cellAt qlt 2).trans q2;have e0:=hRG.c0;have e1:=hRG.c1;have e2:=hRG.c2;dsimp only at e0 e1 e2;have z0:=hRG.z 0 (by decide);have z1:=hRG.z 1 (by decide);have z2:=hRG.z 2 (by decide);obtain ⟨WH,hWH⟩:∃ y,y8 WG B (.slice v.ga v.gl v.gc) (.slice v.na v.nl v.nc) (.slice v.wa v.wl v.wc)=y:=⟨_,rfl⟩;have WW:((WG.setCell ⟨B,0,none⟩ (.slice v.ga v.gl v.gc)).setCell ⟨B,1,none⟩ (.slice v.na v.nl v.nc)).setCell ⟨B,2,none⟩ (.slice v.wa v.wl v.wc)=WH:=hWH
   have hRH:=hRG.world (v:=v) (d':=d') (fun W'' hF=>by
    have hOG:=hOF.since hsG
    have:=(hOG.fr hF (fun b hb hsb=>by
     rcases hsb with hsb | hsb
     ·have h1:=(hOG.blk hb).1;have h2:=HSH.out b hsb;have h3:=hs0.size;omega
     ·obtain ⟨ix,hix,hbx⟩:=hb;obtain ⟨o,ho,hk⟩:=lS (hOG.row ix hix) (OD ix) hbx;rw [hsb.2 o ho] at hk;cases hk)).wat
    rw [hv] at this;exact this) hWH
   have kGH:Fr (fun i=>i=B) WG WH:=by rw [<-hWH];exact dN _ _ _ _ _
   have kH:Fr (fun i=>i=B) w WH:=((hS1.trans (hsF.trans hsG)).fr fun _=>False).trans kGH (fun _ _ f=>f.elim) (fun _ _ f=>f);have hFH:Fr (SW B M) w WH:=kH.mono (fun i _ e=>.inl e);have Ms:=HWT.out WH (kH.mono (fun i _ e=>.inl (.inl e)));have hlH:w.heap.size < WH.heap.size:=zQ4 (zQ4 hl1 (hsF.trans hsG).size) kGH.size;have kA:∀ o,WH.cell? ⟨w.heap.size,o,none⟩=w1.cell? ⟨w.heap.size,o,none⟩:=fun o=>(kGH.cell (p:=⟨w.heap.size,o,none⟩) (zQ4 hl1 (hsF.trans hsG).size) (fun e=>by have e':w.heap.size=B:=e;omega)).trans ((hsF.trans hsG).cellAt hl1 o);have a0:=(kA 0).trans hA1.c0;have a1:=(kA 1).trans hA1.c1;have a2:=(kA 2).trans hA1.c2;have a3:=(kA 3).trans hA1.c3;dsimp only at a0 a1 a2 a3;have p2H:WH.cell? ⟨WF.heap.size,2,none⟩=some (.slice wa wl wc):=(kGH.cell (p:=⟨WF.heap.size,2,none⟩) hlG (fun e=>by have e':WF.heap.size=B:=e;have:=hsF.size;omega)).trans p2;have U9:WF.heap.size < WH.heap.size:=zQ4 hlG kGH.size;clear hRF hRG hWH hOF hv q0 q1 q2 qlt qge kA hs0 hsG kGH kH p2 HWT HSH;rcases hkd with rfl | rfl | rfl
   ·
    obtain ⟨n,rfl,hn0,hlen,hno,hst⟩:=HS1.out (by simp);obtain ⟨nd,hnd⟩:∃ y,d'.nodes[n]? = some y:=⟨_,zQ1 (by omega)⟩;obtain ⟨p,hp⟩:∃ y,M.ps[n]? = some y:=⟨_,zQ1 (by omega)⟩
    have hsm:eB d' ⟨1,n,two,body⟩=stamped ⟨n,two,0,false,body⟩ nd.clock:=by
     unfold eB stamped;have:aJ d' (n:Int).toNat=nd.clock:=by rw [Int.toNat_natCast];unfold aJ;rw [hnd]
     dsimp only;rw [this];simp
    rw [hsm] at hno hst;have hSd:=EO lo B n v d' M ⟨n,two,0,false,body⟩ nd p WH hRH rfl hp hnd HKN.out (by rw [HRP.out.keys];exact hno) HLN.out;dsimp only at hSd
    have zF:Hid (∀ (M':SM) (q:Nat) (w':World),fT lo w' B v d' M'->M'.sent=M.sent++[stamped ⟨n,two,0,false,body⟩ nd.clock]->M'.ks=M.ks++[(stamped ⟨n,two,0,false,body⟩ nd.clock,q)]->M'.ps=M.ps->q∉M.sets->(∀ y,y∈M'.cont q↔y∈M.cont p)->(∀ y,y∈M'.cont p↔y∈M.cont p\/y=stamped ⟨n,two,0,false,body⟩ nd.clock)->(∀ i,i∈M.sets->i≠p->M'.cont i=M.cont i)->M'.ra=M.ra->(M'.sl=M.sl\/∃ b,M'.sl.blk=some b/\WH.heap.size<=b)->Fr (SW B M) WH w'->∃ x' M',fT lo w' B x' (bT s ⟨1,n,two,body⟩).d M'/\wL (bT s ⟨1,n,two,body⟩) M'/\M'.ps=M.ps/\M'.ra=M.ra/\(M'.sl=M.sl\/∃ b,M'.sl.blk=some b/\w.heap.size<=b)/\Fr (SW B M) w w'):=by
     intro M' q w' h1 h2 h3 h4 h5 h6 h7 h8 h9 h10 h11;rw [hst];exact ⟨v,M',h1,EP HRP.out QH.out hp hno h2 h3 h4 h5 h6 h7 h8,h4,h9,h10.imp (fun e=>e) (fun ⟨b,e,hb⟩=>⟨b,e,zQ5 hFH.size hb⟩),hFH.trans h11 (fun _ _ f=>f) (fun i hi f=>f)⟩
    clear hsm hno hst hnd hp hRH HS1 HS3 hn0 hlen
    go_wp2_with (go_at_call 177;refine hSd.mono ?_;rintro e w' ⟨rfl,M',q,h1,h2,h3,h4,h5,h6,h7,h8,h9,h10,h11⟩)
    go_end0
    exact ⟨rfl,zF.out M' q w' h1 h2 h3 h4 h5 h6 h7 h8 h9 h10 h11⟩
   ·
    obtain ⟨n,rfl,hn0,hlen,hno,hst⟩:=HS1.out (by simp);obtain ⟨nd,hnd⟩:∃ y,d'.nodes[n]? = some y:=⟨_,zQ1 (by omega)⟩;obtain ⟨p,hp⟩:∃ y,M.ps[n]? = some y:=⟨_,zQ1 (by omega)⟩
    have hsm:eB d' ⟨2,n,two,body⟩=stamped ⟨n,two,0,true,ByteArray.empty⟩ nd.clock:=by
     unfold eB stamped;have:aJ d' (n:Int).toNat=nd.clock:=by rw [Int.toNat_natCast];unfold aJ;rw [hnd]
     dsimp only;rw [this];simp
    rw [hsm] at hno hst;have hSd:=EO lo B n v d' M ⟨n,two,0,true,ByteArray.empty⟩ nd p WH hRH rfl hp hnd HKN.out (by rw [HRP.out.keys];exact hno) HLN.out;dsimp only at hSd
    have zF:Hid (∀ (M':SM) (q:Nat) (w':World),fT lo w' B v d' M'->M'.sent=M.sent++[stamped ⟨n,two,0,true,ByteArray.empty⟩ nd.clock]->M'.ks=M.ks++[(stamped ⟨n,two,0,true,ByteArray.empty⟩ nd.clock,q)]->M'.ps=M.ps->q∉M.sets->(∀ y,y∈M'.cont q↔y∈M.cont p)->(∀ y,y∈M'.cont p↔y∈M.cont p\/y=stamped ⟨n,two,0,true,ByteArray.empty⟩ nd.clock)->(∀ i,i∈M.sets->i≠p->M'.cont i=M.cont i)->M'.ra=M.ra->(M'.sl=M.sl\/∃ b,M'.sl.blk=some b/\WH.heap.size<=b)->Fr (SW B M) WH w'->∃ x' M',fT lo w' B x' (bT s ⟨2,n,two,body⟩).d M'/\wL (bT s ⟨2,n,two,body⟩) M'/\M'.ps=M.ps/\M'.ra=M.ra/\(M'.sl=M.sl\/∃ b,M'.sl.blk=some b/\w.heap.size<=b)/\Fr (SW B M) w w'):=by
     intro M' q w' h1 h2 h3 h4 h5 h6 h7 h8 h9 h10 h11;rw [hst];exact ⟨v,M',h1,EP HRP.out QH.out hp hno h2 h3 h4 h5 h6 h7 h8,h4,h9,h10.imp (fun e=>e) (fun ⟨b,e,hb⟩=>⟨b,e,zQ5 hFH.size hb⟩),hFH.trans h11 (fun _ _ f=>f) (fun i hi f=>f)⟩
    clear hsm hno hst hnd hp hRH HS1 HS3 hn0 hlen
    go_wp2_with (go_at_call 177;refine hSd.mono ?_;rintro e w' ⟨rfl,M',q,h1,h2,h3,h4,h5,h6,h7,h8,h9,h10,h11⟩)
    go_end0
    exact ⟨rfl,zF.out M' q w' h1 h2 h3 h4 h5 h6 h7 h8 h9 h10 h11⟩
   ·obtain ⟨f,t,m,rest,rfl,rfl,hf,ht,Hw,hlen,Co,hms,hst⟩:=HS3.out rfl;obtain ⟨p,hp⟩:∃ y,M.ps[t]? = some y:=⟨_,zQ1 (by omega)⟩
    obtain ⟨r,hmr⟩:∃ r,(m,r)∈M.ks:=by
     rw [<-HRP.out.keys] at hms;obtain ⟨⟨m',r⟩,h1,h2⟩:=List.mem_map.1 hms;exact ⟨r,by rw [<-h2];exact h1⟩
    have hwl:=Ms.r.hlen;dsimp only at hwl;subst hwl;have hfl:f < s.d.wires.length:=by rw [Hw.uF];exact hf
    obtain ⟨row,hrow,hrl⟩:=row_of Hw.rows hf;obtain ⟨lst,Mt,hwl⟩:=JB hfl hrow (b:=t) (by omega);rw [Co] at hwl;subst hwl;obtain ⟨bw,ow,e,hbw,hcw⟩:=Ms.r.cells (by dsimp only;omega);dsimp only at e;subst e;obtain ⟨v1,x1,ra,rc,rfl,hrc,hRr⟩:=hcw f row hrow;obtain ⟨br,orr,e,hbr,hcr⟩:=hRr.cells (by omega);subst e;obtain ⟨v2,x2,la,lc,rfl,hlc,hMl⟩:=hcr t _ Mt;obtain ⟨bm,om,e,hbm,hcm⟩:=hMl.cells (by simp);subst e;have hmA:=bP hcm 0 m rfl;simp only [Nat.zero_mul,Nat.add_zero] at hmA;have i1:(f:Int) < (s.d.wires.length:Int):=by omega
    have i2:(t:Int) < (row.length:Int):=by omega
    have i3:(0:Int) < ((rest.length+1:Nat):Int):=by omega
    have HX:Hid (bT s ⟨3,f,t,body⟩=rQ s d' t m):=hst;clear hst hms Co Hw hrow Mt hcw hcr hcm Ms hRr hMl HS1 HS3
    go_wp2_with fail
    obtain ⟨W8,hW0⟩:∃ y,WH.drew=y:=⟨_,rfl⟩;have hs8:=aQ hW0;obtain ⟨S8,hS8⟩:∃ S0:World->Prop,∀ w',S0 w'↔Since WH w':=⟨_,fun _=>Iff.rfl⟩;have y1:∀ y:ak S8,y.w.cell? ⟨w.heap.size,1,none⟩=some (.int .i64 f):=fun y=>(((hS8 _).1 y.h).cellAt hlH _).trans a1;have y2:∀ y:ak S8,y.w.cell? ⟨w.heap.size,2,none⟩=some (.int .i64 t):=fun y=>(((hS8 _).1 y.h).cellAt hlH _).trans a2;have y3:∀ y:ak S8,y.w.cell? ⟨WF.heap.size,2,none⟩=some (.slice (some ⟨bw,ow,none⟩) s.d.wires.length wc):=fun y=>(((hS8 _).1 y.h).cellAt U9 _).trans p2H;have y4:∀ y:ak S8,y.w.cell? ⟨bw,ow+f,none⟩=some (.slice (some ⟨br,orr,none⟩) row.length rc):=fun y=>(((hS8 _).1 y.h).cellAt hbw _).trans x1;have y5:∀ y:ak S8,y.w.cell? ⟨br,orr+t,none⟩=some (.slice (some ⟨bm,om,none⟩) (rest.length+1) lc):=fun y=>(((hS8 _).1 y.h).cellAt hbr _).trans x2;have m0:∀ y:ak S8,y.w.cell? ⟨bm,om,none⟩=some (.int .i64 m.fr):=fun y=>(((hS8 _).1 y.h).cellAt hbm _).trans hmA.c0;have m1:∀ y:ak S8,y.w.cell? ⟨bm,om+1,none⟩=some (.int .i64 m.gr):=fun y=>(((hS8 _).1 y.h).cellAt hbm _).trans hmA.c1;have m2:∀ y:ak S8,y.w.cell? ⟨bm,om+2,none⟩=some (.int .i64 m.st):=fun y=>(((hS8 _).1 y.h).cellAt hbm _).trans hmA.c2;have m3:∀ y:ak S8,y.w.cell? ⟨bm,om+3,none⟩=some (.bool m.nul):=fun y=>(((hS8 _).1 y.h).cellAt hbm _).trans hmA.c3;have m4:∀ y:ak S8,y.w.cell? ⟨bm,om+4,none⟩=some (.string m.body):=fun y=>(((hS8 _).1 y.h).cellAt hbm _).trans hmA.c4;have fE:=(hS8 W8).2 hs8;have hne:Nonempty (ak S8):=⟨⟨_,fE⟩⟩;have hLn:=Cq lo B t v d' M m p r W8 (hRH.since hs8) hp hmr HKN.out
    have zF:Hid (∀ (A':List Mg) (w':World),(∀ y,y∈A'↔(y∈M.cont p\/y∈M.cont r)\/y=m)->fT lo w' B v d' { M with cont:=fun i=>if i=p then A' else M.cont i }->Fr (fun i=>i=p) W8 w'->∃ x' M',fT lo w' B x' (bT s ⟨3,f,t,body⟩).d M'/\wL (bT s ⟨3,f,t,body⟩) M'/\M'.ps=M.ps/\M'.ra=M.ra/\(M'.sl=M.sl\/∃ b,M'.sl.blk=some b/\w.heap.size<=b)/\Fr (SW B M) w w'):=by
     intro A' w' h1 h2 h3;rw [HX.out];exact ⟨v,_,h2,Ku HRP.out QH.out hp hmr h1,rfl,rfl,.inl rfl,(hFH.trans (hs8.fr fun _=>False) (fun _ _ f=>f) (fun _ _ f=>f.elim)).trans h3 (fun _ _ f=>f) (fun i hi f=>f ▸ .inr (.inr (.inr (List.mem_of_getElem? hp))))⟩
    clear HX hp hmr hRH a0 a1 a2 a3 p2H x1 x2 hmA;refine aK (fun w'=>∃ x:ak S8,w'=x.w) (by kernel_rfl) ?_;rw [hW0];clear hW0;refine tW 0 rfl ?_;go_big_quiet_op;refine tW 1 rfl ?_;go_big_quiet_op;refine tM 2 rfl (aj fE) ?_;go_big_quiet_op;refine tW 3 rfl ?_;go_big_quiet_op;refine tM 4 rfl (aj fE) ?_;go_big_quiet_op;refine tW 5 rfl ?_;go_big_quiet_op;refine tM 6 rfl (aj fE) ?_;go_big_quiet_op;refine tW 7 rfl ?_;go_big_quiet_op;refine tM 8 rfl (aj fE) ?_;go_big_quiet_op;refine tW 9 rfl ?_;go_big_quiet_op;refine tM 10 rfl (aj fE) ?_;go_big_quiet_op;refine tW 11 rfl ?_;go_big_quiet_op;refine tM 12 rfl (aj fE) ?_;go_big_quiet_op;refine tW 13 rfl ?_;go_big_quiet_op;refine tM 14 rfl (aj fE) ?_;go_big_quiet_op;refine aR 15 rfl (by kernel_rfl) ?_;intro K hK;go_simp;refine hLn.mono ?_;rintro e w' ⟨rfl,A',h1,h2,h3⟩;dsimp only;refine hK _ _ (fun h=>absurd h (by decide +kernel)) ?_;clear hK K;refine bH (by kernel_rfl) ?_;clear y1 y2 y3 y4 y5 m0 m1 m2 m3 m4 hne fE hS8
    go_wp2
    go_end0
    exact ⟨rfl,zF.out A' w' h1 h2 h3⟩
end Go.Proofs.YtiiifecfdkjmbaaGreat
