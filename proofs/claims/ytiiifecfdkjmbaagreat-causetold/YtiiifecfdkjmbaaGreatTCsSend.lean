/- Lemmas. -/
import Derived.Test.YtiiifecfdkjmbaaGreatTCsAttend
set_option maxHeartbeats 4000000
namespace Go.Proofs.YtiiifecfdkjmbaaGreat
open _root_.Go.Proofs.Tryz hiding checked
set_option maxRecDepth 8000
open Go.RowKit Go.Shelf
open Pu
set_option linter.unusedVariables false
set_option linter.unusedSimpArgs false
def SW (B:Nat) (M:SM) (i:Nat):Prop:=i=B\/i=M.ra\/M.sl.blk=some i\/i∈M.ps
def stamped (m:Mg) (c:Int):Mg:={ m with st:=c }
theorem kV.put {w:World} {b:Nat} {m:Mg} (h:kV w b m) (c:Int):kV (w.setCell ⟨b,2,none⟩ (.int .i64 c)) b (stamped m c):=by
 refine ⟨by simpa using h.lt,⟨(bB w b (.int .i64 c) (by decide)).trans h.at0.c0,(bB w b (.int .i64 c) (by decide)).trans h.at0.c1,jD w b 2 (.int .i64 c) h.at0.c2,(bB w b (.int .i64 c) (by decide)).trans h.at0.c3,(bB w b (.int .i64 c) (by decide)).trans h.at0.c4⟩⟩
theorem BQ (lo B n:Nat) (x:WV) (d:Wd) (M:SM) (m:Mg) (nd:Nd) (p:Nat) (w:World) (h:d9 lo w B x d M) (hfr:m.fr=(n:Int)) (hn:M.ps[n]? = some p) (hnd:d.nodes[n]? = some nd) (hk:(M.ks.map Prod.fst).Nodup) (hnew:stamped m nd.clock∉M.ks.map Prod.fst) (hsl:M.sent.length<=1000) :
  Calls prog 177 #[.pointer (some ⟨B,0,none⟩),.agg #[.int .i64 m.fr,.int .i64 m.gr,.int .i64 m.st,.bool m.nul,.string m.body]] w fun e w'=>e=.returned (.tuple #[])/\∃ (M':SM) (q:Nat),d9 lo w' B x d M'/\M'.sent=M.sent++[stamped m nd.clock]/\M'.ks=M.ks++[(stamped m nd.clock,q)]/\M'.ps=M.ps/\q∉M.sets/\(∀ y,y∈M'.cont q↔y∈M.cont p)/\(∀ y,y∈M'.cont p↔y∈M.cont p\/y=stamped m nd.clock)/\(∀ i,i∈M.sets->i≠p->M'.cont i=M.cont i)/\M'.ra=M.ra/\(M'.sl=M.sl\/∃ b,M'.sl.blk=some b/\w.heap.size<=b)/\Fr (SW B M) w w':=by
 obtain ⟨fr,gr,st,nul,body⟩:=m
 dsimp only at hfr
 subst hfr
 have hnl:=(zQ2.1 hn).1
 have hcap:=h.pow.cap
 obtain ⟨pb,po,hpa,_,hpb,hpc,hpx⟩:=h.pow.body (by omega)
 have hpS:p∈M.sets:=List.mem_append.2 (.inr (List.mem_of_getElem? hn))
 have HPA:Hid (M.pl.a=some ⟨pb,po,none⟩):=hpa
 have HPN:Hid (∀ y,Row y lo 1 M.pl M.ps.length (M.ps.map fun p=>.map (some p))->y.cell? ⟨pb,po+n,none⟩=some (.map (some p))):=fun y hy=>by
  obtain ⟨b',o',e',_,_,_,hx'⟩:=hy.body (by omega)
  rw [hpa] at e'
  injection e' with e'
  injection e' with e1 e2 _
  subst e1 e2
  exact hx' n _ (by rw [List.getElem?_map,hn];rfl)
 have n1:(n:Int) < (M.ps.length:Int):=by omega
 obtain ⟨ga,gl,gc,na,nl,nc,wa,wl,wc⟩:=x
 have RA:=(zQ2.1 hnd).1
 have hlen:=h.wAt.n.hlen
 dsimp only at hlen
 obtain ⟨bn,on,e,hbn,hcn⟩:=h.wAt.n.cells (by dsimp only;omega)
 dsimp only at e
 subst e
 have HND:Hid (∀ y d0,d0=d->WAt y ⟨ga,gl,gc,some ⟨bn,on,none⟩,nl,nc,wa,wl,wc⟩ d0->y.cell? ⟨bn,on+n*4,none⟩=some (.int .i64 nd.clock)):=fun y d0 hd hy=>by
  subst hd
  obtain ⟨b',o',e',_,hc'⟩:=hy.n.cells (by dsimp only;omega)
  dsimp only at e'
  injection e' with e'
  injection e' with e1 e2 _
  subst e1 e2
  exact (hc' n nd hnd).clk
 have n2:(n:Int) < (nl:Int):=by omega
 obtain ⟨w1,hw1⟩:∃ y,w.alloc (.cells #[.int .i64 n,.int .i64 gr,.int .i64 st,.bool nul,.string body] 42)=y:=⟨_,rfl⟩
 have hM1:kV w1 w.heap.size ⟨n,gr,st,nul,body⟩:=by rw [<-hw1];exact kV.new w _ ⟨n,gr,st,nul,body⟩
 have hZ1:w1.frozen? ⟨w.heap.size,2,none⟩=false:=by rw [<-hw1];simp [go_sem]
 have hS1:=ay hw1
 have hR1:=h.since hS1
 have hsm:Hid (Mg.mk n gr nd.clock nul body=stamped ⟨n,gr,st,nul,body⟩ nd.clock):=rfl
 have HSB:Hid (∀ i,SB B M i->i < w.heap.size):=fun i hi=>(h.blk hi).2
 have HNO:Hid (¬ SB B M w.heap.size):=fun hc=>by have:=(h.blk hc).2;omega
 clear hpa hpx hpc hcap hnl hcn hlen
 go_enter func177,ntmps177
 go_wp2_with fail
 clear hw1
 obtain ⟨W0,hW0⟩:∃ y,w1.drew=y:=⟨_,rfl⟩
 have hs0:=aO hW0
 obtain ⟨S0,hS0⟩:∃ S0:World->Prop,∀ w',S0 w'↔Since w1 w':=⟨_,fun _=>Iff.rfl⟩
 have c1:∀ y:aj S0,y.w.cell? ⟨B,1,none⟩=some (.slice (some ⟨bn,on,none⟩) nl nc):=fun y=>(hR1.since ((hS0 _).1 y.h)).c1
 have cn:∀ y:aj S0,y.w.cell? ⟨bn,on+n*4,none⟩=some (.int .i64 nd.clock):=fun y=>HND.out _ _ rfl (hR1.since ((hS0 _).1 y.h)).wAt
 have m0:∀ y:aj S0,y.w.cell? ⟨w.heap.size,0,none⟩=some (.int .i64 n):=fun y=>(hM1.since ((hS0 _).1 y.h)).c0
 have ak:=(hS0 W0).2 hs0
 have hne:Nonempty (aj S0):=⟨⟨_,ak⟩⟩
 have bS:=aH w
 have m2:=(hM1.since hs0).c2
 rw [Nat.zero_add] at m2
 have z2:W0.frozen? ⟨w.heap.size,2,none⟩=false:=(hs0.below.frozen (p:=⟨w.heap.size,2,none⟩) hM1.lt).trans hZ1
 obtain ⟨w2,hw2⟩:∃ y,W0.setCell ⟨w.heap.size,2,none⟩ (.int .i64 nd.clock)=y:=⟨_,rfl⟩
 have hM2:kV w2 w.heap.size ⟨n,gr,nd.clock,nul,body⟩:=by rw [<-hw2];exact (hM1.fr (hs0.fr fun _=>False) (fun f=>f)).put nd.clock
 have hS2:Since w w2:=by rw [<-hw2];exact ((hS1.trans hs0).fr (fun i=>i=w.heap.size)).trans (show Fr (fun i=>i=w.heap.size) W0 _ from (Fr.refl _ _).setCell ⟨w.heap.size,2,none⟩ _ (fun _=>rfl)) (fun _ _ f=>f) (fun _ _ f=>f) |>.since (fun i hi e=>by omega)
 have hR2:=h.since hS2
 clear hR1 hZ1 h
 refine aI (fun w'=>∃ x:aj S0,w'=x.w) (by kernel_rfl) ?_
 rw [hW0]
 clear hW0
 refine tW 0 rfl ?_;go_big_quiet_op
 refine tW 1 rfl ?_;go_big_quiet_op
 refine tW 2 rfl ?_;go_big_quiet_op
 refine tW 3 rfl ?_;go_big_quiet_op
 refine tM 4 rfl (ah ak) ?_;go_big_quiet_op
 refine tW 5 rfl ?_;go_big_quiet_op
 refine tM 6 rfl (ah ak) ?_;go_big_quiet_op
 refine tW 7 rfl ?_;go_big_quiet_op
 refine tW 8 rfl ?_;go_big_quiet_op
 refine tM 9 rfl (ah ak) ?_;go_big_quiet_op
 refine tW 10 rfl ?_;go_big_quiet_op
 refine aK 11 rfl (by kernel_rfl) ?_
 intro K hK
 go_simp
 refine hK _ _ (fun h=>absurd h (by decide +kernel)) ?_
 clear hK K
 refine aW (by kernel_rfl) ?_
 clear c1 cn m0 hne ak hS0 m2 z2 hM1 hs0 hw2 hS1
 obtain ⟨W4,hW0⟩:∃ y,w2.drew=y:=⟨_,rfl⟩
 have hs4:=aO hW0
 obtain ⟨S4,hS4⟩:∃ S0:World->Prop,∀ w',S0 w'↔Since w2 w':=⟨_,fun _=>Iff.rfl⟩
 have c3:∀ y:aj S4,y.w.cell? ⟨B,3,none⟩=some (.slice M.sl.a M.sent.length M.sl.cap):=fun y=>(hR2.since ((hS4 _).1 y.h)).c3
 have m0:∀ y:aj S4,y.w.cell? ⟨w.heap.size,0,none⟩=some (.int .i64 n):=fun y=>(hM2.since ((hS4 _).1 y.h)).c0
 have m1:∀ y:aj S4,y.w.cell? ⟨w.heap.size,1,none⟩=some (.int .i64 gr):=fun y=>(hM2.since ((hS4 _).1 y.h)).c1
 have m2:∀ y:aj S4,y.w.cell? ⟨w.heap.size,2,none⟩=some (.int .i64 nd.clock):=fun y=>(hM2.since ((hS4 _).1 y.h)).c2
 have m3:∀ y:aj S4,y.w.cell? ⟨w.heap.size,3,none⟩=some (.bool nul):=fun y=>(hM2.since ((hS4 _).1 y.h)).c3
 have m4:∀ y:aj S4,y.w.cell? ⟨w.heap.size,4,none⟩=some (.string body):=fun y=>(hM2.since ((hS4 _).1 y.h)).c4
 have yX:=(hS4 W4).2 hs4
 have hne:Nonempty (aj S4):=⟨⟨_,yX⟩⟩
 obtain ⟨W5,hW5⟩:∃ y,W4.alloc (.cells #[.int .i64 n,.int .i64 gr,.int .i64 nd.clock,.bool nul,.string body] 42)=y:=⟨_,rfl⟩
 have Ot:=ay hW5
 have hs5:=hs4.trans Ot
 have hsrc:Src prog 5 39 (.slice (some ⟨W4.heap.size,0,none⟩) 1 1) 1 [.int .i64 n,.int .i64 gr,.int .i64 nd.clock,.bool nul,.string body] W5:=by
  rw [<-hW5];exact kN (size:=5) qC.und [.int .i64 n,.int .i64 gr,.int .i64 nd.clock,.bool nul,.string body] rfl (fun u hu=>by simp at hu;rcases hu with rfl | rfl | rfl | rfl | rfl <;> rfl) 1
 have hR5:=hR2.since hs5
 have lQ:=(hS4 W5).2 hs5
 have Kt:lo<=W5.heap.size:=zQ5 hR5.bl (Nat.le_of_lt hR5.bh)
 have Lx:=hR5.row
 go_wp2_with fail
 refine aI (fun w'=>∃ x:aj S4,w'=x.w) (by kernel_rfl) ?_
 rw [hW0]
 clear hW0
 refine tW 0 rfl ?_;go_big_quiet_op
 refine tW 1 rfl ?_;go_big_quiet_op
 refine tW 2 rfl ?_;go_big_quiet_op
 refine tW 3 rfl ?_;go_big_quiet_op
 refine tM 4 rfl (ah yX) ?_;go_big_quiet_op
 refine tM 5 rfl (ah yX) ?_;go_big_quiet_op
 refine aK 6 rfl (by kernel_rfl) ?_
 intro K hK
 go_simp
 refine hK _ _ (fun _ _=>ah lQ) ?_
 clear hK K
 refine aK 7 rfl (by kernel_rfl) ?_
 intro K hK
 refine mR qC (by rfl) _ _ 39 (by rfl) (by rfl) Lx (by rfl) hsrc (by omega) Kt ?_
 intro sa' sc' W6 LA hF6 hB6
 have hnB:¬ M.sl.blk=some B:=fun e=>(hR5.sne B e).1 rfl
 have y3:=(hF6.cell (p:=⟨B,3,none⟩) hR5.bh hnB).trans hR5.c3
 have z3:=(hF6.frozen (p:=⟨B,3,none⟩) hR5.bh hnB).trans (hR5.z 3 (by decide))
 have hM6:kV W6 w.heap.size ⟨n,gr,nd.clock,nul,body⟩:=(hM2.fr (hs5.fr fun _=>False) (fun f=>f)).fr hF6 (fun e=>HNO.out (.inr (.inr (.inr (.inl e)))))
 obtain ⟨W7,hW7⟩:∃ y,W6.setCell ⟨B,3,none⟩ (.slice sa' (M.sent.length+1) sc')=y:=⟨_,rfl⟩
 have Mx:Fr (fun i=>M.sl.blk=some i) w2 W6:=(hs5.fr fun _=>False).trans hF6 (fun _ _ f=>f.elim) (fun _ _ f=>f)
 have hR7:=hR2.push (sl':=⟨sa',sc'⟩) ⟨n,gr,nd.clock,nul,body⟩ LA Mx (hB6.imp (fun e=>e) (fun e=>⟨_,e.2,hs5.size⟩)) hW7
 have k67:Fr (fun i=>i=B) W6 W7:=by rw [<-hW7];exact (Fr.refl _ _).setCell ⟨B,3,none⟩ _ (fun _=>rfl)
 have hM7:=hM6.fr k67 (fun e=>HNO.out (.inl e))
 have hF7:Fr (SW B M) w W7:=((hS2.fr fun _=>False).trans Mx (fun _ _ f=>f.elim) (fun _ _ f=>.inr (.inr (.inl f)))).trans k67 (fun _ _ f=>f) (fun _ _ f=>.inl f)
 have Qj:Hid ((⟨sa',sc'⟩:Sl)=M.sl\/∃ b,Sl.blk ⟨sa',sc'⟩=some b/\w.heap.size<=b):=hB6.imp (fun e=>e) (fun e=>⟨_,e.2,(hS2.trans hs5).size⟩)
 clear hM6 hB6 hF6 k67 Mx LA hnB
 refine hK _ _ (fun h=>absurd h (by decide +kernel)) ?_
 clear hK K
 simp only [Act.put,zQ7,zQ8,zQ9]
 refine tW 8 rfl ?_;go_big_quiet_op
 refine tW 9 rfl ?_;go_big_quiet_op
 refine aK 10 rfl (by kernel_rfl) ?_
 intro K hK
 go_simp
 refine hK _ _ (fun h=>absurd h (by decide +kernel)) ?_
 clear hK K
 refine aW (by kernel_rfl) ?_
 clear c3 m0 m1 m2 m3 m4 hne yX lQ hS4 hs4 Ot hs5 hW5 hsrc hR5 Kt Lx hW7 y3 z3 hR2 hM2 hS2
 obtain ⟨M7,MB⟩:∃ y:SM,y={ M with sl:=⟨sa',sc'⟩,sent:=M.sent++[⟨n,gr,nd.clock,nul,body⟩] }:=⟨_,rfl⟩
 rw [<-MB] at hR7
 have E7:Hid (M7.ra=M.ra/\M7.ps=M.ps/\M7.pl=M.pl/\M7.sets=M.sets/\M7.cont=M.cont/\M7.ks=M.ks/\M7.sent=M.sent++[⟨n,gr,nd.clock,nul,body⟩]/\M7.sl=⟨sa',sc'⟩):=by
  unfold Hid;subst MB;exact ⟨rfl,rfl,rfl,rfl,rfl,rfl,rfl,rfl⟩
 clear MB
 obtain ⟨W8,hW0⟩:∃ y,W7.drew=y:=⟨_,rfl⟩
 have hs8:=aO hW0
 obtain ⟨S8,hS8⟩:∃ S0:World->Prop,∀ w',S0 w'↔Since W7 w':=⟨_,fun _=>Iff.rfl⟩
 have c4:∀ y:aj S8,y.w.cell? ⟨B,4,none⟩=some (.map (some M.ra)):=fun y=>((hR7.since ((hS8 _).1 y.h)).c4).trans (by rw [E7.out.1])
 have c5:∀ y:aj S8,y.w.cell? ⟨B,5,none⟩=some (.slice (some ⟨pb,po,none⟩) M.ps.length M.pl.cap):=fun y=>((hR7.since ((hS8 _).1 y.h)).c5).trans (by rw [E7.out.2.2.1,E7.out.2.1,HPA.out])
 have cp:∀ y:aj S8,y.w.cell? ⟨pb,po+n,none⟩=some (.map (some p)):=fun y=>HPN.out _ (by have:=(hR7.since ((hS8 _).1 y.h)).pow;rw [E7.out.2.2.1,E7.out.2.1] at this;exact this)
 have m0:∀ y:aj S8,y.w.cell? ⟨w.heap.size,0,none⟩=some (.int .i64 n):=fun y=>(hM7.since ((hS8 _).1 y.h)).c0
 have m1:∀ y:aj S8,y.w.cell? ⟨w.heap.size,1,none⟩=some (.int .i64 gr):=fun y=>(hM7.since ((hS8 _).1 y.h)).c1
 have m2:∀ y:aj S8,y.w.cell? ⟨w.heap.size,2,none⟩=some (.int .i64 nd.clock):=fun y=>(hM7.since ((hS8 _).1 y.h)).c2
 have m3:∀ y:aj S8,y.w.cell? ⟨w.heap.size,3,none⟩=some (.bool nul):=fun y=>(hM7.since ((hS8 _).1 y.h)).c3
 have m4:∀ y:aj S8,y.w.cell? ⟨w.heap.size,4,none⟩=some (.string body):=fun y=>(hM7.since ((hS8 _).1 y.h)).c4
 have iU:=(hS8 W8).2 hs8
 have hne:Nonempty (aj S8):=⟨⟨_,iU⟩⟩
 have hR8:=hR7.since hs8
 have IY:gD W8 p (M.cont p):=by have:=(hR8.set p (by rw [E7.out.2.2.2.1];exact hpS)).2;rw [E7.out.2.2.2.2.1] at this;exact this
 have hCl:=F4 p _ _ W8 IY
 obtain ⟨W9,hW9⟩:∃ y,W8.alloc (.map (ents (M.cont p)) (M.cont p).length)=y:=⟨_,rfl⟩
 rw [hW9] at hCl
 have MC:=ay hW9
 have LB:MapAt W9 M.ra M.ks:=by have:=(hR8.since MC).map;rw [E7.out.1,E7.out.2.2.2.2.2.1] at this;exact this
 obtain ⟨W10,Ku⟩:∃ y,W9.putObj M.ra (.map (nY (M.ks++[(Mg.mk n gr nd.clock nul body,W8.heap.size)])) (M.ks++[(Mg.mk n gr nd.clock nul body,W8.heap.size)]).length)=y:=⟨_,rfl⟩
 have hmu:=yY D5 LB hnew W8.heap.size
 dsimp only [stamped] at hmu
 rw [Ku] at hmu
 unfold mgV at hmu
 dsimp only at hmu
 have Qk:lo<=W8.heap.size:=zQ5 hR8.bl (Nat.le_of_lt hR8.bh)
 have Gg:=hR8.addKey ⟨n,gr,nd.clock,nul,body⟩ (M.cont p) hW9 (W':=W10) (by rw [E7.out.1,E7.out.2.2.2.2.2.1];exact Ku) Qk
 have Ou:Fr (fun i=>i=M.ra) W9 W10:=by rw [<-Ku];exact Fr.put _ _ _
 have ME:Fr (fun i=>i=M.ra) W8 W10:=(MC.fr fun _=>False).trans Ou (fun _ _ f=>f.elim) (fun _ _ f=>f)
 have Gh:=(hM7.fr (hs8.fr fun _=>False) (fun f=>f)).fr ME (fun e=>HNO.out (.inr (.inl e)))
 have Gi:Fr (SW B M) w W10:=(hF7.trans (hs8.fr fun _=>False) (fun _ _ f=>f) (fun _ _ f=>f.elim)).trans ME (fun _ _ f=>f) (fun _ _ f=>.inr (.inl f))
 have hp8:p≠W8.heap.size:=fun e=>by have:=(zQ3.1 IY).1;omega
 have hq8:W8.heap.size∉M.sets:=fun hc=>by have:=hR8.lS (r:=W8.heap.size) (by rw [E7.out.2.2.2.1];exact hc);omega
 go_wp2_with fail
 refine aI (fun w'=>∃ x:aj S8,w'=x.w) (by kernel_rfl) ?_
 rw [hW0]
 clear hW0
 refine tW 0 rfl ?_;go_big_quiet_op
 refine tW 1 rfl ?_;go_big_quiet_op
 refine tW 2 rfl ?_;go_big_quiet_op
 refine tM 3 rfl (ah iU) ?_;go_big_quiet_op
 refine tM 4 rfl (ah iU) ?_;go_big_quiet_op
 refine tW 5 rfl ?_;go_big_quiet_op
 refine tW 6 rfl ?_;go_big_quiet_op
 refine tW 7 rfl ?_;go_big_quiet_op
 refine tM 8 rfl (ah iU) ?_;go_big_quiet_op
 refine tW 9 rfl ?_;go_big_quiet_op
 refine tM 10 rfl (ah iU) ?_;go_big_quiet_op
 refine tW 11 rfl ?_;go_big_quiet_op
 refine tM 12 rfl (ah iU) ?_;go_big_quiet_op
 refine aK 13 rfl (by kernel_rfl) ?_
 intro K hK
 go_simp
 refine hCl.mono ?_
 rintro e w' ⟨rfl,hw⟩
 obtain rfl:=hw.symm
 dsimp only
 refine hK _ _ (fun _ _=>ah ((hS8 _).2 (hs8.trans MC))) ?_
 clear hK K
 refine aK 14 rfl (by kernel_rfl) ?_
 intro K hK
 go_simp
 refine hK _ _ (fun h=>absurd h (by decide +kernel)) ?_
 clear hK K
 refine aW (by kernel_rfl) ?_
 clear c4 c5 cp m0 m1 m2 m3 m4 hne iU hS8 hmu hCl LB hW9 Ku IY hR7 hM7 ME Ou
 obtain ⟨M10,IZ⟩:∃ y:SM,y={ M7 with ks:=M7.ks++[(Mg.mk n gr nd.clock nul body,W8.heap.size)],cont:=fun i=>if i=W8.heap.size then M.cont p else M7.cont i }:=⟨_,rfl⟩
 rw [<-IZ] at Gg
 have E10:Hid (M10.ps=M.ps/\M10.ks=M.ks++[(Mg.mk n gr nd.clock nul body,W8.heap.size)]/\M10.sent=M.sent++[⟨n,gr,nd.clock,nul,body⟩]/\(∀ i,M10.cont i=if i=W8.heap.size then M.cont p else M.cont i)/\M10.ra=M.ra/\M10.sl=⟨sa',sc'⟩):=by
  unfold Hid;subst IZ;exact ⟨E7.out.2.1,by show M7.ks++_=_;rw [E7.out.2.2.2.2.2.1],E7.out.2.2.2.2.2.2.1,fun i=>by show (if i=W8.heap.size then M.cont p else M7.cont i)=_;rw [E7.out.2.2.2.2.1],E7.out.1,E7.out.2.2.2.2.2.2.2⟩
 have hLn:=zx lo B n ⟨ga,gl,gc,some ⟨bn,on,none⟩,nl,nc,wa,wl,wc⟩ d M10 ⟨n,gr,nd.clock,nul,body⟩ p W8.heap.size W10 Gg (by rw [E10.out.1];exact hn) (by rw [E10.out.2.1];simp) (by
  rw [E10.out.2.1,List.map_append,List.nodup_append]
  exact ⟨hk,by simp,fun a ha b hb e=>by simp at hb;subst hb;subst e;exact hnew ha⟩)
 have m0:=Gh.at0.c0
 have m1:=Gh.at0.c1
 have m2:=Gh.at0.c2
 have m3:=Gh.at0.c3
 have m4:=Gh.at0.c4
 simp only [Nat.zero_add] at m1 m2 m3 m4
 clear Gh IZ Gg E7
 go_wp2_with (go_at_call 178;refine hLn.mono ?_;rintro e w11 ⟨rfl,A',hA',Ql,Qm⟩)
 clear m0 m1 m2 m3 m4
 go_end0
 refine ⟨rfl,_,W8.heap.size,Ql,E10.out.2.2.1,E10.out.2.1,E10.out.1,hq8,fun y=>?_,fun y=>?_,fun i hi hip=>?_,E10.out.2.2.2.2.1,by rw [show (SM.sl _)=M10.sl from rfl,E10.out.2.2.2.2.2];exact Qj.out,Gi.trans Qm (fun _ _ f=>f) (fun i _ f=>f ▸ .inr (.inr (.inr (List.mem_of_getElem? hn))))⟩
 ·show y∈(if W8.heap.size=p then A' else M10.cont W8.heap.size)↔_
  rw [if_neg (Ne.symm hp8),E10.out.2.2.2.1,if_pos rfl]
 ·show y∈(if p=p then A' else M10.cont p)↔_
  rw [if_pos rfl,hA',E10.out.2.2.2.1,if_neg hp8,E10.out.2.2.2.1,if_pos rfl,or_self]
  rfl
 ·show (if i=p then A' else M10.cont i)=_
  rw [if_neg hip,E10.out.2.2.2.1,if_neg (fun e:i=W8.heap.size=>hq8 (e ▸ hi))]
end Go.Proofs.YtiiifecfdkjmbaaGreat
