/- Lemmas. -/
import Derived.Test.YtiiifecfdkjmbaaGreatTCsSend
import Derived.Test.YtiiifecfdkjmbaaGreatTCsMarks
import Derived.Test.YtiiifecfdkjmbaaGreatTLDoX
set_option maxHeartbeats 2000000
namespace Go.Proofs.YtiiifecfdkjmbaaGreat
open _root_.Go.Proofs.Tryz hiding checked
set_option maxRecDepth 8000
open Go.RowKit Go.Shelf
open Pu
set_option linter.unusedVariables false
set_option linter.unusedSimpArgs false
theorem Kk (ix:Ix):0 < szI ix:=by
 unfold szI
 repeat' split
 all_goals decide
theorem IE (lo B:Nat) (x:WV) (s:Sc) (M:SM) (a:Ac) (w:World) (h:d9 lo w B x s.d M) (HRP:Hid (sK s M)) (I:Hid (jP s)) (h4:Hid (¬ a.kind=4)) (HPL:Hid (M.ps.length=s.d.nodes.length)) (HLN:Hid (M.sent.length<=1000)) :
  Calls prog 132 #[.pointer (some ⟨B,0,none⟩),acV a] w fun e w'=>e=.returned (.tuple #[])/\∃ x' M',d9 lo w' B x' (bE s a).d M'/\sK (bE s a) M'/\M'.ps=M.ps/\M'.ra=M.ra/\(M'.sl=M.sl\/∃ b,M'.sl.blk=some b/\w.heap.size<=b)/\Fr (SW B M) w w':=by
 obtain ⟨kind,one,two,body⟩:=a
 unfold acV
 dsimp only
 obtain ⟨ga,gl,gc,na,nl,nc,wa,wl,wc⟩:=x
 obtain ⟨w1,hw1⟩:∃ wp,w.alloc (.cells #[.int .i64 kind,.int .i64 one,.int .i64 two,.string body] 58)=wp:=⟨_,rfl⟩
 have hS1:=ay hw1
 have hl1:w.heap.size < w1.heap.size:=by rw [<-hw1];simp
 have hA1:Oi w1 w.heap.size 0 ⟨kind,one,two,body⟩:=by rw [<-hw1];constructor <;> simp [go_sem]
 have hR1:=h.since hS1
 have Oj:=hR1.wAt
 have HKN:Hid ((M.ks.map Prod.fst).Nodup):=zw I.out HRP.out
 have Ms:Hid M.sets.Nodup:=h.nd
 have HSB:Hid (∀ i,SB B M i->lo<=i):=fun i hi=>(h.blk hi).1
 have HSH:Hid (∀ i,SB B M i->i < w.heap.size):=fun i hi=>(h.blk hi).2
 have HWT:Hid (∀ W',Fr (fun i=>SB B M i\/NK lo w i) w W'->WAt W' ⟨ga,gl,gc,na,nl,nc,wa,wl,wc⟩ s.d):=h.wat
 have hBl:=h.bh
 obtain ⟨r,hr⟩:∃ r,doD s.d ⟨kind,one,two,body⟩=r:=⟨_,rfl⟩
 clear h
 go_enter func132,ntmps132
 go_wp2_with fail
 clear hw1
 obtain ⟨W0,hW0⟩:∃ y,w1.drew=y:=⟨_,rfl⟩
 have hs0:=aO hW0
 obtain ⟨S0,hS0⟩:∃ S0:World->Prop,∀ w',S0 w'↔Since w1 w':=⟨_,fun _=>Iff.rfl⟩
 have c0:∀ y:aj S0,y.w.cell? ⟨B,0,none⟩=some (.slice ga gl gc):=fun y=>(hR1.since ((hS0 _).1 y.h)).c0
 have c1:∀ y:aj S0,y.w.cell? ⟨B,1,none⟩=some (.slice na nl nc):=fun y=>(hR1.since ((hS0 _).1 y.h)).c1
 have c2:∀ y:aj S0,y.w.cell? ⟨B,2,none⟩=some (.slice wa wl wc):=fun y=>(hR1.since ((hS0 _).1 y.h)).c2
 have a0:∀ y:aj S0,y.w.cell? ⟨w.heap.size,0,none⟩=some (.int .i64 kind):=fun y=>(((hS0 _).1 y.h).cellAt hl1 _).trans hA1.c0
 have a1:∀ y:aj S0,y.w.cell? ⟨w.heap.size,1,none⟩=some (.int .i64 one):=fun y=>(((hS0 _).1 y.h).cellAt hl1 _).trans hA1.c1
 have a2:∀ y:aj S0,y.w.cell? ⟨w.heap.size,2,none⟩=some (.int .i64 two):=fun y=>(((hS0 _).1 y.h).cellAt hl1 _).trans hA1.c2
 have a3:∀ y:aj S0,y.w.cell? ⟨w.heap.size,3,none⟩=some (.string body):=fun y=>(((hS0 _).1 y.h).cellAt hl1 _).trans hA1.c3
 have ak:=(hS0 W0).2 hs0
 have hne:Nonempty (aj S0):=⟨⟨_,ak⟩⟩
 have bS:=aH w
 obtain ⟨WA,hWA⟩:∃ y,W0.alloc (.cells #[.slice none 0 0,.slice none 0 0,.slice none 0 0] 26)=y:=⟨_,rfl⟩
 have hsA:=ay hWA
 have hNA:aL WA W0.heap.size:=by rw [<-hWA];exact aL.new W0 _
 have uH:=pU ⟨ga,gl,gc,na,nl,nc,wa,wl,wc⟩ s.d ⟨kind,one,two,body⟩ W0 (Oj.since hs0)
 have uI:=pU ⟨ga,gl,gc,na,nl,nc,wa,wl,wc⟩ s.d ⟨kind,one,two,body⟩ WA (Oj.since (hs0.trans hsA))
 unfold acV at uH uI
 dsimp only at uH uI
 rw [hr] at uH uI
 refine aI (fun w'=>∃ x:aj S0,w'=x.w) (by kernel_rfl) ?_
 rw [hW0]
 clear hW0
 refine tW 0 rfl ?_;go_big_quiet_op
 refine tW 1 rfl ?_;go_big_quiet_op
 refine tW 2 rfl ?_;go_big_quiet_op
 refine tM 3 rfl (ah ak) ?_;go_big_quiet_op
 refine tM 4 rfl (ah ak) ?_;go_big_quiet_op
 cases r with
 | error er =>
  have her:(er != 0)=true:=by simpa using ES hr
  have HST:Hid (bE s ⟨kind,one,two,body⟩=s):=IG hr
  clear hr
  refine oG 5 9 rfl rfl (by kernel_rfl) ?e1 ?e2
  case' e1 =>
   intro K hK
   go_simp
   refine uH.mono ?_
   rintro e wC hR3
   obtain ⟨rfl,hS3⟩:=hR3.out.1 er rfl
   dsimp only
   have hsC:=hs0.trans hS3
   refine hK _ _ (fun h=>absurd h (by decide +kernel)) ?_
   clear hK K
   refine tW 6 rfl ?_;go_big_quiet_op
   refine tW 7 rfl ?_;go_big_quiet_op
   refine tW 8 rfl ?_;go_big_quiet_op
   refine aK 9 rfl (by kernel_rfl) ?_
   intro K hK
   go_simp
   refine hK _ _ (fun _ _=>ah ((hS0 _).2 (hsC.alloc _))) ?_
   clear hK K
   refine aK 10 rfl (by kernel_rfl) ?_
   intro K hK
   go_simp
   refine hK _ _ (fun h=>absurd h (by decide +kernel)) ?_
   clear hK K
   refine tW 11 rfl ?_;go_big_quiet_op
   refine aW (by kernel_rfl) ?_
   have hsF:Since w1 (wC.alloc (.cells #[.slice none 0 0,.slice none 0 0,.slice none 0 0] 26)):=hsC.alloc _
  case' e2 =>
   intro K hK
   go_simp
   refine hK _ _ (fun _ _=>ah ((hS0 _).2 (hs0.trans hsA))) ?_
   clear hK K
   refine aK 5 rfl (by kernel_rfl) ?_
   intro K hK
   go_simp
   refine uI.mono ?_
   rintro e wC hR3
   obtain ⟨rfl,hS3⟩:=hR3.out.1 er rfl
   dsimp only
   have hsC:=(hs0.trans hsA).trans hS3
   refine hK _ _ (fun h=>absurd h (by decide +kernel)) ?_
   clear hK K
   refine tW 6 rfl ?_;go_big_quiet_op
   refine tW 7 rfl ?_;go_big_quiet_op
   refine tW 8 rfl ?_;go_big_quiet_op
   obtain ⟨lt,r0,r1,r2,r3,r4,r5⟩:=hNA.since hS3
   refine aK 10 rfl (by kernel_rfl) ?_
   intro K hK
   go_simp
   refine hK _ _ (fun h=>absurd h (by decide +kernel)) ?_
   clear hK K
   refine tW 11 rfl ?_;go_big_quiet_op
   refine aW (by kernel_rfl) ?_
   have hsF:=dA (w:=w1) (p:=W0.heap.size) hs0.size hsC
  all_goals
   clear c0 c1 c2 a0 a1 a2 a3 hne
   have wL:=(show Hid _ from hR1.since hsF)
   go_wp2
   refine bodyPost_ret (results_none rfl _ _ _) rfl ?_
   rw [HST.out]
   exact ⟨rfl,_,M,wL.out,HRP.out,rfl,rfl,.inl rfl,(hS1.trans hsF).fr _⟩
 | ok d' =>
  have hkd:=EU hr h4.out
  have HS1:Hid (kind=1\/kind=2->∃ n:Nat,one=(n:Int)/\n < s.d.nodes.length/\d'.nodes.length=s.d.nodes.length/\jE d' ⟨kind,one,two,body⟩∉s.sent/\bE s ⟨kind,one,two,body⟩=oH s d' n (jE d' ⟨kind,one,two,body⟩)):=fun hk=>Am I.out hr hk
  have HS3:Hid (kind=3->∃ (f t:Nat) (m:Mg) (rest:List Mg),one=(f:Int)/\two=(t:Int)/\f < s.d.nodes.length/\t < s.d.nodes.length/\Right s.d/\d'.nodes.length=s.d.nodes.length/\au s.d f t=m::rest/\m∈s.sent/\bE s ⟨kind,one,two,body⟩=oJ s d' t m):=fun hk=>BP I.out hr hk
  clear hr h4
  refine oG 5 9 rfl rfl (by kernel_rfl) ?o1 ?o2
  case' o1 =>
   intro K hK
   go_simp
   refine uH.mono ?_
   rintro e wC hR3
   obtain ⟨L',rfl,hO,hS3⟩:=hR3.out.2 d' rfl
   simp only [bW]
   have hsC:=hs0.trans hS3
   refine hK _ _ (fun h=>absurd h (by decide +kernel)) ?_
   clear hK K
   refine tW 6 rfl ?_;go_big_quiet_op
   refine tW 7 rfl ?_;go_big_quiet_op
   refine tW 8 rfl ?_;go_big_quiet_op
   refine aK 9 rfl (by kernel_rfl) ?_
   intro K hK
   go_simp
   refine hK _ _ (fun _ _=>ah ((hS0 _).2 (hsC.alloc _))) ?_
   clear hK K
   obtain ⟨WF,hWF⟩:∃ y,wC.alloc (.cells #[.slice (L' (0,0,0)).a d'.groups.length (L' (0,0,0)).cap,.slice (L' (1,0,0)).a d'.nodes.length (L' (1,0,0)).cap,.slice (L' (2,0,0)).a d'.wires.length (L' (2,0,0)).cap] 26)=y:=⟨_,rfl⟩
   have F5:=ay hWF
   have q0:WF.cell? ⟨wC.heap.size,0,none⟩=some (.slice (L' (0,0,0)).a d'.groups.length (L' (0,0,0)).cap):=by rw [<-hWF];simp [go_sem]
   have q1:WF.cell? ⟨wC.heap.size,1,none⟩=some (.slice (L' (1,0,0)).a d'.nodes.length (L' (1,0,0)).cap):=by rw [<-hWF];simp [go_sem]
   have q2:WF.cell? ⟨wC.heap.size,2,none⟩=some (.slice (L' (2,0,0)).a d'.wires.length (L' (2,0,0)).cap):=by rw [<-hWF];simp [go_sem]
   have qlt:wC.heap.size < WF.heap.size:=by rw [<-hWF];simp
   have qge:w1.heap.size<=wC.heap.size:=hsC.size
   have hsF:=hsC.trans F5
   have hOF:=hO.since F5
   refine aK 10 rfl (by kernel_rfl) ?_
   intro K hK
   go_simp
   refine hK _ _ (fun h=>absurd h (by decide +kernel)) ?_
   clear hK K
   refine tW 11 rfl ?_;go_big_quiet_op
   refine aW (by kernel_rfl) ?_
   obtain ⟨qb,hqb⟩:∃ y,wC.heap.size=y:=⟨_,rfl⟩
   rw [hqb] at q0 q1 q2 qlt qge ⊢
   clear hqb hO hR3 hS3 hsC hWF F5 uH uI hNA hsA hWA
  case' o2 =>
   intro K hK
   go_simp
   refine hK _ _ (fun _ _=>ah ((hS0 _).2 (hs0.trans hsA))) ?_
   clear hK K
   refine aK 5 rfl (by kernel_rfl) ?_
   intro K hK
   go_simp
   refine uI.mono ?_
   rintro e wC hR3
   obtain ⟨L',rfl,hO,hS3⟩:=hR3.out.2 d' rfl
   simp only [bW]
   have hsC:=(hs0.trans hsA).trans hS3
   refine hK _ _ (fun h=>absurd h (by decide +kernel)) ?_
   clear hK K
   refine tW 6 rfl ?_;go_big_quiet_op
   refine tW 7 rfl ?_;go_big_quiet_op
   refine tW 8 rfl ?_;go_big_quiet_op
   have hNC:=hNA.since hS3
   obtain ⟨hOF,F6⟩:=hO.result (w0:=W0) (p:=W0.heap.size) hNA.lt (Nat.le_refl _) (hsA.trans hS3) hsA.size
   have hbx:=EW (d:=d') (L:=L') hNC
   obtain ⟨lt,r0,r1,r2,r3,r4,r5⟩:=hNC
   obtain ⟨WF,hWF⟩:∃ y,((wC.setCell ⟨W0.heap.size,0,none⟩ (.slice (L' (0,0,0)).a d'.groups.length (L' (0,0,0)).cap)).setCell ⟨W0.heap.size,1,none⟩ (.slice (L' (1,0,0)).a d'.nodes.length (L' (1,0,0)).cap)).setCell ⟨W0.heap.size,2,none⟩ (.slice (L' (2,0,0)).a d'.wires.length (L' (2,0,0)).cap)=y:=⟨_,rfl⟩
   rw [hWF] at hOF F6 hbx
   obtain ⟨qlt,q0,q1,q2,_,_,_⟩:=hbx
   have hsF:=hs0.trans F6
   have qge:w1.heap.size<=W0.heap.size:=hs0.size
   refine aK 10 rfl (by kernel_rfl) ?_
   intro K hK
   go_simp
   refine hK _ _ (fun h=>absurd h (by decide +kernel)) ?_
   clear hK K
   refine tW 11 rfl ?_;go_big_quiet_op
   refine aW (by kernel_rfl) ?_
   obtain ⟨qb,hqb⟩:∃ y,W0.heap.size=y:=⟨_,rfl⟩
   have hOF:=hOF.mono (Nat.le_refl _)
   rw [hqb] at q0 q1 q2 qlt qge ⊢
   clear hqb hO hR3 hS3 hsC hWF F6 lt r0 r1 r2 r3 r4 r5 uH uI hNA hsA hWA
  all_goals
   have hPL:=HPL.out
   clear c0 c1 c2 a0 a1 a2 a3 hne ak hS0 HPL
   obtain ⟨v,hv⟩:∃ y,gK L' d'=y:=⟨_,rfl⟩
   have q0:WF.cell? ⟨qb,0,none⟩=some (.slice v.ga v.gl v.gc):=by rw [<-hv];exact q0
   have q1:WF.cell? ⟨qb,1,none⟩=some (.slice v.na v.nl v.nc):=by rw [<-hv];exact q1
   have q2:WF.cell? ⟨qb,2,none⟩=some (.slice v.wa v.wl v.wc):=by rw [<-hv];exact q2
   have hRF:=hR1.since hsF
   have b0:=hRF.c0
   have b1:=hRF.c1
   have b2:=hRF.c2
   dsimp only at b0 b1 b2
   obtain ⟨WG,hWG⟩:∃ y,WF.alloc (.cells #[.slice ga gl gc,.slice na nl nc,.slice wa wl wc] 26)=y:=⟨_,rfl⟩
   have hsG:=ay hWG
   have hlG:WF.heap.size < WG.heap.size:=by rw [<-hWG];simp
   have p2:WG.cell? ⟨WF.heap.size,2,none⟩=some (.slice wa wl wc):=by rw [<-hWG];simp [go_sem]
   have hRG:=hRF.since hsG
   have g0:=(hsG.cellAt qlt 0).trans q0
   have g1:=(hsG.cellAt qlt 1).trans q1
   have g2:=(hsG.cellAt qlt 2).trans q2
   have e0:=hRG.c0
   have e1:=hRG.c1
   have e2:=hRG.c2
   dsimp only at e0 e1 e2
   have z0:=hRG.z 0 (by decide)
   have z1:=hRG.z 1 (by decide)
   have z2:=hRG.z 2 (by decide)
   obtain ⟨WH,hWH⟩:∃ y,Ao WG B (.slice v.ga v.gl v.gc) (.slice v.na v.nl v.nc) (.slice v.wa v.wl v.wc)=y:=⟨_,rfl⟩
   have Rx:((WG.setCell ⟨B,0,none⟩ (.slice v.ga v.gl v.gc)).setCell ⟨B,1,none⟩ (.slice v.na v.nl v.nc)).setCell ⟨B,2,none⟩ (.slice v.wa v.wl v.wc)=WH:=hWH
   have hRH:=hRG.world (v:=v) (d':=d') (fun W'' hF=>by
    have hOG:=hOF.since hsG
    have:=(hOG.fr hF (fun b hb hsb=>by
     rcases hsb with hsb | hsb
     ·have h1:=(hOG.blk hb).1;have h2:=HSH.out b hsb;have h3:=hs0.size;omega
     ·obtain ⟨ix,hix,hbx⟩:=hb
      obtain ⟨o,ho,hk⟩:=jT (hOG.row ix hix) (Kk ix) hbx
      rw [hsb.2 o ho] at hk;cases hk)).wat
    rw [hv] at this;exact this) hWH
   have kGH:Fr (fun i=>i=B) WG WH:=by rw [<-hWH];exact gM _ _ _ _ _
   have kH:Fr (fun i=>i=B) w WH:=((hS1.trans (hsF.trans hsG)).fr fun _=>False).trans kGH (fun _ _ f=>f.elim) (fun _ _ f=>f)
   have hFH:Fr (SW B M) w WH:=kH.mono (fun i _ e=>.inl e)
   have II:=HWT.out WH (kH.mono (fun i _ e=>.inl (.inl e)))
   have hlH:w.heap.size < WH.heap.size:=zQ4 (zQ4 hl1 (hsF.trans hsG).size) kGH.size
   have kA:∀ o,WH.cell? ⟨w.heap.size,o,none⟩=w1.cell? ⟨w.heap.size,o,none⟩:=fun o=>(kGH.cell (p:=⟨w.heap.size,o,none⟩) (zQ4 hl1 (hsF.trans hsG).size) (fun e=>by have e':w.heap.size=B:=e;omega)).trans ((hsF.trans hsG).cellAt hl1 o)
   have a0:=(kA 0).trans hA1.c0
   have a1:=(kA 1).trans hA1.c1
   have a2:=(kA 2).trans hA1.c2
   have a3:=(kA 3).trans hA1.c3
   dsimp only at a0 a1 a2 a3
   have p2H:WH.cell? ⟨WF.heap.size,2,none⟩=some (.slice wa wl wc):=(kGH.cell (p:=⟨WF.heap.size,2,none⟩) hlG (fun e=>by have e':WF.heap.size=B:=e;have:=hsF.size;omega)).trans p2
   have Qf:WF.heap.size < WH.heap.size:=zQ4 hlG kGH.size
   clear hRF hRG hWH hOF hv q0 q1 q2 qlt qge kA hs0 hsG kGH kH p2 HWT HSH
   rcases hkd with rfl | rfl | rfl
   ·
    obtain ⟨n,rfl,hn0,hlen,hno,hst⟩:=HS1.out (by simp)
    obtain ⟨nd,hnd⟩:∃ y,d'.nodes[n]? = some y:=⟨_,zQ1 (by omega)⟩
    obtain ⟨p,hp⟩:∃ y,M.ps[n]? = some y:=⟨_,zQ1 (by omega)⟩
    have hsm:jE d' ⟨1,n,two,body⟩=stamped ⟨n,two,0,false,body⟩ nd.clock:=by
     unfold jE stamped
     have:aF d' (n:Int).toNat=nd.clock:=by rw [Int.toNat_natCast];unfold aF;rw [hnd]
     dsimp only
     rw [this]
     simp
    rw [hsm] at hno hst
    have hSd:=BQ lo B n v d' M ⟨n,two,0,false,body⟩ nd p WH hRH rfl hp hnd HKN.out (by rw [HRP.out.keys];exact hno) HLN.out
    dsimp only at hSd
    have wL:Hid (∀ (M':SM) (q:Nat) (w':World),d9 lo w' B v d' M'->M'.sent=M.sent++[stamped ⟨n,two,0,false,body⟩ nd.clock]->M'.ks=M.ks++[(stamped ⟨n,two,0,false,body⟩ nd.clock,q)]->M'.ps=M.ps->q∉M.sets->(∀ y,y∈M'.cont q↔y∈M.cont p)->(∀ y,y∈M'.cont p↔y∈M.cont p\/y=stamped ⟨n,two,0,false,body⟩ nd.clock)->(∀ i,i∈M.sets->i≠p->M'.cont i=M.cont i)->M'.ra=M.ra->(M'.sl=M.sl\/∃ b,M'.sl.blk=some b/\WH.heap.size<=b)->Fr (SW B M) WH w'->∃ x' M',d9 lo w' B x' (bE s ⟨1,n,two,body⟩).d M'/\sK (bE s ⟨1,n,two,body⟩) M'/\M'.ps=M.ps/\M'.ra=M.ra/\(M'.sl=M.sl\/∃ b,M'.sl.blk=some b/\w.heap.size<=b)/\Fr (SW B M) w w'):=by
     intro M' q w' h1 h2 h3 h4 h5 h6 h7 h8 h9 h10 h11
     rw [hst]
     exact ⟨v,M',h1,BR HRP.out Ms.out hp hno h2 h3 h4 h5 h6 h7 h8,h4,h9,h10.imp (fun e=>e) (fun ⟨b,e,hb⟩=>⟨b,e,zQ5 hFH.size hb⟩),hFH.trans h11 (fun _ _ f=>f) (fun i hi f=>f)⟩
    clear hsm hno hst hnd hp hRH HS1 HS3 hn0 hlen
    go_wp2_with (go_at_call 177;refine hSd.mono ?_;rintro e w' ⟨rfl,M',q,h1,h2,h3,h4,h5,h6,h7,h8,h9,h10,h11⟩)
    go_end0
    exact ⟨rfl,wL.out M' q w' h1 h2 h3 h4 h5 h6 h7 h8 h9 h10 h11⟩
   ·
    obtain ⟨n,rfl,hn0,hlen,hno,hst⟩:=HS1.out (by simp)
    obtain ⟨nd,hnd⟩:∃ y,d'.nodes[n]? = some y:=⟨_,zQ1 (by omega)⟩
    obtain ⟨p,hp⟩:∃ y,M.ps[n]? = some y:=⟨_,zQ1 (by omega)⟩
    have hsm:jE d' ⟨2,n,two,body⟩=stamped ⟨n,two,0,true,ByteArray.empty⟩ nd.clock:=by
     unfold jE stamped
     have:aF d' (n:Int).toNat=nd.clock:=by rw [Int.toNat_natCast];unfold aF;rw [hnd]
     dsimp only
     rw [this]
     simp
    rw [hsm] at hno hst
    have hSd:=BQ lo B n v d' M ⟨n,two,0,true,ByteArray.empty⟩ nd p WH hRH rfl hp hnd HKN.out (by rw [HRP.out.keys];exact hno) HLN.out
    dsimp only at hSd
    have wL:Hid (∀ (M':SM) (q:Nat) (w':World),d9 lo w' B v d' M'->M'.sent=M.sent++[stamped ⟨n,two,0,true,ByteArray.empty⟩ nd.clock]->M'.ks=M.ks++[(stamped ⟨n,two,0,true,ByteArray.empty⟩ nd.clock,q)]->M'.ps=M.ps->q∉M.sets->(∀ y,y∈M'.cont q↔y∈M.cont p)->(∀ y,y∈M'.cont p↔y∈M.cont p\/y=stamped ⟨n,two,0,true,ByteArray.empty⟩ nd.clock)->(∀ i,i∈M.sets->i≠p->M'.cont i=M.cont i)->M'.ra=M.ra->(M'.sl=M.sl\/∃ b,M'.sl.blk=some b/\WH.heap.size<=b)->Fr (SW B M) WH w'->∃ x' M',d9 lo w' B x' (bE s ⟨2,n,two,body⟩).d M'/\sK (bE s ⟨2,n,two,body⟩) M'/\M'.ps=M.ps/\M'.ra=M.ra/\(M'.sl=M.sl\/∃ b,M'.sl.blk=some b/\w.heap.size<=b)/\Fr (SW B M) w w'):=by
     intro M' q w' h1 h2 h3 h4 h5 h6 h7 h8 h9 h10 h11
     rw [hst]
     exact ⟨v,M',h1,BR HRP.out Ms.out hp hno h2 h3 h4 h5 h6 h7 h8,h4,h9,h10.imp (fun e=>e) (fun ⟨b,e,hb⟩=>⟨b,e,zQ5 hFH.size hb⟩),hFH.trans h11 (fun _ _ f=>f) (fun i hi f=>f)⟩
    clear hsm hno hst hnd hp hRH HS1 HS3 hn0 hlen
    go_wp2_with (go_at_call 177;refine hSd.mono ?_;rintro e w' ⟨rfl,M',q,h1,h2,h3,h4,h5,h6,h7,h8,h9,h10,h11⟩)
    go_end0
    exact ⟨rfl,wL.out M' q w' h1 h2 h3 h4 h5 h6 h7 h8 h9 h10 h11⟩
   ·obtain ⟨f,t,m,rest,rfl,rfl,hf,ht,DZ,hlen,Lm,hms,hst⟩:=HS3.out rfl
    obtain ⟨p,hp⟩:∃ y,M.ps[t]? = some y:=⟨_,zQ1 (by omega)⟩
    obtain ⟨r,hmr⟩:∃ r,(m,r)∈M.ks:=by
     rw [<-HRP.out.keys] at hms
     obtain ⟨⟨m',r⟩,h1,h2⟩:=List.mem_map.1 hms
     exact ⟨r,by rw [<-h2];exact h1⟩
    have hwl:=II.r.hlen
    dsimp only at hwl
    subst hwl
    have hfl:f < s.d.wires.length:=by rw [DZ.yV];exact hf
    obtain ⟨row,hrow,hrl⟩:=row_of DZ.rows hf
    obtain ⟨lst,Ol,hwl⟩:=Kl hfl hrow (b:=t) (by omega)
    rw [Lm] at hwl
    subst hwl
    obtain ⟨bw,ow,e,hbw,hcw⟩:=II.r.cells (by dsimp only;omega)
    dsimp only at e
    subst e
    obtain ⟨v1,x1,ra,rc,rfl,hrc,hRr⟩:=hcw f row hrow
    obtain ⟨br,orr,e,hbr,hcr⟩:=hRr.cells (by omega)
    subst e
    obtain ⟨v2,x2,la,lc,rfl,hlc,hMl⟩:=hcr t _ Ol
    obtain ⟨bm,om,e,hbm,hcm⟩:=hMl.cells (by simp)
    subst e
    have hmA:=bJ hcm 0 m rfl
    simp only [Nat.zero_mul,Nat.add_zero] at hmA
    have i1:(f:Int) < (s.d.wires.length:Int):=by omega
    have i2:(t:Int) < (row.length:Int):=by omega
    have i3:(0:Int) < ((rest.length+1:Nat):Int):=by omega
    have HX:Hid (bE s ⟨3,f,t,body⟩=oJ s d' t m):=hst
    clear hst hms Lm DZ hrow Ol hcw hcr hcm II hRr hMl HS1 HS3
    go_wp2_with fail
    obtain ⟨W8,hW0⟩:∃ y,WH.drew=y:=⟨_,rfl⟩
    have hs8:=aO hW0
    obtain ⟨S8,hS8⟩:∃ S0:World->Prop,∀ w',S0 w'↔Since WH w':=⟨_,fun _=>Iff.rfl⟩
    have y1:∀ y:aj S8,y.w.cell? ⟨w.heap.size,1,none⟩=some (.int .i64 f):=fun y=>(((hS8 _).1 y.h).cellAt hlH _).trans a1
    have y2:∀ y:aj S8,y.w.cell? ⟨w.heap.size,2,none⟩=some (.int .i64 t):=fun y=>(((hS8 _).1 y.h).cellAt hlH _).trans a2
    have y3:∀ y:aj S8,y.w.cell? ⟨WF.heap.size,2,none⟩=some (.slice (some ⟨bw,ow,none⟩) s.d.wires.length wc):=fun y=>(((hS8 _).1 y.h).cellAt Qf _).trans p2H
    have y4:∀ y:aj S8,y.w.cell? ⟨bw,ow+f,none⟩=some (.slice (some ⟨br,orr,none⟩) row.length rc):=fun y=>(((hS8 _).1 y.h).cellAt hbw _).trans x1
    have y5:∀ y:aj S8,y.w.cell? ⟨br,orr+t,none⟩=some (.slice (some ⟨bm,om,none⟩) (rest.length+1) lc):=fun y=>(((hS8 _).1 y.h).cellAt hbr _).trans x2
    have m0:∀ y:aj S8,y.w.cell? ⟨bm,om,none⟩=some (.int .i64 m.fr):=fun y=>(((hS8 _).1 y.h).cellAt hbm _).trans hmA.c0
    have m1:∀ y:aj S8,y.w.cell? ⟨bm,om+1,none⟩=some (.int .i64 m.gr):=fun y=>(((hS8 _).1 y.h).cellAt hbm _).trans hmA.c1
    have m2:∀ y:aj S8,y.w.cell? ⟨bm,om+2,none⟩=some (.int .i64 m.st):=fun y=>(((hS8 _).1 y.h).cellAt hbm _).trans hmA.c2
    have m3:∀ y:aj S8,y.w.cell? ⟨bm,om+3,none⟩=some (.bool m.nul):=fun y=>(((hS8 _).1 y.h).cellAt hbm _).trans hmA.c3
    have m4:∀ y:aj S8,y.w.cell? ⟨bm,om+4,none⟩=some (.string m.body):=fun y=>(((hS8 _).1 y.h).cellAt hbm _).trans hmA.c4
    have iU:=(hS8 W8).2 hs8
    have hne:Nonempty (aj S8):=⟨⟨_,iU⟩⟩
    have hLn:=zx lo B t v d' M m p r W8 (hRH.since hs8) hp hmr HKN.out
    have wL:Hid (∀ (A':List Mg) (w':World),(∀ y,y∈A'↔(y∈M.cont p\/y∈M.cont r)\/y=m)->d9 lo w' B v d' { M with cont:=fun i=>if i=p then A' else M.cont i }->Fr (fun i=>i=p) W8 w'->∃ x' M',d9 lo w' B x' (bE s ⟨3,f,t,body⟩).d M'/\sK (bE s ⟨3,f,t,body⟩) M'/\M'.ps=M.ps/\M'.ra=M.ra/\(M'.sl=M.sl\/∃ b,M'.sl.blk=some b/\w.heap.size<=b)/\Fr (SW B M) w w'):=by
     intro A' w' h1 h2 h3
     rw [HX.out]
     exact ⟨v,_,h2,F7 HRP.out Ms.out hp hmr h1,rfl,rfl,.inl rfl,(hFH.trans (hs8.fr fun _=>False) (fun _ _ f=>f) (fun _ _ f=>f.elim)).trans h3 (fun _ _ f=>f) (fun i hi f=>f ▸ .inr (.inr (.inr (List.mem_of_getElem? hp))))⟩
    clear HX hp hmr hRH a0 a1 a2 a3 p2H x1 x2 hmA
    refine aI (fun w'=>∃ x:aj S8,w'=x.w) (by kernel_rfl) ?_
    rw [hW0]
    clear hW0
    refine tW 0 rfl ?_;go_big_quiet_op
    refine tW 1 rfl ?_;go_big_quiet_op
    refine tM 2 rfl (ah iU) ?_;go_big_quiet_op
    refine tW 3 rfl ?_;go_big_quiet_op
    refine tM 4 rfl (ah iU) ?_;go_big_quiet_op
    refine tW 5 rfl ?_;go_big_quiet_op
    refine tM 6 rfl (ah iU) ?_;go_big_quiet_op
    refine tW 7 rfl ?_;go_big_quiet_op
    refine tM 8 rfl (ah iU) ?_;go_big_quiet_op
    refine tW 9 rfl ?_;go_big_quiet_op
    refine tM 10 rfl (ah iU) ?_;go_big_quiet_op
    refine tW 11 rfl ?_;go_big_quiet_op
    refine tM 12 rfl (ah iU) ?_;go_big_quiet_op
    refine tW 13 rfl ?_;go_big_quiet_op
    refine tM 14 rfl (ah iU) ?_;go_big_quiet_op
    refine aK 15 rfl (by kernel_rfl) ?_
    intro K hK
    go_simp
    refine hLn.mono ?_
    rintro e w' ⟨rfl,A',h1,h2,h3⟩
    dsimp only
    refine hK _ _ (fun h=>absurd h (by decide +kernel)) ?_
    clear hK K
    refine aW (by kernel_rfl) ?_
    clear y1 y2 y3 y4 y5 m0 m1 m2 m3 m4 hne iU hS8
    go_wp2
    go_end0
    exact ⟨rfl,wL.out A' w' h1 h2 h3⟩
end Go.Proofs.YtiiifecfdkjmbaaGreat
