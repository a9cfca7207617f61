/- Lemmas. -/
import Derived.Test.YtiiifecfdkjmbaaGreatRAllP
set_option maxHeartbeats 4000000
namespace Go.Proofs.YtiiifecfdkjmbaaGreat
open _root_.Go.Proofs.Tryz
set_option maxRecDepth 8000
open Go.RowKit Go.Shelf
open Pu
set_option linter.unusedVariables false
set_option linter.unusedSimpArgs false
theorem zM {w:World} {b o c:Nat} {ms:List Mg} {p:Nat} (h:dI w (some ⟨b,o,none⟩) ms.length ms) (hp:p<=ms.length):Src prog 5 39 (.slice (some ⟨b,o,none⟩) p c) p (flat (ms.take p)) w:=by
 refine uD dP.und (by rw [bB,List.length_take];congr 1;omega) (fun u hu=>bZ u _ hu) (fun h0=>?_)
 obtain ⟨b',o',e,_,hc⟩:=h.cells (by omega)
 refine ⟨b',o',e,fun j u hj=>hc j u ?_⟩
 have e2:flat ms=flat (ms.take p)++flat (ms.drop p):=by rw [<-bT,List.take_append_drop]
 rw [e2,List.getElem?_append_left (zQ2.1 hj).1];exact hj
theorem Fg {w:World} {b o c:Nat} {ms:List Mg} {p:Nat} (h:dI w (some ⟨b,o,none⟩) ms.length ms) (hp:p<=ms.length):Src prog 5 39 (.slice (some ⟨b,o+p*5,none⟩) (ms.length - p) c) (ms.length - p) (flat (ms.drop p)) w:=by
 refine uD dP.und (by rw [bB,List.length_drop]) (fun u hu=>bZ u _ hu) (fun h0=>?_)
 obtain ⟨b',o',e,_,hc⟩:=h.cells (by omega)
 cases e
 exact ⟨b,o+p*5,rfl,fun j u hj=>by rw [Nat.add_assoc];exact hc _ u (iZ hp hj)⟩
theorem zN {w:World} {a:Option Addr} {c:Nat} {ms:List Mg} (h:ms=[]):Src prog 5 39 (.slice a 0 c) 0 (flat ms) w:=by
 subst h;exact fH fq
theorem iV (w:World) (m:Mg) (T:TypeId):dI (w.alloc (.cells #[.int .i64 m.fr,.int .i64 m.gr,.int .i64 m.st,.bool m.nul,.string m.body] T)) (some ⟨w.heap.size,0,none⟩) 1 [m]:=by
 refine ⟨rfl,by omega,fun _=>⟨_,_,rfl,by simp,fun j u hj=>?_⟩⟩
 unfold World.cell?
 rw [World.alloc_heap_new]
 simpa [flat,Mg.cells] using hj
theorem GY (x:WV) (d:Wd) (w:World) (hW:WAt w x d) (h0:¬ aD d=0) :
  Calls prog 60 #[.agg #[.slice x.ga x.gl x.gc,.slice x.na x.nl x.nc,.slice x.wa x.wl x.wc]] w fun e w'=>e=.returned (.tuple #[.slice none 0 0,.int .i64 (aD d)])/\Since w w':=by
 obtain ⟨ga,gl,gc,na,nl,nc,wa,wl,wc⟩:=x
 dsimp only
 obtain ⟨w1,hw1⟩:∃ wp,w.alloc (.cells #[.slice ga gl gc,.slice na nl nc,.slice wa wl wc] 26)=wp:=⟨_,rfl⟩
 have hP1:aG w1 w.heap.size ⟨ga,gl,gc,na,nl,nc,wa,wl,wc⟩:=by rw [<-hw1];exact aG.new w ⟨ga,gl,gc,na,nl,nc,wa,wl,wc⟩ _
 have hS1:=au hw1
 obtain ⟨_,p0,p1,p2⟩:=hP1
 dsimp only at p0 p1 p2
 have hC:=fE w1 w1 ⟨ga,gl,gc,na,nl,nc,wa,wl,wc⟩ d (hW.since hS1) (Since.refl _)
 dsimp only at hC
 obtain ⟨er,her⟩:∃ y,aD d=y:=⟨_,rfl⟩
 rw [her] at hC h0 ⊢
 have hb:(er != 0)=true:=by simpa using h0
 clear h0 her hW
 go_enter func60,ntmps60
 go_wp2_with fail
 refine hC.mono ?_
 rintro e w3 ⟨rfl,hS3⟩
 go_wp2_with fail
 refine bodyPost_ret (v:=.tuple #[.slice none 0 0,.int .i64 er]) ?_ rfl ⟨rfl,hS1.trans hS3⟩
 simp [results,results60,go_sem]
theorem Kk (x:WV) (d:Wd) (w:World) (LL:List Mg) (EE:Int) (hW:WAt w x d) (h0:aD d=0) (HR:Hid (Right d)) (HOK:Hid (∀ l,oQ d=.ok l->LL=l/\EE=0)) (HER:Hid (∀ e,oQ d=.error e->LL=[]/\EE=e)) :
  Calls prog 60 #[.agg #[.slice x.ga x.gl x.gc,.slice x.na x.nl x.nc,.slice x.wa x.wl x.wc]] w fun e w'=>∃ a c,e=.returned (.tuple #[.slice a LL.length c,.int .i64 EE])/\dI w' a LL.length LL/\Since w w':=by
 obtain ⟨ga,gl,gc,na,nl,nc,wa,wl,wc⟩:=x
 have hnl:=hW.n.hlen
 dsimp only at hnl ⊢
 subst hnl
 obtain ⟨w1,hw1⟩:∃ wp,w.alloc (.cells #[.slice ga gl gc,.slice na d.nodes.length nc,.slice wa wl wc] 26)=wp:=⟨_,rfl⟩
 have hP1:aG w1 w.heap.size ⟨ga,gl,gc,na,d.nodes.length,nc,wa,wl,wc⟩:=by rw [<-hw1];exact aG.new w ⟨ga,gl,gc,na,d.nodes.length,nc,wa,wl,wc⟩ _
 have hS1:=au hw1
 have PF:Hid (∀ y,Since w1 y->aG y w.heap.size ⟨ga,gl,gc,na,d.nodes.length,nc,wa,wl,wc⟩):=fun y hy=>hP1.since hy
 obtain ⟨_,p0,p1,p2⟩:=hP1
 dsimp only at p0 p1 p2
 have hC:=fE w1 w1 ⟨ga,gl,gc,na,d.nodes.length,nc,wa,wl,wc⟩ d (hW.since hS1) (Since.refl _)
 dsimp only at hC
 rw [h0] at hC
 have hnm:1<=d.nodes.length/\d.nodes.length<=4:=by
  obtain ⟨h1,h2,_,_⟩:=o9 HR.out.chk
  omega
 obtain ⟨bn,on,e,hbn,hcn⟩:=hW.n.cells (by dsimp only;omega)
 dsimp only at e
 subst e
 have Tf:bn < w1.heap.size:=zQ4 hbn hS1.size
 have HCN:Hid (∀ n nd,d.nodes[n]? = some nd->∃ ta tc,w1.cell? ⟨bn,on+n*4+3,none⟩=some (.slice ta nd.told.length tc)/\dI w1 ta nd.told.length nd.told):=by
  intro n nd hn
  obtain ⟨_,_,_,⟨v3,k3,ta,tc,rfl,htc,hT⟩⟩:=hcn n nd hn
  exact ⟨ta,tc,(hS1.cellAt hbn _).trans k3,hT.since hS1⟩
 clear hcn hW h0
 go_enter func60,ntmps60
 go_wp2_with fail
 refine hC.mono ?_
 rintro e w3 ⟨rfl,hS3⟩
 clear hw1 p0 p1 p2 hC
 go_wp2_with fail
 go_loopw [5,6] (fun v i wr=>∃ (n:Nat) (sa:Option Addr) (sc:Nat) (out:List Mg),n<=d.nodes.length/\i=.int .i64 n/\v=.slice sa out.length sc/\(mM d n 0).foldlM jm []=.ok out/\(out=[]->sa=none/\sc=0)/\Row wr w1.heap.size 5 ⟨sa,sc⟩ out.length (flat out)/\Since w1 wr) (fun _ i _=>d.nodes.length - (intOf i).toNat)
 case atStart=>exact ⟨0,none,0,[],Nat.zero_le _,rfl,rfl,by rw [zO];rfl,fun _=>⟨rfl,rfl⟩,Row.nil _ _ _,hS3⟩
 case round =>
  obtain ⟨wo,rfl⟩:∃ wo,wo=wr:=⟨_,rfl⟩
  obtain ⟨n,sa,sc,out,hn,rfl,rfl,hf,hnil,hR,hSr⟩:=hrel
  have HF:Hid ((mM d n 0).foldlM jm []=.ok out):=hf
  clear hf
  obtain ⟨_,r0,r1,r2⟩:=PF.out _ hSr
  dsimp only at r0 r1 r2
  by_cases hlt:n < d.nodes.length
  ·have n1:(n:Int) < (d.nodes.length:Int):=by omega
   obtain ⟨nd,hnd⟩:∃ y,d.nodes[n]? = some y:=⟨_,zQ1 hlt⟩
   have HND:Hid (d.nodes[n]? = some nd):=hnd
   obtain ⟨ta,tc,k3,hT⟩:=HCN.out n nd hnd
   have hTN:nd.told.length<=40:=by have:=HR.out.tJ n;rwa [oV hnd] at this
   clear hnd r0 r1 r2
   have r1:=(PF.out _ hSr).c1
   dsimp only at r1
   go_wp2_with fail
   go_loopw [5,7] (fun v i wr=>∃ (k:Nat) (sa:Option Addr) (sc:Nat) (out:List Mg),k<=nd.told.length/\i=.int .i64 k/\v=.slice sa out.length sc/\(mM d n k).foldlM jm []=.ok out/\(out=[]->sa=none/\sc=0)/\Row wr w1.heap.size 5 ⟨sa,sc⟩ out.length (flat out)/\Since w1 wr) (fun _ i _=>nd.told.length - (intOf i).toNat)
   case atStart=>exact ⟨0,sa,sc,out,Nat.zero_le _,rfl,rfl,HF.out,hnil,hR,hSr⟩
   case round =>
    clear hnil hR HF r1
    obtain ⟨wq,rfl⟩:∃ wq,wq=wr:=⟨_,rfl⟩
    obtain ⟨k,sa,sc,out,hk,rfl,rfl,hf,hnil,hR,hSq⟩:=hrel
    have HF:Hid ((mM d n k).foldlM jm []=.ok out):=hf
    have hol:=Jc HR.out HND.out hk hf
    clear hf
    have r1:=(PF.out _ hSq).c1
    dsimp only at r1
    have kq:=(hSq.cellAt Tf _).trans k3
    by_cases hlk:k < nd.told.length
    ·have n2:(k:Int) < (nd.told.length:Int):=by omega
     obtain ⟨m,hm⟩:∃ m,nd.told[k]? = some m:=⟨_,zQ1 hlk⟩
     have HM:Hid (nd.told[k]? = some m):=hm
     obtain ⟨bb,off,rfl,hbb,hcell⟩:=(hT.since hSq).cells (by omega)
     obtain ⟨e0,e1,e2,e3,e4⟩:=bJ hcell k m hm
     clear hcell hm
     have HPN:Hid (mM d n (k+1)=mM d n k++[m]):=Mj HND.out HM.out
     obtain ⟨W2,hW2⟩:∃ y,wq.alloc (.cells #[.int .i64 m.fr,.int .i64 m.gr,.int .i64 m.st,.bool m.nul,.string m.body] 42)=y:=⟨_,rfl⟩
     have hs2:=au hW2
     have z0:W2.cell? ⟨wq.heap.size,0,none⟩=some (.int .i64 m.fr):=by rw [<-hW2];simp [go_sem]
     have z1:W2.cell? ⟨wq.heap.size,1,none⟩=some (.int .i64 m.gr):=by rw [<-hW2];simp [go_sem]
     have z2:W2.cell? ⟨wq.heap.size,2,none⟩=some (.int .i64 m.st):=by rw [<-hW2];simp [go_sem]
     have z3:W2.cell? ⟨wq.heap.size,3,none⟩=some (.bool m.nul):=by rw [<-hW2];simp [go_sem]
     have z4:W2.cell? ⟨wq.heap.size,4,none⟩=some (.string m.body):=by rw [<-hW2];simp [go_sem]
     have hlw:wq.heap.size < W2.heap.size:=by rw [<-hW2];simp
     have hR2:=hR.since hs2
     have hMo:=jl hR2 (by omega)
     dsimp only at hMo
     have hTo:=Ee sa out.length sc out m W2 hMo
     rw [Kl] at hTo
     obtain ⟨ix,hix⟩:∃ y,(((jI m out).getD 0:Nat):Int)=y:=⟨_,rfl⟩
     rw [hix] at hTo
     clear hix
     cases hin:out.any (dN m)
     ·rw [hin] at hTo
      have HIN:Hid (out.any (dN m)=false):=hin
      clear hin
      go_wp2_with fail
      refine hTo.mono ?_
      rintro e w4 ⟨rfl,hS4⟩
      have GZ:=hMo.since hS4
      have hR4:=hR2.since hS4
      have h14:=hSq.trans (hs2.trans hS4)
      have hl4:wq.heap.size < w4.heap.size:=zQ4 hlw hS4.size
      have y0:=(hS4.cellAt hlw _).trans z0
      have y1:=(hS4.cellAt hlw _).trans z1
      have y2:=(hS4.cellAt hlw _).trans z2
      have y3:=(hS4.cellAt hlw _).trans z3
      have y4:=(hS4.cellAt hlw _).trans z4
      clear z0 z1 z2 z3 z4 hW2 hMo hR hR2 hTo e0 e1 e2 e3 e4 r1 kq
      go_wp2_with fail
      go_loopw [11] (fun i wr=>(∃ p:Nat,p<=aO m out/\i=.int .i64 p)/\Since w4 wr) (fun i _=>out.length - (intOf i).toNat)
      case atStart=>exact ⟨⟨0,Nat.zero_le _,rfl⟩,Since.refl w4⟩
      case round =>
       obtain ⟨wz,rfl⟩:∃ wz,wz=wr:=⟨_,rfl⟩
       obtain ⟨⟨p,hp,rfl⟩,hSz⟩:=hrel
       have HK:Hid (p<=aO m out):=hp
       have hpl:p<=out.length:=zQ5 hp (jA m out)
       clear hp
       have hne:Nonempty (Later wz):=⟨⟨wz,Since.refl wz⟩⟩
       have hg2:∀ (y:Later wz) (o:Nat),y.w.cell? ⟨wq.heap.size,o,none⟩=w4.cell? ⟨wq.heap.size,o,none⟩:=fun y o=>Later.old hSz y o hl4
       by_cases hlt3:p < out.length
       ·obtain ⟨x,hx⟩:∃ x,out[p]? = some x:=⟨_,zQ1 hlt3⟩
        obtain ⟨b,of,rfl,hb,hcell⟩:=GZ.cells (by omega)
        obtain ⟨d0,d1,d2,d3,d4⟩:=bJ hcell p x hx
        have hg:∀ (y:Later wz) (o:Nat),y.w.cell? ⟨b,o,none⟩=w4.cell? ⟨b,o,none⟩:=fun y o=>Later.old hSz y o hb
        have HX:Hid (out[p]? = some x):=hx
        clear hx hcell
        cases hl2:lessM x m
        ·have HP:Hid (aO m out=p):=sK m out p x HK.out HX.out hl2
         go_wp2_with fail
         refine ak (by kernel_rfl) (by kernel_rfl) (Since.refl wz) ?_
         repeat (go_big_quiet_step ((go_at_call 124;exact Later.call (jP wz x m _ hl2))))
         refine wpQuiet_nil ?_
         intro w8 hS8
         go_wp2_with fail
         cases hl3:lessM m x
         ·have HV:Hid (LL=[]/\EE=1):=HER.out 1 (Mk HND.out HM.out HF.out (by rw [Fh HIN.out (by rw [HP.out];exact HX.out),hl3];rfl))
          refine ak (by kernel_rfl) (by kernel_rfl) hS8 ?_
          repeat (go_big_quiet_step ((go_at_call 124;exact Later.call (jP wz m x _ hl3))))
          refine wpQuiet_nil ?_
          intro w9 hS9
          go_wp2_with fail
          obtain ⟨hL,hE⟩:=HV.out
          rw [hL,hE]
          refine bodyPost_ret (v:=.tuple #[.slice none 0 0,.int .i64 1]) ?_ rfl ?_
          ·simp [results,results60,go_sem]
          ·first
            | exact ⟨none,⟨0,rfl⟩,lT _,hS1.trans (h14.trans (hSz.trans hS9))⟩
            | exact ⟨none,0,rfl,lT _,hS1.trans (h14.trans (hSz.trans hS9))⟩
         ·refine ak (by kernel_rfl) (by kernel_rfl) hS8 ?_
          repeat (go_big_quiet_step ((go_at_call 124;exact Later.call (jP wz m x _ hl3))))
          refine wpQuiet_nil ?_
          intro w9 hS9
          go_wp2_with fail
          have hcap:=hR4.cap
          dsimp only at hcap
          have hkc:p < sc:=by omega
          have hpos:decide (0 < ((out.length - p:Nat):Int))=true:=by simp;omega
          have hpos':0 < out.length - p:=by omega
          have HT:Hid ((mM d n (k+1)).foldlM jm []=.ok (out.take p++[m]++out.drop p)):=by
           unfold Hid;rw [HPN.out,xG HF.out,Fh HIN.out (by rw [HP.out];exact HX.out),hl3,HP.out];rfl
          have HLEN:Hid ((out.take p++[m]++out.drop p).length=p+1+(out.length - p)):=by
           unfold Hid;simp only [List.length_append,List.length_take,List.length_drop,List.length_singleton];omega
          have hsrc1:=fun (y:World) (hy:Since w4 y)=>zM (c:=sc) (GZ.since hy) hpl
          have rF:=fun (y:World) (hy:Since w4 y)=>Fg (c:=sc - p) (GZ.since hy) hpl
          clear d0 d1 d2 d3 d4 hl2 hl3 hg
          clear hne hg2
          obtain ⟨S0,hS0⟩:∃ S0:World->Prop,∀ w',S0 w'↔Since w4 w':=⟨_,fun _=>Iff.rfl⟩
          have dG:=aQ w
          have x0:∀ y:aj S0,y.w.cell? ⟨wq.heap.size,0,none⟩=some (.int .i64 m.fr):=fun y=>(((hS0 _).1 y.h).cellAt hl4 _).trans y0
          have x1:∀ y:aj S0,y.w.cell? ⟨wq.heap.size,1,none⟩=some (.int .i64 m.gr):=fun y=>(((hS0 _).1 y.h).cellAt hl4 _).trans y1
          have x2:∀ y:aj S0,y.w.cell? ⟨wq.heap.size,2,none⟩=some (.int .i64 m.st):=fun y=>(((hS0 _).1 y.h).cellAt hl4 _).trans y2
          have x3:∀ y:aj S0,y.w.cell? ⟨wq.heap.size,3,none⟩=some (.bool m.nul):=fun y=>(((hS0 _).1 y.h).cellAt hl4 _).trans y3
          have x4:∀ y:aj S0,y.w.cell? ⟨wq.heap.size,4,none⟩=some (.string m.body):=fun y=>(((hS0 _).1 y.h).cellAt hl4 _).trans y4
          obtain ⟨W0,hW0⟩:∃ y,w9.drew=y:=⟨_,rfl⟩
          have hs0:Since w4 W0:=by rw [<-hW0];exact Since.drew (hSz.trans hS9)
          have av:=(hS0 W0).2 hs0
          have hne:Nonempty (aj S0):=⟨⟨_,av⟩⟩
          refine aS (fun w'=>∃ x:aj S0,w'=x.w) (by kernel_rfl) ?_
          rw [hW0]
          clear hW0
          refine tW 1 rfl ?_;go_big_quiet_op
          refine tW 2 rfl ?_;go_big_quiet_op
          refine tM 3 rfl (ah av) ?_;go_big_quiet_op
          refine tM 5 rfl (ah av) ?_;go_big_quiet_op
          refine tW 8 rfl ?_;go_big_quiet_op
          refine tW 9 rfl ?_;go_big_quiet_op
          refine tM 10 rfl (ah av) ?_;go_big_quiet_op
          clear x0 x1 x2 x3 x4 y0 y1 y2 y3 y4
          refine rG 0 6 rfl rfl (by kernel_rfl) ?o11 ?o21
          case' o11 =>
           obtain ⟨WA,hWA⟩:∃ y,W0.alloc (.cells #[] 42)=y:=⟨_,rfl⟩
           have uK:=au hWA
           have hsA:=hs0.trans uK
           have hRe:Row WA w4.heap.size 5 ⟨some ⟨W0.heap.size,0,none⟩,0⟩ 0 []:=by rw [<-hWA];exact Row.empty W0 _ 5 _
           intro K hK
           go_simp
           refine hK _ _ (fun _ _=>ah ((hS0 _).2 hsA)) ?_
           clear hK K
           refine rG 4 6 rfl rfl (by kernel_rfl) ?o31 ?o41
          case' o31 =>
           intro K hK
           refine bF dP (by rfl) _ _ 39 (by rfl) (by rfl) hRe (by rfl) (hsrc1 _ hsA) (by omega) hsA.size ?_
           intro ra rc WB hRr hFr hBr
           simp only [Nat.zero_add,List.nil_append] at hRr
           have zP:Since WA WB:=hFr.since (fun i _ e=>by unfold Sl.blk at e;simp at e)
           have zQ:=hsA.trans zP
           simp only [Nat.zero_add]
           refine hK _ _ (fun _ _=>ah ((hS0 _).2 zQ)) ?_
           clear hK K
           simp only [Act.put,zQ7,zQ8,zQ9]
           obtain ⟨WC,hWC⟩:∃ y,WB.alloc (.cells #[.int .i64 m.fr,.int .i64 m.gr,.int .i64 m.st,.bool m.nul,.string m.body] 42)=y:=⟨_,rfl⟩
           have zR:=au hWC
           have hsC:=zQ.trans zR
           have hMM:dI WC (some ⟨WB.heap.size,0,none⟩) 1 [m]:=by rw [<-hWC];exact iV WB m _
           have hRr:=hRr.since zR
           refine aT 6 rfl (by kernel_rfl) ?_
           intro K hK
           go_simp
           refine hK _ _ (fun _ _=>ah ((hS0 _).2 hsC)) ?_
           clear hK K
           clear hWC
          case' o41 =>
           obtain ⟨WB,hWB⟩:∃ y,WA.alloc (.cells #[.int .i64 m.fr,.int .i64 m.gr,.int .i64 m.st,.bool m.nul,.string m.body] 42)=y:=⟨_,rfl⟩
           have ny:=au hWB
           have hsB:=hsA.trans ny
           have hMM:dI WB (some ⟨WA.heap.size,0,none⟩) 1 [m]:=by rw [<-hWB];exact iV WA m _
           have hRe:=hRe.since ny
           intro K hK
           go_simp
           refine hK _ _ (fun _ _=>ah ((hS0 _).2 hsB)) ?_
           clear hK K
           refine aT 4 rfl (by kernel_rfl) ?_
           intro K hK
           refine bF dP (by rfl) _ _ 39 (by rfl) (by rfl) hRe (by rfl) (hsrc1 _ hsB) (by omega) hsB.size ?_
           intro ra rc WC hRr hFr hBr
           simp only [Nat.zero_add,List.nil_append] at hRr
           have jo:Since WB WC:=hFr.since (fun i _ e=>by unfold Sl.blk at e;simp at e)
           have nA:=hsB.trans jo
           simp only [Nat.zero_add]
           refine hK _ _ (fun _ _=>ah ((hS0 _).2 nA)) ?_
           clear hK K
           simp only [Act.put,zQ7,zQ8,zQ9]
           have hMM:=hMM.since jo
           clear hWB
           have hsC:=nA
          case' o21 =>
           obtain ⟨WA,hWA⟩:∃ y,W0.alloc (.cells #[.int .i64 m.fr,.int .i64 m.gr,.int .i64 m.st,.bool m.nul,.string m.body] 42)=y:=⟨_,rfl⟩
           have uK:=au hWA
           have hsA:=hs0.trans uK
           have hMM:dI WA (some ⟨W0.heap.size,0,none⟩) 1 [m]:=by rw [<-hWA];exact iV W0 m _
           intro K hK
           go_simp
           refine hK _ _ (fun _ _=>ah ((hS0 _).2 hsA)) ?_
           clear hK K
           obtain ⟨WB,hWB⟩:∃ y,WA.alloc (.cells #[] 42)=y:=⟨_,rfl⟩
           have ny:=au hWB
           have hsB:=hsA.trans ny
           have hRe:Row WB w4.heap.size 5 ⟨some ⟨WA.heap.size,0,none⟩,0⟩ 0 []:=by rw [<-hWB];exact Row.empty WA _ 5 _
           have hMM:=hMM.since ny
           refine aT 0 rfl (by kernel_rfl) ?_
           intro K hK
           go_simp
           refine hK _ _ (fun _ _=>ah ((hS0 _).2 hsB)) ?_
           clear hK K
           refine aT 4 rfl (by kernel_rfl) ?_
           intro K hK
           refine bF dP (by rfl) _ _ 39 (by rfl) (by rfl) hRe (by rfl) (hsrc1 _ hsB) (by omega) hsB.size ?_
           intro ra rc WC hRr hFr hBr
           simp only [Nat.zero_add,List.nil_append] at hRr
           have jo:Since WB WC:=hFr.since (fun i _ e=>by unfold Sl.blk at e;simp at e)
           have nA:=hsB.trans jo
           simp only [Nat.zero_add]
           refine hK _ _ (fun _ _=>ah ((hS0 _).2 nA)) ?_
           clear hK K
           simp only [Act.put,zQ7,zQ8,zQ9]
           have hMM:=hMM.since jo
           clear hWA hWB
           have hsC:=nA
          all_goals
           refine aT 7 rfl (by kernel_rfl) ?_
           intro K hK
           refine bF dP (by rfl) _ _ 39 (by rfl) (by rfl) hRr (by rfl) (fH (c:=1) hMM) (by omega) hsC.size ?_
           intro da dc WD hRD hFD hBD
           have hsD:Since w4 WD:=hFD.aA hsC (fun i hi e=>by have:=hRr.eD i e;omega)
           refine hK _ _ (fun _ _=>ah ((hS0 _).2 hsD)) ?_
           clear hK K
           simp only [Act.put,zQ7,zQ8,zQ9]
           refine aT 11 rfl (by kernel_rfl) ?_
           intro K hK
           refine bF dP (by rfl) _ _ 39 (by rfl) (by rfl) hRD (by rfl) (rF _ hsD) (by omega) hsD.size ?_
           intro ea ec WE hRE hFE hBE
           have hsE:Since w4 WE:=hFE.aA hsD (fun i hi e=>by have:=hRD.eD i e;omega)
           refine hK _ _ (fun _ _=>ah ((hS0 _).2 hsE)) ?_
           clear hK K
           simp only [Act.put,zQ7,zQ8,zQ9]
           refine tW 12 rfl ?_;go_big_quiet_op
           refine dB (by kernel_rfl) ?_
           have ku:Hid (Row WE w1.heap.size 5 ⟨ea,ec⟩ (p+1+(out.length - p)) (flat (out.take p)++flat [m]++flat (out.drop p))/\Since w1 WE):=⟨hRE.mono h14.size,h14.trans hsE⟩
           clear hRE hFE hBE hRD hFD hBD hRr hFr hBr hMM hsrc1 rF hne dG
           go_wp2_with fail
           refine ⟨⟨k+1,ea,ec,out.take p++[m]++out.drop p,by omega,by go_num,by rw [HLEN.out],HT.out,fun h=>by simp at h, ?_,ku.out.2⟩,by simp [intOf];omega⟩
           rw [HLEN.out,bT,bT];exact ku.out.1
        ·have HFn:Hid (p+1<=aO m out):=qb m out p x HK.out HX.out hl2
         go_wp2_with fail
         refine ak (by kernel_rfl) (by kernel_rfl) (Since.refl wz) ?_
         repeat (go_big_quiet_step ((go_at_call 124;exact Later.call (jP wz x m _ hl2))))
         refine wpQuiet_nil ?_
         intro w9 hS9
         clear hg hg2 hne
         go_wp2_with fail
         go_roundw
         case rel=>exact ⟨⟨p+1,HFn.out,by go_num⟩,hSz.trans hS9⟩
         case measure=>simp [intOf];omega
       ·have HPL:Hid (p=out.length):=by unfold Hid;omega
        have HP:Hid (aO m out=p):=by have:=jA m out;have:=HK.out;have:=HPL.out;unfold Hid;omega
        have hd:decide ((p:Int) < (out.length:Int))=false:=by simpa using hlt3
        have hd':decide (p < out.length)=false:=by simpa using hlt3
        have hcap:=hR4.cap
        dsimp only at hcap
        have HT:Hid ((mM d n (k+1)).foldlM jm []=.ok (out.take p++[m]++out.drop p)):=by
         unfold Hid;rw [HPN.out,xG HF.out,Ml HIN.out (by rw [HP.out];exact HPL.out),HP.out]
        have Mq:Hid ((out.take p++[m]++out.drop p).length=p+1+0):=by
         have:=HPL.out;unfold Hid;simp only [List.length_append,List.length_take,List.length_drop,List.length_singleton];omega
        have HDR:Hid (out.drop p=[]):=by have:=HPL.out;unfold Hid;exact List.drop_eq_nil_of_le (by omega)
        by_cases hout:out=[]
        ·obtain ⟨rfl,rfl⟩:=hnil hout
         have hp0:p=0:=by have:=HPL.out;rw [hout] at this;simpa using this
         subst hp0
         have UA:out.length=0:=HPL.out.symm
         have HLEN:=Mq
         have hsrc1:=fun (y:World) (hy:Since w4 y)=>zN (w:=y) (a:=none) (c:=0) (ms:=out.take 0) rfl
         have rF:=fun (y:World) (hy:Since w4 y)=>zN (w:=y) (a:=none) (c:=0) (ms:=out.drop 0) HDR.out
         go_wp2_with fail
         refine ak (by kernel_rfl) (by kernel_rfl) (Since.refl wz) ?_
         repeat (go_big_quiet_step (fail))
         refine wpQuiet_nil ?_
         intro w8 hS8
         go_wp2_with fail
         refine ak (by kernel_rfl) (by kernel_rfl) hS8 ?_
         repeat (go_big_quiet_step (fail))
         refine wpQuiet_nil ?_
         intro w9 hS9
         go_wp2_with fail
         clear hne hg2
         obtain ⟨S0,hS0⟩:∃ S0:World->Prop,∀ w',S0 w'↔Since w4 w':=⟨_,fun _=>Iff.rfl⟩
         have dG:=aQ w
         have x0:∀ y:aj S0,y.w.cell? ⟨wq.heap.size,0,none⟩=some (.int .i64 m.fr):=fun y=>(((hS0 _).1 y.h).cellAt hl4 _).trans y0
         have x1:∀ y:aj S0,y.w.cell? ⟨wq.heap.size,1,none⟩=some (.int .i64 m.gr):=fun y=>(((hS0 _).1 y.h).cellAt hl4 _).trans y1
         have x2:∀ y:aj S0,y.w.cell? ⟨wq.heap.size,2,none⟩=some (.int .i64 m.st):=fun y=>(((hS0 _).1 y.h).cellAt hl4 _).trans y2
         have x3:∀ y:aj S0,y.w.cell? ⟨wq.heap.size,3,none⟩=some (.bool m.nul):=fun y=>(((hS0 _).1 y.h).cellAt hl4 _).trans y3
         have x4:∀ y:aj S0,y.w.cell? ⟨wq.heap.size,4,none⟩=some (.string m.body):=fun y=>(((hS0 _).1 y.h).cellAt hl4 _).trans y4
         obtain ⟨W0,hW0⟩:∃ y,w9.drew=y:=⟨_,rfl⟩
         have hs0:Since w4 W0:=by rw [<-hW0];exact Since.drew (hSz.trans hS9)
         have av:=(hS0 W0).2 hs0
         have hne:Nonempty (aj S0):=⟨⟨_,av⟩⟩
         refine aS (fun w'=>∃ x:aj S0,w'=x.w) (by kernel_rfl) ?_
         rw [hW0]
         clear hW0
         refine tW 1 rfl ?_;go_big_quiet_op
         refine tW 2 rfl ?_;go_big_quiet_op
         refine tM 3 rfl (ah av) ?_;go_big_quiet_op
         refine tM 5 rfl (ah av) ?_;go_big_quiet_op
         refine tW 8 rfl ?_;go_big_quiet_op
         refine tW 9 rfl ?_;go_big_quiet_op
         refine tM 10 rfl (ah av) ?_;go_big_quiet_op
         clear x0 x1 x2 x3 x4 y0 y1 y2 y3 y4
         refine rG 0 6 rfl rfl (by kernel_rfl) ?o12 ?o22
         case' o12 =>
          obtain ⟨WA,hWA⟩:∃ y,W0.alloc (.cells #[] 42)=y:=⟨_,rfl⟩
          have uK:=au hWA
          have hsA:=hs0.trans uK
          have hRe:Row WA w4.heap.size 5 ⟨some ⟨W0.heap.size,0,none⟩,0⟩ 0 []:=by rw [<-hWA];exact Row.empty W0 _ 5 _
          intro K hK
          go_simp
          refine hK _ _ (fun _ _=>ah ((hS0 _).2 hsA)) ?_
          clear hK K
          refine rG 4 6 rfl rfl (by kernel_rfl) ?o32 ?o42
         case' o32 =>
          intro K hK
          refine bF dP (by rfl) _ _ 39 (by rfl) (by rfl) hRe (by rfl) (hsrc1 _ hsA) (by omega) hsA.size ?_
          intro ra rc WB hRr hFr hBr
          simp only [Nat.zero_add,List.nil_append] at hRr
          have zP:Since WA WB:=hFr.since (fun i _ e=>by unfold Sl.blk at e;simp at e)
          have zQ:=hsA.trans zP
          simp only [Nat.zero_add]
          refine hK _ _ (fun _ _=>ah ((hS0 _).2 zQ)) ?_
          clear hK K
          simp only [Act.put,zQ7,zQ8,zQ9]
          obtain ⟨WC,hWC⟩:∃ y,WB.alloc (.cells #[.int .i64 m.fr,.int .i64 m.gr,.int .i64 m.st,.bool m.nul,.string m.body] 42)=y:=⟨_,rfl⟩
          have zR:=au hWC
          have hsC:=zQ.trans zR
          have hMM:dI WC (some ⟨WB.heap.size,0,none⟩) 1 [m]:=by rw [<-hWC];exact iV WB m _
          have hRr:=hRr.since zR
          refine aT 6 rfl (by kernel_rfl) ?_
          intro K hK
          go_simp
          refine hK _ _ (fun _ _=>ah ((hS0 _).2 hsC)) ?_
          clear hK K
          clear hWC
         case' o42 =>
          obtain ⟨WB,hWB⟩:∃ y,WA.alloc (.cells #[.int .i64 m.fr,.int .i64 m.gr,.int .i64 m.st,.bool m.nul,.string m.body] 42)=y:=⟨_,rfl⟩
          have ny:=au hWB
          have hsB:=hsA.trans ny
          have hMM:dI WB (some ⟨WA.heap.size,0,none⟩) 1 [m]:=by rw [<-hWB];exact iV WA m _
          have hRe:=hRe.since ny
          intro K hK
          go_simp
          refine hK _ _ (fun _ _=>ah ((hS0 _).2 hsB)) ?_
          clear hK K
          refine aT 4 rfl (by kernel_rfl) ?_
          intro K hK
          refine bF dP (by rfl) _ _ 39 (by rfl) (by rfl) hRe (by rfl) (hsrc1 _ hsB) (by omega) hsB.size ?_
          intro ra rc WC hRr hFr hBr
          simp only [Nat.zero_add,List.nil_append] at hRr
          have jo:Since WB WC:=hFr.since (fun i _ e=>by unfold Sl.blk at e;simp at e)
          have nA:=hsB.trans jo
          simp only [Nat.zero_add]
          refine hK _ _ (fun _ _=>ah ((hS0 _).2 nA)) ?_
          clear hK K
          simp only [Act.put,zQ7,zQ8,zQ9]
          have hMM:=hMM.since jo
          clear hWB
          have hsC:=nA
         case' o22 =>
          obtain ⟨WA,hWA⟩:∃ y,W0.alloc (.cells #[.int .i64 m.fr,.int .i64 m.gr,.int .i64 m.st,.bool m.nul,.string m.body] 42)=y:=⟨_,rfl⟩
          have uK:=au hWA
          have hsA:=hs0.trans uK
          have hMM:dI WA (some ⟨W0.heap.size,0,none⟩) 1 [m]:=by rw [<-hWA];exact iV W0 m _
          intro K hK
          go_simp
          refine hK _ _ (fun _ _=>ah ((hS0 _).2 hsA)) ?_
          clear hK K
          obtain ⟨WB,hWB⟩:∃ y,WA.alloc (.cells #[] 42)=y:=⟨_,rfl⟩
          have ny:=au hWB
          have hsB:=hsA.trans ny
          have hRe:Row WB w4.heap.size 5 ⟨some ⟨WA.heap.size,0,none⟩,0⟩ 0 []:=by rw [<-hWB];exact Row.empty WA _ 5 _
          have hMM:=hMM.since ny
          refine aT 0 rfl (by kernel_rfl) ?_
          intro K hK
          go_simp
          refine hK _ _ (fun _ _=>ah ((hS0 _).2 hsB)) ?_
          clear hK K
          refine aT 4 rfl (by kernel_rfl) ?_
          intro K hK
          refine bF dP (by rfl) _ _ 39 (by rfl) (by rfl) hRe (by rfl) (hsrc1 _ hsB) (by omega) hsB.size ?_
          intro ra rc WC hRr hFr hBr
          simp only [Nat.zero_add,List.nil_append] at hRr
          have jo:Since WB WC:=hFr.since (fun i _ e=>by unfold Sl.blk at e;simp at e)
          have nA:=hsB.trans jo
          simp only [Nat.zero_add]
          refine hK _ _ (fun _ _=>ah ((hS0 _).2 nA)) ?_
          clear hK K
          simp only [Act.put,zQ7,zQ8,zQ9]
          have hMM:=hMM.since jo
          clear hWA hWB
          have hsC:=nA
         all_goals
          refine aT 7 rfl (by kernel_rfl) ?_
          intro K hK
          refine bF dP (by rfl) _ _ 39 (by rfl) (by rfl) hRr (by rfl) (fH (c:=1) hMM) (by omega) hsC.size ?_
          intro da dc WD hRD hFD hBD
          have hsD:Since w4 WD:=hFD.aA hsC (fun i hi e=>by have:=hRr.eD i e;omega)
          refine hK _ _ (fun _ _=>ah ((hS0 _).2 hsD)) ?_
          clear hK K
          simp only [Act.put,zQ7,zQ8,zQ9]
          refine aT 11 rfl (by kernel_rfl) ?_
          intro K hK
          refine bF dP (by rfl) _ _ 39 (by rfl) (by rfl) hRD (by rfl) (rF _ hsD) (by omega) hsD.size ?_
          intro ea ec WE hRE hFE hBE
          have hsE:Since w4 WE:=hFE.aA hsD (fun i hi e=>by have:=hRD.eD i e;omega)
          refine hK _ _ (fun _ _=>ah ((hS0 _).2 hsE)) ?_
          clear hK K
          simp only [Act.put,zQ7,zQ8,zQ9]
          refine tW 12 rfl ?_;go_big_quiet_op
          refine dB (by kernel_rfl) ?_
          have ku:Hid (Row WE w1.heap.size 5 ⟨ea,ec⟩ (0+1+0) (flat (out.take 0)++flat [m]++flat (out.drop 0))/\Since w1 WE):=⟨hRE.mono h14.size,h14.trans hsE⟩
          clear hRE hFE hBE hRD hFD hBD hRr hFr hBr hMM hsrc1 rF hne dG
          go_wp2_with fail
          refine ⟨⟨k+1,ea,ec,out.take 0++[m]++out.drop 0,by omega,by go_num,by rw [HLEN.out],HT.out,fun h=>by simp at h, ?_,ku.out.2⟩,by simp [intOf];omega⟩
          rw [HLEN.out,bT,bT];exact ku.out.1
        ·obtain ⟨b,of,rfl,hb,hcell⟩:=GZ.cells (by have:=List.length_pos_iff.2 hout;omega)
         clear hcell
         by_cases hcp:sc=p
         ·have HLEN:=Mq
          obtain rfl:p=sc:=hcp.symm
          have hsrc1:=fun (y:World) (hy:Since w4 y)=>zM (c:=p) (GZ.since hy) hpl
          have rF:=fun (y:World) (hy:Since w4 y)=>zN (w:=y) (a:=some ⟨b,of,none⟩) (c:=0) (ms:=out.drop p) HDR.out
          go_wp2_with fail
          refine ak (by kernel_rfl) (by kernel_rfl) (Since.refl wz) ?_
          repeat (go_big_quiet_step (fail))
          refine wpQuiet_nil ?_
          intro w8 hS8
          go_wp2_with fail
          refine ak (by kernel_rfl) (by kernel_rfl) hS8 ?_
          repeat (go_big_quiet_step (fail))
          refine wpQuiet_nil ?_
          intro w9 hS9
          go_wp2_with fail
          clear hne hg2
          obtain ⟨S0,hS0⟩:∃ S0:World->Prop,∀ w',S0 w'↔Since w4 w':=⟨_,fun _=>Iff.rfl⟩
          have dG:=aQ w
          have x0:∀ y:aj S0,y.w.cell? ⟨wq.heap.size,0,none⟩=some (.int .i64 m.fr):=fun y=>(((hS0 _).1 y.h).cellAt hl4 _).trans y0
          have x1:∀ y:aj S0,y.w.cell? ⟨wq.heap.size,1,none⟩=some (.int .i64 m.gr):=fun y=>(((hS0 _).1 y.h).cellAt hl4 _).trans y1
          have x2:∀ y:aj S0,y.w.cell? ⟨wq.heap.size,2,none⟩=some (.int .i64 m.st):=fun y=>(((hS0 _).1 y.h).cellAt hl4 _).trans y2
          have x3:∀ y:aj S0,y.w.cell? ⟨wq.heap.size,3,none⟩=some (.bool m.nul):=fun y=>(((hS0 _).1 y.h).cellAt hl4 _).trans y3
          have x4:∀ y:aj S0,y.w.cell? ⟨wq.heap.size,4,none⟩=some (.string m.body):=fun y=>(((hS0 _).1 y.h).cellAt hl4 _).trans y4
          obtain ⟨W0,hW0⟩:∃ y,w9.drew=y:=⟨_,rfl⟩
          have hs0:Since w4 W0:=by rw [<-hW0];exact Since.drew (hSz.trans hS9)
          have av:=(hS0 W0).2 hs0
          have hne:Nonempty (aj S0):=⟨⟨_,av⟩⟩
          refine aS (fun w'=>∃ x:aj S0,w'=x.w) (by kernel_rfl) ?_
          rw [hW0]
          clear hW0
          refine tW 1 rfl ?_;go_big_quiet_op
          refine tW 2 rfl ?_;go_big_quiet_op
          refine tM 3 rfl (ah av) ?_;go_big_quiet_op
          refine tM 5 rfl (ah av) ?_;go_big_quiet_op
          refine tW 8 rfl ?_;go_big_quiet_op
          refine tW 9 rfl ?_;go_big_quiet_op
          refine tM 10 rfl (ah av) ?_;go_big_quiet_op
          clear x0 x1 x2 x3 x4 y0 y1 y2 y3 y4
          refine rG 0 6 rfl rfl (by kernel_rfl) ?o13 ?o23
          case' o13 =>
           obtain ⟨WA,hWA⟩:∃ y,W0.alloc (.cells #[] 42)=y:=⟨_,rfl⟩
           have uK:=au hWA
           have hsA:=hs0.trans uK
           have hRe:Row WA w4.heap.size 5 ⟨some ⟨W0.heap.size,0,none⟩,0⟩ 0 []:=by rw [<-hWA];exact Row.empty W0 _ 5 _
           intro K hK
           go_simp
           refine hK _ _ (fun _ _=>ah ((hS0 _).2 hsA)) ?_
           clear hK K
           refine rG 4 6 rfl rfl (by kernel_rfl) ?o33 ?o43
          case' o33 =>
           intro K hK
           refine bF dP (by rfl) _ _ 39 (by rfl) (by rfl) hRe (by rfl) (hsrc1 _ hsA) (by omega) hsA.size ?_
           intro ra rc WB hRr hFr hBr
           simp only [Nat.zero_add,List.nil_append] at hRr
           have zP:Since WA WB:=hFr.since (fun i _ e=>by unfold Sl.blk at e;simp at e)
           have zQ:=hsA.trans zP
           simp only [Nat.zero_add]
           refine hK _ _ (fun _ _=>ah ((hS0 _).2 zQ)) ?_
           clear hK K
           simp only [Act.put,zQ7,zQ8,zQ9]
           obtain ⟨WC,hWC⟩:∃ y,WB.alloc (.cells #[.int .i64 m.fr,.int .i64 m.gr,.int .i64 m.st,.bool m.nul,.string m.body] 42)=y:=⟨_,rfl⟩
           have zR:=au hWC
           have hsC:=zQ.trans zR
           have hMM:dI WC (some ⟨WB.heap.size,0,none⟩) 1 [m]:=by rw [<-hWC];exact iV WB m _
           have hRr:=hRr.since zR
           refine aT 6 rfl (by kernel_rfl) ?_
           intro K hK
           go_simp
           refine hK _ _ (fun _ _=>ah ((hS0 _).2 hsC)) ?_
           clear hK K
           clear hWC
          case' o43 =>
           obtain ⟨WB,hWB⟩:∃ y,WA.alloc (.cells #[.int .i64 m.fr,.int .i64 m.gr,.int .i64 m.st,.bool m.nul,.string m.body] 42)=y:=⟨_,rfl⟩
           have ny:=au hWB
           have hsB:=hsA.trans ny
           have hMM:dI WB (some ⟨WA.heap.size,0,none⟩) 1 [m]:=by rw [<-hWB];exact iV WA m _
           have hRe:=hRe.since ny
           intro K hK
           go_simp
           refine hK _ _ (fun _ _=>ah ((hS0 _).2 hsB)) ?_
           clear hK K
           refine aT 4 rfl (by kernel_rfl) ?_
           intro K hK
           refine bF dP (by rfl) _ _ 39 (by rfl) (by rfl) hRe (by rfl) (hsrc1 _ hsB) (by omega) hsB.size ?_
           intro ra rc WC hRr hFr hBr
           simp only [Nat.zero_add,List.nil_append] at hRr
           have jo:Since WB WC:=hFr.since (fun i _ e=>by unfold Sl.blk at e;simp at e)
           have nA:=hsB.trans jo
           simp only [Nat.zero_add]
           refine hK _ _ (fun _ _=>ah ((hS0 _).2 nA)) ?_
           clear hK K
           simp only [Act.put,zQ7,zQ8,zQ9]
           have hMM:=hMM.since jo
           clear hWB
           have hsC:=nA
          case' o23 =>
           obtain ⟨WA,hWA⟩:∃ y,W0.alloc (.cells #[.int .i64 m.fr,.int .i64 m.gr,.int .i64 m.st,.bool m.nul,.string m.body] 42)=y:=⟨_,rfl⟩
           have uK:=au hWA
           have hsA:=hs0.trans uK
           have hMM:dI WA (some ⟨W0.heap.size,0,none⟩) 1 [m]:=by rw [<-hWA];exact iV W0 m _
           intro K hK
           go_simp
           refine hK _ _ (fun _ _=>ah ((hS0 _).2 hsA)) ?_
           clear hK K
           obtain ⟨WB,hWB⟩:∃ y,WA.alloc (.cells #[] 42)=y:=⟨_,rfl⟩
           have ny:=au hWB
           have hsB:=hsA.trans ny
           have hRe:Row WB w4.heap.size 5 ⟨some ⟨WA.heap.size,0,none⟩,0⟩ 0 []:=by rw [<-hWB];exact Row.empty WA _ 5 _
           have hMM:=hMM.since ny
           refine aT 0 rfl (by kernel_rfl) ?_
           intro K hK
           go_simp
           refine hK _ _ (fun _ _=>ah ((hS0 _).2 hsB)) ?_
           clear hK K
           refine aT 4 rfl (by kernel_rfl) ?_
           intro K hK
           refine bF dP (by rfl) _ _ 39 (by rfl) (by rfl) hRe (by rfl) (hsrc1 _ hsB) (by omega) hsB.size ?_
           intro ra rc WC hRr hFr hBr
           simp only [Nat.zero_add,List.nil_append] at hRr
           have jo:Since WB WC:=hFr.since (fun i _ e=>by unfold Sl.blk at e;simp at e)
           have nA:=hsB.trans jo
           simp only [Nat.zero_add]
           refine hK _ _ (fun _ _=>ah ((hS0 _).2 nA)) ?_
           clear hK K
           simp only [Act.put,zQ7,zQ8,zQ9]
           have hMM:=hMM.since jo
           clear hWA hWB
           have hsC:=nA
          all_goals
           refine aT 7 rfl (by kernel_rfl) ?_
           intro K hK
           refine bF dP (by rfl) _ _ 39 (by rfl) (by rfl) hRr (by rfl) (fH (c:=1) hMM) (by omega) hsC.size ?_
           intro da dc WD hRD hFD hBD
           have hsD:Since w4 WD:=hFD.aA hsC (fun i hi e=>by have:=hRr.eD i e;omega)
           refine hK _ _ (fun _ _=>ah ((hS0 _).2 hsD)) ?_
           clear hK K
           simp only [Act.put,zQ7,zQ8,zQ9]
           refine aT 11 rfl (by kernel_rfl) ?_
           intro K hK
           refine bF dP (by rfl) _ _ 39 (by rfl) (by rfl) hRD (by rfl) (rF _ hsD) (by omega) hsD.size ?_
           intro ea ec WE hRE hFE hBE
           have hsE:Since w4 WE:=hFE.aA hsD (fun i hi e=>by have:=hRD.eD i e;omega)
           refine hK _ _ (fun _ _=>ah ((hS0 _).2 hsE)) ?_
           clear hK K
           simp only [Act.put,zQ7,zQ8,zQ9]
           refine tW 12 rfl ?_;go_big_quiet_op
           refine dB (by kernel_rfl) ?_
           have ku:Hid (Row WE w1.heap.size 5 ⟨ea,ec⟩ (p+1+0) (flat (out.take p)++flat [m]++flat (out.drop p))/\Since w1 WE):=⟨hRE.mono h14.size,h14.trans hsE⟩
           clear hRE hFE hBE hRD hFD hBD hRr hFr hBr hMM hsrc1 rF hne dG
           go_wp2_with fail
           refine ⟨⟨k+1,ea,ec,out.take p++[m]++out.drop p,by omega,by go_num,by rw [HLEN.out],HT.out,fun h=>by simp at h, ?_,ku.out.2⟩,by simp [intOf];omega⟩
           rw [HLEN.out,bT,bT];exact ku.out.1
         ·have hkc:p < sc:=by have:=HPL.out;omega
          have hnz:decide (0 < out.length - p)=false:=by have:=HPL.out;simp;omega
          have HLEN:Hid ((out.take p++[m]++out.drop p).length=p+1+(out.length - p)):=by
           have:=HPL.out;unfold Hid;rw [Mq.out];omega
          have hsrc1:=fun (y:World) (hy:Since w4 y)=>zM (c:=sc) (GZ.since hy) hpl
          have rF:=fun (y:World) (hy:Since w4 y)=>Fg (c:=sc - p) (GZ.since hy) hpl
          go_wp2_with fail
          refine ak (by kernel_rfl) (by kernel_rfl) (Since.refl wz) ?_
          repeat (go_big_quiet_step (fail))
          refine wpQuiet_nil ?_
          intro w8 hS8
          go_wp2_with fail
          refine ak (by kernel_rfl) (by kernel_rfl) hS8 ?_
          repeat (go_big_quiet_step (fail))
          refine wpQuiet_nil ?_
          intro w9 hS9
          go_wp2_with fail
          clear hne hg2
          obtain ⟨S0,hS0⟩:∃ S0:World->Prop,∀ w',S0 w'↔Since w4 w':=⟨_,fun _=>Iff.rfl⟩
          have dG:=aQ w
          have x0:∀ y:aj S0,y.w.cell? ⟨wq.heap.size,0,none⟩=some (.int .i64 m.fr):=fun y=>(((hS0 _).1 y.h).cellAt hl4 _).trans y0
          have x1:∀ y:aj S0,y.w.cell? ⟨wq.heap.size,1,none⟩=some (.int .i64 m.gr):=fun y=>(((hS0 _).1 y.h).cellAt hl4 _).trans y1
          have x2:∀ y:aj S0,y.w.cell? ⟨wq.heap.size,2,none⟩=some (.int .i64 m.st):=fun y=>(((hS0 _).1 y.h).cellAt hl4 _).trans y2
          have x3:∀ y:aj S0,y.w.cell? ⟨wq.heap.size,3,none⟩=some (.bool m.nul):=fun y=>(((hS0 _).1 y.h).cellAt hl4 _).trans y3
          have x4:∀ y:aj S0,y.w.cell? ⟨wq.heap.size,4,none⟩=some (.string m.body):=fun y=>(((hS0 _).1 y.h).cellAt hl4 _).trans y4
          obtain ⟨W0,hW0⟩:∃ y,w9.drew=y:=⟨_,rfl⟩
          have hs0:Since w4 W0:=by rw [<-hW0];exact Since.drew (hSz.trans hS9)
          have av:=(hS0 W0).2 hs0
          have hne:Nonempty (aj S0):=⟨⟨_,av⟩⟩
          refine aS (fun w'=>∃ x:aj S0,w'=x.w) (by kernel_rfl) ?_
          rw [hW0]
          clear hW0
          refine tW 1 rfl ?_;go_big_quiet_op
          refine tW 2 rfl ?_;go_big_quiet_op
          refine tM 3 rfl (ah av) ?_;go_big_quiet_op
          refine tM 5 rfl (ah av) ?_;go_big_quiet_op
          refine tW 8 rfl ?_;go_big_quiet_op
          refine tW 9 rfl ?_;go_big_quiet_op
          refine tM 10 rfl (ah av) ?_;go_big_quiet_op
          clear x0 x1 x2 x3 x4 y0 y1 y2 y3 y4
          refine rG 0 6 rfl rfl (by kernel_rfl) ?o14 ?o24
          case' o14 =>
           obtain ⟨WA,hWA⟩:∃ y,W0.alloc (.cells #[] 42)=y:=⟨_,rfl⟩
           have uK:=au hWA
           have hsA:=hs0.trans uK
           have hRe:Row WA w4.heap.size 5 ⟨some ⟨W0.heap.size,0,none⟩,0⟩ 0 []:=by rw [<-hWA];exact Row.empty W0 _ 5 _
           intro K hK
           go_simp
           refine hK _ _ (fun _ _=>ah ((hS0 _).2 hsA)) ?_
           clear hK K
           refine rG 4 6 rfl rfl (by kernel_rfl) ?o34 ?o44
          case' o34 =>
           intro K hK
           refine bF dP (by rfl) _ _ 39 (by rfl) (by rfl) hRe (by rfl) (hsrc1 _ hsA) (by omega) hsA.size ?_
           intro ra rc WB hRr hFr hBr
           simp only [Nat.zero_add,List.nil_append] at hRr
           have zP:Since WA WB:=hFr.since (fun i _ e=>by unfold Sl.blk at e;simp at e)
           have zQ:=hsA.trans zP
           simp only [Nat.zero_add]
           refine hK _ _ (fun _ _=>ah ((hS0 _).2 zQ)) ?_
           clear hK K
           simp only [Act.put,zQ7,zQ8,zQ9]
           obtain ⟨WC,hWC⟩:∃ y,WB.alloc (.cells #[.int .i64 m.fr,.int .i64 m.gr,.int .i64 m.st,.bool m.nul,.string m.body] 42)=y:=⟨_,rfl⟩
           have zR:=au hWC
           have hsC:=zQ.trans zR
           have hMM:dI WC (some ⟨WB.heap.size,0,none⟩) 1 [m]:=by rw [<-hWC];exact iV WB m _
           have hRr:=hRr.since zR
           refine aT 6 rfl (by kernel_rfl) ?_
           intro K hK
           go_simp
           refine hK _ _ (fun _ _=>ah ((hS0 _).2 hsC)) ?_
           clear hK K
           clear hWC
          case' o44 =>
           obtain ⟨WB,hWB⟩:∃ y,WA.alloc (.cells #[.int .i64 m.fr,.int .i64 m.gr,.int .i64 m.st,.bool m.nul,.string m.body] 42)=y:=⟨_,rfl⟩
           have ny:=au hWB
           have hsB:=hsA.trans ny
           have hMM:dI WB (some ⟨WA.heap.size,0,none⟩) 1 [m]:=by rw [<-hWB];exact iV WA m _
           have hRe:=hRe.since ny
           intro K hK
           go_simp
           refine hK _ _ (fun _ _=>ah ((hS0 _).2 hsB)) ?_
           clear hK K
           refine aT 4 rfl (by kernel_rfl) ?_
           intro K hK
           refine bF dP (by rfl) _ _ 39 (by rfl) (by rfl) hRe (by rfl) (hsrc1 _ hsB) (by omega) hsB.size ?_
           intro ra rc WC hRr hFr hBr
           simp only [Nat.zero_add,List.nil_append] at hRr
           have jo:Since WB WC:=hFr.since (fun i _ e=>by unfold Sl.blk at e;simp at e)
           have nA:=hsB.trans jo
           simp only [Nat.zero_add]
           refine hK _ _ (fun _ _=>ah ((hS0 _).2 nA)) ?_
           clear hK K
           simp only [Act.put,zQ7,zQ8,zQ9]
           have hMM:=hMM.since jo
           clear hWB
           have hsC:=nA
          case' o24 =>
           obtain ⟨WA,hWA⟩:∃ y,W0.alloc (.cells #[.int .i64 m.fr,.int .i64 m.gr,.int .i64 m.st,.bool m.nul,.string m.body] 42)=y:=⟨_,rfl⟩
           have uK:=au hWA
           have hsA:=hs0.trans uK
           have hMM:dI WA (some ⟨W0.heap.size,0,none⟩) 1 [m]:=by rw [<-hWA];exact iV W0 m _
           intro K hK
           go_simp
           refine hK _ _ (fun _ _=>ah ((hS0 _).2 hsA)) ?_
           clear hK K
           obtain ⟨WB,hWB⟩:∃ y,WA.alloc (.cells #[] 42)=y:=⟨_,rfl⟩
           have ny:=au hWB
           have hsB:=hsA.trans ny
           have hRe:Row WB w4.heap.size 5 ⟨some ⟨WA.heap.size,0,none⟩,0⟩ 0 []:=by rw [<-hWB];exact Row.empty WA _ 5 _
           have hMM:=hMM.since ny
           refine aT 0 rfl (by kernel_rfl) ?_
           intro K hK
           go_simp
           refine hK _ _ (fun _ _=>ah ((hS0 _).2 hsB)) ?_
           clear hK K
           refine aT 4 rfl (by kernel_rfl) ?_
           intro K hK
           refine bF dP (by rfl) _ _ 39 (by rfl) (by rfl) hRe (by rfl) (hsrc1 _ hsB) (by omega) hsB.size ?_
           intro ra rc WC hRr hFr hBr
           simp only [Nat.zero_add,List.nil_append] at hRr
           have jo:Since WB WC:=hFr.since (fun i _ e=>by unfold Sl.blk at e;simp at e)
           have nA:=hsB.trans jo
           simp only [Nat.zero_add]
           refine hK _ _ (fun _ _=>ah ((hS0 _).2 nA)) ?_
           clear hK K
           simp only [Act.put,zQ7,zQ8,zQ9]
           have hMM:=hMM.since jo
           clear hWA hWB
           have hsC:=nA
          all_goals
           refine aT 7 rfl (by kernel_rfl) ?_
           intro K hK
           refine bF dP (by rfl) _ _ 39 (by rfl) (by rfl) hRr (by rfl) (fH (c:=1) hMM) (by omega) hsC.size ?_
           intro da dc WD hRD hFD hBD
           have hsD:Since w4 WD:=hFD.aA hsC (fun i hi e=>by have:=hRr.eD i e;omega)
           refine hK _ _ (fun _ _=>ah ((hS0 _).2 hsD)) ?_
           clear hK K
           simp only [Act.put,zQ7,zQ8,zQ9]
           refine aT 11 rfl (by kernel_rfl) ?_
           intro K hK
           refine bF dP (by rfl) _ _ 39 (by rfl) (by rfl) hRD (by rfl) (rF _ hsD) (by omega) hsD.size ?_
           intro ea ec WE hRE hFE hBE
           have hsE:Since w4 WE:=hFE.aA hsD (fun i hi e=>by have:=hRD.eD i e;omega)
           refine hK _ _ (fun _ _=>ah ((hS0 _).2 hsE)) ?_
           clear hK K
           simp only [Act.put,zQ7,zQ8,zQ9]
           refine tW 12 rfl ?_;go_big_quiet_op
           refine dB (by kernel_rfl) ?_
           have ku:Hid (Row WE w1.heap.size 5 ⟨ea,ec⟩ (p+1+(out.length - p)) (flat (out.take p)++flat [m]++flat (out.drop p))/\Since w1 WE):=⟨hRE.mono h14.size,h14.trans hsE⟩
           clear hRE hFE hBE hRD hFD hBD hRr hFr hBr hMM hsrc1 rF hne dG
           go_wp2_with fail
           refine ⟨⟨k+1,ea,ec,out.take p++[m]++out.drop p,by omega,by go_num,by rw [HLEN.out],HT.out,fun h=>by simp at h, ?_,ku.out.2⟩,by simp [intOf];omega⟩
           rw [HLEN.out,bT,bT];exact ku.out.1
     ·rw [hin] at hTo
      have HT:Hid ((mM d n (k+1)).foldlM jm []=.ok out):=by unfold Hid;rw [HPN.out,xG HF.out];exact add_same hin
      clear hin
      go_wp2_with fail
      refine hTo.mono ?_
      rintro e w4 ⟨rfl,hS4⟩
      have ku:Hid ((out=[]->sa=none/\sc=0)/\Row w4 w1.heap.size 5 ⟨sa,sc⟩ out.length (flat out)/\Since w1 w4):=⟨hnil,hR2.since hS4,hSq.trans (hs2.trans hS4)⟩
      clear z0 z1 z2 z3 z4 hR hR2 hMo hW2 hnil hTo
      go_wp2_with fail
      refine ⟨⟨k+1,sa,sc,out,by omega,by go_num,rfl,HT.out,ku.out.1,ku.out.2.1,ku.out.2.2⟩,by simp [intOf];omega⟩
    ·obtain rfl:k=nd.told.length:=by omega
     have HT:Hid ((mM d (n+1) 0).foldlM jm []=.ok out):=by unfold Hid;rw [<-Fj HND.out];exact HF.out
     have ku:Hid ((out=[]->sa=none/\sc=0)/\Row wq w1.heap.size 5 ⟨sa,sc⟩ out.length (flat out)/\Since w1 wq):=⟨hnil,hR,hSq⟩
     clear hnil hR
     go_wp2_with fail
     refine ⟨⟨n+1,sa,sc,out,by omega,by go_num,rfl,HT.out,ku.out.1,ku.out.2.1,ku.out.2.2⟩,by simp [intOf];omega⟩
  ·obtain rfl:n=d.nodes.length:=by omega
   have HBF:Hid (LL=out/\EE=0):=HOK.out out (by unfold oQ;rw [<-Oc];exact HF.out)
   have hol:out.length<=1000:=by
    obtain ⟨y,hy⟩:∃ y,d.nodes[d.nodes.length - 1]? = some y:=⟨_,zQ1 (by omega)⟩
    have h1:=Fj hy
    rw [Nat.sub_add_cancel hnm.1] at h1
    have h2:=HF.out
    rw [<-h1] at h2
    have:=Jc HR.out hy (Nat.le_refl _) h2
    omega
   have hMf:=jl hR hol
   dsimp only at hMf
   have HMF:Hid (dI wo sa out.length out):=hMf
   clear hR hMf hnil
   go_wp2_with fail
   obtain ⟨hL,hE⟩:=HBF.out
   rw [hL,hE]
   refine bodyPost_ret (v:=.tuple #[.slice sa out.length sc,.int .i64 0]) ?_ rfl ?_
   ·simp [results,results60,go_sem]
   ·first
     | exact ⟨sa,⟨sc,rfl⟩,HMF.out,hS1.trans hSr⟩
     | exact ⟨sa,sc,rfl,HMF.out,hS1.trans hSr⟩
theorem GD (x:WV) (d:Wd) (w:World) (hW:WAt w x d) :
  Calls prog 60 #[.agg #[.slice x.ga x.gl x.gc,.slice x.na x.nl x.nc,.slice x.wa x.wl x.wc]] w fun e w'=>∃ a c,e=.returned (.tuple #[.slice a (pU d).length c,.int .i64 (vD d)])/\dI w' a (pU d).length (pU d)/\Since w w':=by
 by_cases h0:aD d=0
 ·refine Kk x d w (pU d) (vD d) hW h0 ((cu d).1 h0) (fun l hl=>?_) (fun e he=>?_)
  ·unfold pU vD;rw [if_pos h0,if_pos h0,hl];exact ⟨rfl,rfl⟩
  ·unfold pU vD;rw [if_pos h0,if_pos h0,he];exact ⟨rfl,rfl⟩
 ·unfold pU vD
  rw [if_neg h0,if_neg h0]
  exact (GY x d w hW h0).mono fun e w' ⟨he,hS⟩=>⟨none,0,he,lT w',hS⟩
end Go.Proofs.YtiiifecfdkjmbaaGreat
