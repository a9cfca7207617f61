/- Lemmas. -/
import Derived.Test.YtiiifecfdkjmbaaCsLearn
set_option maxHeartbeats 4000000
namespace Go.Proofs.Ytiiifecfdkjmbaa
open _root_.Go.Proofs.Try
set_option maxRecDepth 8000
open Go.RowKit Go.Shelf
open Pu
set_option linter.unusedVariables false
set_option linter.unusedSimpArgs false
theorem FQ:ET 110 138 1 8:=xP (z:=.map none) (by kernel_rfl) (by kernel_rfl) rfl
section
variable {lo:Nat} {W W':World} {B:Nat} {x:WV} {d:Wd} {M:SM}
theorem dQ.FR (h:dQ lo W B x d M) {W1 W3:World} (hS:Since W W1) {q:Nat} (hq:W.heap.size<=q) (hset:fM W1 q []) (hlo:lo<=W.heap.size) {pl':Sl} (hR:Row W3 lo 1 pl' (M.ps.length+1) ((M.ps.map fun p=>.map (some p))++[.map (some q)])) (hF:Fr (fun i=>M.pl.blk=some i) W1 W3)
  (hB:pl'=M.pl\/∃ b,pl'.blk=some b/\W1.heap.size<=b) (h2:W3.setCell ⟨B,5,none⟩ (.slice pl'.a (M.ps.length+1) pl'.cap)=W'):dQ lo W' B x d { M with pl:=pl',ps:=M.ps++[q],cont:=fun i=>if i=q then [] else M.cont i }:=by
 have hq1:q < W1.heap.size:=(zQ3.1 hset).1
 have k2:Fr (fun i=>i=B) W3 W':=by rw [<-h2];exact (Fr.refl _ _).setCell ⟨B,5,none⟩ _ (fun _=>rfl)
 have k1:Fr (fun i=>M.pl.blk=some i) W W3:=(hS.fr fun _=>False).trans hF (fun _ _ f=>f.elim) (fun _ _ f=>f)
 have k:Fr (fun i=>i=B\/M.pl.blk=some i) W W':=k1.trans k2 (fun _ _ a=>.inr a) (fun _ _ a=>.inl a)
 have hBs:¬ M.pl.blk=some B:=fun e=>(h.pne B e).1 rfl
 have c1:∀ o,W3.cell? ⟨B,o,none⟩=W.cell? ⟨B,o,none⟩:=fun o=>k1.cell (p:=⟨B,o,none⟩) h.bh hBs
 have c:∀ o,o≠5->W'.cell? ⟨B,o,none⟩=W.cell? ⟨B,o,none⟩:=fun o ho=>by rw [<-h2,aV _ _ _ (Ne.symm ho)];exact c1 o
 have f:∀ o,W'.frozen? ⟨B,o,none⟩=W.frozen? ⟨B,o,none⟩:=fun o=>by rw [<-h2,World.frozen?_setCell];exact k1.frozen (p:=⟨B,o,none⟩) h.bh hBs
 have zS:=(zQ3.1 h.map).1
 have e:∀ i,i≠B->M.pl.blk≠some i->i < W.heap.size->W'.heap[i]? = W.heap[i]?:=fun i h1 h2 hl=>k.block i hl (fun a=>a.elim h1 h2)
 have hnew:∀ b,pl'.blk=some b->M.pl.blk=some b\/W1.heap.size<=b:=by
  intro b hb
  rcases hB with rfl | ⟨b',hb',hle⟩
  ·exact .inl hb
  ·right;rw [hb] at hb';have:=Option.some.inj hb';omega
 have hW1:=hS.size
 have LC:∀ b,M.pl.blk=some b->b < W.heap.size:=fun b hb=>(h.pow.dD hb).2.2.1
 have hnb:pl'.blk≠some B:=by
  intro e
  rcases hnew B e with h1 | h1
  ·exact hBs h1
  ·have:=h.bh;omega
 have hmem:∀ r,r∈SM.sets { M with pl:=pl',ps:=M.ps++[q],cont:=fun i=>if i=q then [] else M.cont i }↔r∈M.sets\/r=q:=by
  intro r;unfold SM.sets;simp only [List.mem_append,List.mem_singleton,or_assoc]
 have hnot:∀ r,r∈M.sets->r≠q:=fun r hr e=>by have:=h.kD hr;omega
 have LD:fM W' q []:=by
  have h3:W3.heap[q]? = W1.heap[q]?:=hF.block q hq1 (fun hc=>by have:=LC q hc;omega)
  have h4:W'.heap[q]? = W3.heap[q]?:=k2.block q (zQ4 hq1 hF.size) (fun e=>by have:=h.bh;have e':q=B:=e;omega)
  exact h4.trans (h3.trans hset)
 refine ⟨h.bl,zQ4 h.bh k.size,(c 0 (by decide)).trans h.c0,(c 1 (by decide)).trans h.c1,(c 2 (by decide)).trans h.c2,(c 3 (by decide)).trans h.c3,(c 4 (by decide)).trans h.c4, ?_,fun o ho=>(f o).trans (h.z o ho),
  ?_, ?_,h.ral,(e _ (Ne.symm h.bne.1) (fun hs=>(h.pne _ hs).2.1 rfl) zS).trans h.map,fun r hr=>?_, ?_,fun hc=>?_,fun b hb=>?_,fun b hb=>?_,⟨h.bne.1,fun hc=>?_⟩,fun W'' k'=>h.wat W'' (frS k k' (fun i _ hi=>?_) (fun i hl hi=>?_))⟩
 ·rw [<-h2]
  have:=iV W3 B 5 (.slice pl'.a (M.ps.length+1) pl'.cap) ((c1 5).trans h.c5)
  rw [this];simp
 ·exact h.row.fr k (fun b hb hc=>hc.elim (h.sne b hb).1 (h.sne b hb).2.2.2)
 ·show Row W' lo 1 pl' (M.ps++[q]).length ((M.ps++[q]).map fun p=>.map (some p))
  rw [List.length_append,List.map_append]
  exact hR.fr k2 (fun b hb he=>hnb (he ▸ hb))
 ·rcases (hmem r).1 hr with hr | rfl
  ·refine ⟨(h.set r hr).1, ?_⟩
   simp only [hnot r hr,if_false]
   exact (e r (fun e=>h.bne.2 (e ▸ hr)) (fun hs=>(h.pne _ hs).2.2 hr) (h.kD hr)).trans (h.set r hr).2
  ·simp only [if_true];exact ⟨zQ5 hlo hq,LD⟩
 ·have hnd:=h.nd
  unfold SM.sets at hnd ⊢
  rw [<-List.append_assoc,List.nodup_append]
  refine ⟨hnd,by simp,fun a ha b hb=>?_⟩
  rw [List.mem_singleton] at hb
  subst hb
  exact hnot a ha
 ·rcases (hmem _).1 hc with hc | hc
  ·exact h.hra hc
  ·have hc':M.ra=q:=hc
   omega
 ·obtain ⟨q1,q2,q3,q4⟩:=h.sne b hb
  have hbl:=(h.row.dD hb).2.2.1
  refine ⟨q1,q2,fun hc=>?_,fun hc=>?_⟩
  ·rcases (hmem _).1 hc with hc | hc
   ·exact q3 hc
   ·omega
  ·rcases hnew b hc with hc | hc
   ·exact q4 hc
   ·omega
 ·have hb':pl'.blk=some b:=hb
  refine ⟨fun e=>hnb (e ▸ hb'), ?_⟩
  rcases hnew b hb' with hs | hge
  ·refine ⟨(h.pne b hs).2.1,fun hc=>?_⟩
   rcases (hmem _).1 hc with hc | hc
   ·exact (h.pne b hs).2.2 hc
   ·have:=LC b hs;omega
  ·refine ⟨fun e=>by have e':b=M.ra:=e;omega,fun hc=>?_⟩
   rcases (hmem _).1 hc with hc | hc
   ·have:=h.kD hc;omega
   ·omega
 ·rcases (hmem _).1 hc with hc | hc
  ·exact h.bne.2 hc
  ·have:=h.bh;omega
 ·rcases hi with hi | hi
  ·exact .inl hi
  ·exact .inr (.inr (.inl hi))
 ·rcases hi with hi | hi | hi | hi | hi
  ·exact .inl hi
  ·exact .inr (.inl hi)
  ·rcases hnew i hi with hs | hge
   ·exact .inr (.inr (.inl hs))
   ·omega
  ·exact .inr (.inr (.inr (.inl hi)))
  ·rcases (hmem _).1 hi with hc | hc
   ·exact .inr (.inr (.inr (.inr hc)))
   ·omega
end
theorem Ci (x:WV) (d:Wd) (w:World) (hW:WAt w x d) (hn:d.nodes.length<=1000) :
  Calls prog 66 #[.agg #[.slice x.ga x.gl x.gc,.slice x.na x.nl x.nc,.slice x.wa x.wl x.wc]] w fun e w'=>∃ (B:Nat) (M:SM),e=.returned (.pointer (some ⟨B,0,none⟩))/\dQ w.heap.size w' B x d M/\M.sl=⟨none,0⟩/\M.sent=[]/\M.ks=[]/\M.ps.length=d.nodes.length/\(∀ p,p∈M.ps->M.cont p=[])/\Since w w':=by
 obtain ⟨ga,gl,gc,na,nl,nc,wa,wl,wc⟩:=x
 have hlen:=hW.n.hlen
 dsimp only at hlen ⊢
 subst hlen
 obtain ⟨w1,hw1⟩:∃ wp,w.alloc (.cells #[.slice ga gl gc,.slice na d.nodes.length nc,.slice wa wl wc] 26)=wp:=⟨_,rfl⟩
 have hP1:bX w1 w.heap.size ⟨ga,gl,gc,na,d.nodes.length,nc,wa,wl,wc⟩:=by rw [<-hw1];exact bX.new w ⟨ga,gl,gc,na,d.nodes.length,nc,wa,wl,wc⟩ _
 have hS1:=av hw1
 obtain ⟨_,p0,p1,p2⟩:=hP1
 dsimp only at p0 p1 p2
 obtain ⟨w2,hw2⟩:∃ y,w1.alloc (.map #[] 0)=y:=⟨_,rfl⟩
 have hS2:=av hw2
 have hmk:(Instr.makeMap 109 none).run prog w1=.ok (.map (some w1.heap.size)) w2:=by rw [<-hw2];rfl
 have LG:∀ y:World,(Instr.makeMap 138 none).run prog y=.ok (.map (some y.heap.size)) (y.alloc (.map #[] 0)):=fun y=>rfl
 obtain ⟨w3,hw3⟩:∃ y,w2.alloc (.cells #[.slice ga gl gc,.slice na d.nodes.length nc,.slice wa wl wc,.slice none 0 0,.map (some w1.heap.size),.slice none 0 0] 112)=y:=⟨_,rfl⟩
 have hS3:=av hw3
 have hl2:w1.heap.size < w2.heap.size:=by rw [<-hw2];simp
 have hl1:w.heap.size < w1.heap.size:=by rw [<-hw1];simp
 have hR3:dQ w.heap.size w3 w2.heap.size ⟨ga,gl,gc,na,d.nodes.length,nc,wa,wl,wc⟩ d ⟨⟨none,0⟩,[],w1.heap.size,[],⟨none,0⟩,[],fun _=>[]⟩:=by
  refine ⟨by omega,by rw [<-hw3];simp,by rw [<-hw3];simp [go_sem],by rw [<-hw3];simp [go_sem],by rw [<-hw3];simp [go_sem],by rw [<-hw3];simp [go_sem],by rw [<-hw3];simp [go_sem],by rw [<-hw3];simp [go_sem],fun o ho=>?_,Row.nil _ _ _,Row.nil _ _ _,by show w.heap.size<=w1.heap.size;omega, ?_,fun r hr=>?_,by simp [SM.sets],by simp [SM.sets],fun b hb=>?_,fun b hb=>?_,⟨by show w2.heap.size≠w1.heap.size;omega,by simp [SM.sets]⟩,fun W' hF=>hW.since ?_⟩
  ·have ho':o=0\/o=1\/o=2\/o=3\/o=4\/o=5:=by omega
   rw [<-hw3]
   rcases ho' with rfl | rfl | rfl | rfl | rfl | rfl <;> simp [go_sem]
  ·exact (hS3.below.block _ hl2).trans (by rw [<-hw2];exact World.alloc_heap_new w1 _)
  ·simp [SM.sets] at hr
  ·simp [Sl.blk] at hb
  ·simp [Sl.blk] at hb
  ·refine hF.dP (hS1.trans (hS2.trans hS3)) (fun i hi hs=>?_)
   rcases hs with (hs | hs | hs | hs | hs) | hs
   ·omega
   ·have hs':i=w1.heap.size:=hs
    omega
   ·simp [Sl.blk] at hs
   ·simp [Sl.blk] at hs
   ·simp [SM.sets] at hs
   ·have:=hs.1;omega
 have c1:=hR3.c1
 dsimp only at c1
 have oG:=hS1.trans (hS2.trans hS3)
 go_enter func66,ntmps66
 go_wp2
 clear p0 p1 p2 hw1 hw2 hw3 hmk c1
 go_loopw [14] (fun i wr=>∃ (k:Nat) (M:SM),k<=d.nodes.length/\i=.int .i64 k/\dQ w.heap.size wr w2.heap.size ⟨ga,gl,gc,na,d.nodes.length,nc,wa,wl,wc⟩ d M/\M.sl=⟨none,0⟩/\M.sent=[]/\M.ks=[]/\M.ps.length=k/\(∀ p,p∈M.ps->M.cont p=[])/\Since w wr) (fun i _=>d.nodes.length - (intOf i).toNat)
 case atStart=>exact ⟨0,_,Nat.zero_le _,rfl,hR3,rfl,rfl,rfl,rfl,fun p hp=>by simp at hp,oG⟩
 case round =>
  obtain ⟨wo,rfl⟩:∃ wo,wo=wr:=⟨_,rfl⟩
  obtain ⟨k,M,hk,rfl,hR,he0,he1,he2,he3,hc0,hSr⟩:=hrel
  clear hR3
  subst he3
  have HE0:=(show Hid _ from he0)
  clear he0
  by_cases hlt:M.ps.length < d.nodes.length
  ·have n1:(M.ps.length:Int) < (d.nodes.length:Int):=by omega
   have b5:=hR.c5
   obtain ⟨wA,hwA⟩:∃ y,wo.alloc (.map #[] 0)=y:=⟨_,rfl⟩
   have hsA:=av hwA
   have hlA:wo.heap.size < wA.heap.size:=by rw [<-hwA];simp
   have Jr:fM wA wo.heap.size []:=by rw [<-hwA];exact World.alloc_heap_new wo _
   obtain ⟨wB,hwB⟩:∃ y,wA.alloc (.cells #[.map (some wo.heap.size)] 138)=y:=⟨_,rfl⟩
   have hsB:=av hwB
   have hsrc:Src prog 1 110 (.slice (some ⟨wA.heap.size,0,none⟩) 1 1) 1 [.map (some wo.heap.size)] wB:=by
    rw [<-hwB];exact kE (size:=1) FQ.und [.map (some wo.heap.size)] rfl (fun u hu=>by simp at hu;subst hu;rfl) 1
   have hRB:=hR.since (hsA.trans hsB)
   have NH:=hRB.pow
   have NI:w.heap.size<=wB.heap.size:=zQ5 hSr.size (hsA.trans hsB).size
   have Js:fM wB wo.heap.size []:=(hsB.below.block _ hlA).trans Jr
   have NJ:=(show Hid _ from Js)
   clear Jr Js hsB
   go_wp2_with (at_builtin;refine pV FQ rfl _ _ 110 rfl rfl NH rfl hsrc (by omega) NI ?_;intro sa' sc' w8 hR8 hF8 hB8;have hnB:¬ M.pl.blk=some w2.heap.size:=fun e=>(hRB.pne _ e).1 rfl;have y5:=(hF8.cell (p:=⟨w2.heap.size,5,none⟩) hRB.bh hnB).trans hRB.c5;have z5:=(hF8.frozen (p:=⟨w2.heap.size,5,none⟩) hRB.bh hnB).trans (hRB.z 5 (by decide)))
   go_roundw
   case rel =>
    have hP:=hR.FR (pl':=⟨sa',sc'⟩) (hsA.trans ⟨(show Since wA wB from by rw [<-hwB];exact (Since.refl wA).alloc _).below⟩) (Nat.le_refl _) NJ.out hSr.size hR8 hF8 (hB8.imp (fun e=>e) (fun e=>⟨_,e.2,Nat.le_refl _⟩)) rfl
    refine ⟨M.ps.length+1,_,by omega,by go_num,hP,HE0.out,he1,he2,by simp,fun p hp=>?_, ?_⟩
    ·show (if p=wo.heap.size then [] else M.cont p)=[]
     split
     ·rfl
     ·rename_i hne
      have hp':p∈M.ps++[wo.heap.size]:=hp
      rw [List.mem_append,List.mem_singleton] at hp'
      exact hc0 p (hp'.resolve_right hne)
    ·have hF:Fr (fun i=>i=w2.heap.size\/M.pl.blk=some i) wo (w8.setCell ⟨w2.heap.size,5,none⟩ (.slice sa' (M.ps.length+1) sc')) :=
      (((hsA.trans (show Since wA wB from by rw [<-hwB];exact (Since.refl wA).alloc _)).fr fun _=>False).trans hF8 (fun _ _ f=>f.elim) (fun _ _ f=>.inr f)).setCell ⟨w2.heap.size,5,none⟩ _ (fun _=>.inl rfl)
     exact hF.dP hSr (fun i hi hs=>by
      rcases hs with hs | hs
      ·have:=hR.bl;omega
      ·have:=(hR.pow.dD hs).2.1;omega)
   case measure=>simp [intOf];omega
  ·have hkn:M.ps.length=d.nodes.length:=by omega
   have n1:¬ (M.ps.length:Int) < (d.nodes.length:Int):=by omega
   have mZ:=(show Hid _ from (⟨hR,HE0.out,he1,he2,hkn,hc0,hSr⟩:dQ w.heap.size wo w2.heap.size ⟨ga,gl,gc,na,d.nodes.length,nc,wa,wl,wc⟩ d M/\M.sl=⟨none,0⟩/\M.sent=[]/\M.ks=[]/\M.ps.length=d.nodes.length/\(∀ p,p∈M.ps->M.cont p=[])/\Since w wo))
   clear hR he1 he2 hc0 hkn
   go_wp2
   go_ret
   first
    | exact ⟨_,rfl,M,mZ.out⟩
    | exact ⟨_,M,rfl,mZ.out⟩
end Go.Proofs.Ytiiifecfdkjmbaa
