/- Lemmas. -/
import Derived.Test.YtiiifecfdkjmbaaGreatTAgM
import Derived.Test.YtiiifecfdkjmbaaGreatTSOwnX
import Derived.Test.YtiiifecfdkjmbaaGreatTAgX
namespace Go.Proofs.YtiiifecfdkjmbaaGreat
open _root_.Go.Proofs.Tryz hiding checked
set_option maxRecDepth 8000
open Go.RowKit Go.Shelf
open Pu
set_option linter.unusedVariables false
set_option linter.unusedSimpArgs false
def mE:Nat->List (Mg × Nat)->List MapEntry
 | _,[]=>[]
 | k,x::r=>⟨mgV x.1,.map (some x.2),k⟩::mE (k+1) r
def nY (ks:List (Mg × Nat)):Array MapEntry:=(mE 0 ks).toArray
theorem vk:∀ (ks:List (Mg × Nat)) (k:Nat) (x:Mg × Nat),mE k (ks++[x])=mE k ks++[⟨mgV x.1,.map (some x.2),k+ks.length⟩]
 | [],k,x=>by simp [mE]
 | y::r,k,x=>by
  simp only [List.cons_append,mE,vk r (k+1) x,List.length_cons]
  rw [show k+1+r.length=k+(r.length+1) from by omega]
theorem D8 (ks:List (Mg × Nat)) (x:Mg × Nat):nY (ks++[x])=(nY ks).push ⟨mgV x.1,.map (some x.2),ks.length⟩:=by
 unfold nY
 rw [vk,Nat.zero_add]
 simp
theorem sO (m:Mg):∀ (ks:List (Mg × Nat)) (k i:Nat) (w:World),
  (m∉ks.map Prod.fst/\(Instr.findAsking 42 (mgV m) (mE k ks) i).run prog w=.ok none w)\/∃ j p,ks[j]? = some (m,p)/\(Instr.findAsking 42 (mgV m) (mE k ks) i).run prog w=.ok (some (i+j,.map (some p))) w
 | [],k,i,w=>.inl ⟨by simp,rfl⟩
 | x::r,k,i,w=>by
  unfold mE Instr.findAsking
  simp only [Sem.run_bind,qx]
  by_cases h:m=x.1
  ·right
   refine ⟨0,x.2,by rw [h];rfl, ?_⟩
   rw [h,jR]
   rfl
  ·have hs:dX m x.1=false:=by rw [<-Bool.not_eq_true,dY];exact h
   rcases sO m r (k+1) (i+1) w with ⟨h1,h2⟩ | ⟨j,p,h1,h2⟩
   ·left
    refine ⟨by rw [List.map_cons,List.mem_cons];rintro (e | e);exact h e;exact h1 e, ?_⟩
    rw [hs]
    exact h2
   ·right
    refine ⟨j+1,p,by simpa using h1, ?_⟩
    rw [hs,show i+(j+1)=i+1+j from by omega]
    exact h2
theorem sP (m:Mg) (ks:List (Mg × Nat)) (w:World) :
  (m∉ks.map Prod.fst/\(Instr.findKey 42 (mgV m) (nY ks).toList).run prog w=.ok none w)\/∃ j p,ks[j]? = some (m,p)/\(Instr.findKey 42 (mgV m) (nY ks).toList).run prog w=.ok (some (j,.map (some p))) w:=by
 unfold Instr.findKey nY
 simp only [Sem.run_bind,run_underlying underlying42,Result.andThen_ok]
 cases ks with
 | nil=>exact .inl ⟨by simp,rfl⟩
 | cons x r =>
  have hn:∀ fs,Instr.findNow (.struct fs) (mgV m) (mE 0 (x::r)) 0=none:=fun fs=>rfl
  rw [hn]
  have:=sO m (x::r) 0 0 w
  simp only [Nat.zero_add] at this
  exact this
def MapAt (w:World) (r:Nat) (ks:List (Mg × Nat)):Prop:=w.heap[r]? = some (.map (nY ks) ks.length)
theorem E8:∀ {ks:List (Mg × Nat)},(ks.map Prod.fst).Nodup->∀ {m:Mg} {p q:Nat},(m,p)∈ks->(m,q)∈ks->p=q
 | [],_,_,_,_,h,_=>by cases h
 | x::r,hd,m,p,q,h,k=>by
  rw [List.map_cons,List.nodup_cons] at hd
  rw [List.mem_cons] at h k
  rcases h with h | h <;> rcases k with k | k
  ·rw [<-h] at k;injection k with _ e;exact e.symm
  ·rw [<-h] at hd;exact absurd (List.mem_map.2 ⟨_,k,rfl⟩) hd.1
  ·rw [<-k] at hd;exact absurd (List.mem_map.2 ⟨_,h,rfl⟩) hd.1
  ·exact E8 hd.2 h k
theorem qA {w:World} {r:Nat} {ks:List (Mg × Nat)} {T E:TypeId} (hT:prog.underlying T=some (.map 42 E)) (h:MapAt w r ks) (hd:(ks.map Prod.fst).Nodup) {m:Mg} {p:Nat} (hm:(m,p)∈ks) :
  (Instr.lookup T (.map (some r)) (mgV m) false).run prog w=.ok (.map (some p)) w:=by
 have hg:(getObj r).run prog w=.ok (.map (nY ks) ks.length) w:=by unfold MapAt at h;simp [getObj,Sem.run,h]
 unfold Instr.lookup
 simp only [Sem.run_bind,run_underlying hT,Result.andThen_ok,hg,iH,Sem.run_pure]
 rcases sP m ks w with ⟨h1,h2⟩ | ⟨j,q,h1,h2⟩
 ·exact absurd (List.mem_map.2 ⟨_,hm,rfl⟩) h1
 ·have e:=E8 hd hm (List.mem_of_getElem? h1)
  subst e
  rw [h2]
  simp only [Result.andThen_ok,Sem.run_bind,Sem.run_pure]
  rfl
theorem yY {w:World} {r:Nat} {ks:List (Mg × Nat)} {T E:TypeId} (hT:prog.underlying T=some (.map 42 E)) (h:MapAt w r ks) {m:Mg} (hm:m∉ks.map Prod.fst) (p:Nat) :
  (Instr.mapUpdate T (.map (some r)) (mgV m) (.map (some p))).run prog w=.ok () (w.putObj r (.map (nY (ks++[(m,p)])) (ks++[(m,p)]).length)):=by
 have hg:(getObj r).run prog w=.ok (.map (nY ks) ks.length) w:=by unfold MapAt at h;simp [getObj,Sem.run,h]
 unfold Instr.mapUpdate
 simp only [Sem.run_bind,run_underlying hT,Result.andThen_ok,hg,iH]
 rcases sP m ks w with ⟨h1,h2⟩ | ⟨j,q,h1,h2⟩
 ·rw [h2]
  simp only [Result.andThen_ok]
  rw [run_setObj_map h,D8,List.length_append]
  rfl
 ·exact absurd (List.mem_map.2 ⟨_,List.mem_of_getElem? h1,rfl⟩) hm
structure SM where
 sl:Sl
 sent:List Mg
 ra:Nat
 ks:List (Mg × Nat)
 pl:Sl
 ps:List Nat
 cont:Nat->List Mg
def SM.sets (M:SM):List Nat:=M.ks.map Prod.snd++M.ps
def SB (B:Nat) (M:SM) (i:Nat):Prop:=i=B\/i=M.ra\/M.pl.blk=some i\/M.sl.blk=some i\/i∈M.sets
def NK (lo:Nat) (W:World) (i:Nat):Prop:=lo<=i/\∀ o,W.heap[i]? = some o->kD o=false
theorem frS {lo:Nat} {S S' X:Nat->Prop} {W W' W'':World} (k:Fr X W W') (k':Fr (fun i=>S' i\/NK lo W' i) W' W'') (hX:∀ i,i < W.heap.size->X i->S i) (hS:∀ i,i < W.heap.size->S' i->S i):Fr (fun i=>S i\/NK lo W i) W W'' :=
 k.trans k' (fun i hi hx=>.inl (hX i hi hx)) (fun i hi h=>h.elim (fun s=>.inl (hS i hi s)) (fun nk=>by
  by_cases hx:X i
  ·exact .inl (hX i hi hx)
  ·exact .inr ⟨nk.1,fun o ho=>nk.2 o ((k.block i hi hx).trans ho)⟩))
structure d9 (lo:Nat) (W:World) (B:Nat) (x:WV) (d:Wd) (M:SM):Prop where
 bl:lo<=B
 bh:B < W.heap.size
 c0:W.cell? ⟨B,0,none⟩=some (.slice x.ga x.gl x.gc)
 c1:W.cell? ⟨B,1,none⟩=some (.slice x.na x.nl x.nc)
 c2:W.cell? ⟨B,2,none⟩=some (.slice x.wa x.wl x.wc)
 c3:W.cell? ⟨B,3,none⟩=some (.slice M.sl.a M.sent.length M.sl.cap)
 c4:W.cell? ⟨B,4,none⟩=some (.map (some M.ra))
 c5:W.cell? ⟨B,5,none⟩=some (.slice M.pl.a M.ps.length M.pl.cap)
 z:∀ o,o < 6->W.frozen? ⟨B,o,none⟩=false
 row:Row W lo 5 M.sl M.sent.length (flat M.sent)
 pow:Row W lo 1 M.pl M.ps.length (M.ps.map fun p=>.map (some p))
 ral:lo<=M.ra
 map:MapAt W M.ra M.ks
 set:∀ r,r∈M.sets->lo<=r/\gD W r (M.cont r)
 nd:M.sets.Nodup
 hra:M.ra∉M.sets
 sne:∀ b,M.sl.blk=some b->b≠B/\b≠M.ra/\b∉M.sets/\M.pl.blk≠some b
 pne:∀ b,M.pl.blk=some b->b≠B/\b≠M.ra/\b∉M.sets
 bne:B≠M.ra/\B∉M.sets
 wat:∀ W',Fr (fun i=>SB B M i\/NK lo W i) W W'->WAt W' x d
section
variable {lo:Nat} {W W':World} {B:Nat} {x:WV} {d:Wd} {M:SM}
theorem d9.lS (h:d9 lo W B x d M) {r:Nat} (hr:r∈M.sets):r < W.heap.size:=(zQ3.1 (h.set r hr).2).1
theorem d9.blk (h:d9 lo W B x d M) {i:Nat} (hi:SB B M i):lo<=i/\i < W.heap.size:=by
 rcases hi with rfl | rfl | hi | hi | hi
 ·exact ⟨h.bl,h.bh⟩
 ·exact ⟨h.ral,(zQ3.1 h.map).1⟩
 ·exact ⟨(h.pow.dK hi).2.1,(h.pow.dK hi).2.2.1⟩
 ·exact ⟨(h.row.dK hi).2.1,(h.row.dK hi).2.2.1⟩
 ·exact ⟨(h.set _ hi).1,h.lS hi⟩
theorem d9.fr (h:d9 lo W B x d M) {X:Nat->Prop} (k:Fr X W W') (hX:∀ i,SB B M i->¬ X i) (hw:∀ W'',Fr (fun i=>SB B M i\/NK lo W' i) W' W''->WAt W'' x d):d9 lo W' B x d M:=by
 have hb:=h.bh
 have e:∀ i,SB B M i->W'.heap[i]? = W.heap[i]?:=fun i hi=>k.block i (h.blk hi).2 (hX i hi)
 have c:∀ o,W'.cell? ⟨B,o,none⟩=W.cell? ⟨B,o,none⟩:=fun o=>World.cell?_of_block (a:=⟨B,o,none⟩) (e B (.inl rfl))
 have f:∀ o,W'.frozen? ⟨B,o,none⟩=W.frozen? ⟨B,o,none⟩:=fun o=>World.frozen?_of_block (a:=⟨B,o,none⟩) (e B (.inl rfl))
 exact ⟨h.bl,zQ4 hb k.size,(c 0).trans h.c0,(c 1).trans h.c1,(c 2).trans h.c2,(c 3).trans h.c3,(c 4).trans h.c4,(c 5).trans h.c5,fun o ho=>(f o).trans (h.z o ho),
  h.row.kept k.size (fun b hb=>e b (.inr (.inr (.inr (.inl hb))))),h.pow.kept k.size (fun b hb=>e b (.inr (.inr (.inl hb)))),h.ral,(e _ (.inr (.inl rfl))).trans h.map,
  fun r hr=>⟨(h.set r hr).1,(e r (.inr (.inr (.inr (.inr hr))))).trans (h.set r hr).2⟩,h.nd,h.hra,h.sne,h.pne,h.bne,hw⟩
theorem d9.since (h:d9 lo W B x d M) (k:Since W W'):d9 lo W' B x d M :=
 h.fr (k.fr fun _=>False) (fun _ _ f=>f) (fun W'' k'=>h.wat W'' (frS (k.fr fun _=>False) k' (fun _ _ f=>f.elim) (fun _ _ f=>f)))
theorem d9.wAt (h:d9 lo W B x d M):WAt W x d:=h.wat W (Fr.refl _ _)
theorem Fr.put (W:World) (r:Nat) (o:Obj):Fr (fun i=>i=r) W (W.putObj r o) :=
 ⟨rfl,rfl,rfl,by simp,fun i _ hi=>World.putObj_heap_other hi⟩
theorem d9.IJ (h:d9 lo W B x d M) {r:Nat} (hr:r∈M.sets) (ms:List Mg) (k:Fr (fun i=>i=r) W W') (hs:gD W' r ms):d9 lo W' B x d { M with cont:=fun i=>if i=r then ms else M.cont i }:=by
 have hrl:=h.lS hr
 have hBr:B≠r:=fun e=>h.bne.2 (e ▸ hr)
 have hRr:M.ra≠r:=fun e=>h.hra (e ▸ hr)
 have e:∀ i,i≠r->i < W.heap.size->W'.heap[i]? = W.heap[i]?:=fun i hi hl=>k.block i hl hi
 have c:∀ o,W'.cell? ⟨B,o,none⟩=W.cell? ⟨B,o,none⟩:=fun o=>World.cell?_of_block (a:=⟨B,o,none⟩) (e B hBr h.bh)
 have f:∀ o,W'.frozen? ⟨B,o,none⟩=W.frozen? ⟨B,o,none⟩:=fun o=>World.frozen?_of_block (a:=⟨B,o,none⟩) (e B hBr h.bh)
 have BN:=(zQ3.1 h.map).1
 refine ⟨h.bl,zQ4 h.bh k.size,(c 0).trans h.c0,(c 1).trans h.c1,(c 2).trans h.c2,(c 3).trans h.c3,(c 4).trans h.c4,(c 5).trans h.c5,fun o ho=>(f o).trans (h.z o ho),
  h.row.fr k (fun b hb he=>(h.sne b hb).2.2.1 (he ▸ hr)),h.pow.fr k (fun b hb he=>(h.pne b hb).2.2 (he ▸ hr)),h.ral,(e _ hRr BN).trans h.map,
  fun q hq=>⟨(h.set q hq).1, ?_⟩,h.nd,h.hra,h.sne,h.pne,h.bne,fun W'' k'=>h.wat W'' (frS k k' (fun i _ hi=>hi ▸ .inr (.inr (.inr (.inr hr)))) (fun _ _ hi=>hi))⟩
 by_cases hq':q=r
 ·subst hq';simp only [if_true];exact hs
 ·simp only [hq',if_false];exact (e q hq' (h.lS hq)).trans (h.set q hq).2
theorem d9.addKey (h:d9 lo W B x d M) (m:Mg) (ms:List Mg) {W1:World} (h1:W.alloc (.map (ents ms) ms.length)=W1) (h2:W1.putObj M.ra (.map (nY (M.ks++[(m,W.heap.size)])) (M.ks++[(m,W.heap.size)]).length)=W') (hlo:lo<=W.heap.size) :
  d9 lo W' B x d { M with ks:=M.ks++[(m,W.heap.size)],cont:=fun i=>if i=W.heap.size then ms else M.cont i }:=by
 have BN:=(zQ3.1 h.map).1
 have k:Fr (fun i=>i=M.ra) W W':=by rw [<-h2,<-h1];exact (((Since.refl W).alloc _).fr fun _=>False).trans (Fr.put _ _ _) (fun _ _ f=>f.elim) (fun _ _ f=>f)
 have hS1:=ay h1
 have hl1:W.heap.size < W1.heap.size:=by rw [<-h1];simp
 have hl2:W1.heap.size=W'.heap.size:=by rw [<-h2];simp
 have hnew:W'.heap[W.heap.size]? = some (.map (ents ms) ms.length):=by
  rw [<-h2];refine (World.putObj_heap_other (by omega)).trans ?_;rw [<-h1];exact World.alloc_heap_new W _
 have e:∀ i,i≠M.ra->i < W.heap.size->W'.heap[i]? = W.heap[i]?:=fun i hi hl=>k.block i hl hi
 have c:∀ o,W'.cell? ⟨B,o,none⟩=W.cell? ⟨B,o,none⟩:=fun o=>World.cell?_of_block (a:=⟨B,o,none⟩) (e B h.bne.1 h.bh)
 have f:∀ o,W'.frozen? ⟨B,o,none⟩=W.frozen? ⟨B,o,none⟩:=fun o=>World.frozen?_of_block (a:=⟨B,o,none⟩) (e B h.bne.1 h.bh)
 have hmem:∀ q,q∈SM.sets { M with ks:=M.ks++[(m,W.heap.size)],cont:=fun i=>if i=W.heap.size then ms else M.cont i }↔q∈M.sets\/q=W.heap.size:=by
  intro q;unfold SM.sets;simp only [List.map_append,List.map_cons,List.map_nil,List.mem_append,List.mem_singleton]
  constructor
  ·rintro ((a | a) | a)
   ·exact .inl (.inl a)
   ·exact .inr a
   ·exact .inl (.inr a)
  ·rintro ((a | a) | a)
   ·exact .inl (.inl a)
   ·exact .inr a
   ·exact .inl (.inr a)
 have hnot:∀ q,q∈M.sets->q≠W.heap.size:=fun q hq e=>by have:=h.lS hq;omega
 refine ⟨h.bl,zQ4 h.bh k.size,(c 0).trans h.c0,(c 1).trans h.c1,(c 2).trans h.c2,(c 3).trans h.c3,(c 4).trans h.c4,(c 5).trans h.c5,fun o ho=>(f o).trans (h.z o ho),
  h.row.fr k (fun b hb he=>(h.sne b hb).2.1 he),h.pow.fr k (fun b hb he=>(h.pne b hb).2.1 he),h.ral, ?_,fun q hq=>?_, ?_, ?_,fun b hb=>?_,fun b hb=>?_,⟨h.bne.1,fun hb=>?_⟩,fun W'' k'=>h.wat W'' (frS k k' (fun i _ hi=>.inr (.inl hi)) (fun i hl hi=>?_))⟩
 ·unfold MapAt;rw [<-h2];exact World.putObj_heap_same (by omega)
 ·rcases (hmem q).1 hq with hq | rfl
  ·refine ⟨(h.set q hq).1, ?_⟩
   simp only [hnot q hq,if_false]
   exact (e q (fun e=>h.hra (e ▸ hq)) (h.lS hq)).trans (h.set q hq).2
  ·simp only [if_true];exact ⟨hlo,hnew⟩
 ·have hnd:=h.nd
  unfold SM.sets at hnd ⊢
  rw [List.map_append,List.append_assoc]
  rw [List.nodup_append] at hnd ⊢
  refine ⟨hnd.1, ?_,fun a ha b hb=>?_⟩
  ·rw [List.map_cons,List.map_nil,List.singleton_append,List.nodup_cons]
   exact ⟨fun hc=>hnot _ (List.mem_append.2 (.inr hc)) rfl,hnd.2.1⟩
  ·rw [List.map_cons,List.map_nil,List.singleton_append,List.mem_cons] at hb
   rcases hb with rfl | hb
   ·exact hnot a (List.mem_append.2 (.inl ha))
   ·exact hnd.2.2 a ha b hb
 ·intro hc
  rcases (hmem _).1 hc with hc | hc
  ·exact h.hra hc
  ·have hc':M.ra=W.heap.size:=hc
   omega
 ·obtain ⟨q1,q2,q3,q4⟩:=h.sne b hb
  refine ⟨q1,q2,fun hc=>?_,q4⟩
  rcases (hmem _).1 hc with hc | hc
  ·exact q3 hc
  ·have:=(h.row.dK hb).2.2.1;omega
 ·obtain ⟨q1,q2,q3⟩:=h.pne b hb
  refine ⟨q1,q2,fun hc=>?_⟩
  rcases (hmem _).1 hc with hc | hc
  ·exact q3 hc
  ·have:=(h.pow.dK hb).2.2.1;omega
 ·rcases (hmem _).1 hb with hc | hc
  ·exact h.bne.2 hc
  ·have:=h.bh;omega
 ·rcases hi with hi | hi | hi | hi | hi
  ·exact .inl hi
  ·exact .inr (.inl hi)
  ·exact .inr (.inr (.inl hi))
  ·exact .inr (.inr (.inr (.inl hi)))
  ·rcases (hmem _).1 hi with hc | hc
   ·exact .inr (.inr (.inr (.inr hc)))
   ·omega
theorem d9.push (h:d9 lo W B x d M) (m:Mg) {W1:World} {sl':Sl} (hR:Row W1 lo 5 sl' (M.sent.length+1) (flat M.sent++flat [m])) (hF:Fr (fun i=>M.sl.blk=some i) W W1) (hB:sl'=M.sl\/∃ q,sl'.blk=some q/\W.heap.size<=q)
  (h2:W1.setCell ⟨B,3,none⟩ (.slice sl'.a (M.sent.length+1) sl'.cap)=W'):d9 lo W' B x d { M with sl:=sl',sent:=M.sent++[m] }:=by
 have k2:Fr (fun i=>i=B) W1 W':=by rw [<-h2];exact (Fr.refl _ _).setCell ⟨B,3,none⟩ _ (fun _=>rfl)
 have k:Fr (fun i=>i=B\/M.sl.blk=some i) W W':=hF.trans k2 (fun _ _ a=>.inr a) (fun _ _ a=>.inl a)
 have hBs:¬ M.sl.blk=some B:=fun e=>(h.sne B e).1 rfl
 have Rz:B < W1.heap.size:=zQ4 h.bh hF.size
 have c1:∀ o,W1.cell? ⟨B,o,none⟩=W.cell? ⟨B,o,none⟩:=fun o=>hF.cell (p:=⟨B,o,none⟩) h.bh hBs
 have c:∀ o,o≠3->W'.cell? ⟨B,o,none⟩=W.cell? ⟨B,o,none⟩:=fun o ho=>by rw [<-h2,bB _ _ _ (Ne.symm ho)];exact c1 o
 have f:∀ o,W'.frozen? ⟨B,o,none⟩=W.frozen? ⟨B,o,none⟩:=fun o=>by rw [<-h2,World.frozen?_setCell];exact hF.frozen (p:=⟨B,o,none⟩) h.bh hBs
 have BN:=(zQ3.1 h.map).1
 have e:∀ i,i≠B->M.sl.blk≠some i->i < W.heap.size->W'.heap[i]? = W.heap[i]?:=fun i h1 h2 hl=>k.block i hl (fun a=>a.elim h1 h2)
 have hnb:sl'.blk≠some B:=by
  rcases hB with rfl | ⟨q,hq,hle⟩
  ·exact hBs
  ·intro e;rw [e] at hq;have:=Option.some.inj hq;have:=h.bh;omega
 have hnew:∀ b,sl'.blk=some b->M.sl.blk=some b\/W.heap.size<=b:=by
  intro b hb
  rcases hB with rfl | ⟨q,hq,hle⟩
  ·exact .inl hb
  ·right;rw [hb] at hq;have:=Option.some.inj hq;omega
 have Kr:∀ b,M.pl.blk=some b->b≠B/\M.sl.blk≠some b:=fun b hb=>⟨(h.pne b hb).1,fun hs=>(h.sne b hs).2.2.2 hb⟩
 refine ⟨h.bl,zQ4 h.bh k.size,(c 0 (by decide)).trans h.c0,(c 1 (by decide)).trans h.c1,(c 2 (by decide)).trans h.c2, ?_,(c 4 (by decide)).trans h.c4,(c 5 (by decide)).trans h.c5,fun o ho=>(f o).trans (h.z o ho),
  ?_, ?_,h.ral,(e _ (Ne.symm h.bne.1) (fun hs=>(h.sne _ hs).2.1 rfl) BN).trans h.map,fun q hq=>⟨(h.set q hq).1,(e q (fun e=>h.bne.2 (e ▸ hq)) (fun hs=>(h.sne _ hs).2.2.1 hq) (h.lS hq)).trans (h.set q hq).2⟩,h.nd,h.hra,fun b hb=>?_,h.pne,h.bne,fun W'' k'=>h.wat W'' (frS k k' (fun i _ hi=>?_) (fun i hl hi=>?_))⟩
 ·rw [<-h2]
  have:=jD W1 B 3 (.slice sl'.a (M.sent.length+1) sl'.cap) ((c1 3).trans h.c3)
  rw [this];simp
 ·have e1:(M.sent++[m]).length=M.sent.length+1:=by simp
  have e2:flat (M.sent++[m])=flat M.sent++flat [m]:=by unfold flat;rw [List.flatMap_append]
  show Row W' lo 5 sl' (M.sent++[m]).length (flat (M.sent++[m]))
  rw [e1,e2]
  exact hR.fr k2 (fun b hb he=>hnb (he ▸ hb))
 ·exact h.pow.fr k (fun b hb hc=>hc.elim (Kr b hb).1 (Kr b hb).2)
 ·have hb':sl'.blk=some b:=hb
  refine ⟨fun e=>hnb (e ▸ hb'), ?_⟩
  rcases hnew b hb' with hs | hge
  ·exact ⟨(h.sne b hs).2.1,(h.sne b hs).2.2.1,(h.sne b hs).2.2.2⟩
  ·refine ⟨fun e=>by have e':b=M.ra:=e;omega,fun hc=>by have:=h.lS hc;omega,fun hp=>?_⟩
   have:=(h.pow.dK hp).2.2.1;omega
 ·rcases hi with hi | hi
  ·exact .inl hi
  ·exact .inr (.inr (.inr (.inl hi)))
 ·rcases hi with hi | hi | hi | hi | hi
  ·exact .inl hi
  ·exact .inr (.inl hi)
  ·exact .inr (.inr (.inl hi))
  ·rcases hnew i hi with hs | hge
   ·exact .inr (.inr (.inr (.inl hs)))
   ·omega
  ·exact .inr (.inr (.inr (.inr hi)))
theorem d9.world (h:d9 lo W B x d M) {v:WV} {d':Wd} (hw:∀ W'',Fr (fun i=>SB B M i\/NK lo W i) W W''->WAt W'' v d') (h2:Ao W B (.slice v.ga v.gl v.gc) (.slice v.na v.nl v.nc) (.slice v.wa v.wl v.wc)=W'):d9 lo W' B v d' M:=by
 have k:Fr (fun i=>i=B) W W':=by rw [<-h2];exact gM _ _ _ _ _
 have c:∀ o,2 < o->W'.cell? ⟨B,o,none⟩=W.cell? ⟨B,o,none⟩:=fun o ho=>by rw [<-h2];exact IW _ _ _ _ _ ho
 have f:∀ o,W'.frozen? ⟨B,o,none⟩=W.frozen? ⟨B,o,none⟩:=fun o=>by rw [<-h2];exact gZ _ _ _ _ _ _
 have BN:=(zQ3.1 h.map).1
 have e:∀ i,i≠B->i < W.heap.size->W'.heap[i]? = W.heap[i]?:=fun i h1 hl=>k.block i hl h1
 refine ⟨h.bl,zQ4 h.bh k.size,by rw [<-h2];exact qY h.c0,by rw [<-h2];exact qZ h.c1,by rw [<-h2];exact q8 h.c2,(c 3 (by decide)).trans h.c3,(c 4 (by decide)).trans h.c4,(c 5 (by decide)).trans h.c5,fun o ho=>(f o).trans (h.z o ho),
  h.row.fr k (fun b hb he=>(h.sne b hb).1 he),h.pow.fr k (fun b hb he=>(h.pne b hb).1 he),h.ral,(e _ (Ne.symm h.bne.1) BN).trans h.map,fun q hq=>⟨(h.set q hq).1,(e q (fun e=>h.bne.2 (e ▸ hq)) (h.lS hq)).trans (h.set q hq).2⟩,h.nd,h.hra,h.sne,h.pne,h.bne,fun W'' k'=>hw W'' (frS k k' (fun i _ hi=>.inl hi) (fun _ _ hi=>hi))⟩
end
theorem qV {W:World} {b o:Nat} {v:Value} (h:W.cell? ⟨b,o,none⟩=some v):∃ ob,W.heap[b]? = some ob/\kD ob=true:=by
 unfold World.cell? at h
 split at h
 ·rename_i hb;exact ⟨_,hb,rfl⟩
 ·cases h
theorem jT {W:World} {lo sz:Nat} {s:Sl} {n:Nat} {xs:List Value} (h:Row W lo sz s n xs) (hz:0 < sz) {b:Nat} (hb:s.blk=some b):∃ ob,W.heap[b]? = some ob/\kD ob=true:=by
 obtain ⟨hc,_,_,off,e⟩:=h.dK hb
 obtain ⟨b',o',e',_,_,hx,_⟩:=h.body hc
 rw [e] at e'
 cases e'
 obtain ⟨v,hv⟩:=Option.isSome_iff_exists.1 (hx 0 (Nat.mul_pos hc hz)).1
 exact qV hv
theorem d9.keeps {lo:Nat} {W:World} {B:Nat} {x:WV} {d:Wd} {M:SM} (h:d9 lo W B x d M) {i:Nat} (hi:SB B M i):∃ o,W.heap[i]? = some o/\kD o=true:=by
 rcases hi with rfl | rfl | hi | hi | hi
 ·exact qV h.c0
 ·exact ⟨_,h.map,rfl⟩
 ·exact jT h.pow (by decide) hi
 ·exact jT h.row (by decide) hi
 ·exact ⟨_,(h.set _ hi).2,rfl⟩
theorem d9.km {lo n:Nat} {W W':World} {B:Nat} {x:WV} {d:Wd} {M:SM} (h:d9 lo W B x d M) (k:KM n W W') (hn:lo<=n):d9 lo W' B x d M:=by
 refine h.fr k.fr (fun i hi hx=>?_) (fun W'' k'=>h.wat W'' (k.fr.trans k' (fun i hi hx=>.inr ⟨by omega,hx.2⟩) (fun i hi hx=>hx.elim .inl (fun nk=>?_))))
 ·obtain ⟨o,ho,hk⟩:=h.keeps hi
  rw [hx.2 o ho] at hk;cases hk
 ·refine .inr ⟨nk.1,fun o ho=>?_⟩
  cases hk:kD o
  ·rfl
  ·have:=nk.2 o (k.keep i o ho hk)
   rw [hk] at this;cases this
structure sK (s:Sc) (M:SM):Prop where
 sent:M.sent=s.sent
 keys:M.ks.map Prod.fst=s.sent
 ahead:∀ m r,(m,r)∈M.ks->∀ y,y∈M.cont r↔s.ahead m y=true
 past:∀ k p,M.ps[k]? = some p->∀ y,y∈M.cont p↔s.past k y=true
end Go.Proofs.YtiiifecfdkjmbaaGreat
