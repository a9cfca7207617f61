/- Lemmas. Lemmas. Lemmas. -/
import Derived.Test.YtiiifecfdkjmbaaGreatCsMarks
import Derived.Test.YtiiifecfdkjmbaaGreatPureY
namespace Go.Proofs.YtiiifecfdkjmbaaGreat
set_option maxRecDepth 8000
open Go.RowKit Go.Shelf
open Pu
set_option linter.unusedVariables false
set_option linter.unusedSimpArgs false
section
variable {lo:Nat} {W W1:World} {s:Sl} {rs:Nat->Sl} {xss:List (List Bool)}
theorem FD (xs:List Bool) (b:Bool):aW (xs++[b])=aW xs++[.bool b]:=by unfold aW;simp
theorem Row.first {w:World} {lo':Nat} {r:Sl} {n:Nat} {xs:List Bool} {v:Value} (h:Row w lo' 1 r (n+1) (aW xs++[v])) (hl:xs.length=n):Row w lo' 1 r n (aW xs):=by
 have:=h.take n (by omega);rw [List.take_append_of_le_length (by unfold aW;simp;omega),List.take_of_length_le (by unfold aW;simp;omega)] at this;exact this
theorem bC.app1 (h:bC 1 aW lo W s rs xss) {k:Nat} {xs:List Bool} (hx:xss[k]? = some xs) {r':Sl} {v:Value} (hR1:Row W1 lo 1 r' (xs.length+1) (aW xs++[v])) (hF:Fr (fun i=>(rs k).blk=some i) W W1) (hB:r'=rs k\/(Since W W1/\r'.blk=some W.heap.size)) :
  bC 1 aW lo W1 s rs xss/\∀ c,r'.blk=some c->s.blk≠some c/\∀ j,j≠k->j < xss.length->(rs j).blk≠some c:=by
 have hk:=(zQ2.1 hx).1;rcases hB with rfl | ⟨hS,hb⟩
 ·refine ⟨⟨h.top.fr hF (fun b hb e=>h.apart k b hk e hb),fun j ys hj=>?_,h.apart,h.inj⟩,fun c hc=>⟨h.apart k c hk hc,fun j hj hjl e=>hj (h.inj j k c hjl hk e hc)⟩⟩;by_cases hjk:j=k
  ·subst hjk;rw [hx] at hj;obtain rfl:=Option.some.inj hj
   exact hR1.first rfl
  ·have hjl:=(zQ2.1 hj).1;exact (h.rows j ys hj).fr hF (fun b hb e=>hjk (h.inj j k b hjl hk hb e))
 ·refine ⟨h.since hS,fun c hc=>?_⟩;rw [hb] at hc;obtain rfl:=Option.some.inj hc;exact ⟨fun e=>by have:=(h.blk (.inl e)).2;omega,fun j _ hjl e=>by have:=(h.blk (.inr ⟨j,hjl,e⟩)).2;omega⟩
theorem bC.bit (h:bC 1 aW lo W s rs xss) {k:Nat} {xs:List Bool} (hx:xss[k]? = some xs) {b off c:Nat} (he:rs k=⟨some ⟨b,off,none⟩,c⟩) {j:Nat} (hj:j < xs.length) (v:Bool):bC 1 aW lo (W.setCell ⟨b,off+j,none⟩ (.bool v)) s rs (xss.set k (xs.set j v)):=by
 have hk:=(zQ2.1 hx).1;have hrow:=h.rows k xs hx;have hcap:=hrow.cap;rw [he] at hcap;dsimp only at hcap;have hblk:(rs k).blk=some b:=by rw [he];unfold Sl.blk;rw [if_neg (by dsimp only;omega)];rfl
 have hF:Fr (fun i=>(rs k).blk=some i) W (W.setCell ⟨b,off+j,none⟩ (.bool v)):=(Fr.refl _ _).setCell ⟨b,off+j,none⟩ _ (fun _=>hblk);have hlen:(xss.set k (xs.set j v)).length=xss.length:=by simp
 refine ⟨?_,fun i ys hi=>?_,fun i c' hi=>h.apart i c' (by omega),fun i i' c' hi hi'=>h.inj i i' c' (by omega) (by omega)⟩
 ·have e1:((List.range (xss.set k (xs.set j v)).length).map fun i=>(rs i).v ((xss.set k (xs.set j v))[i]?.getD []).length)=(List.range xss.length).map fun i=>(rs i).v (xss[i]?.getD []).length:=by
   rw [hlen];refine List.map_congr_left fun i hi=>?_;rw [List.getElem?_set];by_cases e:k=i
   ·subst e;rw [if_pos rfl,if_pos hk,hx];simp
   ·rw [if_neg e]
  rw [e1,hlen];exact h.top.fr hF (fun b' hb e=>h.apart k b' hk e hb)
 ·rw [List.getElem?_set] at hi;by_cases e:k=i
  ·subst e;rw [if_pos rfl,if_pos hk] at hi;obtain rfl:=Option.some.inj hi;obtain ⟨b',o',e',hl',hb',hc',hx'⟩:=hrow.body (by rw [he];dsimp only;omega);rw [he] at e';cases e';have hl2:=hrow.len;refine ⟨by unfold aW;simp,by simpa using hrow.cap,hrow.qK,hrow.bare,fun _=>⟨b,off,by rw [he],hl',by simpa using hb',fun i hi=>?_,fun i u hu=>?_⟩⟩
   ·obtain ⟨q1,q2⟩:=hc' i hi;rw [World.frozen?_setCell];refine ⟨?_,q2⟩;by_cases e2:i=j
    ·subst e2;rw [World.cell?_setCell_same' _ _ _ q1];rfl
    ·rw [bJ _ _ _ (by omega)];exact q1
   ·unfold aW at hu;rw [List.getElem?_map,List.getElem?_set] at hu;by_cases e2:j=i
    ·subst e2;rw [if_pos rfl,if_pos hj] at hu;obtain rfl:=Option.some.inj hu;exact World.cell?_setCell_same' _ _ _ (hc' j (by rw [he];dsimp only;omega)).1
    ·rw [if_neg e2] at hu;rw [bJ _ _ _ (by omega)];exact hx' i u (by unfold aW;rw [List.getElem?_map];exact hu)
  ·rw [if_neg e] at hi;have hil:=(zQ2.1 hi).1;exact (h.rows i ys hi).fr hF (fun b' hb e'=>e (h.inj i k b' hil hk hb e').symm)
end
structure MM where
 al:Sl
 all:List Mg
 sh:Sl
 rh:Nat->Sl
 ah:List (List Bool)
 sk:Sl
 rk:Nat->Sl
 kn:List (List Bool)
def MB (q:Nat) (M:MM) (i:Nat):Prop:=i=q\/M.al.blk=some i\/gK M.sh M.rh M.ah i\/gK M.sk M.rk M.kn i
structure MO (lo:Nat) (W:World) (q:Nat) (v:WV) (d:Wd) (M:MM):Prop where
 ql:lo<=q
 qh:q < W.heap.size
 c0:W.cell? ⟨q,0,none⟩=some (.slice v.ga v.gl v.gc)
 c1:W.cell? ⟨q,1,none⟩=some (.slice v.na v.nl v.nc)
 c2:W.cell? ⟨q,2,none⟩=some (.slice v.wa v.wl v.wc)
 z:∀ o,o < 3->W.frozen? ⟨q,o,none⟩=false
 all:Row W lo 5 M.al M.all.length (flat M.all)
 ah:bC 1 aW lo W M.sh M.rh M.ah
 kn:bC 1 aW lo W M.sk M.rk M.kn
 dqa:M.al.blk≠some q
 dqh:¬ gK M.sh M.rh M.ah q
 dqk:¬ gK M.sk M.rk M.kn q
 dah:∀ b,M.al.blk=some b->¬ gK M.sh M.rh M.ah b/\¬ gK M.sk M.rk M.kn b
 dhk:∀ b,gK M.sh M.rh M.ah b->¬ gK M.sk M.rk M.kn b
 wat:∀ W',Fr (MB q M) W W'->WAt W' v d
section
variable {lo:Nat} {W W':World} {q:Nat} {v:WV} {d:Wd} {M:MM}
theorem MO.blk (h:MO lo W q v d M) {i:Nat} (hi:MB q M i):lo<=i/\i < W.heap.size:=by
 rcases hi with rfl | hi | hi | hi
 ·exact ⟨h.ql,h.qh⟩
 ·exact ⟨(h.all.dJ hi).2.1,(h.all.dJ hi).2.2.1⟩
 ·exact h.ah.blk hi
 ·exact h.kn.blk hi
theorem MO.wAt (h:MO lo W q v d M):WAt W v d:=h.wat W (Fr.refl _ _)
theorem MO.since (h:MO lo W q v d M) (k:Since W W'):MO lo W' q v d M:=by
 have c:∀ o,W'.cell? ⟨q,o,none⟩=W.cell? ⟨q,o,none⟩:=fun o=>k.cellAt h.qh o
 exact ⟨h.ql,zQ4 h.qh k.size,(c 0).trans h.c0,(c 1).trans h.c1,(c 2).trans h.c2,fun o ho=>(k.below.frozen (p:=⟨q,o,none⟩) h.qh).trans (h.z o ho),h.all.since k,h.ah.since k,h.kn.since k,h.dqa,h.dqh,h.dqk,h.dah,h.dhk,
  fun W'' k'=>h.wat W'' ((k.fr fun _=>False).trans k' (fun _ _ f=>f.elim) (fun _ _ f=>f))⟩
theorem MO.world (h:MO lo W q v d M) {u:WV} {d':Wd} (hw:∀ W'',Fr (MB q M) W W''->WAt W'' u d') (h2:y8 W q (.slice u.ga u.gl u.gc) (.slice u.na u.nl u.nc) (.slice u.wa u.wl u.wc)=W'):MO lo W' q u d' M:=by
 have k:Fr (fun i=>i=q) W W':=by rw [<-h2];exact dN _ _ _ _ _
 exact ⟨h.ql,zQ4 h.qh k.size,by rw [<-h2];exact pI h.c0,by rw [<-h2];exact pJ h.c1,by rw [<-h2];exact pK h.c2,fun o ho=>by rw [<-h2,gT];exact h.z o ho,
  h.all.fr k (fun b hb e=>h.dqa (e ▸ hb)),h.ah.fr k (fun b hb e=>h.dqh (e ▸ hb)),h.kn.fr k (fun b hb e=>h.dqk (e ▸ hb)),h.dqa,h.dqh,h.dqk,h.dah,h.dhk,
  fun W'' k'=>hw W'' (k.trans k' (fun i _ e=>.inl e) (fun _ _ e=>e))⟩
theorem MO.part (h:MO lo W q v d M) {X:Nat->Prop} (k:Fr X W W') (hX:∀ i,i < W.heap.size->X i->MB q M i) {M':MM} (hq:¬ X q) (hB:∀ i,i < W.heap.size->MB q M' i->MB q M i)
  (all:Row W' lo 5 M'.al M'.all.length (flat M'.all)) (ah:bC 1 aW lo W' M'.sh M'.rh M'.ah) (kn:bC 1 aW lo W' M'.sk M'.rk M'.kn)
  (dqa:M'.al.blk≠some q) (dqh:¬ gK M'.sh M'.rh M'.ah q) (dqk:¬ gK M'.sk M'.rk M'.kn q) (dah:∀ b,M'.al.blk=some b->¬ gK M'.sh M'.rh M'.ah b/\¬ gK M'.sk M'.rk M'.kn b) (dhk:∀ b,gK M'.sh M'.rh M'.ah b->¬ gK M'.sk M'.rk M'.kn b):MO lo W' q v d M' :=
 ⟨h.ql,zQ4 h.qh k.size,(k.cell (p:=⟨q,0,none⟩) h.qh hq).trans h.c0,(k.cell (p:=⟨q,1,none⟩) h.qh hq).trans h.c1,(k.cell (p:=⟨q,2,none⟩) h.qh hq).trans h.c2,fun o ho=>(k.frozen (p:=⟨q,o,none⟩) h.qh hq).trans (h.z o ho),all,ah,kn,dqa,dqh,dqk,dah,dhk,
  fun W'' k'=>h.wat W'' (k.trans k' hX hB)⟩
theorem MO.OW (h:MO lo W q v d M) (m:Mg) {W0:World} (hS:Since W W0) {al':Sl} (hR:Row W' lo 5 al' (M.all.length+1) (flat M.all++flat [m])) (hF:Fr (fun i=>M.al.blk=some i) W0 W') (hB:al'=M.al\/(Since W0 W'/\al'.blk=some W0.heap.size)):MO lo W' q v d { M with al:=al',all:=M.all++[m] }:=by
 have k:Fr (fun i=>M.al.blk=some i) W W':=(hS.fr fun _=>False).trans hF (fun _ _ f=>f.elim) (fun _ _ f=>f)
 have hnew:∀ b,al'.blk=some b->M.al.blk=some b\/W.heap.size<=b:=fun b hb=>by
  rcases hB with rfl | ⟨_,e⟩
  ·exact .inl hb
  ·rw [e] at hb;have:=Option.some.inj hb;have:=hS.size;exact .inr (by omega)
 refine h.part (M':={ M with al:=al',all:=M.all++[m] }) k (fun i _ e=>.inr (.inl e)) (fun e=>h.dqa e) (fun i hi hb=>?_) ?_ (h.ah.fr k (fun b hb e=>(h.dah b e).1 hb)) (h.kn.fr k (fun b hb e=>(h.dah b e).2 hb)) (fun e=>?_) h.dqh h.dqk (fun b hb=>?_) h.dhk
 ·rcases hb with hb | hb | hb | hb
  ·exact .inl hb
  ·rcases hnew i hb with e | e
   ·exact .inr (.inl e)
   ·omega
  ·exact .inr (.inr (.inl hb))
  ·exact .inr (.inr (.inr hb))
 ·show Row W' lo 5 al' (M.all++[m]).length (flat (M.all++[m]));have e2:flat (M.all++[m])=flat M.all++flat [m]:=by unfold flat;rw [List.flatMap_append]
  rw [e2,List.length_append];exact hR
 ·rcases hnew q e with e | e
  ·exact h.dqa e
  ·have:=h.qh;omega
 ·rcases hnew b hb with e | e
  ·exact h.dah b e
  ·exact ⟨fun hc=>by have:=(h.ah.blk hc).2;omega,fun hc=>by have:=(h.kn.blk hc).2;omega⟩
theorem MO.KW (h:MO lo W q v d M) {xs:List Bool} {r:Sl} {W0:World} (hS:Since W W0) (hr:Row W0 lo 1 r xs.length (aW xs)) (hd:∀ b,r.blk=some b->W.heap.size<=b) {s':Sl} (hs:Row W' lo 1 s' (M.ah.length+1) (((List.range M.ah.length).map fun k=>(M.rh k).v (M.ah[k]?.getD []).length)++[r.v xs.length]))
  (hF:Fr (fun k=>M.sh.blk=some k) W0 W') (hb:s'=M.sh\/(Since W0 W'/\s'.blk=some W0.heap.size)):MO lo W' q v d { M with sh:=s',rh:=kQ M.rh M.ah.length r,ah:=M.ah++[xs] }:=by
 have hW0:=hS.size;have hp:=(h.ah.since hS).push hr (fun b hb hc=>by have:=hd b hb;have:=(h.ah.blk hc).2;omega) hs hF hb;have k:Fr (fun i=>M.sh.blk=some i) W W':=(hS.fr fun _=>False).trans hF (fun _ _ f=>f.elim) (fun _ _ f=>f)
 have hnew:∀ b,gK s' (kQ M.rh M.ah.length r) (M.ah++[xs]) b->gK M.sh M.rh M.ah b\/W.heap.size<=b:=fun b hb'=>by
  rcases hb' with hb' | ⟨k,hk,hb'⟩
  ·rcases hb with rfl | ⟨_,e⟩
   ·exact .inl (.inl hb')
   ·rw [e] at hb';have:=Option.some.inj hb';exact .inr (by omega)
  ·by_cases e:k=M.ah.length
   ·subst e;rw [gG] at hb';exact .inr (hd b hb')
   ·rw [gZ _ e] at hb';exact .inl (.inr ⟨k,by simp at hk;omega,hb'⟩)
 refine h.part (M':={ M with sh:=s',rh:=kQ M.rh M.ah.length r,ah:=M.ah++[xs] }) k (fun i _ e=>.inr (.inr (.inl (.inl e)))) (fun e=>h.dqh (.inl e)) (fun i hi hb'=>?_) (h.all.fr k (fun b hb' e=>(h.dah b hb').1 (.inl e))) hp (h.kn.fr k (fun b hb' e=>h.dhk b (.inl e) hb')) h.dqa (fun e=>?_) h.dqk (fun b hb'=>⟨fun hc=>?_,(h.dah b hb').2⟩) (fun b hb'=>?_)
 ·rcases hb' with hb' | hb' | hb' | hb'
  ·exact .inl hb'
  ·exact .inr (.inl hb')
  ·rcases hnew i hb' with e | e
   ·exact .inr (.inr (.inl e))
   ·omega
  ·exact .inr (.inr (.inr hb'))
 ·rcases hnew q e with e | e
  ·exact h.dqh e
  ·have:=h.qh;omega
 ·rcases hnew b hc with e | e
  ·exact (h.dah b hb').1 e
  ·have:=(h.all.dJ hb').2.2.1;omega
 ·rcases hnew b hb' with e | e
  ·exact h.dhk b e
  ·exact fun hc=>by have:=(h.kn.blk hc).2;omega
theorem MO.known (h:MO lo W q v d M) {X:Nat->Prop} (k:Fr X W W') (hX:∀ i,i < W.heap.size->X i->gK M.sk M.rk M.kn i) {rk':Nat->Sl} {kn':List (List Bool)} (hk:bC 1 aW lo W' M.sk rk' kn') (hnew:∀ b,gK M.sk rk' kn' b->gK M.sk M.rk M.kn b\/W.heap.size<=b):MO lo W' q v d { M with rk:=rk',kn:=kn' }:=by
 have hq:=h.qh
 refine h.part (M':={ M with rk:=rk',kn:=kn' }) k (fun i hi e=>.inr (.inr (.inr (hX i hi e)))) (fun e=>h.dqk (hX q hq e)) (fun i hi hb=>?_)
  (h.all.fr k (fun b hb e=>(h.dah b hb).2 (hX b (h.all.dJ hb).2.2.1 e))) (h.ah.fr k (fun b hb e=>h.dhk b hb (hX b (h.ah.blk hb).2 e))) hk h.dqa h.dqh (fun e=>?_) (fun b hb=>⟨(h.dah b hb).1,fun hc=>?_⟩) (fun b hb hc=>?_)
 ·rcases hb with hb | hb | hb | hb
  ·exact .inl hb
  ·exact .inr (.inl hb)
  ·exact .inr (.inr (.inl hb))
  ·rcases hnew i hb with e | e
   ·exact .inr (.inr (.inr e))
   ·omega
 ·rcases hnew q e with e | e
  ·exact h.dqk e
  ·omega
 ·rcases hnew b hc with e | e
  ·exact (h.dah b hb).2 e
  ·have:=(h.all.dJ hb).2.2.1;omega
 ·rcases hnew b hc with e | e
  ·exact h.dhk b hb e
  ·have:=(h.ah.blk hb).2;omega
end
end Go.Proofs.YtiiifecfdkjmbaaGreat
namespace Go.Proofs.YtiiifecfdkjmbaaGreat.Pu
set_option maxRecDepth 8000
def cls (N:Nat) (ah:List (List Bool)) (i:Nat):List (List Bool):=(ah.take i).foldl (jD N) []
theorem M4 (N:Nat) (ah:List (List Bool)):cls N ah 0=[]:=rfl
theorem zU (N:Nat) (ah:List (List Bool)) {i:Nat} {x:List Bool} (h:ah[i]? = some x):cls N ah (i+1)=cls N ah i++[eO (cls N ah i) (gV N x) (cls N ah i).length]:=by
 unfold cls;rw [List.take_add_one,h,Option.toList_some,List.foldl_append];rfl
theorem OX (N:Nat) (ah:List (List Bool)):cls N ah ah.length=closeAll N ah:=by unfold cls closeAll;rw [List.take_length]
theorem nu (N:Nat) (ah:List (List Bool)):∀ i,i<=ah.length->(cls N ah i).length=i
 | 0,_=>rfl
 | i+1,h=>by
  rw [zU N ah (zQ1 (by omega:i < ah.length)),List.length_append,nu N ah i (by omega)];rfl
theorem KY {a b:List Bool} {N:Nat} (ha:a.length=N) (hb:b.length=N):(uQ a b).length=N:=by
 unfold uQ;rw [List.length_zipWith,ha,hb,Nat.min_self]
theorem rZ {rows:List (List Bool)} {N:Nat} (hr:∀ (j:Nat) (x:List Bool),rows[j]? = some x->x.length=N) {row:List Bool} (h:row.length=N):∀ j,j<=rows.length->(eO rows row j).length=N
 | 0,_=>h
 | j+1,hj=>by
  have ih:=rZ hr h j (by omega);unfold eO;by_cases hb:bM (eO rows row j) j=true
  ·rw [if_pos hb];have e:rows[j]? = some rows[j]:=zQ1 (by omega);rw [e];exact KY ih (hr j _ e)
  ·rw [if_neg hb];exact ih
theorem Iq {N:Nat} {row:List Bool} (h:row.length<=N):(gV N row).length=N:=by
 unfold gV;rw [List.length_append,List.length_replicate];omega
theorem JN {N:Nat} {ah:List (List Bool)} (h:∀ (i:Nat) (x:List Bool),ah[i]? = some x->x.length<=N):∀ i,i<=ah.length->∀ (j:Nat) (x:List Bool),(cls N ah i)[j]? = some x->x.length=N
 | 0,_,j,x,hx=>by rw [M4] at hx;simp at hx
 | i+1,hi,j,x,hx=>by
  have e:ah[i]? = some ah[i]:=zQ1 (by omega);rw [zU N ah e] at hx;have ih:=JN h i (by omega);by_cases hj:j < (cls N ah i).length
  ·rw [List.getElem?_append_left hj] at hx;exact ih j x hx
  ·rw [List.getElem?_append_right (by omega)] at hx
   have e0:j - (cls N ah i).length=0:=by
    have:=(zQ2.1 hx).1;simp at this;omega
   rw [e0] at hx;simp at hx;subst hx;exact rZ ih (Iq (h i _ e)) _ (Nat.le_refl _)
def ou (a b:List Bool):Nat->List Bool
 | 0=>a
 | k+1=>(ou a b k).set k (bM (ou a b k) k || bM b k)
theorem zV (a b:List Bool):∀ k,(ou a b k).length=a.length
 | 0=>rfl
 | k+1=>by unfold ou;rw [List.length_set];exact zV a b k
theorem zW (a b:List Bool):∀ k,k<=a.length->∀ i,(ou a b k)[i]? = if i < k then some (bM a i || bM b i) else a[i]?
 | 0,_,i=>by simp [ou]
 | k+1,hk,i=>by
  have ih:=zW a b k (by omega);unfold ou;rw [List.getElem?_set];by_cases e:k=i
  ·subst e;rw [if_pos rfl,if_pos (by rw [zV];omega),if_pos (by omega)];have:bM (ou a b k) k=bM a k:=by unfold bM;rw [ih k,if_neg (by omega)]
   rw [this]
  ·rw [if_neg e,ih i];by_cases h:i < k
   ·rw [if_pos h,if_pos (by omega)]
   ·rw [if_neg h,if_neg (by omega)]
theorem M5 {a b:List Bool} {j:Nat} (h:bM a j=true) (k:Nat) (hk:k<=a.length):bM (ou a b k) j=true:=by
 unfold bM;rw [zW a b k hk j];by_cases e:j < k
 ·rw [if_pos e,Option.getD_some,h];rfl
 ·rw [if_neg e];exact h
theorem M6 {a b:List Bool} {N:Nat} (ha:a.length=N) (hb:b.length=N):ou a b N=uQ a b:=by
 refine List.ext_getElem? fun i=>?_;rw [zW a b N (by omega) i];unfold uQ;by_cases h:i < N
 ·rw [if_pos h,List.getElem?_zipWith];have e1:a[i]? = some a[i]:=zQ1 (by omega);have e2:b[i]? = some b[i]:=zQ1 (by omega);unfold bM;rw [e1,e2];rfl
 ·rw [if_neg h,List.getElem?_eq_none (by omega),List.getElem?_eq_none (by rw [List.length_zipWith];omega)]
def iY (N:Nat) (ah:List (List Bool)) (i:Nat) (x:List Bool):List (List Bool):=cls N ah i++x::ah.drop (i+1)
theorem DC {N:Nat} {ah:List (List Bool)} {i:Nat} {x:List Bool} (h:ah[i]? = some x):cls N ah i++ah.drop i=iY N ah i x:=by
 unfold iY;obtain ⟨hi,rfl⟩:=zQ2.1 h;rw [List.drop_eq_getElem_cons hi]
theorem vB {N:Nat} {ah:List (List Bool)} {i:Nat} {x:List Bool} (h:i < ah.length):(iY N ah i x).length=ah.length:=by
 unfold iY;rw [List.length_append,nu N ah i (by omega),List.length_cons,List.length_drop];omega
theorem r9 {N:Nat} {ah:List (List Bool)} {i:Nat} {x:List Bool} (h:i < ah.length):(iY N ah i x)[i]? = some x:=by
 unfold iY;rw [List.getElem?_append_right (by rw [nu N ah i (by omega)];omega),nu N ah i (by omega)];simp
theorem Ir {N:Nat} {ah:List (List Bool)} {i j:Nat} {x:List Bool} (h:i < ah.length) (hj:j < i):(iY N ah i x)[j]? = (cls N ah i)[j]?:=by
 unfold iY;rw [List.getElem?_append_left (by rw [nu N ah i (by omega)];exact hj)]
theorem zX {N:Nat} {ah:List (List Bool)} {i:Nat} {x:List Bool} (h:i < ah.length) (y:List Bool):(iY N ah i x).set i y=iY N ah i y:=by
 unfold iY;rw [List.set_append_right _ _ (by rw [nu N ah i (by omega)];omega),nu N ah i (by omega)];simp
theorem Iu {N:Nat} {ah:List (List Bool)} {i:Nat} {x:List Bool} (h:ah[i]? = some x):iY N ah i (eO (cls N ah i) (gV N x) i)=cls N ah (i+1)++ah.drop (i+1):=by
 have hi:=(zQ2.1 h).1;unfold iY;rw [zU N ah h,nu N ah i (by omega),List.append_assoc];rfl
end Go.Proofs.YtiiifecfdkjmbaaGreat.Pu
namespace Go.Proofs.YtiiifecfdkjmbaaGreat
set_option maxRecDepth 8000
open Go.RowKit Go.Shelf
open Pu
set_option linter.unusedVariables false
set_option linter.unusedSimpArgs false
structure CL (lo:Nat) (W:World) (al:Sl) (all:List Mg) (sh:Sl) (rs:Nat->Sl) (X:List (List Bool)):Prop where
 all:Row W lo 5 al all.length (flat all)
 ah:bC 1 aW lo W sh rs X
 dis:∀ b,al.blk=some b->¬ gK sh rs X b
section
variable {lo:Nat} {W W':World} {al:Sl} {all:List Mg} {sh:Sl} {rs:Nat->Sl} {X:List (List Bool)}
theorem CL.since (h:CL lo W al all sh rs X) (hS:Since W W'):CL lo W' al all sh rs X:=⟨h.all.since hS,h.ah.since hS,h.dis⟩
theorem MO.cl {q:Nat} {v:WV} {d:Wd} {M:MM} (h:MO lo W q v d M):CL lo W M.al M.all M.sh M.rh M.ah:=⟨h.all,h.ah,fun b hb=>(h.dah b hb).1⟩
theorem CL.Q8 (h:CL lo W al all sh rs X) (h0:0 < X.length):∃ b off cap,sh=⟨some ⟨b,off,none⟩,cap⟩/\sh.blk=some b/\b < W.heap.size/\X.length<=cap:=by
 have hc:=h.ah.top.cap;obtain ⟨b,off,e,_,hb,_,_⟩:=h.ah.top.body (by omega);have he:sh=⟨some ⟨b,off,none⟩,sh.cap⟩:=by rw [<-e]
 exact ⟨b,off,sh.cap,he,by unfold Sl.blk;rw [if_neg (by omega),e];rfl,hb,by omega⟩
theorem CL.JM (h:CL lo W al all sh rs X) {b off cap:Nat} (he:sh=⟨some ⟨b,off,none⟩,cap⟩) {k:Nat} {xs:List Bool} (hx:X[k]? = some xs):W.cell? ⟨b,off+k,none⟩=some (.slice (rs k).a xs.length (rs k).cap)/\W.frozen? ⟨b,off+k,none⟩=false/\b < W.heap.size:=by
 have hk:=(zQ2.1 hx).1;have ht:=h.ah.top;have hc:=ht.cap;rw [he] at ht hc;dsimp only at hc;obtain ⟨b',o',e',_,hb,hal,hxt⟩:=ht.body (by dsimp only;omega);dsimp only at e';cases e';refine ⟨hxt k _ ?_,(hal k (by dsimp only;omega)).2,hb⟩;rw [List.getElem?_map,List.getElem?_range hk];simp only [Option.map_some,hx,Option.getD_some,Sl.v]
theorem CL.bM (h:CL lo W al all sh rs X) {k:Nat} {xs:List Bool} (hx:X[k]? = some xs) (h0:0 < xs.length):∃ b off c,rs k=⟨some ⟨b,off,none⟩,c⟩/\xs.length<=c/\b < W.heap.size/\∀ j,j < xs.length->W.cell? ⟨b,off+j,none⟩=some (.bool (Pu.bM xs j))/\W.frozen? ⟨b,off+j,none⟩=false:=by
 have hr:=h.ah.rows k xs hx;have hc:=hr.cap;obtain ⟨b,off,e,_,hb,hal,hxt⟩:=hr.body (by omega);refine ⟨b,off,(rs k).cap,by rw [<-e],by omega,hb,fun j hj=>⟨hxt j _ ?_,(hal j (by omega)).2⟩⟩;unfold aW Pu.bM;rw [List.getElem?_map,zQ1 hj];rfl
theorem CL.bit (h:CL lo W al all sh rs X) {k:Nat} {xs:List Bool} (hx:X[k]? = some xs) {b off c:Nat} (he:rs k=⟨some ⟨b,off,none⟩,c⟩) {j:Nat} (hj:j < xs.length) (v:Bool) {w2:World} (hS:Since w2 W) (hlo:w2.heap.size<=lo):CL lo (W.setCell ⟨b,off+j,none⟩ (.bool v)) al all sh rs (X.set k (xs.set j v))/\Since w2 (W.setCell ⟨b,off+j,none⟩ (.bool v)):=by
 have hk:=(zQ2.1 hx).1;have hc:=(h.ah.rows k xs hx).cap;rw [he] at hc;dsimp only at hc;have hblk:(rs k).blk=some b:=by rw [he];unfold Sl.blk;rw [if_neg (by dsimp only;omega)];rfl
 have hin:gK sh rs X b:=.inr ⟨k,hk,hblk⟩;have hF:Fr (fun i=>i=b) W (W.setCell ⟨b,off+j,none⟩ (.bool v)):=(Fr.refl _ _).setCell ⟨b,off+j,none⟩ _ (fun _=>rfl);refine ⟨⟨h.all.fr hF (fun b' hb' e=>by have e':b'=b:=e;exact h.dis b' hb' (e' ▸ hin)),h.ah.bit hx he hj v,fun b' hb' hm=>h.dis b' hb' ?_⟩,hF.aC hS (fun i hi e=>by have e':i=b:=e;have:=(h.ah.blk hin).1;omega)⟩;rcases hm with hm | ⟨j',hj',hm⟩
 ·exact .inl hm
 ·exact .inr ⟨j',by simpa using hj',hm⟩
theorem CL.app (h:CL lo W al all sh rs X) {k:Nat} {xs:List Bool} (hx:X[k]? = some xs) {b off cap:Nat} (he:sh=⟨some ⟨b,off,none⟩,cap⟩) {q:Bool} {r':Sl} {W1:World} (hR:Row W1 lo 1 r' (xs.length+1) (aW xs++[.bool q])) (hF:Fr (fun i=>(rs k).blk=some i) W W1) (hB:r'=rs k\/(Since W W1/\r'.blk=some W.heap.size)) {w2:World} (hS:Since w2 W) (hlo:w2.heap.size<=lo) :
  CL lo (W1.setCell ⟨b,off+k,none⟩ (.slice r'.a (xs.length+1) r'.cap)) al all sh (kQ rs k r') (X.set k (xs++[q]))/\Since w2 (W1.setCell ⟨b,off+k,none⟩ (.slice r'.a (xs.length+1) r'.cap)):=by
 have hk:=(zQ2.1 hx).1;have hc:=h.ah.top.cap;rw [he] at hc;dsimp only at hc;have hsb:sh.blk=some b:=by rw [he];unfold Sl.blk;rw [if_neg (by dsimp only;omega)];rfl
 obtain ⟨hO,hd⟩:=h.ah.app1 hx hR hF hB;have hO8:=hO.put hk he (r:=r') (xs:=xs++[q]) (by rw [List.length_append,FD];exact hR) hd;rw [List.length_append] at hO8;have k78:Fr (fun i=>i=b) W1 (W1.setCell ⟨b,off+k,none⟩ (.slice r'.a (xs.length+1) r'.cap)):=(Fr.refl _ _).setCell ⟨b,off+k,none⟩ _ (fun _=>rfl);have hFk:Fr (gK sh rs X) W (W1.setCell ⟨b,off+k,none⟩ (.slice r'.a (xs.length+1) r'.cap)):=hF.trans k78 (fun _ _ e=>.inr ⟨k,hk,e⟩) (fun _ _ e=>.inl (by rw [e];exact hsb));refine ⟨⟨h.all.fr hFk (fun b' hb' e=>h.dis b' hb' e),hO8,fun b' hb' hm=>?_⟩,hFk.aC hS (fun i hi e=>by have:=(h.ah.blk e).1;omega)⟩;rcases hm with hm | ⟨j',hj',hm⟩
 ·exact h.dis b' hb' (.inl hm)
 ·rw [List.length_set] at hj';by_cases e:j'=k
  ·subst e;rw [gG] at hm;rcases hB with e | ⟨_,e⟩
   ·rw [e] at hm;exact h.dis b' hb' (.inr ⟨j',hj',hm⟩)
   ·rw [e] at hm;have e3:=Option.some.inj hm;have:=(h.all.dJ hb').2.2.1;omega
  ·rw [gZ _ e] at hm;exact h.dis b' hb' (.inr ⟨j',hj',hm⟩)
theorem Row.PZ {w:World} {lo lo' sz n:Nat} {s:Sl} {xs:List Value} (h:Row w lo sz s n xs) (hl:lo'<=lo):Row w lo' sz s n xs :=
 ⟨h.len,h.cap,h.qK,h.bare,fun hp=>by obtain ⟨b,off,e,h1,h2⟩:=h.body hp;exact ⟨b,off,e,by omega,h2⟩⟩
theorem CL.fin (h:CL lo W al all sh rs X) {lo':Nat} (hl:lo'<=lo) (hm:all.length<=80):fA W al.a all.length all/\bC 1 aW lo' W sh rs X:=by
 refine ⟨⟨rfl,by omega,fun h0=>?_⟩,h.ah.top.PZ hl,fun k xs hk=>(h.ah.rows k xs hk).PZ hl,h.ah.apart,h.ah.inj⟩;have hc:=h.all.cap;obtain ⟨b,off,e,_,hb,_,hx⟩:=h.all.body (by omega);exact ⟨b,off,e,hb,hx⟩
end
end Go.Proofs.YtiiifecfdkjmbaaGreat
