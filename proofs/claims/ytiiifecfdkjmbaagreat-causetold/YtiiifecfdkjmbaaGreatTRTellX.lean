/- Lemmas. -/
import Derived.Test.YtiiifecfdkjmbaaGreatTRegM
import Derived.Test.YtiiifecfdkjmbaaGreatTOwnX
namespace Go.Proofs.YtiiifecfdkjmbaaGreat
set_option maxRecDepth 8000
open Go.RowKit Go.Shelf
open Pu
set_option linter.unusedVariables false
set_option linter.unusedSimpArgs false
theorem yg {n:Nat} {xs:List Int} (h:bF n xs=0):1<=n/\n<=4/\1<=xs.length/\xs.length<=3:=by
 unfold bF at h
 split at h
 ·cases h
 ·split at h
  ·cases h
  ·omega
theorem tZ {d:Wd} (R:Right d):Ju d:=by
 obtain ⟨_,n4,_,g3⟩:=yg R.chk
 rintro ⟨u,i,j⟩ hok
 match u with
 | 0=>show d.groups.length<=100;omega
 | 1=>show d.nodes.length<=100;omega
 | 2=>show d.wires.length<=100;rw [R.yV];omega
 | 3 =>
  obtain ⟨x,hx⟩:∃ x,d.nodes[i]? = some x:=⟨_,zQ1 hok.1⟩
  show (aJ d i).last.length<=100
  rw [aV hx,R.llen i x hx];omega
 | 4 =>
  obtain ⟨x,hx⟩:∃ x,d.nodes[i]? = some x:=⟨_,zQ1 hok.1⟩
  have h2:j < (aJ d i).last.length:=hok.2
  rw [aV hx] at h2
  obtain ⟨r,hr⟩:∃ r,x.last[j]? = some r:=⟨_,zQ1 h2⟩
  show (dS d i j).length<=100
  unfold dS;rw [aV hx,hr]
  show r.length<=100
  rw [R.qm i x j r hx hr];omega
 | 5 =>
  obtain ⟨x,hx⟩:∃ x,d.nodes[i]? = some x:=⟨_,zQ1 hok.1⟩
  have:=R.qJ i
  show (aJ d i).held.length<=100
  rw [(dD hx).2.1] at this
  rw [aV hx];omega
 | 6 =>
  obtain ⟨x,hx⟩:∃ x,d.nodes[i]? = some x:=⟨_,zQ1 hok.1⟩
  have:=R.zZ i
  show (aJ d i).told.length<=100
  rw [(dD hx).2.2.1] at this
  rw [aV hx];omega
 | 7 =>
  obtain ⟨r,hr⟩:∃ x,d.wires[i]? = some x:=⟨_,zQ1 hok.1⟩
  show (rowAt d i).length<=100
  rw [dF hr,R.rlen i r hr];omega
 | 8 =>
  have:=R.pF i j
  show (eU d i j).length<=100
  have e:eU d i j=au d i j:=rfl
  rw [e];omega
 | _+9=>exact absurd hok (fun h=>h)
theorem row_of {d:Wd} (r:dU d) {f:Nat} (hf:f < d.nodes.length):∃ row,d.wires[f]? = some row/\row.length=d.nodes.length :=
 ⟨_,zQ1 (by rw [r.1];exact hf),r.2 f _ (zQ1 (by rw [r.1];exact hf))⟩
structure mK (w:World) (p:Nat) (d:Wd) (L:Lay) (f t:Nat) (l:List Mg) (bw ow cw br oR cr:Nat):Prop where
 lt:p < w.heap.size
 top:w.cell? ⟨p,2,none⟩=some (.slice (some ⟨bw,ow,none⟩) d.wires.length cw)
 ltw:bw < w.heap.size
 row:w.cell? ⟨bw,ow+f,none⟩=some (.slice (some ⟨br,oR,none⟩) d.nodes.length cr)
 ltr:br < w.heap.size
 cell:w.cell? ⟨br,oR+t,none⟩=some ((L (8,f,t)).v l.length)
 free:w.frozen? ⟨br,oR+t,none⟩=false
 lay:L (7,f,0)=⟨some ⟨br,oR,none⟩,cr⟩
 bkw:(L (2,0,0)).blk=some bw
 bkr:(L (7,f,0)).blk=some br
theorem dN.rQ {lo:Nat} {w:World} {p:Nat} {d:Wd} {L:Lay} (h:dN lo w p d L) (r:dU d) {f t:Nat} (hf:f < d.nodes.length) (ht:t < d.nodes.length):∃ bw ow cw br oR cr,mK w p d L f t (au d f t) bw ow cw br oR cr:=by
 obtain ⟨row,hr,hl⟩:=row_of r hf
 have h2:=h.box.c2
 have hRw:Row w lo 1 (L (2,0,0)) d.wires.length ((List.range d.wires.length).map fun i=>(L (7,i,0)).v (rowAt d i).length):=h.own.row (2,0,0) ⟨rfl,rfl⟩
 have hRr:Row w lo 1 (L (7,f,0)) (rowAt d f).length ((List.range (rowAt d f).length).map fun k=>(L (8,f,k)).v (eU d f k).length):=h.own.row (7,f,0) ⟨by rw [r.1];exact hf,rfl⟩
 rw [dF hr,hl] at hRr
 obtain ⟨bw,ow,e1,hlw,hbw,hcw,hxw⟩:=hRw.body (by have:=hRw.cap;have:=r.1;omega)
 obtain ⟨br,oR,e2,hlr,hbr,hcr,hxr⟩:=hRr.body (by have:=hRr.cap;omega)
 have L2:L (2,0,0)=⟨some ⟨bw,ow,none⟩,(L (2,0,0)).cap⟩:=by rw [<-e1]
 have L7:L (7,f,0)=⟨some ⟨br,oR,none⟩,(L (7,f,0)).cap⟩:=by rw [<-e2]
 have hb2:(L (2,0,0)).blk=some bw:=by
  obtain ⟨b,o,c,hL,_,_,hbk,_⟩:=h.own.lies (ix:=(2,0,0)) ⟨rfl,rfl⟩ (by show 0 < d.wires.length;have:=r.1;omega)
  rw [hL] at e1;simp at e1;rw [hL,<-e1.1];rw [hL] at hbk;exact hbk
 have hb7:(L (7,f,0)).blk=some br:=by
  obtain ⟨b,o,c,hL,_,_,hbk,_⟩:=h.own.lies (ix:=(7,f,0)) ⟨by rw [r.1];exact hf,rfl⟩ (by show 0 < (rowAt d f).length;rw [dF hr];omega)
  rw [hL] at e2;simp at e2;rw [hL,<-e2.1];rw [hL] at hbk;exact hbk
 refine ⟨bw,ow,(L (2,0,0)).cap,br,oR,(L (7,f,0)).cap,h.box.lt, ?_,hbw, ?_,hbr, ?_, ?_,L7,hb2,hb7⟩
 ·rw [h2,e1]
 ·have:=hxw f _ (range_map_get _ _ f (by rw [r.1];exact hf))
  rw [this,dF hr,hl];unfold Sl.v;rw [e2]
 ·exact hxr t _ (range_map_get _ _ t ht)
 ·have hcap:=hRr.cap
  exact (hcr t (by omega)).2
theorem mK.since {w w':World} {p:Nat} {d:Wd} {L:Lay} {f t:Nat} {l:List Mg} {bw ow cw br oR cr:Nat} (h:mK w p d L f t l bw ow cw br oR cr) (k:Since w w'):mK w' p d L f t l bw ow cw br oR cr :=
 ⟨zQ4 h.lt k.size,(k.cellAt h.lt _).trans h.top,zQ4 h.ltw k.size,(k.cellAt h.ltw _).trans h.row,zQ4 h.ltr k.size,(k.cellAt h.ltr _).trans h.cell,(k.below.frozen (p:=⟨br,oR+t,none⟩) h.ltr).trans h.free,h.lay,h.bkw,h.bkr⟩
theorem mK.fr {lo:Nat} {w w':World} {p:Nat} {d:Wd} {L:Lay} {f t:Nat} {l:List Mg} {bw ow cw br oR cr:Nat} (h:mK w p d L f t l bw ow cw br oR cr) (hM:dN lo w p d L) (r:dU d) (hf:f < d.nodes.length) (ht:t < d.nodes.length) (k:Fr (fun i=>(L (8,f,t)).blk=some i) w w'):mK w' p d L f t l bw ow cw br oR cr:=by
 obtain ⟨row,hr,hrl⟩:=row_of r hf
 have uT:okI d (8,f,t):=⟨by rw [r.1];exact hf,by rw [dF hr];omega⟩
 have Ey:okI d (7,f,0):=⟨by rw [r.1];exact hf,rfl⟩
 have np:¬ (L (8,f,t)).blk=some p:=fun e=>hM.off ⟨_,uT,e⟩
 have nw:¬ (L (8,f,t)).blk=some bw:=fun e=>by have:=hM.own.inj (8,f,t) (2,0,0) bw uT ⟨rfl,rfl⟩ e h.bkw;cases this
 have nr:¬ (L (8,f,t)).blk=some br:=fun e=>by have:=hM.own.inj (8,f,t) (7,f,0) br uT Ey e h.bkr;cases this
 have hc:∀ b,b < w.heap.size->¬ (L (8,f,t)).blk=some b->∀ o,w'.cell? ⟨b,o,none⟩=w.cell? ⟨b,o,none⟩:=fun b hb hn o=>by unfold World.cell?;rw [k.block b hb hn]
 have hz:w'.frozen? ⟨br,oR+t,none⟩=w.frozen? ⟨br,oR+t,none⟩:=by unfold World.frozen?;rw [k.block br h.ltr nr]
 exact ⟨zQ4 h.lt k.size,(hc _ h.lt np _).trans h.top,zQ4 h.ltw k.size,(hc _ h.ltw nw _).trans h.row,zQ4 h.ltr k.size,(hc _ h.ltr nr _).trans h.cell,hz.trans h.free,h.lay,h.bkw,h.bkr⟩
theorem dN.Dk {lo:Nat} {w w1 w2:World} {p:Nat} {d:Wd} {L:Lay} (h:dN lo w p d L) (r:dU d) {f t:Nat} (hf:f < d.nodes.length) (ht:t < d.nodes.length) {m:Mg} {br oR cr:Nat} (he:L (7,f,0)=⟨some ⟨br,oR,none⟩,cr⟩) (hlo:lo<=w.heap.size)
  (hS:Since w w1) {a':Option Addr} {c':Nat} (hl:(au d f t).length+1<=1000) (hR:Row w2 lo 5 ⟨a',c'⟩ ((au d f t).length+1) (flat (au d f t)++flat [m])) (hF:Fr (fun k=>(L (8,f,t)).blk=some k) w1 w2)
  (hB:(⟨a',c'⟩:Sl)=L (8,f,t)\/(Since w1 w2/\Sl.blk ⟨a',c'⟩=some w1.heap.size)) :
  dN lo (w2.setCell ⟨br,oR+t,none⟩ (.slice a' ((au d f t).length+1) c')) p (aR d f t (au d f t++[m])) (L.upd (8,f,t) ⟨a',c'⟩)/\jw w (w2.setCell ⟨br,oR+t,none⟩ (.slice a' ((au d f t).length+1) c')) d L (aR d f t (au d f t++[m])) (L.upd (8,f,t) ⟨a',c'⟩):=by
 obtain ⟨row,hr,hrl⟩:=row_of r hf
 have htr:t < row.length:=by omega
 have uT:okI d (8,f,t):=⟨by rw [r.1];exact hf,by rw [dF hr];exact htr⟩
 have Ey:okI d (7,f,0):=⟨by rw [r.1];exact hf,rfl⟩
 have hO1:=h.own.since hS
 have hO2:aX lo w2 d L:=by
  refine hO1.grown uT (s':=⟨a',c'⟩) hR (by show (eU d f t).length<=_;show (au d f t).length<=_;omega) ?_ hF hB
  show (flat (au d f t)++flat [m]).take ((au d f t).length*5)=flat (au d f t)
  rw [List.take_append_of_le_length (by rw [cB];omega),List.take_of_length_le (by rw [cB];omega)]
 have hls:(au d f t++[m]).length=(au d f t).length+1:=by simp
 have hb7:fU d L br:=by
  obtain ⟨b,o,c,hL,_,_,hbk,_⟩:=h.own.lies (ix:=(7,f,0)) Ey (by show 0 < (rowAt d f).length;rw [dF hr];omega)
  rw [he] at hL
  have:br=b:=by simp at hL;exact hL.1.1
  subst this
  exact ⟨(7,f,0),Ey,hbk⟩
 have hge:∀ b,Sl.blk ⟨a',c'⟩=some b->fU d L b\/w.heap.size<=b:=by
  intro b e
  rcases hB with e2 | ⟨_,e2⟩
  ·rw [e2] at e;exact .inl ⟨(8,f,t),uT,e⟩
  ·rw [e2] at e;cases e;exact .inr hS.size
 have hput:=hO2.Fw hr htr he (s:=⟨a',c'⟩) (l:=au d f t++[m]) (by rw [hls,gH];exact hR) (by omega) (by
  intro c hc
  rintro ⟨ix,hne,hok,e⟩
  rcases hB with e2 | ⟨hS2,e2⟩
  ·rw [e2] at hc;exact hne (h.own.inj ix (8,f,t) c hok uT e hc)
  ·rw [e2] at hc;cases hc
   have:=(hO1.blk ⟨ix,hok,e⟩).2;omega)
 have hv:Sl.v ⟨a',c'⟩ (au d f t++[m]).length=.slice a' ((au d f t).length+1) c':=by rw [hls];rfl
 rw [hv] at hput
 have hst:jw w (w2.setCell ⟨br,oR+t,none⟩ (.slice a' ((au d f t).length+1) c')) d L (aR d f t (au d f t++[m])) (L.upd (8,f,t) ⟨a',c'⟩):=by
  refine ⟨?_,fun b hb=>?_⟩
  ·have hF1:Fr (fU d L) w w1:=hS.fr _
   have hF2:Fr (fU d L) w1 w2:=hF.mono (fun i _ e=>⟨(8,f,t),uT,e⟩)
   exact (hF1.trans hF2 (fun _ _ x=>x) (fun _ _ x=>x)).setCell _ _ (fun _=>hb7)
  ·obtain ⟨ix,hix,e⟩:=hb
   by_cases hh:ix=(8,f,t)
   ·subst hh;rw [Lay.upd_same] at e;exact hge b e
   ·rw [Lay.fP L _ hh] at e;exact .inl ⟨ix,(vB _ hr ix).1 hix,e⟩
 exact ⟨h.step hput hst rfl rfl rfl rfl rfl (by simp [aR]),hst⟩
theorem rR {m:Mg} {n:Nat} {d:Wd} {e:Int}:∀ (j k:Nat),k<=j->fE m n d k=.error e->fE m n d j=.error e
 | 0,k,hk,h=>by obtain rfl:k=0:=by omega
                exact h
 | j+1,k,hk,h=>by
  by_cases hkj:k=j+1
  ·rw [<-hkj];exact h
  ·rw [lD,rR j k (by omega) h];rfl
theorem dN.KZ {lo:Nat} {w w1:World} {p:Nat} {d:Wd} {L:Lay} (h:dN lo w p d L) (r:dU d) {f t:Nat} (hf:f < d.nodes.length) (ht:t < d.nodes.length) {rest:List Mg} {br oR cr:Nat} (he:L (7,f,0)=⟨some ⟨br,oR,none⟩,cr⟩)
  (hS:Since w w1) (hm:rest.length<=1000) {s:Sl} (hR:Row w1 lo 5 s rest.length (flat rest)) (hb:∀ b,s.blk=some b->(L (8,f,t)).blk=some b) :
  dN lo (w1.setCell ⟨br,oR+t,none⟩ (s.v rest.length)) p (aR d f t rest) (L.upd (8,f,t) s)/\jw w (w1.setCell ⟨br,oR+t,none⟩ (s.v rest.length)) d L (aR d f t rest) (L.upd (8,f,t) s):=by
 obtain ⟨row,hr,hrl⟩:=row_of r hf
 have htr:t < row.length:=by omega
 have uT:okI d (8,f,t):=⟨by rw [r.1];exact hf,by rw [dF hr];exact htr⟩
 have Ey:okI d (7,f,0):=⟨by rw [r.1];exact hf,rfl⟩
 have hb7:fU d L br:=by
  obtain ⟨b,o,c,hL,_,_,hbk,_⟩:=h.own.lies (ix:=(7,f,0)) Ey (by show 0 < (rowAt d f).length;rw [dF hr];omega)
  rw [he] at hL
  have:br=b:=by simp at hL;exact hL.1.1
  subst this
  exact ⟨(7,f,0),Ey,hbk⟩
 have hput:=(h.own.since hS).Fw hr htr he (s:=s) (l:=rest) hR hm (fun c hc=>by
  rintro ⟨ix,hne,hok,e⟩
  exact hne (h.own.inj ix (8,f,t) c hok uT e (hb c hc)))
 have hst:=uO (d:=d) (L:=L) (d':=aR d f t rest) hS (vB rest hr) (8,f,t) s (fun b e=>.inl ⟨(8,f,t),uT,hb b e⟩) (off:=oR+t) (s.v rest.length) hb7
 exact ⟨h.step hput hst rfl rfl rfl rfl rfl (by simp [aR]),hst⟩
theorem dN.rT {lo:Nat} {w w1:World} {p:Nat} {d:Wd} {L:Lay} (h:dN lo w p d L) {n:Nat} {x:Nd} (hx:d.nodes[n]? = some x) {b off cap:Nat} (he:L (1,0,0)=⟨some ⟨b,off,none⟩,cap⟩) (hS:Since w w1) (c:Int) :
  dN lo (w1.setCell ⟨b,off+n*4,none⟩ (.int .i64 c)) p (setNode d n { x with clock:=c }) L/\jw w (w1.setCell ⟨b,off+n*4,none⟩ (.int .i64 c)) d L (setNode d n { x with clock:=c }) L:=by
 have hn:=bU hx
 obtain ⟨b',o,c',hL,_,_,hbk,_⟩:=h.own.lies (ix:=(1,0,0)) ⟨rfl,rfl⟩ (by show 0 < d.nodes.length;omega)
 rw [he] at hL
 have e1:b=b':=by simp at hL;exact hL.1.1
 subst e1
 have hput:=(h.own.since hS).Jo hx he c
 have hst:=xI (d:=d) (L:=L) (d':=setNode d n { x with clock:=c }) hS (iB hx rfl) (off:=off+n*4) (.int .i64 c) ⟨(1,0,0),⟨rfl,rfl⟩,hbk⟩
 exact ⟨h.step hput hst rfl rfl rfl rfl (by simp [setNode]) rfl,hst⟩
theorem dN.Nc {lo:Nat} {w w1:World} {p:Nat} {d:Wd} {L:Lay} (h:dN lo w p d L) {n g k:Nat} {x:Nd} {row:List Int} (hx:d.nodes[n]? = some x) (hrow:x.last[g]? = some row) (hk:k < row.length) {b off cap:Nat} (he:L (4,n,g)=⟨some ⟨b,off,none⟩,cap⟩) (hS:Since w w1) (c:Int) :
  dN lo (w1.setCell ⟨b,off+k,none⟩ (.int .i64 c)) p (setNode d n { x with last:=x.last.set g (row.set k c) }) L/\jw w (w1.setCell ⟨b,off+k,none⟩ (.int .i64 c)) d L (setNode d n { x with last:=x.last.set g (row.set k c) }) L:=by
 have hn:=bU hx
 have hok:okI d (4,n,g):=⟨hn,by rw [aV hx];exact (zQ2.1 hrow).1⟩
 obtain ⟨b',o,c',hL,_,_,hbk,_⟩:=h.own.lies (ix:=(4,n,g)) hok (by show 0 < (dS d n g).length;unfold dS;rw [aV hx,hrow];show 0 < row.length;omega)
 rw [he] at hL
 have e1:b=b':=by simp at hL;exact hL.1.1
 subst e1
 have hput:=(h.own.since hS).KN hx hrow hk he c
 have hst:=xI (d:=d) (L:=L) (d':=setNode d n { x with last:=x.last.set g (row.set k c) }) hS (iB hx (by simp)) (off:=off+k) (.int .i64 c) ⟨(4,n,g),hok,hbk⟩
 exact ⟨h.step hput hst rfl rfl rfl rfl (by simp [setNode]) rfl,hst⟩
theorem aX.G6 {lo:Nat} {w:World} {d:Wd} {L:Lay} (h:aX lo w d L) {n g:Nat} {x:Nd} {row:List Int} (hx:d.nodes[n]? = some x) (hrow:x.last[g]? = some row) (hp:0 < row.length) :
  ∃ b3 o3 c3 b4 o4 c4,L (3,n,0)=⟨some ⟨b3,o3,none⟩,c3⟩/\L (4,n,g)=⟨some ⟨b4,o4,none⟩,c4⟩/\b3 < w.heap.size/\b4 < w.heap.size/\w.cell? ⟨b3,o3+g,none⟩=some (.slice (some ⟨b4,o4,none⟩) row.length c4) /\
   (∀ k v,row[k]? = some v->w.cell? ⟨b4,o4+k,none⟩=some (.int .i64 v))/\(∀ k,k < row.length->w.frozen? ⟨b4,o4+k,none⟩=false):=by
 have hn:=bU hx
 have hg:=(zQ2.1 hrow).1
 have hlr:dS d n g=row:=by unfold dS;rw [aV hx,hrow];rfl
 have hR3:Row w lo 1 (L (3,n,0)) (aJ d n).last.length ((List.range (aJ d n).last.length).map fun k=>(L (4,n,k)).v (dS d n k).length):=h.row (3,n,0) ⟨hn,rfl⟩
 have hR4:Row w lo 1 (L (4,n,g)) (dS d n g).length ((dS d n g).map jy):=h.row (4,n,g) ⟨hn,by rw [aV hx];exact hg⟩
 rw [aV hx] at hR3
 rw [hlr] at hR4
 obtain ⟨b3,o3,e3,_,h3,_,x3⟩:=hR3.body (by have:=hR3.cap;omega)
 obtain ⟨b4,o4,e4,_,h4,z4,x4⟩:=hR4.body (by have:=hR4.cap;omega)
 refine ⟨b3,o3,(L (3,n,0)).cap,b4,o4,(L (4,n,g)).cap,by rw [<-e3],by rw [<-e4],h3,h4, ?_,fun k v hv=>?_,fun k hk=>?_⟩
 ·have:=x3 g _ (range_map_get _ _ g hg)
  rw [this,hlr];unfold Sl.v;rw [e4]
 ·exact x4 k _ (by simp [jy,hv])
 ·exact (z4 k (by have:=hR4.cap;omega)).2
end Go.Proofs.YtiiifecfdkjmbaaGreat
