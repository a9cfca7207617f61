/- Lemmas. -/
import Derived.Test.YtiiifecfdkjmbaaWorld1
namespace Go.Proofs.Ytiiifecfdkjmbaa
open _root_.Go.Proofs.Try hiding checked
set_option maxRecDepth 8000
open Go.ChangeShapes Go.WideShapes Go.ChangeAt Go.RowKit Go.Deep
set_option linter.unusedVariables false
def Szd {H:Type} (t:TypeId) (d:DataW H):Prop:=∀ n∈d.weights prog t,n<=reachBytes
theorem zw {H:Type} {e:TypeId}:∀ {l:List (DataW H)} {d:DataW H},d∈l->∀ n∈d.weights prog e,n∈DataW.weightsAll prog e l
 | d'::r,d,hd,n,hn=>by
  simp only [DataW.weightsAll,List.mem_append]
  rcases List.mem_cons.1 hd with rfl | h
  ·exact Or.inl hn
  ·exact Or.inr (zw h n hn)
theorem Szd.len {H:Type} {t e:TypeId} {el sp:List (DataW H)} (h:Szd t (.slice el sp)) (hu:prog.underlying t=some (.slice e)):(el.length+sp.length)*prog.bytesOf e<=reachBytes :=
 h _ (by simp [DataW.weights,hu])
theorem Szd.elem {H:Type} {t e:TypeId} {el sp:List (DataW H)} (h:Szd t (.slice el sp)) (hu:prog.underlying t=some (.slice e)) {d:DataW H} (hd:d∈el):Szd e d:=fun n hn =>
 h n (by simp only [DataW.weights,hu,List.mem_cons,List.mem_append];exact .inr (.inl (zw hd n hn)))
theorem u7 {H:Type}:∀ {ts:List TypeId} {ds:List (DataW H)} {j:Nat} {t:TypeId} {d:DataW H},ts[j]? = some t->ds[j]? = some d->∀ n∈d.weights prog t,n∈DataW.weightsEach prog ts ds :=
 fun ht hd n hn=>DataW.weights_mem_each ht hd n hn
theorem Szd.field {H:Type} {t:TypeId} {fs:Array Field} {parts:List (DataW H)} (h:Szd t (.agg parts)) (hu:prog.underlying t=some (.struct fs)) {j:Nat} {f:Field} {d:DataW H} (hf:fs[j]? = some f) (hd:parts[j]? = some d):Szd f.type d:=fun n hn =>
 h n (by
  simp only [DataW.weights,hu]
  exact u7 (j:=j) (by simp [hf]) hd n hn)
section
variable {H:Type} {enc:TypeId × Value->H} {W:World} {spare:Nat->Bool} {held:Bool}
theorem sK {fuel:Nat} {v:Value} {x:DataW H × List MemPlace} (h:DataW.trod enc prog W 0 spare held fuel 22 [v]=some x) (hs:Szd 22 x.1):∃ xs,iq W v xs:=by
 rcases open_slice1 underlying22 qd h with ⟨hcs,_⟩ | ⟨a,l,c,m,n,V,D,Pl,hcs,_,hl,hm,hmm,hx,hall⟩
 ·simp at hcs;subst hcs
  exact ⟨[],none,0,rfl,Nat.le_refl _,AJ⟩
 ·simp at hcs;subst hcs
  have hlm:l<=m:=by rw [hmm];split <;> omega
  have h8:=(show Szd 22 (.slice _ _) from (by rw [hx] at hs;exact hs)).len underlying22
  rw [Bc] at h8
  simp only [List.length_map,List.length_range,reachBytes] at h8
  obtain ⟨xs,hl2,hxs⟩:=gY (P:=fun i (z:Int)=>W.cell? (a.add i)=some (.int .i64 z)) l (fun i hi=>by
   obtain ⟨h1,h2⟩:=hall i (by omega)
   obtain ⟨z,e,_⟩:=DataW.trod_int underlying3 h2
   simp at e
   exact ⟨z,by rw [h1,e]⟩)
  subst hl2
  refine ⟨xs,some a,c,rfl,hl,rfl,by omega,fun hp=>?_⟩
  obtain ⟨b,off,spot⟩:=a
  obtain ⟨m0,hm0⟩:∃ m,xs[0]? = some m:=⟨_,zQ1 hp⟩
  have hc0:=hxs 0 m0 hm0
  simp [Addr.add] at hc0
  have hspot:spot=none:=by simpa using World.cell?_spot hc0
  subst hspot
  refine ⟨b,off,rfl,block_lt hc0,fun i hi=>?_⟩
  have:=hxs i _ (zQ1 hi)
  rw [gZ] at this
  rw [this,zQ1 hi];rfl
theorem oH {fuel:Nat} {v:Value} {x:DataW H × List MemPlace} (h:DataW.trod enc prog W 0 spare held fuel 39 [v]=some x) (hs:Szd 39 x.1):∃ ms,dI W v ms:=by
 rcases open_slice underlying39 h with ⟨hcs,_⟩ | ⟨x0,len,cap,m,n,D,Pl,hcs,_,hl,hm,hmm,hx,hall⟩
 ·simp at hcs;subst hcs
  exact ⟨[],none,0,rfl,Nat.le_refl _,bX⟩
 ·simp at hcs;subst hcs
  have hlm:len<=m:=by rw [hmm];split <;> omega
  have h8:=(show Szd 39 (.slice _ _) from (by rw [hx] at hs;exact hs)).len underlying39
  rw [A8] at h8
  simp only [List.length_map,List.length_range,reachBytes] at h8
  have hmg:∀ i,i < len->∃ mg:Mg,∀ r u,mg.cells[r]? = some u->W.cell? ((x0.add (i*5)).add r)=some u:=by
   intro i hi
   obtain ⟨cs',h1,h2⟩:=hall i (by omega)
   obtain ⟨mg,rfl⟩:=vJ h2
   rw [vI] at h1
   refine ⟨mg,fun r u hr=>?_⟩
   have:=(World.cells?_some h1).2.2 r (by have:=(zQ2.1 hr).1;simpa [Mg.cells] using this)
   rw [this];exact hr
  obtain ⟨ms,hl2,hms⟩:=gY len hmg
  subst hl2
  refine ⟨ms,some x0,cap,rfl,hl,rfl,by omega,fun hp=>?_⟩
  obtain ⟨b,off,spot⟩:=x0
  obtain ⟨m0,hm0⟩:∃ m,ms[0]? = some m:=⟨_,zQ1 (by omega)⟩
  have hc0:=hms 0 m0 hm0 0 _ rfl
  simp [Addr.add] at hc0
  have hspot:spot=none:=by simpa using World.cell?_spot hc0
  subst hspot
  refine ⟨b,off,rfl,block_lt hc0,fun j u hj=>?_⟩
  have hjl:=(zQ2.1 hj).1
  rw [aU] at hjl
  obtain ⟨mg,GX⟩:∃ m,ms[j / 5]? = some m:=⟨_,zQ1 (by omega)⟩
  have hg:=flat_get ms (j / 5) (j % 5) mg GX (by omega)
  rw [show j / 5*5+j % 5=j from by omega,hj] at hg
  have:=hms (j / 5) mg GX (j % 5) u hg.symm
  rw [gZ,gZ,show off+j / 5*5+j % 5=off+j from by omega] at this
  exact this
theorem lU {α:Type} {t e:TypeId} {PV:World->Value->α->Prop} (hu:prog.underlying t=some (.slice e)) (hc:prog.cellsOf e=1) (hb:prog.bytesOf e=24)
  (hin:∀ (fuel:Nat) (v:Value) (x:DataW H × List MemPlace),DataW.trod enc prog W 0 spare held fuel e [v]=some x->Szd e x.1->∃ y,PV W v y)
  {fuel:Nat} {v:Value} {x:DataW H × List MemPlace} (h:DataW.trod enc prog W 0 spare held fuel t [v]=some x) (hs:Szd t x.1):∃ ys,bW PV W v ys:=by
 rcases open_slice1 hu hc h with ⟨hcs,_⟩ | ⟨a,l,c,m,n,V,D,Pl,hcs,_,hl,hm,hmm,hx,hall⟩
 ·simp at hcs;subst hcs
  exact ⟨[],none,0,rfl,Nat.le_refl _,rfl,by simp,fun hp=>absurd hp (by simp)⟩
 ·simp at hcs;subst hcs
  have hlm:l<=m:=by rw [hmm];split <;> omega
  have hs':Szd t (.slice ((List.range l).map D) ((List.range (m - l)).map fun j=>D (l+j))):=by rw [hx] at hs;exact hs
  have h8:=hs'.len hu
  rw [hb] at h8
  simp only [List.length_map,List.length_range,reachBytes] at h8
  obtain ⟨ys,hl2,hys⟩:=gY (P:=fun i (y:α)=>∃ u,W.cell? (a.add i)=some u/\PV W u y) l (fun i hi=>by
   obtain ⟨h1,h2⟩:=hall i (by omega)
   obtain ⟨y,hy⟩:=hin _ _ _ h2 (hs'.elem hu (by simp only [List.mem_map,List.mem_range];exact ⟨i,hi,rfl⟩))
   exact ⟨y,_,h1,hy⟩)
  subst hl2
  refine ⟨ys,some a,c,rfl,hl,rfl,by omega,fun hp=>?_⟩
  obtain ⟨b,off,spot⟩:=a
  obtain ⟨m0,hm0⟩:∃ m,ys[0]? = some m:=⟨_,zQ1 hp⟩
  obtain ⟨u0,hc0,_⟩:=hys 0 m0 hm0
  simp [Addr.add] at hc0
  have hspot:spot=none:=by simpa using World.cell?_spot hc0
  subst hspot
  refine ⟨b,off,rfl,block_lt hc0,fun i y hy=>?_⟩
  obtain ⟨u,h1,h2⟩:=hys i y hy
  rw [gZ] at h1
  exact ⟨u,h1,h2⟩
theorem sM:prog.cellsOf 22=1:=by kernel_rfl
theorem yA:prog.cellsOf 43=1:=by kernel_rfl
theorem sO:prog.cellsOf 39=1:=by kernel_rfl
theorem yB:prog.cellsOf 53=1:=by kernel_rfl
theorem wR:prog.cellsOf 24=1:=by kernel_rfl
theorem sP:prog.cellsOf 45=4:=by kernel_rfl
theorem yC:prog.cellsOf 23=1:=by kernel_rfl
theorem yD:prog.cellsOf 26=3:=by kernel_rfl
theorem Au:prog.bytesOf 22=24:=by kernel_rfl
theorem Av:prog.bytesOf 39=24:=by kernel_rfl
theorem yE:prog.bytesOf 53=24:=by kernel_rfl
theorem Aw:prog.bytesOf 45=80:=by kernel_rfl
theorem wS {fuel:Nat} {cs:List Value} {x:DataW H × List MemPlace} (h:DataW.trod enc prog W 0 spare held fuel 45 cs=some x) (hs:Szd 45 x.1) :
  ∃ (nd:Nd) (v1 v2 v3:Value),cs=[.int .i64 nd.clock,v1,v2,v3]/\bW iq W v1 nd.last/\dI W v2 nd.held/\dI W v3 nd.told:=by
 obtain ⟨xs,n,_,hx,hl,hlen,hf⟩:=DataW.trod_struct underlying45 h
 rw [sP] at hl
 match cs,hl with
 | [c0,c1,c2,c3],_ =>
  have g0:=hf 0 _ rfl
  have g1:=hf 1 _ rfl
  have g2:=hf 2 _ rfl
  have g3:=hf 3 _ rfl
  simp [qd] at g0
  simp [yA] at g1
  simp [sO] at g2 g3
  simp at hlen
  match xs,hlen with
  | [x0,x1,x2,x3],_ =>
   simp at g0 g1 g2 g3
   have hs':Szd 45 (.agg [x0.1,x1.1,x2.1,x3.1]):=by rw [hx] at hs;exact hs
   obtain ⟨a0,e0,_⟩:=DataW.trod_int underlying3 g0
   obtain ⟨l1,h1⟩:=lU underlying43 sM Au (fun _ _ _ h hs=>sK h hs) g1 (hs'.field underlying45 (j:=1) rfl rfl)
   obtain ⟨l2,h2⟩:=oH g2 (hs'.field underlying45 (j:=2) rfl rfl)
   obtain ⟨l3,h3⟩:=oH g3 (hs'.field underlying45 (j:=3) rfl rfl)
   simp at e0
   exact ⟨⟨a0,l1,l2,l3⟩,c1,c2,c3,by rw [e0],h1,h2,h3⟩
theorem yF {fuel:Nat} {v:Value} {x:DataW H × List MemPlace} (h:DataW.trod enc prog W 0 spare held fuel 23 [v]=some x) (hs:Szd 23 x.1) :
  ∃ (a:Option Addr) (cap:Nat) (ns:List Nd),v=.slice a ns.length cap/\ns.length<=cap/\Nodes W a ns.length ns:=by
 rcases open_slice underlying23 h with ⟨hcs,_⟩ | ⟨x0,len,cap,m,n,D,Pl,hcs,_,hl,hm,hmm,hx,hall⟩
 ·simp at hcs;subst hcs
  exact ⟨none,0,[],rfl,Nat.le_refl _,rfl,by simp,fun hp=>absurd hp (by simp)⟩
 ·simp at hcs;subst hcs
  have hlm:len<=m:=by rw [hmm];split <;> omega
  have hs':Szd 23 (.slice ((List.range len).map D) ((List.range (m - len)).map fun j=>D (len+j))):=by rw [hx] at hs;exact hs
  have h8:=hs'.len underlying23
  rw [Aw] at h8
  simp only [List.length_map,List.length_range,reachBytes] at h8
  obtain ⟨ns,hl2,hns⟩:=gY (P:=fun i (nd:Nd)=>∃ v1 v2 v3:Value,W.cell? ((x0.add (i*4)).add 0)=some (.int .i64 nd.clock)/\W.cell? ((x0.add (i*4)).add 1)=some v1/\W.cell? ((x0.add (i*4)).add 2)=some v2/\W.cell? ((x0.add (i*4)).add 3)=some v3
    /\ bW iq W v1 nd.last/\dI W v2 nd.held/\dI W v3 nd.told) len (fun i hi=>by
   obtain ⟨cs',h1,h2⟩:=hall i (by omega)
   obtain ⟨nd,v1,v2,v3,rfl,k1,k2,k3⟩:=wS h2 (hs'.elem underlying23 (by simp only [List.mem_map,List.mem_range];exact ⟨i,hi,rfl⟩))
   rw [sP] at h1
   have hc:=(World.cells?_some h1).2.2
   exact ⟨nd,v1,v2,v3,hc 0 (by simp),hc 1 (by simp),hc 2 (by simp),hc 3 (by simp),k1,k2,k3⟩)
  subst hl2
  refine ⟨some x0,cap,ns,rfl,hl,rfl,by omega,fun hp=>?_⟩
  obtain ⟨b,off,spot⟩:=x0
  obtain ⟨m0,hm0⟩:∃ m,ns[0]? = some m:=⟨_,zQ1 hp⟩
  obtain ⟨_,_,_,hc0,_⟩:=hns 0 m0 hm0
  simp [Addr.add] at hc0
  have hspot:spot=none:=by simpa using World.cell?_spot hc0
  subst hspot
  refine ⟨b,off,rfl,block_lt hc0,fun i nd hnd=>?_⟩
  obtain ⟨v1,v2,v3,c0,c1,c2,c3,k1,k2,k3⟩:=hns i nd hnd
  rw [gZ,gZ] at c0 c1 c2 c3
  exact ⟨c0,⟨v1,c1,k1⟩,⟨v2,c2,k2⟩,⟨v3,c3,k3⟩⟩
end
theorem u6 {H:Type} {enc:TypeId × Value->H} {W:World} {base:Nat} {v:Value} {d:DataW H} {p:List MemPlace} (hv:Value.okWide prog W .any base 26 v) (h:DataW.Trod enc prog W 0 (fun _=>true) true 26 v d p) (hs:Szd 26 d) :
  ∃ (x:WV) (dd:Wd),v=.agg #[.slice x.ga x.gl x.gc,.slice x.na x.nl x.nc,.slice x.wa x.wl x.wc]/\WAt W x dd:=by
 obtain ⟨cs,rfl,_⟩:=okWide_struct underlying26 hv
 obtain ⟨fuel,hf0⟩:=h
 have hf1:DataW.trod enc prog W 0 (fun _=>true) true fuel 26 cs.toList=some (d,p):=by simpa [Value.cells] using hf0
 obtain ⟨xs,n,_,hx,hl,hlen,hf⟩:=DataW.trod_struct underlying26 hf1
 rw [yD] at hl
 obtain ⟨l⟩:=cs
 simp only at hl hf
 match l,hl with
 | [c0,c1,c2],_ =>
  have g0:=hf 0 _ rfl
  have g1:=hf 1 _ rfl
  have g2:=hf 2 _ rfl
  simp [sM] at g0
  simp [yC] at g1
  simp [wR] at g2
  simp at hlen
  match xs,hlen with
  | [x0,x1,x2],_ =>
   simp at g0 g1 g2
   have hd:=(Prod.mk.inj hx).1
   have hs':Szd 26 (.agg [x0.1,x1.1,x2.1]):=by rw [hd] at hs;exact hs
   obtain ⟨gs,ga,gc,rfl,hg,hG⟩:=sK g0 (hs'.field underlying26 (j:=0) rfl rfl)
   obtain ⟨na,nc,ns,rfl,hn,hN⟩:=yF g1 (hs'.field underlying26 (j:=1) rfl rfl)
   obtain ⟨ws,wa,wc,rfl,hw,hR⟩:=lU underlying24 yB yE (fun _ _ _ h hs=>lU underlying53 sO Av (fun _ _ _ h hs=>oH h hs) h hs) g2 (hs'.field underlying26 (j:=2) rfl rfl)
   exact ⟨⟨ga,gs.length,gc,na,ns.length,nc,wa,ws.length,wc⟩,⟨gs,ns,ws⟩,rfl,hG,hg,hN,hn,hR,hw⟩
end Go.Proofs.Ytiiifecfdkjmbaa
