/- A world that is handed in, opened for a walk: its numbers, its lists, and how long they may be. -/
import Derived.Test.YtiiifecfdkjmbaaGreatMOpen
import Derived.Test.YtiiifecfdkjmbaaGreatWorld1
namespace Go.Proofs.YtiiifecfdkjmbaaGreat
set_option maxRecDepth 8000
open Go.ChangeShapes Go.WideShapes Go.ChangeAt Go.RowKit Go.Deep
set_option linter.unusedVariables false
def Szd {H:Type} (t:TypeId) (d:DataW H):Prop:=∀ n∈d.weights Tryz.prog t,n≤reachBytes
theorem Jq {H:Type} {e:TypeId}:∀ {l:List (DataW H)} {d:DataW H},d∈l→∀ n∈d.weights Tryz.prog e,n∈DataW.weightsAll Tryz.prog e l
 | d'::r,d,hd,n,hn=>by
  simp only [DataW.weightsAll,List.mem_append]
  rcases List.mem_cons.1 hd with rfl | h
  ·exact Or.inl hn
  ·exact Or.inr (Jq h n hn)
theorem Szd.len {H:Type} {t e:TypeId} {el sp:List (DataW H)} (h:Szd t (.slice el sp)) (hu:Tryz.prog.underlying t=some (.slice e)):(el.length+sp.length)*Tryz.prog.bytesOf e≤reachBytes :=
 h _ (by simp [DataW.weights,hu])
theorem Szd.elem {H:Type} {t e:TypeId} {el sp:List (DataW H)} (h:Szd t (.slice el sp)) (hu:Tryz.prog.underlying t=some (.slice e)) {d:DataW H} (hd:d∈el):Szd e d:=fun n hn =>
 h n (by simp only [DataW.weights,hu,List.mem_cons,List.mem_append];exact .inr (.inl (Jq hd n hn)))
theorem yS {H:Type}:∀ {ts:List TypeId} {ds:List (DataW H)} {j:Nat} {t:TypeId} {d:DataW H},ts[j]? = some t→ds[j]? = some d→∀ n∈d.weights Tryz.prog t,n∈DataW.weightsEach Tryz.prog ts ds :=
 fun ht hd n hn=>DataW.weights_mem_each ht hd n hn
theorem Szd.field {H:Type} {t:TypeId} {fs:Array Field} {parts:List (DataW H)} (h:Szd t (.agg parts)) (hu:Tryz.prog.underlying t=some (.struct fs)) {j:Nat} {f:Field} {d:DataW H} (hf:fs[j]? = some f) (hd:parts[j]? = some d):Szd f.type d:=fun n hn =>
 h n (by
  simp only [DataW.weights,hu]
  exact yS (j:=j) (by simp [hf]) hd n hn)
section
variable {H:Type} {enc:TypeId × Value→H} {W:World} {spare:Nat→Bool} {held:Bool}
theorem Cr {fuel:Nat} {v:Value} {x:DataW H × List MemPlace} (h:DataW.trod enc Tryz.prog W 0 spare held fuel 22 [v]=some x) (hs:Szd 22 x.1):∃ xs,rD W v xs:=by
 rcases open_slice1 Tryz.underlying22 vF h with ⟨hcs,_⟩ | ⟨a,l,c,m,n,V,D,Pl,hcs,_,hl,hm,hmm,hx,hall⟩
 ·simp at hcs;subst hcs
  exact ⟨[],none,0,rfl,Nat.le_refl _,yY⟩
 ·simp at hcs;subst hcs
  have hlm:l≤m:=by rw [hmm];split <;> omega
  have h8:=(show Szd 22 (.slice _ _) from (by rw [hx] at hs;exact hs)).len Tryz.underlying22
  rw [vH] at h8
  simp only [List.length_map,List.length_range,reachBytes] at h8
  obtain ⟨xs,hl2,hxs⟩:=jF (P:=fun i (z:Int)=>W.cell? (a.add i)=some (.int .i64 z)) l (fun i hi=>by
   obtain ⟨h1,h2⟩:=hall i (by omega)
   obtain ⟨z,e,_⟩:=DataW.trod_int Tryz.underlying3 h2
   simp at e
   exact ⟨z,by rw [h1,e]⟩)
  subst hl2
  refine ⟨xs,some a,c,rfl,hl,rfl,by omega,fun hp=>?_⟩
  obtain ⟨b,off,spot⟩:=a
  obtain ⟨m0,hm0⟩:∃ m,xs[0]? = some m:=⟨_,List.getElem?_eq_getElem hp⟩
  have hc0:=hxs 0 m0 hm0
  simp [Addr.add] at hc0
  have hspot:spot=none:=by simpa using World.cell?_spot hc0
  subst hspot
  refine ⟨b,off,rfl,block_lt hc0,fun i hi=>?_⟩
  have:=hxs i _ (List.getElem?_eq_getElem hi)
  rw [jQ] at this
  rw [this,List.getElem?_eq_getElem hi];rfl
theorem xR {fuel:Nat} {v:Value} {x:DataW H × List MemPlace} (h:DataW.trod enc Tryz.prog W 0 spare held fuel 39 [v]=some x) (hs:Szd 39 x.1):∃ ms,kI W v ms:=by
 rcases open_slice Tryz.underlying39 h with ⟨hcs,_⟩ | ⟨x0,len,cap,m,n,D,Pl,hcs,_,hl,hm,hmm,hx,hall⟩
 ·simp at hcs;subst hcs
  exact ⟨[],none,0,rfl,Nat.le_refl _,fP⟩
 ·simp at hcs;subst hcs
  have hlm:len≤m:=by rw [hmm];split <;> omega
  have h8:=(show Szd 39 (.slice _ _) from (by rw [hx] at hs;exact hs)).len Tryz.underlying39
  rw [Ld] at h8
  simp only [List.length_map,List.length_range,reachBytes] at h8
  have hmg:∀ i,i < len→∃ mg:Mg,∀ r u,mg.cells[r]? = some u→W.cell? ((x0.add (i*5)).add r)=some u:=by
   intro i hi
   obtain ⟨cs',h1,h2⟩:=hall i (by omega)
   obtain ⟨mg,rfl⟩:=EA h2
   rw [Ez] at h1
   refine ⟨mg,fun r u hr=>?_⟩
   have:=(World.cells?_some h1).2.2 r (by have:=(List.getElem?_eq_some_iff.1 hr).1;simpa [Mg.cells] using this)
   rw [this];exact hr
  obtain ⟨ms,hl2,hms⟩:=jF len hmg
  subst hl2
  refine ⟨ms,some x0,cap,rfl,hl,rfl,by omega,fun hp=>?_⟩
  obtain ⟨b,off,spot⟩:=x0
  obtain ⟨m0,hm0⟩:∃ m,ms[0]? = some m:=⟨_,List.getElem?_eq_getElem (by omega)⟩
  have hc0:=hms 0 m0 hm0 0 _ rfl
  simp [Addr.add] at hc0
  have hspot:spot=none:=by simpa using World.cell?_spot hc0
  subst hspot
  refine ⟨b,off,rfl,block_lt hc0,fun j u hj=>?_⟩
  have hjl:=(List.getElem?_eq_some_iff.1 hj).1
  rw [bK] at hjl
  obtain ⟨mg,Rc⟩:∃ m,ms[j / 5]? = some m:=⟨_,List.getElem?_eq_getElem (by omega)⟩
  have hg:=flat_get ms (j / 5) (j % 5) mg Rc (by omega)
  rw [show j / 5*5+j % 5=j from by omega,hj] at hg
  have:=hms (j / 5) mg Rc (j % 5) u hg.symm
  rw [jQ,jQ,show off+j / 5*5+j % 5=off+j from by omega] at this
  exact this
theorem sI {α:Type} {t e:TypeId} {PV:World→Value→α→Prop} (hu:Tryz.prog.underlying t=some (.slice e)) (hc:Tryz.prog.cellsOf e=1) (hb:Tryz.prog.bytesOf e=24)
  (hin:∀ (fuel:Nat) (v:Value) (x:DataW H × List MemPlace),DataW.trod enc Tryz.prog W 0 spare held fuel e [v]=some x→Szd e x.1→∃ y,PV W v y)
  {fuel:Nat} {v:Value} {x:DataW H × List MemPlace} (h:DataW.trod enc Tryz.prog W 0 spare held fuel t [v]=some x) (hs:Szd t x.1):∃ ys,kU PV W v ys:=by
 rcases open_slice1 hu hc h with ⟨hcs,_⟩ | ⟨a,l,c,m,n,V,D,Pl,hcs,_,hl,hm,hmm,hx,hall⟩
 ·simp at hcs;subst hcs
  exact ⟨[],none,0,rfl,Nat.le_refl _,rfl,by simp,fun hp=>absurd hp (by simp)⟩
 ·simp at hcs;subst hcs
  have hlm:l≤m:=by rw [hmm];split <;> omega
  have hs':Szd t (.slice ((List.range l).map D) ((List.range (m - l)).map fun j=>D (l+j))):=by rw [hx] at hs;exact hs
  have h8:=hs'.len hu
  rw [hb] at h8
  simp only [List.length_map,List.length_range,reachBytes] at h8
  obtain ⟨ys,hl2,hys⟩:=jF (P:=fun i (y:α)=>∃ u,W.cell? (a.add i)=some u∧PV W u y) l (fun i hi=>by
   obtain ⟨h1,h2⟩:=hall i (by omega)
   obtain ⟨y,hy⟩:=hin _ _ _ h2 (hs'.elem hu (by simp only [List.mem_map,List.mem_range];exact ⟨i,hi,rfl⟩))
   exact ⟨y,_,h1,hy⟩)
  subst hl2
  refine ⟨ys,some a,c,rfl,hl,rfl,by omega,fun hp=>?_⟩
  obtain ⟨b,off,spot⟩:=a
  obtain ⟨m0,hm0⟩:∃ m,ys[0]? = some m:=⟨_,List.getElem?_eq_getElem hp⟩
  obtain ⟨u0,hc0,_⟩:=hys 0 m0 hm0
  simp [Addr.add] at hc0
  have hspot:spot=none:=by simpa using World.cell?_spot hc0
  subst hspot
  refine ⟨b,off,rfl,block_lt hc0,fun i y hy=>?_⟩
  obtain ⟨u,h1,h2⟩:=hys i y hy
  rw [jQ] at h1
  exact ⟨u,h1,h2⟩
theorem Ct:Tryz.prog.cellsOf 22=1:=by kernel_rfl
theorem IE:Tryz.prog.cellsOf 43=1:=by kernel_rfl
theorem Cu:Tryz.prog.cellsOf 39=1:=by kernel_rfl
theorem IG:Tryz.prog.cellsOf 40=1:=by kernel_rfl
theorem Gi:Tryz.prog.cellsOf 24=1:=by kernel_rfl
theorem Cv:Tryz.prog.cellsOf 45=4:=by kernel_rfl
theorem II:Tryz.prog.cellsOf 23=1:=by kernel_rfl
theorem IJ:Tryz.prog.cellsOf 26=3:=by kernel_rfl
theorem KP:Tryz.prog.bytesOf 22=24:=by kernel_rfl
theorem KQ:Tryz.prog.bytesOf 39=24:=by kernel_rfl
theorem IK:Tryz.prog.bytesOf 40=24:=by kernel_rfl
theorem KR:Tryz.prog.bytesOf 45=80:=by kernel_rfl
theorem Gj {fuel:Nat} {cs:List Value} {x:DataW H × List MemPlace} (h:DataW.trod enc Tryz.prog W 0 spare held fuel 45 cs=some x) (hs:Szd 45 x.1) :
  ∃ (nd:Nd) (v1 v2 v3:Value),cs=[.int .i64 nd.clock,v1,v2,v3]∧kU rD W v1 nd.last∧kI W v2 nd.held∧kI W v3 nd.told:=by
 obtain ⟨xs,n,_,hx,hl,hlen,hf⟩:=DataW.trod_struct Tryz.underlying45 h
 rw [Cv] at hl
 match cs,hl with
 | [c0,c1,c2,c3],_ =>
  have g0:=hf 0 _ rfl
  have g1:=hf 1 _ rfl
  have g2:=hf 2 _ rfl
  have g3:=hf 3 _ rfl
  simp [vF] at g0
  simp [IE] at g1
  simp [Cu] at g2 g3
  simp at hlen
  match xs,hlen with
  | [x0,x1,x2,x3],_ =>
   simp at g0 g1 g2 g3
   have hs':Szd 45 (.agg [x0.1,x1.1,x2.1,x3.1]):=by rw [hx] at hs;exact hs
   obtain ⟨a0,e0,_⟩:=DataW.trod_int Tryz.underlying3 g0
   obtain ⟨l1,h1⟩:=sI Tryz.underlying43 Ct KP (fun _ _ _ h hs=>Cr h hs) g1 (hs'.field Tryz.underlying45 (j:=1) rfl rfl)
   obtain ⟨l2,h2⟩:=xR g2 (hs'.field Tryz.underlying45 (j:=2) rfl rfl)
   obtain ⟨l3,h3⟩:=xR g3 (hs'.field Tryz.underlying45 (j:=3) rfl rfl)
   simp at e0
   exact ⟨⟨a0,l1,l2,l3⟩,c1,c2,c3,by rw [e0],h1,h2,h3⟩
theorem IL {fuel:Nat} {v:Value} {x:DataW H × List MemPlace} (h:DataW.trod enc Tryz.prog W 0 spare held fuel 23 [v]=some x) (hs:Szd 23 x.1) :
  ∃ (a:Option Addr) (cap:Nat) (ns:List Nd),v=.slice a ns.length cap∧ns.length≤cap∧Nodes W a ns.length ns:=by
 rcases open_slice Tryz.underlying23 h with ⟨hcs,_⟩ | ⟨x0,len,cap,m,n,D,Pl,hcs,_,hl,hm,hmm,hx,hall⟩
 ·simp at hcs;subst hcs
  exact ⟨none,0,[],rfl,Nat.le_refl _,rfl,by simp,fun hp=>absurd hp (by simp)⟩
 ·simp at hcs;subst hcs
  have hlm:len≤m:=by rw [hmm];split <;> omega
  have hs':Szd 23 (.slice ((List.range len).map D) ((List.range (m - len)).map fun j=>D (len+j))):=by rw [hx] at hs;exact hs
  have h8:=hs'.len Tryz.underlying23
  rw [KR] at h8
  simp only [List.length_map,List.length_range,reachBytes] at h8
  obtain ⟨ns,hl2,hns⟩:=jF (P:=fun i (nd:Nd)=>∃ v1 v2 v3:Value,W.cell? ((x0.add (i*4)).add 0)=some (.int .i64 nd.clock)∧W.cell? ((x0.add (i*4)).add 1)=some v1∧W.cell? ((x0.add (i*4)).add 2)=some v2∧W.cell? ((x0.add (i*4)).add 3)=some v3
    ∧ kU rD W v1 nd.last∧kI W v2 nd.held∧kI W v3 nd.told) len (fun i hi=>by
   obtain ⟨cs',h1,h2⟩:=hall i (by omega)
   obtain ⟨nd,v1,v2,v3,rfl,k1,k2,k3⟩:=Gj h2 (hs'.elem Tryz.underlying23 (by simp only [List.mem_map,List.mem_range];exact ⟨i,hi,rfl⟩))
   rw [Cv] at h1
   have hc:=(World.cells?_some h1).2.2
   exact ⟨nd,v1,v2,v3,hc 0 (by simp),hc 1 (by simp),hc 2 (by simp),hc 3 (by simp),k1,k2,k3⟩)
  subst hl2
  refine ⟨some x0,cap,ns,rfl,hl,rfl,by omega,fun hp=>?_⟩
  obtain ⟨b,off,spot⟩:=x0
  obtain ⟨m0,hm0⟩:∃ m,ns[0]? = some m:=⟨_,List.getElem?_eq_getElem hp⟩
  obtain ⟨_,_,_,hc0,_⟩:=hns 0 m0 hm0
  simp [Addr.add] at hc0
  have hspot:spot=none:=by simpa using World.cell?_spot hc0
  subst hspot
  refine ⟨b,off,rfl,block_lt hc0,fun i nd hnd=>?_⟩
  obtain ⟨v1,v2,v3,c0,c1,c2,c3,k1,k2,k3⟩:=hns i nd hnd
  rw [jQ,jQ] at c0 c1 c2 c3
  exact ⟨c0,⟨v1,c1,k1⟩,⟨v2,c2,k2⟩,⟨v3,c3,k3⟩⟩
end
theorem xV {H:Type} {enc:TypeId × Value→H} {W:World} {base:Nat} {v:Value} {d:DataW H} {p:List MemPlace} (hv:Value.okWide Tryz.prog W .any base 26 v) (h:DataW.Trod enc Tryz.prog W 0 (fun _=>true) true 26 v d p) (hs:Szd 26 d) :
  ∃ (x:WV) (dd:Wd),v=.agg #[.slice x.ga x.gl x.gc,.slice x.na x.nl x.nc,.slice x.wa x.wl x.wc]∧WAt W x dd:=by
 obtain ⟨cs,rfl,_⟩:=okWide_struct Tryz.underlying26 hv
 obtain ⟨fuel,hf0⟩:=h
 have hf1:DataW.trod enc Tryz.prog W 0 (fun _=>true) true fuel 26 cs.toList=some (d,p):=by simpa [Value.cells] using hf0
 obtain ⟨xs,n,_,hx,hl,hlen,hf⟩:=DataW.trod_struct Tryz.underlying26 hf1
 rw [IJ] at hl
 obtain ⟨l⟩:=cs
 simp only at hl hf
 match l,hl with
 | [c0,c1,c2],_ =>
  have g0:=hf 0 _ rfl
  have g1:=hf 1 _ rfl
  have g2:=hf 2 _ rfl
  simp [Ct] at g0
  simp [II] at g1
  simp [Gi] at g2
  simp at hlen
  match xs,hlen with
  | [x0,x1,x2],_ =>
   simp at g0 g1 g2
   have hd:=(Prod.mk.inj hx).1
   have hs':Szd 26 (.agg [x0.1,x1.1,x2.1]):=by rw [hd] at hs;exact hs
   obtain ⟨gs,ga,gc,rfl,hg,hG⟩:=Cr g0 (hs'.field Tryz.underlying26 (j:=0) rfl rfl)
   obtain ⟨na,nc,ns,rfl,hn,hN⟩:=IL g1 (hs'.field Tryz.underlying26 (j:=1) rfl rfl)
   obtain ⟨ws,wa,wc,rfl,hw,hR⟩:=sI Tryz.underlying24 IG IK (fun _ _ _ h hs=>sI Tryz.underlying40 Cu KQ (fun _ _ _ h hs=>xR h hs) h hs) g2 (hs'.field Tryz.underlying26 (j:=2) rfl rfl)
   exact ⟨⟨ga,gs.length,gc,na,ns.length,nc,wa,ws.length,wc⟩,⟨gs,ns,ws⟩,rfl,hG,hg,hN,hn,hR,hw⟩
end Go.Proofs.YtiiifecfdkjmbaaGreat
