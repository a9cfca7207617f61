/- Acts that are handed in, opened for a walk: their numbers and texts, and how many there may be. -/
import Derived.Test.YtiiifecfdkjmbaaGreatMOpen
import Derived.Test.YtiiifecfdkjmbaaGreatRDoneX
namespace Go.Proofs.YtiiifecfdkjmbaaGreat
set_option maxRecDepth 8000
open Go.ChangeShapes Go.WideShapes Go.ChangeAt Go.RowKit Go.Deep
open _root_.Go.Proofs.YtiiifecfdkjmbaaGreat.Pure
set_option linter.unusedVariables false
theorem KT:Tryz.prog.bytesOf 58=40:=by kernel_rfl
theorem Ea:Tryz.prog.cellsOf 58=4:=by kernel_rfl
def MN (x:Ac):List Value:=[.int .i64 x.kind,.int .i64 x.one,.int .i64 x.two,.string x.body]
theorem xS {H:Type} {enc:TypeId × Value→H} {W:World} {base fuel:Nat} {spare:Nat→Bool} {held:Bool} {cs:List Value} {x:DataW H × List MemPlace}
  (h:DataW.trod enc Tryz.prog W base spare held fuel 58 cs=some x):∃ m:Ac,cs=MN m:=by
 obtain ⟨xs,n,_,_,hl,hlen,hf⟩:=DataW.trod_struct Tryz.underlying58 h
 rw [Ea] at hl
 match cs,hl with
 | [c0,c1,c2,c3],_ =>
  have g0:=hf 0 _ rfl
  have g1:=hf 1 _ rfl
  have g2:=hf 2 _ rfl
  have g3:=hf 3 _ rfl
  simp [vF] at g0 g1 g2
  simp [Eb] at g3
  simp at hlen
  rw [List.getElem?_eq_getElem (by rw [hlen];omega)] at g0 g1 g2 g3
  obtain ⟨a0,e0,_⟩:=DataW.trod_int Tryz.underlying3 g0
  obtain ⟨a1,e1,_⟩:=DataW.trod_int Tryz.underlying3 g1
  obtain ⟨a2,e2,_⟩:=DataW.trod_int Tryz.underlying3 g2
  obtain ⟨a3,e3,_⟩:=DataW.trod_string Tryz.underlying9 g3
  simp at e0 e1 e2 e3
  exact ⟨⟨a0,a1,a2,a3⟩,by rw [e0,e1,e2,e3];rfl⟩
theorem nT {H:Type} {enc:TypeId × Value→H} {W:World} {base:Nat} {v:Value} {d:DataW H} {p:List MemPlace} (hv:Value.okWide Tryz.prog W .any base 58 v) (h:DataW.Trod enc Tryz.prog W 0 (fun _=>true) true 58 v d p) :
  ∃ m:Ac,v=acV m:=by
 obtain ⟨cs,rfl,_⟩:=okWide_struct Tryz.underlying58 hv
 obtain ⟨fuel,hf⟩:=h
 obtain ⟨m,hm⟩:=xS hf
 refine ⟨m, ?_⟩
 have:cs=(MN m).toArray:=by rw [←hm];simp [Value.cells]
 rw [this];rfl
theorem Cw {H:Type} {enc:TypeId × Value→H} {W:World} {a:Option Addr} {len cap:Nat} {d:DataW H} {p:List MemPlace} (h:DataW.Trod enc Tryz.prog W 0 (fun _=>true) true 50 (.slice a len cap) d p)
  (hsz:∀ el sp,d=.slice el sp→(el.length+sp.length)*40≤reachBytes):∃ ms,kr W a len ms∧len≤cap:=by
 obtain ⟨fuel,hf⟩:=h
 rcases open_slice Tryz.underlying50 hf with ⟨hcs,_⟩ | ⟨x,l,c,m,n,D,Pl,hcs,_,hl,hm,hmm,hx,hall⟩
 ·simp [Value.cells] at hcs
  obtain ⟨rfl,rfl,rfl⟩:=hcs
  exact ⟨[],⟨rfl,Nat.zero_le _,fun h=>absurd h (Nat.lt_irrefl _)⟩,Nat.le_refl _⟩
 ·simp [Value.cells] at hcs
  obtain ⟨rfl,rfl,rfl⟩:=hcs
  simp at hmm
  subst hmm
  have hd:=(Prod.mk.inj hx).1
  have h8:=hsz _ _ hd
  simp only [List.length_map,List.length_range,reachBytes] at h8
  have hmg:∀ i,i < len→∃ mg:Ac,∀ r u,(MN mg)[r]? = some u→W.cell? ((x.add (i*4)).add r)=some u:=by
   intro i hi
   obtain ⟨cs',h1,h2⟩:=hall i (by omega)
   obtain ⟨mg,rfl⟩:=xS h2
   rw [Ea] at h1
   refine ⟨mg,fun r u hr=>?_⟩
   have:=(World.cells?_some h1).2.2 r (by have:=(List.getElem?_eq_some_iff.1 hr).1;simpa [MN] using this)
   rw [this];exact hr
  obtain ⟨ms,hl2,hms⟩:=jF len hmg
  refine ⟨ms,⟨hl2,by omega,fun hp=>?_⟩,hl⟩
  obtain ⟨b,off,spot⟩:=x
  obtain ⟨m0,hm0⟩:∃ m,ms[0]? = some m:=⟨_,List.getElem?_eq_getElem (by omega)⟩
  have hc0:=hms 0 m0 hm0 0 _ rfl
  simp [Addr.add] at hc0
  have hspot:spot=none:=by simpa using World.cell?_spot hc0
  subst hspot
  refine ⟨b,off,rfl,block_lt hc0,fun i y hy=>?_⟩
  have k0:=hms i y hy 0 _ rfl
  have k1:=hms i y hy 1 _ rfl
  have k2:=hms i y hy 2 _ rfl
  have k3:=hms i y hy 3 _ rfl
  rw [jQ,jQ] at k0 k1 k2 k3
  exact ⟨k0,k1,k2,k3⟩
end Go.Proofs.YtiiifecfdkjmbaaGreat
