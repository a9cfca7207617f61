/- A slice of ints that is handed in, opened for a walk: its numbers, and how many there may be. Messages that are handed in, opened for a walk: their numbers and texts, and how many there may be. Acts that are handed in, opened for a walk: their numbers and texts, and how many there may be. The head of the program's text: what its first words say, so that the rest of a long row need not be parted; no condition. -/
import Derived.Test.YtiiifecfdkjmbaaGreatBGLaws
import Derived.ProofKit
import Derived.OpenShut
import Derived.ShutString
import Derived.ChangeOld
import Derived.SizedLaws
import Derived.Test.YtiiifecfdkjmbaaGreatBMsgPut
import Derived.Deep.Slices
import Derived.Test.YtiiifecfdkjmbaaGreatBRDoneX
import Derived.Test.YtiiifecfdkjmbaaGreatRows
import Derived.KernelRfl
import Derived.JoinedOf
namespace Go.Proofs.YtiiifecfdkjmbaaGreat
set_option maxRecDepth 8000
open Go.ChangeShapes Go.WideShapes Go.ChangeAt Go.RowKit
set_option linter.unusedVariables false
theorem own:ownKnob Tryz.prog.godebug=none:=by kernel_rfl
theorem laidOut:laidOutB Tryz.prog=true:=by kernel_rfl
theorem zG:Tryz.prog.bytesOf 3=8:=by kernel_rfl
theorem block_lt {w:World} {b o:Nat} {v:Value} (h:w.cell? ⟨b,o,none⟩=some v):b < w.heap.size:=by
 rcases Nat.lt_or_ge b w.heap.size with h1 | h1
 ·exact h1
 ·simp [World.cell?,Array.getElem?_eq_none h1] at h
theorem qx {H:Type} {enc:TypeId × Value→H} {W:World} {a:Option Addr} {len cap:Nat} {d:DataW H} {p:List MemPlace} (h:DataW.Trod enc Tryz.prog W 0 (fun _=>true) true 22 (.slice a len cap) d p)
  (hsz:∀ el sp,d=.slice el sp→(el.length+sp.length)*8≤reachBytes):∃ xs,Ints W a len xs:=by
 obtain ⟨fuel,hf⟩:=h
 rcases open_ints Tryz.underlying22 Tryz.underlying3 (by kernel_rfl) hf with ⟨hcs,_⟩ | ⟨x,l,c,zs,hcs,_,hl,hm,hz,hx,hcell,hwz⟩
 ·simp [Value.cells] at hcs
  obtain ⟨rfl,rfl,rfl⟩:=hcs
  exact ⟨[],ES⟩
 ·simp [Value.cells] at hcs
  obtain ⟨rfl,rfl,rfl⟩:=hcs
  simp at hz
  have hd:=(Prod.mk.inj hx).1
  have h8:=hsz _ _ hd
  simp only [lits,List.length_map,List.length_take,List.length_drop,reachBytes] at h8
  refine ⟨zs.take len,by simp;omega,by omega,fun hp=>?_⟩
  obtain ⟨b,off,spot⟩:=x
  have hc0:=hcell 0 (by omega)
  have hspot:spot=none:=by simpa [Addr.add] using World.cell?_spot hc0
  subst hspot
  refine ⟨b,off,rfl,block_lt hc0,fun i hi=>?_⟩
  have hci:=hcell i (by omega)
  have e:(zs.take len)[i]?.getD 0=zs.getD i 0:=by
   rw [List.getElem?_take,if_pos hi];rfl
  have ea:(⟨b,off,none⟩:Addr).add i=⟨b,off+i,none⟩:=by
   by_cases h0:i=0
   ·subst h0;simp [Addr.add]
   ·simp [Addr.add,h0]
  rw [e,←ea]
  exact hci
end Go.Proofs.YtiiifecfdkjmbaaGreat
namespace Go.Proofs.YtiiifecfdkjmbaaGreat
set_option maxRecDepth 8000
open Go.ChangeShapes Go.WideShapes Go.ChangeAt Go.RowKit Go.Deep
set_option linter.unusedVariables false
theorem Ll:Tryz.prog.cellsOf 3=1:=by kernel_rfl
theorem Lm:Tryz.prog.cellsOf 9=1:=by kernel_rfl
theorem vR {α:Type} {P:Nat→α→Prop}:∀ (n:Nat),(∀ i,i < n→∃ m,P i m)→∃ ms:List α,ms.length=n∧∀ i m,ms[i]? = some m→P i m
 | 0,_=>⟨[],rfl,fun i m h=>by simp at h⟩
 | n+1,h=>by
  obtain ⟨ms,hl,hp⟩:=vR n (fun i hi=>h i (by omega))
  obtain ⟨m,hm⟩:=h n (by omega)
  refine ⟨ms++[m],by simp [hl],fun i x hx=>?_⟩
  by_cases hi:i < ms.length
  ·exact hp i x (by rw [List.getElem?_append_left hi] at hx;exact hx)
  ·rw [List.getElem?_append_right (by omega)] at hx
   have hi2:i - ms.length=0:=by
    have:=(List.getElem?_eq_some_iff.1 hx).1
    simp at this;omega
   rw [hi2] at hx
   simp at hx
   obtain rfl:i=n:=by omega
   rw [←hx];exact hm
end Go.Proofs.YtiiifecfdkjmbaaGreat
namespace Go.Proofs.YtiiifecfdkjmbaaGreat
set_option maxRecDepth 8000
open Go.ChangeShapes Go.WideShapes Go.ChangeAt Go.RowKit Go.Deep
open _root_.Go.Proofs.YtiiifecfdkjmbaaGreat.Pure
set_option linter.unusedVariables false
theorem zi:Tryz.prog.bytesOf 58=40:=by kernel_rfl
theorem EF:Tryz.prog.cellsOf 58=4:=by kernel_rfl
def NA (x:Ac):List Value:=[.int .i64 x.kind,.int .i64 x.one,.int .i64 x.two,.string x.body]
theorem yG {H:Type} {enc:TypeId × Value→H} {W:World} {base fuel:Nat} {spare:Nat→Bool} {held:Bool} {cs:List Value} {x:DataW H × List MemPlace}
  (h:DataW.trod enc Tryz.prog W base spare held fuel 58 cs=some x):∃ m:Ac,cs=NA m:=by
 obtain ⟨xs,n,_,_,hl,hlen,hf⟩:=DataW.trod_struct Tryz.underlying58 h
 rw [EF] at hl
 match cs,hl with
 | [c0,c1,c2,c3],_ =>
  have g0:=hf 0 _ rfl
  have g1:=hf 1 _ rfl
  have g2:=hf 2 _ rfl
  have g3:=hf 3 _ rfl
  simp [Ll] at g0 g1 g2
  simp [Lm] at g3
  simp at hlen
  rw [List.getElem?_eq_getElem (by rw [hlen];omega)] at g0 g1 g2 g3
  obtain ⟨a0,e0,_⟩:=DataW.trod_int Tryz.underlying3 g0
  obtain ⟨a1,e1,_⟩:=DataW.trod_int Tryz.underlying3 g1
  obtain ⟨a2,e2,_⟩:=DataW.trod_int Tryz.underlying3 g2
  obtain ⟨a3,e3,_⟩:=DataW.trod_string Tryz.underlying9 g3
  simp at e0 e1 e2 e3
  exact ⟨⟨a0,a1,a2,a3⟩,by rw [e0,e1,e2,e3];rfl⟩
theorem EG {H:Type} {enc:TypeId × Value→H} {W:World} {base:Nat} {v:Value} {d:DataW H} {p:List MemPlace} (hv:Value.okWide Tryz.prog W .any base 58 v) (h:DataW.Trod enc Tryz.prog W 0 (fun _=>true) true 58 v d p) :
  ∃ m:Ac,v=acV m:=by
 obtain ⟨cs,rfl,_⟩:=okWide_struct Tryz.underlying58 hv
 obtain ⟨fuel,hf⟩:=h
 obtain ⟨m,hm⟩:=yG hf
 refine ⟨m, ?_⟩
 have:cs=(NA m).toArray:=by rw [←hm];simp [Value.cells]
 rw [this];rfl
theorem qm {H:Type} {enc:TypeId × Value→H} {W:World} {a:Option Addr} {len cap:Nat} {d:DataW H} {p:List MemPlace} (h:DataW.Trod enc Tryz.prog W 0 (fun _=>true) true 50 (.slice a len cap) d p)
  (hsz:∀ el sp,d=.slice el sp→(el.length+sp.length)*40≤reachBytes):∃ ms,nA W a len ms∧len≤cap:=by
 obtain ⟨fuel,hf⟩:=h
 rcases open_slice Tryz.underlying50 hf with ⟨hcs,_⟩ | ⟨x,l,c,m,n,D,Pl,hcs,_,hl,hm,hmm,hx,hall⟩
 ·simp [Value.cells] at hcs
  obtain ⟨rfl,rfl,rfl⟩:=hcs
  exact ⟨[],⟨rfl,Nat.zero_le _,fun h=>absurd h (Nat.lt_irrefl _)⟩,Nat.le_refl _⟩
 ·simp [Value.cells] at hcs
  obtain ⟨rfl,rfl,rfl⟩:=hcs
  simp at hmm
  subst hmm
  have hd:=(Prod.mk.inj hx).1
  have h8:=hsz _ _ hd
  simp only [List.length_map,List.length_range,reachBytes] at h8
  have hmg:∀ i,i < len→∃ mg:Ac,∀ r u,(NA mg)[r]? = some u→W.cell? ((x.add (i*4)).add r)=some u:=by
   intro i hi
   obtain ⟨cs',h1,h2⟩:=hall i (by omega)
   obtain ⟨mg,rfl⟩:=yG h2
   rw [EF] at h1
   refine ⟨mg,fun r u hr=>?_⟩
   have:=(World.cells?_some h1).2.2 r (by have:=(List.getElem?_eq_some_iff.1 hr).1;simpa [NA] using this)
   rw [this];exact hr
  obtain ⟨ms,hl2,hms⟩:=vR len hmg
  refine ⟨ms,⟨hl2,by omega,fun hp=>?_⟩,hl⟩
  obtain ⟨b,off,spot⟩:=x
  obtain ⟨m0,hm0⟩:∃ m,ms[0]? = some m:=⟨_,List.getElem?_eq_getElem (by omega)⟩
  have hc0:=hms 0 m0 hm0 0 _ rfl
  simp [Addr.add] at hc0
  have hspot:spot=none:=by simpa using World.cell?_spot hc0
  subst hspot
  refine ⟨b,off,rfl,block_lt hc0,fun i y hy=>?_⟩
  have k0:=hms i y hy 0 _ rfl
  have k1:=hms i y hy 1 _ rfl
  have k2:=hms i y hy 2 _ rfl
  have k3:=hms i y hy 3 _ rfl
  rw [nC,nC] at k0 k1 k2 k3
  exact ⟨k0,k1,k2,k3⟩
end Go.Proofs.YtiiifecfdkjmbaaGreat
namespace Go.Proofs.YtiiifecfdkjmbaaGreat
set_option maxRecDepth 8000
open Go.ChangeShapes Go.WideShapes
set_option linter.unusedVariables false
theorem BG:∀ l:List Char,wordsSigns l≠[]
 | []=>by simp [wordsSigns]
 | c::r=>by
  by_cases h:c=Char.ofNat 32
  ·subst h;simp [wordsSigns]
  ·unfold wordsSigns
   split
   ·simp
   ·simp
   ·split <;> simp
theorem rA (b:List Char):∀ a:List Char,wordsSigns (a++Char.ofNat 32::b)=wordsSigns a++wordsSigns b
 | []=>by simp [wordsSigns]
 | c::r=>by
  have ih:=rA b r
  by_cases h:c=Char.ofNat 32
  ·subst h
   show wordsSigns (Char.ofNat 32::(r++Char.ofNat 32::b))=wordsSigns (Char.ofNat 32::r)++wordsSigns b
   simp only [wordsSigns,ih,List.cons_append]
  ·show wordsSigns (c::(r++Char.ofNat 32::b))=wordsSigns (c::r)++wordsSigns b
   rw [wordsSigns.eq_3 c (r++Char.ofNat 32::b) h,wordsSigns.eq_3 c r h,ih]
   cases hr:wordsSigns r with
   | nil=>exact absurd hr (BG r)
   | cons w ws=>rfl
theorem LZ (L : List Char) (h1 : L.take 77 = L.take 76 ++ [Char.ofNat 32]) (h2 : ∀ R, behindMainWord (wordsSigns (L.take 76) ++ R) = "cut".toList :: R) : ∃ R, behindMainWord (wordsSigns L) = "cut".toList :: R := by
 have h:L=L.take 76++Char.ofNat 32::L.drop 77:=by
  have h3:=List.take_append_drop 77 L
  rw [h1,List.append_assoc] at h3
  exact h3.symm
 have h4:=rA (L.drop 77) (L.take 76)
 rw [←h] at h4
 exact ⟨wordsSigns (L.drop 77),by rw [h4];exact h2 _⟩
def Hg:List Char:=([104,97,114,110,101,115,115,32,56,53,50,52,100,48,55,51,53,49,48,56,54,49,55,49,98,52,57,102,53,102,98,102,101,50,98,50,57,54,48,57,101,98,54,98,100,101,55,100,53,100,100,102,97,52,98,57,57,57,50,53,49,101,49,98,57,99,57,53,99,54,56,54,32,99,117,116,32,97,116,32,102,117,114,108,111,110,103,47,102,117,114,108,111,110,103,108,97,119,46,67,97,115,116,83,101,110,100,115,32,102,117,114,108,111,110,103,47,102,117,114,108,111,110,103,108,97,119,46,67,97,115,116,78,117,108,108,115,32,102,117,114,108,111,110,103,47,102,117,114,108,111,110,103,108,97,119,46,77,111,118,101,79,110,101,115,32,102,117,114,108,111,110,103,47,102,117,114,108,111,110,103,108,97,119,46,77,111,118,101,87,105,114,101,115,32,102,117,114,108,111,110,103,47,102,117,114,108,111,110,103,108,97,119,46,77,111,118,101,84,114,117,101,32,102,117,114,108,111,110,103,47,102,117,114,108,111,110,103,108,97,119,46,67,97,108,109,84,101,108,108,115,32,102,117,114,108,111,110,103,47,102,117,114,108,111,110,103,108,97,119,46,67,97,108,109,67,97,108,109,115,32,102,117,114,108,111,110,103,47,102,117,114,108,111,110,103,108,97,119,46,67,97,108,109,84,114,117,101,32,102,117,114,108,111,110,103,47,102,117,114,108,111,110,103,108,97,119,46,67,97,108,109,65,108,108,32,102,117,114,108,111,110,103,47,102,117,114,108,111,110,103,108,97,119,46,66,111,117,110,100,71,114,111,119,115,32,102,117,114,108,111,110,103,47,102,117,114,108,111,110,103,108,97,119,46,65,103,114,101,101,84,101,108,108,115,32,102,117,114,108,111,110,103,47,102,117,114,108,111,110,103,108,97,119,46,65,103,114,101,101,65,108,108,32,102,117,114,108,111,110,103,47,102,117,114,108,111,110,103,108,97,119,46,65,103,114,101,101,79,114,100,101,114,32,102,117,114,108,111,110,103,47,102,117,114,108,111,110,103,108,97,119,46,65,103,114,101,101,71,114,111,119,115,32,102,117,114,108,111,110,103,47,102,117,114,108,111,110,103,108,97,119,46,65,103,114,101,101,83,97,102,101,32,102,117,114,108,111,110,103,47,102,117,114,108,111,110,103,108,97,119,46,76,111,103,68,111,101,115,32,102,117,114,108,111,110,103,47,102,117,114,108,111,110,103,108,97,119,46,76,111,103,82,101,112,108,97,121,115,32,102,117,114,108,111,110,103,47,102,117,114,108,111,110,103,108,97,119,46,76,111,103,82,101,99,111,118,101,114,115,32,102,117,114,108,111,110,103,47,102,117,114,108,111,110,103,108,97,119,46,76,111,103,75,101,112,116,32,102,117,114,108,111,110,103,47,102,117,114,108,111,110,103,108,97,119,46,76,111,103,77,111,114,101,32,102,117,114,108,111,110,103,47,102,117,114,108,111,110,103,108,97,119,46,76,111,103,82,105,103,104,116,32,102,117,114,108,111,110,103,47,102,117,114,108,111,110,103,108,97,119,46,67,97,117,115,101,77,97,114,107,115,32,102,117,114,108,111,110,103,47,102,117,114,108,111,110,103,108,97,119,46,67,97,117,115,101,84,111,108,100,32,102,117,114,108,111,110,103,47,102,117,114,108,111,110,103,108,97,119,46,87,105,114,101,87,114,105,116,101,115,32,102,117,114,108,111,110,103,47,102,117,114,108,111,110,103,108,97,119,46,82,101,115,116,87,111,114,108,100,115]:List Nat).map Char.ofNat
theorem NS:Tryz.prog.initOrder=String.ofList Hg:=by kernel_rfl
theorem Ke:Tryz.prog.initOrder.toList=Hg:=(congrArg String.toList NS).trans String.toList_ofList
theorem NT : ∃ R, behindMainWord (wordsSigns Hg) = "cut".toList :: R := LZ _ (by kernel_rfl) (fun R => by kernel_rfl)
theorem Dw : ∃ R, behindMainWord (wordsSigns Tryz.prog.initOrder.toList) = "cut".toList :: R := by rw [Ke]; exact NT
-- (stated of any program: 'unfold' at the program itself parts the whole row)
theorem Cr (R : List (List Char)) : stripLifts liftWords ("cut".toList :: R) = ([], "cut".toList :: R) := by kernel_rfl
theorem NU (P : Program) (R : List (List Char)) (h : behindMainWord (wordsSigns P.initOrder.toList) = "cut".toList :: R) (h1 : P.laysLater = false) (h2 : P.bearsReflect = false) (h3 : P.doorFits [] = true) : P.mayEnter = true := by
 unfold Program.mayEnter
 rw [h]
 simp only [Cr,h1,h2,h3]
 kernel_rfl
theorem Kg (P : Program) (R : List (List Char)) (h : behindMainWord (wordsSigns P.initOrder.toList) = "cut".toList :: R) : P.liftsFinal = false := by
 unfold Program.liftsFinal Program.headLifts
 simp only [h,Cr]
 kernel_rfl
theorem L8 (P : Program) (R : List (List Char)) (h : behindMainWord (wordsSigns P.initOrder.toList) = "cut".toList :: R) : P.make = some .cut := by
 unfold Program.make
 simp only [h]
 kernel_rfl
theorem LW:Tryz.prog.mayEnter=true:=by
 obtain ⟨R,h⟩:=Dw
 exact NU _ R h (by kernel_rfl) (by kernel_rfl) (by kernel_rfl)
theorem Du:Tryz.prog.liftsFinal=false:=by
 obtain ⟨R,h⟩:=Dw
 exact Kg _ R h
theorem G8:Tryz.prog.make=some .cut:=by
 obtain ⟨R,h⟩:=Dw
 exact L8 _ R h
end Go.Proofs.YtiiifecfdkjmbaaGreat
