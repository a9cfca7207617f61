/- The iterator of package bound that goes through the other members of a node's groups: its contract; conditions: the captured judge lies below, apart from the cell that the rounds write. -/
import Derived.Test.YtiiifecfdkjmbaaGreatBBoundS
namespace Go.Proofs.YtiiifecfdkjmbaaGreat
set_option maxRecDepth 8000
open Go.RowKit Go.Shelf
attribute [local go_sem] Oper.semAt_some
theorem FH {xs:List Int} {n:Int} {k:Nat} (hk:k < xs.length) (h:hasB xs k n=true):hits xs [n] (k+1)=hits xs [n] k++[k]:=by
 rw [ER xs n k hk] at h
 exact zL (by simpa using h)
theorem Kz {xs:List Int} {n:Int} {k:Nat} (hk:k < xs.length) (h:hasB xs k n=false):hits xs [n] (k+1)=hits xs [n] k:=by
 rw [ER xs n k hk] at h
 exact Dx (by simpa using h)
theorem FI (xs:List Int) (n:Int):∀ (r G0 a:Nat),G0+r=xs.length→(hits xs [n] G0).length=a→a < (hits xs [n] xs.length).length →
  ∃ g,(hits xs [n] xs.length)[a]? = some g∧G0≤g∧g < xs.length∧hasB xs g n=true∧(∀ g',G0≤g'→g' < g→hasB xs g' n=false)∧(hits xs [n] (g+1)).length=a+1
 | 0,G0,a,h1,h2,h3=>by
  obtain rfl:G0=xs.length:=by omega
  omega
 | r+1,G0,a,h1,h2,h3=>by
  have hG:G0 < xs.length:=by omega
  cases hb:hasB xs G0 n
  ·have e:=Kz hG hb
   obtain ⟨g,p1,p2,p3,p4,p5,p6⟩:=FI xs n r (G0+1) a (by omega) (by rw [e];exact h2) h3
   refine ⟨g,p1,by omega,p3,p4,fun g' q1 q2=>?_,p6⟩
   by_cases c:g'=G0
   ·rw [c];exact hb
   ·exact p5 g' (by omega) q2
  ·have e:=FH hG hb
   refine ⟨G0, ?_,Nat.le_refl _,hG,hb,fun g' q1 q2=>by omega,by rw [e,List.length_append];simp [h2]⟩
   obtain ⟨t,ht⟩:=og xs [n] (G0+1) xs.length (by omega)
   rw [←ht,e,List.getElem?_append_left (by simp;omega),List.getElem?_append_right (by omega),h2]
   simp
theorem PK (xs:List Int) (n:Int) (G0:Nat) (h:(hits xs [n] G0).length=(hits xs [n] xs.length).length) (g:Nat) (h1:G0≤g) (h2:g < xs.length):hasB xs g n=false:=by
 cases hb:hasB xs g n
 ·rfl
 ·have e:=FH h2 hb
  have p1:=(og xs [n] (g+1) xs.length (by omega)).length_le
  have p2:=(og xs [n] G0 g h1).length_le
  rw [e,List.length_append] at p1
  simp at p1
  omega
theorem Ie {J:Nat→World→Prop} {d:Wd} {n:Nat} {W:World} (hsk:∀ i A,J i A→i < d.groups.length*d.nodes.length→(∃ p,(pairs d.groups.length d.nodes.length)[i]? = some p∧kL d n p=false)→J (i+1) A)
  (g:Nat) (hg:g < d.groups.length) (hb:hasB d.groups g n=false) (h:J (g*d.nodes.length) W):J ((g+1)*d.nodes.length) W:=by
 have:∀ k,k≤d.nodes.length→J (g*d.nodes.length+k) W:=by
  intro k
  induction k with
  | zero=>exact fun _=>h
  | succ k ih =>
   intro hk
   have hp:=kN hg (show k < d.nodes.length by omega)
   exact hsk _ _ (ih (by omega)) (by have:=(List.getElem?_eq_some_iff.1 hp).1;rwa [kF] at this) ⟨_,hp,by unfold kL;rw [hb];simp⟩
 rw [Nat.succ_mul];exact this _ (Nat.le_refl _)
theorem rO {J:Nat→World→Prop} {d:Wd} {n:Nat} {W:World} (hsk:∀ i A,J i A→i < d.groups.length*d.nodes.length→(∃ p,(pairs d.groups.length d.nodes.length)[i]? = some p∧kL d n p=false)→J (i+1) A)
  (G0:Nat):∀ (r:Nat),G0+r≤d.groups.length→(∀ g',G0≤g'→g' < G0+r→hasB d.groups g' n=false)→J (G0*d.nodes.length) W→J ((G0+r)*d.nodes.length) W
 | 0,_,_,h=>h
 | r+1,hr,hm,h=>by
  have:=rO hsk G0 r (by omega) (fun g' a b=>hm g' a (by omega)) h
  exact Ie hsk (G0+r) (by omega) (hm _ (by omega) (by omega)) this
set_option maxRecDepth 100000 in
set_option maxHeartbeats 2000000 in
theorem He (m:Nat) (Bj X:Nat) (w00 w:World) (hS0:Since w00 w) (hBX:Bj≠X) (hXw:X < w.heap.size) (ga:Option Addr) (gc:Nat) (na:Option Addr) (nc:Nat) (d:Wd) (n:Nat)
  (hG:Ints w00 ga d.groups.length d.groups) (hnm:d.nodes.length≤17592186043904)
  (c0:w.cell? ⟨Bj,0,none⟩=some (.slice ga d.groups.length gc)) (c1:w.cell? ⟨Bj,1,none⟩=some (.slice na d.nodes.length nc)) (c3:w.cell? ⟨Bj,3,none⟩=some (.int .i64 n)) :
  NV Tryz.prog m 207 #[.pointer (some ⟨Bj,0,none⟩)] (fun p:Nat × Nat=>#[.int .i64 (p.1:Int),.int .i64 (p.2:Int)]) (KX w00.heap.size (some X))
   (fun i p=>(pairs d.groups.length d.nodes.length)[i]? = some p∧kL d n p=true) (fun i=>∃ p,(pairs d.groups.length d.nodes.length)[i]? = some p∧kL d n p=false) (d.groups.length*d.nodes.length) w:=by
 intro l J Jp W hW hJ hsk hY h0
 have hgm:=hG.hmax
 have hBlt:Bj < w.heap.size:=by
  unfold World.cell? at c0
  split at c0
  ·rename_i hb;exact (Array.getElem?_eq_some_iff.1 hb).1
  ·cases c0
 have C:∀ W',KX w00.heap.size (some X) W W'→Since w00 W'∧W'.cell? ⟨Bj,0,none⟩=some (.slice ga d.groups.length gc)∧W'.cell? ⟨Bj,1,none⟩=some (.slice na d.nodes.length nc)∧W'.cell? ⟨Bj,3,none⟩=some (.int .i64 n):=fun W' h =>
  ⟨⟨(hS0.trans hW).below.trans h.below⟩,h.cell ((hW.cellAt hBlt _).trans c0) (by simpa using hBX),h.cell ((hW.cellAt hBlt _).trans c1) (by simpa using hBX),h.cell ((hW.cellAt hBlt _).trans c3) (by simpa using hBX)⟩
 obtain ⟨hSW,d0,d1,d3⟩:=C W (KX.refl _ _ _)
 have hIW:=hG.since hSW
 refine callsIn_of_wp Tryz.func207 rfl trivial ?_ rfl
 simp only [Tryz.ntmps207,List.size_toArray,List.length_cons,List.length_nil,Nat.reduceAdd,Nat.reduceSub,Array.replicate_succ,Array.replicate_zero,List.push_toArray,List.append_toArray,List.nil_append,List.cons_append]
 obtain ⟨H,hH⟩:∃ H,hits d.groups [(n:Int)] d.groups.length=H:=⟨_,rfl⟩
 have hHl:H.length≤d.groups.length:=by rw [←hH];exact Dv _ _ _
 have HH:Hid (hits d.groups [(n:Int)] d.groups.length=H):=hH
 gi_wp2_with (refine ⟨trivial,fun h=>(by cases h), ?_⟩;gi_at_call 103;refine (callsIn_wide.2 (Ma _ _ _ d.groups _ _ hIW)).mono ?_;rw [hH];rintro e W0 ⟨v,rfl,hown,hbel⟩;obtain ⟨ra,Rm,rfl,hR⟩:=yI hown (by omega))
 have GA:Since W W0:=⟨hbel⟩
 have hk0:KX w00.heap.size (some X) W W0:=KX.dM GA hSW.size
 have hJ0:=hJ _ _ _ h0 GA
 have hRc:=hR.cells
 have hge:∀ b off,ra=some ⟨b,off,none⟩→some b≠some X:=by
  intro b off e
  have:=bq hown b (by rw [e];rfl)
  have:=hW.size
  simp;omega
 clear hown hbel hH h0
 gi_loopw [13] (fun i wr=>∃ a G0:Nat,a≤H.length∧i=.int .i64 a∧G0≤d.groups.length∧(hits d.groups [(n:Int)] G0).length=a∧J (G0*d.nodes.length) wr∧KX w00.heap.size (some X) W0 wr) (fun i _=>H.length - (intOf i).toNat)
 case atStart=>exact ⟨0,0,Nat.zero_le _,rfl,Nat.zero_le _,rfl,by rw [Nat.zero_mul];exact hJ0,KX.refl _ _ _⟩
 case round =>
  obtain ⟨a,G0,ha,rfl,hG0,hla,hJa,hka⟩:=hrel
  obtain ⟨hSr,f0,f1,f3⟩:=C wr (hk0.trans hka)
  by_cases hlt:a < H.length
  ·obtain ⟨g,p1,p2,p3,p4,p5,p6⟩:=FI d.groups n (d.groups.length - G0) G0 a (by omega) hla (by rw [HH.out];exact hlt)
   have hJg:J (g*d.nodes.length) wr:=by
    have:=rO hsk G0 (g - G0) (by omega) (fun g' q1 q2=>p5 g' q1 (by omega)) hJa
    rwa [show G0+(g - G0)=g by omega] at this
   obtain ⟨b,off,rfl,hb,hcell⟩:=hRc (by omega)
   have hca:wr.cell? ⟨b,off+a,none⟩=some (.int .i64 (g:Int)):=by
    refine hka.cell ((hcell a hlt).trans ?_) (hge b off rfl)
    rw [HH.out] at p1
    rw [List.getElem?_map,p1];rfl
   have HL6:Hid ((hits d.groups [(n:Int)] (g+1)).length=a+1):=p6
   clear hcell hRc hla p1 p2 p5 p6 hJa hG0
   gi_wp2
   gi_loopw [21] (fun i wr=>∃ k:Nat,k≤d.nodes.length∧i=.int .i64 k∧J (g*d.nodes.length+k) wr∧KX w00.heap.size (some X) W0 wr) (fun i _=>d.nodes.length - (intOf i).toNat)
   case atStart=>exact ⟨0,Nat.zero_le _,rfl,hJg,hka⟩
   case round =>
    clear f0 f1 f3 hSr hca hka hJg
    obtain ⟨k,hk,rfl,hJk,hkk⟩:=hrel
    obtain ⟨hSr,f0,f1,f3⟩:=C wr (hk0.trans hkk)
    by_cases hkl:k < d.nodes.length
    ·have hp:=kN p3 hkl
     have hpl:g*d.nodes.length+k < d.groups.length*d.nodes.length:=by have:=(List.getElem?_eq_some_iff.1 hp).1;rwa [kF] at this
     have hIr:=hG.since hSr
     have HO:Hid (kL d n (g,k)=(((k:Int) != (n:Int)) && hasB d.groups g k)):=by unfold Hid kL;dsimp only;rw [p4];simp
     cases h1:((k:Int) != (n:Int))
     ·have hJn:J (g*d.nodes.length+(k+1)) wr:=hsk _ _ hJk hpl ⟨_,hp,by rw [HO.out,h1];rfl⟩
      clear hY
      gi_wp2
      refine ⟨trivial, ?_⟩
      gi_wp2
      refine ⟨fun _ h=>(by cases h), ?_⟩
      gi_wp2
      go_roundw
      case rel=>exact ⟨k+1,by omega,by simp,hJn,hkk⟩
      case measure=>simp [intOf];omega
     cases h2:hasB d.groups g k
     ·have hJn:J (g*d.nodes.length+(k+1)) wr:=hsk _ _ hJk hpl ⟨_,hp,by rw [HO.out,h2];simp⟩
      clear hY
      gi_wp2_with (first
       | (refine ⟨trivial,fun h=>(by cases h), ?_⟩;gi_at_call 50;refine (callsIn_wide.2 (gG _ _ _ d.groups _ _ _ hIr)).mono ?_;rw [h2];rintro e w' ⟨rfl,hw⟩;obtain rfl:=hw.symm))
      refine ⟨fun _ h=>(by cases h), ?_⟩
      gi_wp2
      go_roundw
      case rel=>exact ⟨k+1,by omega,by simp,hJn,hkk⟩
      case measure=>simp [intOf];omega
     ·obtain ⟨fn,tmps,assign,body,hy,hRn⟩:=hY _ (g,k) wr hJk hpl ⟨hp,by rw [HO.out,h1,h2];rfl⟩
      clear hY
      gi_wp2_with (first
       | (refine ⟨trivial,fun h=>(by cases h), ?_⟩;gi_at_call 50;refine (callsIn_wide.2 (gG _ _ _ d.groups _ _ _ hIr)).mono ?_;rw [h2];rintro e w' ⟨rfl,hw⟩;obtain rfl:=hw.symm))
      refine ⟨fun h=>(by cases h), ?_⟩
      refine hRn.mono ?_
      rintro e W3 (⟨rfl,hJ3,hk3⟩ | ⟨ch,rfl,hp3⟩)
      ·gi_wp2
       go_roundw
       case rel=>exact ⟨k+1,by omega,by simp,hJ3,hkk.trans hk3⟩
       case measure=>simp [intOf];omega
      ·exact ⟨rfl,.inr ⟨ch,rfl,hp3⟩⟩
    ·obtain rfl:k=d.nodes.length:=by omega
     gi_wp2
     go_roundw
     case rel=>exact ⟨a+1,g+1,by omega,by simp,by omega,HL6.out,by rw [Nat.succ_mul];exact hJk,hkk⟩
     case measure=>simp [intOf];omega
  ·have hJe:J (d.groups.length*d.nodes.length) wr:=by
    have hh:(hits d.groups [(n:Int)] G0).length=(hits d.groups [(n:Int)] d.groups.length).length:=by rw [HH.out];omega
    have:=rO hsk G0 (d.groups.length - G0) (by omega) (fun g' q1 q2=>PK d.groups n G0 hh g' q1 (by omega)) hJa
    rwa [show G0+(d.groups.length - G0)=d.groups.length by omega] at this
   gi_wp2
   go_end0
   exact .inl ⟨_,rfl,hJe⟩
end Go.Proofs.YtiiifecfdkjmbaaGreat
