/- Lemmas. Lemmas. Lemmas. Lemmas. -/
import Derived.Test.YtiiifecfdkjmbaaGreatTWErr
import Derived.RegionIn
import Derived.BigRegionIn
namespace Go.Proofs.YtiiifecfdkjmbaaGreat
set_option maxRecDepth 8000
open Go.RowKit Go.Shelf
def kF (d:Wd) (n:Nat) (p:Nat × Nat):Bool:=((p.2:Int) != (n:Int)) && (hasB d.groups p.1 n && hasB d.groups p.1 p.2)
def nE (d:Wd) (n:Nat) (nd:Nd) (acc:Int) (p:Nat × Nat):Int:=if kF d n p then (if dQ nd.last p.1 p.2 < acc then dQ nd.last p.1 p.2 else acc) else acc
def oC (d:Wd) (n:Nat) (nd:Nd) (i:Nat):Int:=((pairs d.groups.length d.nodes.length).take i).foldl (nE d n nd) nd.clock
def vN (d:Wd) (n:Nat) (nd:Nd):Int:=(pairs d.groups.length d.nodes.length).foldl (nE d n nd) nd.clock
theorem wG {d:Wd} {n:Nat} {nd:Nd} {i:Nat} {p:Nat × Nat} (h:(pairs d.groups.length d.nodes.length)[i]? = some p):oC d n nd (i+1)=nE d n nd (oC d n nd i) p:=by
 unfold oC;rw [List.take_add_one,h,List.foldl_append];rfl
theorem FV (d:Wd) (n:Nat) (nd:Nd):oC d n nd (d.groups.length*d.nodes.length)=vN d n nd:=by
 unfold oC vN;rw [List.take_of_length_le (by rw [jr];exact Nat.le_refl _)]
def dI (d:Wd) (n:Int):Int:=if aM d=0 then (if inB n 0 ((d.nodes.length:Int) - 1) then 0 else 4) else aM d
structure Ai (d:Wd) (nd:Nd):Prop where
 len:nd.last.length=d.groups.length
 rows:∀ (g:Nat) (row:List Int),nd.last[g]? = some row->row.length=d.nodes.length
theorem FW {d:Wd} (h:aM d=0) {n:Nat} {nd:Nd} (hn:d.nodes[n]? = some nd):Ai d nd:=by
 have hk:=(zQ2.1 hn).1
 have h1:gX d=true:=by
  unfold aM at h
  by_cases c:bF d.nodes.length d.groups=0
  ·rw [if_pos c] at h
   cases hs:gF d
   ·rw [hs] at h;simp at h
   ·rw [hs] at h
    simp only [if_true] at h
    cases hb:gX d
    ·rw [hb] at h;simp at h
    ·rfl
  ·rw [if_neg c] at h;exact absurd h c
 unfold gX at h1
 rw [List.all_eq_true] at h1
 have h2:=h1 n (by simpa using hk)
 rw [hn] at h2
 have h2:aC d n nd=true:=h2
 unfold aC kK at h2
 simp only [Bool.and_eq_true,decide_eq_true_eq] at h2
 obtain ⟨⟨_,hl⟩,hlo,_⟩:=h2
 refine ⟨hl,fun g row hrow=>?_⟩
 unfold dL at hlo
 rw [List.all_eq_true] at hlo
 have:=hlo g (by simpa using (zQ2.1 hrow).1)
 rw [hrow] at this
 unfold jS at this
 simp only [Bool.and_eq_true,decide_eq_true_eq] at this
 exact this.1
theorem Aj {d:Wd} {n:Int} (h:dI d n=0):aM d=0/\∃ (k:Nat) (nd:Nd),n=(k:Int)/\d.nodes[k]? = some nd:=by
 unfold dI at h
 by_cases c:aM d=0
 ·rw [if_pos c] at h
  refine ⟨c, ?_⟩
  cases hi:inB n 0 ((d.nodes.length:Int) - 1)
  ·rw [hi] at h;simp at h
  ·have:0<=n/\n<=(d.nodes.length:Int) - 1:=by simpa [inB] using hi
   exact ⟨n.toNat,d.nodes[n.toNat]'(by omega),by omega,zQ1 (by omega)⟩
 ·rw [if_neg c] at h;exact absurd h c
def dG (d:Wd) (n:Nat) (nd:Nd):List Mg:=nd.held.filter fun m=>decide (m.st<=vN d n nd)
theorem BM (f:Int) (l:List Mg) (k:Nat):((l.take k).filter fun m=>decide (m.st<=f)).length<=k:=by
 have:=List.length_filter_le (fun m:Mg=>decide (m.st<=f)) (l.take k)
 have:=List.length_take_le k l
 omega
theorem DW {d:Wd} (h:aM d=0) {n:Nat} {nd:Nd} (hn:d.nodes[n]? = some nd):nd.held.length<=40:=by
 have h1:gF d=true:=by
  unfold aM at h
  by_cases c:bF d.nodes.length d.groups=0
  ·rw [if_pos c] at h
   cases hs:gF d
   ·rw [hs] at h;simp at h
   ·rfl
  ·rw [if_neg c] at h;exact absurd h c
 rw [pR,Bool.and_eq_true,List.all_eq_true] at h1
 have:=h1.1 nd (List.mem_of_getElem? hn)
 unfold mD at this
 rw [Bool.and_eq_true] at this
 simpa using this.1
end Go.Proofs.YtiiifecfdkjmbaaGreat
set_option maxHeartbeats 2000000
namespace Go.Proofs.YtiiifecfdkjmbaaGreat
open _root_.Go.Proofs.Tryz hiding checked
set_option maxRecDepth 8000
open Go.RowKit Go.Shelf
attribute [local go_sem] Oper.semAt_some
theorem CS {xs:List Int} {n:Int} {k:Nat} (hk:k < xs.length) (h:hasB xs k n=true):hits xs [n] (k+1)=hits xs [n] k++[k]:=by
 rw [Cc xs n k hk] at h
 exact wS (by simpa using h)
theorem GI {xs:List Int} {n:Int} {k:Nat} (hk:k < xs.length) (h:hasB xs k n=false):hits xs [n] (k+1)=hits xs [n] k:=by
 rw [Cc xs n k hk] at h
 exact Az (by simpa using h)
theorem CU (xs:List Int) (n:Int):∀ (r G0 a:Nat),G0+r=xs.length->(hits xs [n] G0).length=a->a < (hits xs [n] xs.length).length ->
  ∃ g,(hits xs [n] xs.length)[a]? = some g/\G0<=g/\g < xs.length/\hasB xs g n=true/\(∀ g',G0<=g'->g' < g->hasB xs g' n=false)/\(hits xs [n] (g+1)).length=a+1
 | 0,G0,a,h1,h2,h3=>by
  obtain rfl:G0=xs.length:=by omega
  omega
 | r+1,G0,a,h1,h2,h3=>by
  have hG:G0 < xs.length:=by omega
  cases hb:hasB xs G0 n
  ·have e:=GI hG hb
   obtain ⟨g,p1,p2,p3,p4,p5,p6⟩:=CU xs n r (G0+1) a (by omega) (by rw [e];exact h2) h3
   refine ⟨g,p1,by omega,p3,p4,fun g' q1 q2=>?_,p6⟩
   by_cases c:g'=G0
   ·rw [c];exact hb
   ·exact p5 g' (by omega) q2
  ·have e:=CS hG hb
   refine ⟨G0, ?_,Nat.le_refl _,hG,hb,fun g' q1 q2=>by omega,by rw [e,List.length_append];simp [h2]⟩
   obtain ⟨t,ht⟩:=lT xs [n] (G0+1) xs.length (by omega)
   rw [<-ht,e,List.getElem?_append_left (by simp;omega),List.getElem?_append_right (by omega),h2]
   simp
theorem M5 (xs:List Int) (n:Int) (G0:Nat) (h:(hits xs [n] G0).length=(hits xs [n] xs.length).length) (g:Nat) (h1:G0<=g) (h2:g < xs.length):hasB xs g n=false:=by
 cases hb:hasB xs g n
 ·rfl
 ·have e:=CS h2 hb
  have p1:=(lT xs [n] (g+1) xs.length (by omega)).length_le
  have p2:=(lT xs [n] G0 g h1).length_le
  rw [e,List.length_append] at p1
  simp at p1
  omega
theorem Eo {J:Nat->World->Prop} {d:Wd} {n:Nat} {W:World} (hsk:∀ i A,J i A->i < d.groups.length*d.nodes.length->(∃ p,(pairs d.groups.length d.nodes.length)[i]? = some p/\kF d n p=false)->J (i+1) A)
  (g:Nat) (hg:g < d.groups.length) (hb:hasB d.groups g n=false) (h:J (g*d.nodes.length) W):J ((g+1)*d.nodes.length) W:=by
 have:∀ k,k<=d.nodes.length->J (g*d.nodes.length+k) W:=by
  intro k
  induction k with
  | zero=>exact fun _=>h
  | succ k ih =>
   intro hk
   have hp:=mU hg (show k < d.nodes.length by omega)
   exact hsk _ _ (ih (by omega)) (by have:=(zQ2.1 hp).1;rwa [jr] at this) ⟨_,hp,by unfold kF;rw [hb];simp⟩
 rw [Nat.succ_mul];exact this _ (Nat.le_refl _)
theorem oW {J:Nat->World->Prop} {d:Wd} {n:Nat} {W:World} (hsk:∀ i A,J i A->i < d.groups.length*d.nodes.length->(∃ p,(pairs d.groups.length d.nodes.length)[i]? = some p/\kF d n p=false)->J (i+1) A)
  (G0:Nat):∀ (r:Nat),G0+r<=d.groups.length->(∀ g',G0<=g'->g' < G0+r->hasB d.groups g' n=false)->J (G0*d.nodes.length) W->J ((G0+r)*d.nodes.length) W
 | 0,_,_,h=>h
 | r+1,hr,hm,h=>by
  have:=oW hsk G0 r (by omega) (fun g' a b=>hm g' a (by omega)) h
  exact Eo hsk (G0+r) (by omega) (hm _ (by omega) (by omega)) this
set_option maxRecDepth 100000 in
theorem Ea (m:Nat) (Bj X:Nat) (w00 w:World) (hS0:Since w00 w) (hBX:Bj≠X) (hXw:X < w.heap.size) (ga:Option Addr) (gc:Nat) (na:Option Addr) (nc:Nat) (d:Wd) (n:Nat)
  (hG:Ints w00 ga d.groups.length d.groups) (hnm:d.nodes.length<=17592186043904)
  (c0:w.cell? ⟨Bj,0,none⟩=some (.slice ga d.groups.length gc)) (c1:w.cell? ⟨Bj,1,none⟩=some (.slice na d.nodes.length nc)) (c3:w.cell? ⟨Bj,3,none⟩=some (.int .i64 n)) :
  Kz prog m 207 #[.pointer (some ⟨Bj,0,none⟩)] (fun p:Nat × Nat=>#[.int .i64 (p.1:Int),.int .i64 (p.2:Int)]) (KX w00.heap.size (some X))
   (fun i p=>(pairs d.groups.length d.nodes.length)[i]? = some p/\kF d n p=true) (fun i=>∃ p,(pairs d.groups.length d.nodes.length)[i]? = some p/\kF d n p=false) (d.groups.length*d.nodes.length) w:=by
 intro l J Jp W hW hJ hsk hY h0
 have hgm:=hG.hmax
 have hBlt:Bj < w.heap.size:=by
  unfold World.cell? at c0
  split at c0
  ·rename_i hb;exact (zQ3.1 hb).1
  ·cases c0
 have C:∀ W',KX w00.heap.size (some X) W W'->Since w00 W'/\W'.cell? ⟨Bj,0,none⟩=some (.slice ga d.groups.length gc)/\W'.cell? ⟨Bj,1,none⟩=some (.slice na d.nodes.length nc)/\W'.cell? ⟨Bj,3,none⟩=some (.int .i64 n):=fun W' h =>
  ⟨⟨(hS0.trans hW).below.trans h.below⟩,h.cell ((hW.cellAt hBlt _).trans c0) (by simpa using hBX),h.cell ((hW.cellAt hBlt _).trans c1) (by simpa using hBX),h.cell ((hW.cellAt hBlt _).trans c3) (by simpa using hBX)⟩
 obtain ⟨hSW,d0,d1,d3⟩:=C W (KX.refl _ _ _)
 have hIW:=hG.since hSW
 refine callsIn_of_wp func207 rfl trivial ?_ rfl
 simp only [ntmps207,List.size_toArray,List.length_cons,List.length_nil,Nat.reduceAdd,Nat.reduceSub,Array.replicate_succ,Array.replicate_zero,List.push_toArray,List.append_toArray,List.nil_append,List.cons_append]
 obtain ⟨H,hH⟩:∃ H,hits d.groups [(n:Int)] d.groups.length=H:=⟨_,rfl⟩
 have hHl:H.length<=d.groups.length:=by rw [<-hH];exact Aw _ _ _
 have HH:Hid (hits d.groups [(n:Int)] d.groups.length=H):=hH
 gi_wp2_with (refine ⟨trivial,fun h=>(by cases h), ?_⟩;gi_at_call 103;refine (callsIn_wide.2 (Ja _ _ _ d.groups _ _ hIW)).mono ?_;rw [hH];rintro e W0 ⟨v,rfl,hown,hbel⟩;obtain ⟨ra,OJ,rfl,hR⟩:=vo hown (by omega))
 have DR:Since W W0:=⟨hbel⟩
 have hk0:KX w00.heap.size (some X) W W0:=KX.cZ DR hSW.size
 have hJ0:=hJ _ _ _ h0 DR
 have hRc:=hR.cells
 have hge:∀ b off,ra=some ⟨b,off,none⟩->some b≠some X:=by
  intro b off e
  have:=dh hown b (by rw [e];rfl)
  have:=hW.size
  simp;omega
 clear hown hbel hH h0
 gi_loopw [13] (fun i wr=>∃ a G0:Nat,a<=H.length/\i=.int .i64 a/\G0<=d.groups.length/\(hits d.groups [(n:Int)] G0).length=a/\J (G0*d.nodes.length) wr/\KX w00.heap.size (some X) W0 wr) (fun i _=>H.length - (intOf i).toNat)
 case atStart=>exact ⟨0,0,Nat.zero_le _,rfl,Nat.zero_le _,rfl,by rw [Nat.zero_mul];exact hJ0,KX.refl _ _ _⟩
 case round =>
  obtain ⟨a,G0,ha,rfl,hG0,hla,hJa,hka⟩:=hrel
  obtain ⟨hSr,f0,f1,f3⟩:=C wr (hk0.trans hka)
  by_cases hlt:a < H.length
  ·obtain ⟨g,p1,p2,p3,p4,p5,p6⟩:=CU d.groups n (d.groups.length - G0) G0 a (by omega) hla (by rw [HH.out];exact hlt)
   have hJg:J (g*d.nodes.length) wr:=by
    have:=oW hsk G0 (g - G0) (by omega) (fun g' q1 q2=>p5 g' q1 (by omega)) hJa
    rwa [show G0+(g - G0)=g by omega] at this
   obtain ⟨b,off,rfl,hb,hcell⟩:=hRc (by omega)
   have hca:wr.cell? ⟨b,off+a,none⟩=some (.int .i64 (g:Int)):=by
    refine hka.cell ((hcell a hlt).trans ?_) (hge b off rfl)
    rw [HH.out] at p1
    rw [List.getElem?_map,p1];rfl
   have HL6:Hid ((hits d.groups [(n:Int)] (g+1)).length=a+1):=p6
   clear hcell hRc hla p1 p2 p5 p6 hJa hG0
   gi_wp2
   gi_loopw [21] (fun i wr=>∃ k:Nat,k<=d.nodes.length/\i=.int .i64 k/\J (g*d.nodes.length+k) wr/\KX w00.heap.size (some X) W0 wr) (fun i _=>d.nodes.length - (intOf i).toNat)
   case atStart=>exact ⟨0,Nat.zero_le _,rfl,hJg,hka⟩
   case round =>
    clear f0 f1 f3 hSr hca hka hJg
    obtain ⟨k,hk,rfl,hJk,hkk⟩:=hrel
    obtain ⟨hSr,f0,f1,f3⟩:=C wr (hk0.trans hkk)
    by_cases hkl:k < d.nodes.length
    ·have hp:=mU p3 hkl
     have hpl:g*d.nodes.length+k < d.groups.length*d.nodes.length:=by have:=(zQ2.1 hp).1;rwa [jr] at this
     have hIr:=hG.since hSr
     have HO:Hid (kF d n (g,k)=(((k:Int) != (n:Int)) && hasB d.groups g k)):=by unfold Hid kF;dsimp only;rw [p4];simp
     cases h1:((k:Int) != (n:Int))
     ·have hJn:J (g*d.nodes.length+(k+1)) wr:=hsk _ _ hJk hpl ⟨_,hp,by rw [HO.out,h1];rfl⟩
      clear hY
      gi_wp2
      refine ⟨trivial, ?_⟩
      gi_wp2
      refine ⟨fun _ h=>(by cases h), ?_⟩
      gi_wp2
      go_roundw
      case rel=>exact ⟨k+1,by omega,by simp,hJn,hkk⟩
      case measure=>simp [intOf];omega
     cases h2:hasB d.groups g k
     ·have hJn:J (g*d.nodes.length+(k+1)) wr:=hsk _ _ hJk hpl ⟨_,hp,by rw [HO.out,h2];simp⟩
      clear hY
      gi_wp2_with (first
       | (refine ⟨trivial,fun h=>(by cases h), ?_⟩;gi_at_call 50;refine (callsIn_wide.2 (fJ _ _ _ d.groups _ _ _ hIr)).mono ?_;rw [h2];rintro e w' ⟨rfl,hw⟩;obtain rfl:=hw.symm))
      refine ⟨fun _ h=>(by cases h), ?_⟩
      gi_wp2
      go_roundw
      case rel=>exact ⟨k+1,by omega,by simp,hJn,hkk⟩
      case measure=>simp [intOf];omega
     ·obtain ⟨fn,tmps,assign,body,hy,hRn⟩:=hY _ (g,k) wr hJk hpl ⟨hp,by rw [HO.out,h1,h2];rfl⟩
      clear hY
      gi_wp2_with (first
       | (refine ⟨trivial,fun h=>(by cases h), ?_⟩;gi_at_call 50;refine (callsIn_wide.2 (fJ _ _ _ d.groups _ _ _ hIr)).mono ?_;rw [h2];rintro e w' ⟨rfl,hw⟩;obtain rfl:=hw.symm))
      refine ⟨fun h=>(by cases h), ?_⟩
      refine hRn.mono ?_
      rintro e W3 (⟨rfl,hJ3,hk3⟩ | ⟨ch,rfl,hp3⟩)
      ·gi_wp2
       go_roundw
       case rel=>exact ⟨k+1,by omega,by simp,hJ3,hkk.trans hk3⟩
       case measure=>simp [intOf];omega
      ·exact ⟨rfl,.inr ⟨ch,rfl,hp3⟩⟩
    ·obtain rfl:k=d.nodes.length:=by omega
     gi_wp2
     go_roundw
     case rel=>exact ⟨a+1,g+1,by omega,by simp,by omega,HL6.out,by rw [Nat.succ_mul];exact hJk,hkk⟩
     case measure=>simp [intOf];omega
  ·have hJe:J (d.groups.length*d.nodes.length) wr:=by
    have hh:(hits d.groups [(n:Int)] G0).length=(hits d.groups [(n:Int)] d.groups.length).length:=by rw [HH.out];omega
    have:=oW hsk G0 (d.groups.length - G0) (by omega) (fun g' q1 q2=>M5 d.groups n G0 hh g' q1 (by omega)) hJa
    rwa [show G0+(d.groups.length - G0)=d.groups.length by omega] at this
   gi_wp2
   go_end0
   exact .inl ⟨_,rfl,hJe⟩
end Go.Proofs.YtiiifecfdkjmbaaGreat
set_option maxHeartbeats 2000000
namespace Go.Proofs.YtiiifecfdkjmbaaGreat
open _root_.Go.Proofs.Tryz hiding checked
set_option maxRecDepth 8000
open Go.RowKit Go.Shelf
attribute [local go_sem] Oper.semAt_some
theorem D9 (x:WV) (n:Int) (w:World) :
  Calls prog 172 #[.agg #[.slice x.ga x.gl x.gc,.slice x.na x.nl x.nc,.slice x.wa x.wl x.wc,.int .i64 n]] w fun e w'=>e=.returned (.func (.func 207) #[] #[.pointer (some ⟨w.heap.size,0,none⟩)])/\w'=w.alloc (.cells #[.slice x.ga x.gl x.gc,.slice x.na x.nl x.nc,.slice x.wa x.wl x.wc,.int .i64 n] 130):=by
 go_enter func172,ntmps172
 go_wp2
 go_ret
 exact ⟨rfl,rfl⟩
theorem KX.same {n:Nat} {X:Option Nat} {A B:World} (h:KX n X A B) {p:Addr} {v:Value} (hc:A.cell? p=some v) (hX:some p.block≠X):B.heap[p.block]? = A.heap[p.block]?:=by
 have:∃ o,A.heap[p.block]? = some o/\o.isCells=true:=by
  unfold World.cell? at hc
  split at hc
  ·rename_i c e z hb;exact ⟨_,hb,rfl⟩
  ·cases hc
 obtain ⟨o,ho,hoc⟩:=this
 exact (h.cells _ _ ho hoc hX).trans ho.symm
set_option maxRecDepth 8000 in
theorem Kh (x:WV) (d:Wd) (n:Nat) (nd:Nd) (w:World) (hW:WAt w x d) (hn:d.nodes[n]? = some nd) (hL0:Ai d nd) :
  Calls prog 118 #[.agg #[.slice x.ga x.gl x.gc,.slice x.na x.nl x.nc,.slice x.wa x.wl x.wc,.int .i64 n]] w fun e w'=>e=.returned (.int .i64 (vN d n nd))/\Since w w':=by
 have hnl:=(zQ2.1 hn).1
 obtain ⟨ga,gl,gc,na,nl,nc,wa,wl,wc⟩:=x
 have qR:=hW.n.hlen
 have hnm:=hW.n.hmax
 have hgl:=hW.g.hlen
 have hgm:=hW.g.hmax
 have hGw:=hW.g
 dsimp only at qR hnm hgl hgm hGw ⊢
 subst qR hgl
 obtain ⟨bn,on,rfl,hbn,hcn⟩:=hW.n.cells (by dsimp only;omega)
 obtain ⟨k0,⟨v1,k1,la,lc,rfl,hlc,hL⟩,⟨v2,k2,ha,hc,rfl,hhc,hH⟩,⟨v3,k3,ta,tc,rfl,htc,hT⟩⟩:=hcn n nd hn
 obtain ⟨w1,hw1⟩:∃ w1,((w.alloc (.cells #[.slice ga d.groups.length gc,.slice (some ⟨bn,on,none⟩) d.nodes.length nc,.slice wa wl wc,.int .i64 n] 130)).alloc (.cells #[.int .i64 nd.clock,.slice la nd.last.length lc,.slice ha nd.held.length hc,.slice ta nd.told.length tc] 45)).alloc (.cells #[.int .i64 nd.clock] 3)=w1:=⟨_,rfl⟩
 have hS1:Since w w1:=by rw [<-hw1];exact (((Since.refl w).alloc _).alloc _).alloc _
 have hsz:w.heap.size+2 < w1.heap.size:=by rw [<-hw1];simp
 have b0:w1.cell? ⟨w.heap.size,0,none⟩=some (.slice ga d.groups.length gc):=by rw [<-hw1];simp [go_sem]
 have b1:w1.cell? ⟨w.heap.size,1,none⟩=some (.slice (some ⟨bn,on,none⟩) d.nodes.length nc):=by rw [<-hw1];simp [go_sem]
 have b2:w1.cell? ⟨w.heap.size,2,none⟩=some (.slice wa wl wc):=by rw [<-hw1];simp [go_sem]
 have b3:w1.cell? ⟨w.heap.size,3,none⟩=some (.int .i64 n):=by rw [<-hw1];simp [go_sem]
 have b4:w1.cell? ⟨w.heap.size+1,1,none⟩=some (.slice la nd.last.length lc):=by rw [<-hw1];simp [go_sem]
 have b5:w1.cell? ⟨w.heap.size+2,0,none⟩=some (.int .i64 nd.clock):=by rw [<-hw1];simp [go_sem]
 have b6:w1.frozen? ⟨w.heap.size+2,0,none⟩=false:=by rw [<-hw1];simp [go_sem]
 have n1:(n:Int) < (d.nodes.length:Int):=by omega
 clear hcn
 refine jG func118 rfl ?_
 simp only [ntmps118,List.size_toArray,List.length_cons,List.length_nil,Nat.reduceAdd,Nat.reduceSub,Array.replicate_succ,Array.replicate_zero,List.push_toArray,List.append_toArray,List.nil_append,List.cons_append]
 refine dM (bC ?_)
 go_wp2
 refine dM (bC ?_)
 go_wp2
 refine dM (bC ?_)
 go_wp2
 refine dM (dM (bC ?_))
 go_wp2_with (go_at_call 172;refine (D9 ⟨ga,d.groups.length,gc,_,d.nodes.length,nc,wa,wl,wc⟩ n _).mono ?_;rintro e w' ⟨rfl,rfl⟩)
 refine pV ?_
 obtain ⟨w5,hw5⟩:∃ w5,w1.alloc (.cells #[.slice ga d.groups.length gc,.slice (some ⟨bn,on,none⟩) d.nodes.length nc,.slice wa wl wc,.int .i64 n] 130)=w5:=⟨_,rfl⟩
 have yZ:=ay hw5
 have hS5:=hS1.trans yZ
 have z0:w5.cell? ⟨w1.heap.size,0,none⟩=some (.slice ga d.groups.length gc):=by rw [<-hw5];simp [go_sem]
 have z1:w5.cell? ⟨w1.heap.size,1,none⟩=some (.slice (some ⟨bn,on,none⟩) d.nodes.length nc):=by rw [<-hw5];simp [go_sem]
 have z3:w5.cell? ⟨w1.heap.size,3,none⟩=some (.int .i64 n):=by rw [<-hw5];simp [go_sem]
 have y4:w5.cell? ⟨w.heap.size+1,1,none⟩=some (.slice la nd.last.length lc):=(yZ.cellAt (by omega) _).trans b4
 have y5:w5.cell? ⟨w.heap.size+2,0,none⟩=some (.int .i64 nd.clock):=(yZ.cellAt (by omega) _).trans b5
 have y6:w5.frozen? ⟨w.heap.size+2,0,none⟩=false:=(yZ.below.frozen (p:=⟨w.heap.size+2,0,none⟩) (by show w.heap.size+2 < _;omega)).trans b6
 rw [hw5]
 clear hw5 hw1
 refine uL (m:=1) func118 (gf:=207) (lb:=#[.pointer (some ⟨w1.heap.size,0,none⟩)]) rfl (enters_of func207 (by kernel_rfl) rfl) hS5.size
  (Ea 1 w1.heap.size (w.heap.size+2) w w5 hS5 (by omega) (by have:=yZ.size;omega) ga gc _ nc d n hGw (by omega) z0 z1 z3) (fun _=>rfl)
  (fun i W=>Since w W/\W.cell? ⟨w.heap.size+2,0,none⟩=some (.int .i64 (oC d n nd i))/\W.frozen? ⟨w.heap.size+2,0,none⟩=false/\W.cell? ⟨w.heap.size+1,1,none⟩=some (.slice la nd.last.length lc))
  (fun _ _=>False)
  (fun i A B hA hk=>⟨⟨hA.1.below.trans (hk.below.mono hS5.size)⟩,hk.cell hA.2.1 (by simp),(World.frozen?_of_block (w:=A) (hk.same hA.2.1 (by simp))).trans hA.2.2.1,hk.cell hA.2.2.2 (by simp)⟩)
  (fun i A hA hi hs=>by
   obtain ⟨p,hp,ho⟩:=hs
   refine ⟨hA.1, ?_,hA.2.2⟩
   rw [wG hp];unfold nE;rw [ho];exact hA.2.1)
  ⟨hS5,by rw [y5];simp [oC],y6,y4⟩ ?round ?done ?pan
 case pan =>
  rintro D ch W hD h hK
  exact h.elim
 case done =>
  rintro D W hD ⟨hSW,hc1,hf1,-⟩ hK
  have HF:Hid (oC d n nd (d.groups.length*d.nodes.length)=vN d n nd):=FV d n nd
  refine bC ?_
  go_wp2
  refine ⟨by simp,.inl ⟨_,_,rfl,run_takeDeferred hK, ?_⟩⟩
  refine ⟨_,results_tmp rfl _ _ _,by rw [<-HF.out];rfl,⟨hSW.below.trans ((KX.put (X:=none) (.deferred none) hK rfl hD).below.mono hS5.size)⟩⟩
 case round =>
  rintro l i ⟨g,k⟩ W W' hsz' ⟨hSW,hc1,hf1,hc2⟩ hiN ⟨hx,ho⟩
  obtain ⟨hgl,hkl⟩:=zF hx
  obtain ⟨row,hrow⟩:∃ row,nd.last[g]? = some row:=⟨_,zQ1 (by have:=hL0.len;omega)⟩
  have hrl:=hL0.rows g row hrow
  obtain ⟨v,hv⟩:∃ v,row[k]? = some v:=⟨_,zQ1 (by omega)⟩
  obtain ⟨bL,oL,rfl,hbL,hcL⟩:=hL.cells (by have:=hL0.len;omega)
  obtain ⟨v4,k4,ra,rc,rfl,hrc,hR⟩:=hcL g row hrow
  obtain ⟨bR,oR,rfl,hbR,hcR⟩:=hR.cells (by omega)
  have k5:W'.cell? ⟨bL,oL+g,none⟩=_:=(hSW.cellAt hbL _).trans k4
  have k6:W'.cell? ⟨bR,oR+k,none⟩=some (.int .i64 v):=(hSW.cellAt hbR _).trans (by have:=hcR k (by omega);rw [hv] at this;exact this)
  have g1:(g:Int) < (nd.last.length:Int):=by have:=hL0.len;omega
  have g2:(k:Int) < (row.length:Int):=by omega
  obtain ⟨acc,hacc⟩:∃ acc,oC d n nd i=acc:=⟨_,rfl⟩
  have HV:Hid (oC d n nd (i+1)=if v < acc then v else acc):=by
   unfold Hid
   rw [wG hx,hacc]
   unfold nE
   rw [ho]
   have:dQ nd.last g k=v:=by unfold dQ;rw [hrow,Option.getD_some,hv];rfl
   dsimp only
   rw [this];rfl
  rw [hacc] at hc1
  clear hcL hcR hrow hv hx ho k4 hacc hrl hR
  have Mw:NC W' ((W'.setCell ⟨w.heap.size+1+1,0,none⟩ (.int .i64 (if v < acc then v else acc))).drew)/\KX w.heap.size (some (w.heap.size+2)) W' ((W'.setCell ⟨w.heap.size+1+1,0,none⟩ (.int .i64 (if v < acc then v else acc))).drew) /\
    (Since w ((W'.setCell ⟨w.heap.size+1+1,0,none⟩ (.int .i64 (if v < acc then v else acc))).drew)/\((W'.setCell ⟨w.heap.size+1+1,0,none⟩ (.int .i64 (if v < acc then v else acc))).drew).cell? ⟨w.heap.size+2,0,none⟩=some (.int .i64 (oC d n nd (i+1)))
     /\ ((W'.setCell ⟨w.heap.size+1+1,0,none⟩ (.int .i64 (if v < acc then v else acc))).drew).frozen? ⟨w.heap.size+2,0,none⟩=false/\((W'.setCell ⟨w.heap.size+1+1,0,none⟩ (.int .i64 (if v < acc then v else acc))).drew).cell? ⟨w.heap.size+1,1,none⟩=some (.slice (some ⟨bL,oL,none⟩) nd.last.length lc)):=by
   rw [HV.out]
   obtain ⟨u,hu⟩:∃ u,(Value.int .i64 (if v < acc then v else acc))=u:=⟨_,rfl⟩
   rw [hu]
   have hob:∀ j,j≠w.heap.size+2->((W'.setCell ⟨w.heap.size+2,0,none⟩ u).drew).heap[j]? = W'.heap[j]?:=fun j hj=>Below.heap_setCell W' ⟨w.heap.size+2,0,none⟩ u j hj
   have hcl:∃ o,W'.heap[w.heap.size+2]? = some o/\o.isCells=true:=by
    have:=hc1
    unfold World.cell? at this
    split at this
    ·rename_i hb;exact ⟨_,hb,rfl⟩
    ·cases this
   obtain ⟨o,Qn,hoc⟩:=hcl
   refine ⟨fun j o' hj ho'=>?_,⟨?_,fun j o' hj ho' hX=>?_⟩,⟨?_⟩, ?_, ?_, ?_⟩
   ·refine (hob j ?_).trans hj
    rintro rfl
    rw [Qn] at hj;cases hj;rw [hoc] at ho';cases ho'
   ·exact (((Below.refl w.heap.size W').setCell (p:=⟨w.heap.size+2,0,none⟩) (by show w.heap.size<=w.heap.size+2;omega) u)).drew
   ·exact (hob j (by simpa using hX)).trans hj
   ·exact ((hSW.below.setCell (p:=⟨w.heap.size+2,0,none⟩) (by show w.heap.size<=w.heap.size+2;omega) u)).drew
   ·exact World.cell?_setCell_same' W' ⟨w.heap.size+2,0,none⟩ u (by rw [hc1];rfl)
   ·show (W'.setCell ⟨w.heap.size+2,0,none⟩ u).frozen? _=false
    rw [World.frozen?_setCell];exact hf1
   ·exact (World.cell?_of_block (w:=W') (hob (w.heap.size+1) (by omega))).trans hc2
  clear hW hn hL0 hL hH hT hS1 yZ hS5 z0 z1 z3 y4 y5 y6 b0 b1 b2 b3 b4 b5 b6 n1 hGw k0 k1 k2 k3 hnl hnm hgm hlc hhc htc hbn hsz hiN hSW hbL hbR hrc HV hgl hkl
  gi_wp2
  refine ⟨trivial, ?_⟩
  gi_wp2
  gi_region
  all_goals exact Mw
end Go.Proofs.YtiiifecfdkjmbaaGreat
