/- Lemmas. Lemmas. Lemmas. Lemmas. -/
import Derived.Test.YtiiifecfdkjmbaaGreatBoundR
import Derived.RegionIn
import Derived.BigRegionIn
set_option maxHeartbeats 2000000
namespace Go.Proofs.YtiiifecfdkjmbaaGreat
open _root_.Go.Proofs.Tryz
set_option maxRecDepth 8000
open Go.RowKit Go.Shelf
theorem yZ (w0:World) (x:WV) (d:Wd) (n:Nat) (nd:Nd) (v:Int) (hv:sV d n nd=v) (hW:WAt w0 x d) (hn:d.nodes[n]? = some nd) (hL0:jZ d nd) (w:World) (h:Since w0 w) :
  Calls prog 218 #[.agg #[.slice x.ga x.gl x.gc,.slice x.na x.nl x.nc,.slice x.wa x.wl x.wc],.int .i64 n] w fun e w'=>e=.returned (.int .i64 v)/\Since w0 w' :=
 (Cw x d n nd w (hW.since h) hn hL0).mono fun _ _ ⟨he,hw⟩=>⟨by rw [<-hv];exact he,h.trans hw⟩
def bW (d:Wd) (n:Nat) (nd:Nd):List Mg:=nd.held.filter fun m=>decide (m.st<=sV d n nd)
theorem xS (f:Int) (l:List Mg) (k:Nat):((l.take k).filter fun m=>decide (m.st<=f)).length<=k:=by
 have:=List.length_filter_le (fun m:Mg=>decide (m.st<=f)) (l.take k)
 have:=List.length_take_le k l
 omega
theorem Gm {d:Wd} (h:aD d=0) {n:Nat} {nd:Nd} (hn:d.nodes[n]? = some nd):nd.held.length<=40:=by
 have h1:iy d=true:=by
  unfold aD at h
  by_cases c:eX d.nodes.length d.groups=0
  ·rw [if_pos c] at h
   cases hs:iy d
   ·rw [hs] at h;simp at h
   ·rfl
  ·rw [if_neg c] at h;exact absurd h c
 rw [sG,Bool.and_eq_true,List.all_eq_true] at h1
 have:=h1.1 nd (List.mem_of_getElem? hn)
 unfold oC at this
 rw [Bool.and_eq_true] at this
 simpa using this.1
set_option maxRecDepth 8000 in
theorem Cy (x:WV) (d:Wd) (n:Nat) (nd:Nd) (w:World) (hW:WAt w x d) (hn:d.nodes[n]? = some nd) (hL0:jZ d nd) (hsh:nd.held.length<=40) :
  Calls prog 187 #[.agg #[.slice x.ga x.gl x.gc,.slice x.na x.nl x.nc,.slice x.wa x.wl x.wc],.int .i64 n] w fun e w'=>∃ v,e=.returned v/\w'.ownsRow w.heap.size 42 5 v (bW d n nd).length (flat (bW d n nd))/\Since w w':=by
 obtain ⟨i0,hi,hz0,hz1,hz2⟩:=info_parts Tryz.sI
 have hnl:=(zQ2.1 hn).1
 obtain ⟨ga,gl,gc,na,nl,nc,wa,wl,wc⟩:=x
 have oz:=hW.n.hlen
 have hnm:=hW.n.hmax
 dsimp only at oz hnm ⊢
 subst oz
 obtain ⟨bn,on,rfl,hbn,hcn⟩:=hW.n.cells (by dsimp only;omega)
 obtain ⟨k0,-,⟨v2,k2,ha,hc,rfl,hhc,hH⟩,-⟩:=hcn n nd hn
 obtain ⟨w1,hw1⟩:∃ w1,w.alloc (.cells #[.slice ga gl gc,.slice (some ⟨bn,on,none⟩) d.nodes.length nc,.slice wa wl wc] 26)=w1:=⟨_,rfl⟩
 have hS1:=au hw1
 have hsz:w.heap.size < w1.heap.size:=by rw [<-hw1];simp
 have b0:w1.cell? ⟨w.heap.size,0,none⟩=some (.slice ga gl gc):=by rw [<-hw1];simp [go_sem]
 have b1:w1.cell? ⟨w.heap.size,1,none⟩=some (.slice (some ⟨bn,on,none⟩) d.nodes.length nc):=by rw [<-hw1];simp [go_sem]
 have b2:w1.cell? ⟨w.heap.size,2,none⟩=some (.slice wa wl wc):=by rw [<-hw1];simp [go_sem]
 have hW1:=hW.since hS1
 have n1:(n:Int) < (d.nodes.length:Int):=by omega
 obtain ⟨far,Gn⟩:∃ far,sV d n nd=far:=⟨_,rfl⟩
 have QB:Hid (sV d n nd=far):=Gn
 have HRL:Hid (bW d n nd=nd.held.filter fun m=>decide (m.st<=far)):=by unfold Hid bW;rw [Gn]
 clear hcn k0 Gn
 have RF:Hid (∀ y,Since w1 y->y.cell? ⟨w.heap.size,0,none⟩=some (.slice ga gl gc)/\y.cell? ⟨w.heap.size,1,none⟩=some (.slice (some ⟨bn,on,none⟩) d.nodes.length nc)/\y.cell? ⟨w.heap.size,2,none⟩=some (.slice wa wl wc)/\y.cell? ⟨bn,on+n*4+2,none⟩=some (.slice ha nd.held.length hc)):=fun y hy =>
  ⟨(hy.cellAt (by omega) _).trans b0,(hy.cellAt (by omega) _).trans b1,(hy.cellAt (by omega) _).trans b2,((hS1.trans hy).cellAt hbn _).trans k2⟩
 obtain ⟨_,hHm,hHc⟩:=hH
 go_enter func187,ntmps187
 go_wp2
 clear hw1
 go_loopw [5,6] (fun v i wr=>(∃ k:Nat,k<=nd.held.length/\i=.int .i64 k/\wr.ownsRow w1.heap.size 42 5 v ((nd.held.take k).filter fun m=>decide (m.st<=far)).length (flat ((nd.held.take k).filter fun m=>decide (m.st<=far))))/\Since w1 wr) (fun _ i _=>nd.held.length - (intOf i).toNat)
 case atStart=>exact ⟨⟨0,by omega,rfl,World.ownsRow_nil _ _ _ _⟩,Since.refl _⟩
 case round =>
  obtain ⟨⟨k,hk,rfl,hown⟩,hS⟩:=hrel
  obtain ⟨va,ND,rfl,hvc⟩:=ownsRow_form hown
  obtain ⟨f0,f1,f2,f3⟩:=RF.out _ hS
  by_cases hlt:k < nd.held.length
  ·obtain ⟨b,off,rfl,hb,hcell⟩:=hHc (by omega)
   obtain ⟨m,hm⟩:∃ m,nd.held[k]? = some m:=⟨_,zQ1 hlt⟩
   have hS0:=hS1.trans hS
   obtain ⟨d0,d1,d2,d3,d4⟩:=bJ (w:=wr) (fun i u hi=>(hS0.cellAt hb _).trans (hcell i u hi)) k m hm
   have HM:Hid (nd.held[k]? = some m):=hm
   obtain ⟨L,hL⟩:∃ L,((nd.held.take k).filter fun m=>decide (m.st<=far))=L:=⟨_,rfl⟩
   have hLk:L.length<=k:=by rw [<-hL];exact xS _ _ _
   rw [hL] at hown hvc ⊢
   have HL:Hid (((nd.held.take k).filter fun m=>decide (m.st<=far))=L):=hL
   obtain ⟨w2,hw2⟩:∃ w2,wr.alloc (.cells #[.int .i64 m.fr,.int .i64 m.gr,.int .i64 m.st,.bool m.nul,.string m.body] 42)=w2:=⟨_,rfl⟩
   have hS2:=au hw2
   have hsz2:wr.heap.size < w2.heap.size:=by rw [<-hw2];simp
   have q2:w2.cell? ⟨wr.heap.size,2,none⟩=some (.int .i64 m.st):=by rw [<-hw2];simp [go_sem]
   have hQ:bH w2 wr.heap.size 0 m:=by rw [<-hw2];constructor <;> simp [go_sem]
   have hne:Nonempty (Later w2):=⟨⟨w2,Since.refl w2⟩⟩
   have gm:∀ (y:Later w2) (o:Nat),y.w.cell? ⟨wr.heap.size,o,none⟩=w2.cell? ⟨wr.heap.size,o,none⟩:=fun y o=>y.cell hsz2
   have gw:∀ (y:Later w2) (o:Nat),y.w.cell? ⟨w.heap.size,o,none⟩=w1.cell? ⟨w.heap.size,o,none⟩:=fun y o=>Later.old (hS.trans hS2) y o (by omega)
   have hW2:=hW1.since (hS.trans hS2)
   have hown2:=gG hS2 hown
   clear hm hcell hHc hL hown
   cases h6:decide (m.st<=far)
   ·have HF:Hid (((nd.held.take (k+1)).filter fun m=>decide (m.st<=far))=L):=by
     unfold Hid;rw [List.take_add_one,HM.out,List.filter_append,HL.out];simp [h6]
    go_wp2_with fail
    refine ak (by kernel_rfl) (by kernel_rfl) (Since.refl w2) ?_
    repeat (go_big_quiet_step ((go_at_call 218;exact Later.call (yZ w2 ⟨ga,gl,gc,_,d.nodes.length,nc,wa,wl,wc⟩ d n nd _ QB.out hW2 hn hL0))))
    refine wpQuiet_nil ?_
    intro w9 hS9
    go_wp2
    go_roundw
    case rel=>exact ⟨⟨k+1,by omega,by go_num,by rw [HF.out];exact gG hS9 hown2⟩,hS.trans (hS2.trans hS9)⟩
    case measure=>simp [intOf];omega
   ·have HF:Hid (((nd.held.take (k+1)).filter fun m=>decide (m.st<=far))=L++[m]):=by
     unfold Hid;rw [List.take_add_one,HM.out,List.filter_append,HL.out];simp [h6]
    go_wp2_with fail
    refine ak (by kernel_rfl) (by kernel_rfl) (Since.refl w2) ?_
    repeat (go_big_quiet_step ((go_at_call 218;exact Later.call (yZ w2 ⟨ga,gl,gc,_,d.nodes.length,nc,wa,wl,wc⟩ d n nd _ QB.out hW2 hn hL0))))
    refine wpQuiet_nil ?_
    intro w9 hS9
    have lu:=gG hS9 hown2
    have AO:Since w1 w9:=hS.trans (hS2.trans hS9)
    obtain ⟨g0,g1,g2,g3,g4⟩:=hQ
    have p0:w9.cell? ⟨wr.heap.size,0,none⟩=some (.int .i64 m.fr):=(hS9.cellAt hsz2 _).trans g0
    have p1:w9.cell? ⟨wr.heap.size,1,none⟩=some (.int .i64 m.gr):=(hS9.cellAt hsz2 _).trans g1
    have p2:w9.cell? ⟨wr.heap.size,2,none⟩=some (.int .i64 m.st):=(hS9.cellAt hsz2 _).trans g2
    have p3:w9.cell? ⟨wr.heap.size,3,none⟩=some (.bool m.nul):=(hS9.cellAt hsz2 _).trans g3
    have p4:w9.cell? ⟨wr.heap.size,4,none⟩=some (.string m.body):=(hS9.cellAt hsz2 _).trans g4
    clear g0 g1 g2 g3 g4 gm gw hown2 hw2 d0 d1 d2 d3 d4 q2
    go_wp2_with (at_builtin;refine wpList_append_own _ rfl _ _ 39 rfl w1.heap.size 42 i0 (.agg #[.int .i64 0,.int .i64 0,.int .i64 0,.bool false,.string ByteArray.empty]) 5 48 underlying39 hi hz0 hz1 hz2 rfl (by decide) _ _ _ rfl (lu.alloc _) ⟨w9.heap.size,0,none⟩ 1 1 m.cells rfl rfl (iH _ _ _) (fun u hu=>bZ u [m] (by simpa [flat] using hu)) (by unfold maxLen;omega) (by omega) (by have:=AO.size;simp;omega) ?_;intro v3 w12 hown3 kI _;have dw:Since w1 w12:=(AO.alloc _).grown kI (aW lu))
    go_roundw
    case rel=>exact ⟨⟨k+1,by omega,by go_num,by rw [HF.out,List.length_append,bT];simpa [flat] using hown3⟩,by assumption⟩
    case measure=>simp [intOf];omega
  ·obtain rfl:k=nd.held.length:=by omega
   rw [List.take_of_length_le (Nat.le_refl _)] at hown
   have hown':wr.ownsRow w1.heap.size 42 5 (.slice va ((nd.held.take nd.held.length).filter fun m=>decide (m.st<=far)).length ND) (bW d n nd).length (flat (bW d n nd)):=by
    rw [HRL.out];rw [List.take_of_length_le (Nat.le_refl _)];exact hown
   go_wp2
   go_ret
   exact ⟨_,rfl,kJ (by omega) hown',hS1.trans hS⟩
end Go.Proofs.YtiiifecfdkjmbaaGreat
set_option maxHeartbeats 2000000
namespace Go.Proofs.YtiiifecfdkjmbaaGreat
open _root_.Go.Proofs.Tryz
set_option maxRecDepth 8000
open Go.RowKit Go.Shelf
attribute [local go_sem] Oper.semAt_some
theorem EJ {xs:List Int} {n:Int} {k:Nat} (hk:k < xs.length) (h:hasB xs k n=true):hits xs [n] (k+1)=hits xs [n] k++[k]:=by
 rw [Eh xs n k hk] at h
 exact ze (by simpa using h)
theorem J7 {xs:List Int} {n:Int} {k:Nat} (hk:k < xs.length) (h:hasB xs k n=false):hits xs [n] (k+1)=hits xs [n] k:=by
 rw [Eh xs n k hk] at h
 exact CJ (by simpa using h)
theorem EK (xs:List Int) (n:Int):∀ (r G0 a:Nat),G0+r=xs.length->(hits xs [n] G0).length=a->a < (hits xs [n] xs.length).length ->
  ∃ g,(hits xs [n] xs.length)[a]? = some g/\G0<=g/\g < xs.length/\hasB xs g n=true/\(∀ g',G0<=g'->g' < g->hasB xs g' n=false)/\(hits xs [n] (g+1)).length=a+1
 | 0,G0,a,h1,h2,h3=>by
  obtain rfl:G0=xs.length:=by omega
  omega
 | r+1,G0,a,h1,h2,h3=>by
  have hG:G0 < xs.length:=by omega
  cases hb:hasB xs G0 n
  ·have e:=J7 hG hb
   obtain ⟨g,p1,p2,p3,p4,p5,p6⟩:=EK xs n r (G0+1) a (by omega) (by rw [e];exact h2) h3
   refine ⟨g,p1,by omega,p3,p4,fun g' q1 q2=>?_,p6⟩
   by_cases c:g'=G0
   ·rw [c];exact hb
   ·exact p5 g' (by omega) q2
  ·have e:=EJ hG hb
   refine ⟨G0, ?_,Nat.le_refl _,hG,hb,fun g' q1 q2=>by omega,by rw [e,List.length_append];simp [h2]⟩
   obtain ⟨t,ht⟩:=nO xs [n] (G0+1) xs.length (by omega)
   rw [<-ht,e,List.getElem?_append_left (by simp;omega),List.getElem?_append_right (by omega),h2]
   simp
theorem Pv (xs:List Int) (n:Int) (G0:Nat) (h:(hits xs [n] G0).length=(hits xs [n] xs.length).length) (g:Nat) (h1:G0<=g) (h2:g < xs.length):hasB xs g n=false:=by
 cases hb:hasB xs g n
 ·rfl
 ·have e:=EJ h2 hb
  have p1:=(nO xs [n] (g+1) xs.length (by omega)).length_le
  have p2:=(nO xs [n] G0 g h1).length_le
  rw [e,List.length_append] at p1
  simp at p1
  omega
theorem GJ {J:Nat->World->Prop} {d:Wd} {n:Nat} {W:World} (hsk:∀ i A,J i A->i < d.groups.length*d.nodes.length->(∃ p,(pairs d.groups.length d.nodes.length)[i]? = some p/\kF d n p=false)->J (i+1) A)
  (g:Nat) (hg:g < d.groups.length) (hb:hasB d.groups g n=false) (h:J (g*d.nodes.length) W):J ((g+1)*d.nodes.length) W:=by
 have:∀ k,k<=d.nodes.length->J (g*d.nodes.length+k) W:=by
  intro k
  induction k with
  | zero=>exact fun _=>h
  | succ k ih =>
   intro hk
   have hp:=kH hg (show k < d.nodes.length by omega)
   exact hsk _ _ (ih (by omega)) (by have:=(zQ2.1 hp).1;rwa [j6] at this) ⟨_,hp,by unfold kF;rw [hb];simp⟩
 rw [Nat.succ_mul];exact this _ (Nat.le_refl _)
theorem qR {J:Nat->World->Prop} {d:Wd} {n:Nat} {W:World} (hsk:∀ i A,J i A->i < d.groups.length*d.nodes.length->(∃ p,(pairs d.groups.length d.nodes.length)[i]? = some p/\kF d n p=false)->J (i+1) A)
  (G0:Nat):∀ (r:Nat),G0+r<=d.groups.length->(∀ g',G0<=g'->g' < G0+r->hasB d.groups g' n=false)->J (G0*d.nodes.length) W->J ((G0+r)*d.nodes.length) W
 | 0,_,_,h=>h
 | r+1,hr,hm,h=>by
  have:=qR hsk G0 r (by omega) (fun g' a b=>hm g' a (by omega)) h
  exact GJ hsk (G0+r) (by omega) (hm _ (by omega) (by omega)) this
set_option maxRecDepth 100000 in
theorem Gq (m:Nat) (Bj X:Nat) (w00 w:World) (hS0:Since w00 w) (hBX:Bj≠X) (hXw:X < w.heap.size) (ga:Option Addr) (gc:Nat) (na:Option Addr) (nc:Nat) (d:Wd) (n:Nat)
  (hG:Ints w00 ga d.groups.length d.groups) (hnm:d.nodes.length<=17592186043904)
  (c0:w.cell? ⟨Bj,0,none⟩=some (.slice ga d.groups.length gc)) (c1:w.cell? ⟨Bj,1,none⟩=some (.slice na d.nodes.length nc)) (c3:w.cell? ⟨Bj,3,none⟩=some (.int .i64 n)) :
  JU prog m 207 #[.pointer (some ⟨Bj,0,none⟩)] (fun p:Nat × Nat=>#[.int .i64 (p.1:Int),.int .i64 (p.2:Int)]) (KX w00.heap.size (some X))
   (fun i p=>(pairs d.groups.length d.nodes.length)[i]? = some p/\kF d n p=true) (fun i=>∃ p,(pairs d.groups.length d.nodes.length)[i]? = some p/\kF d n p=false) (d.groups.length*d.nodes.length) w:=by
 intro l J Jp W hW hJ hsk hY h0
 have hgm:=hG.hmax
 have hBlt:Bj < w.heap.size:=by
  unfold World.cell? at c0
  split at c0
  ·rename_i hb;exact (zQ3.1 hb).1
  ·cases c0
 have C:∀ W',KX w00.heap.size (some X) W W'->Since w00 W'/\W'.cell? ⟨Bj,0,none⟩=some (.slice ga d.groups.length gc)/\W'.cell? ⟨Bj,1,none⟩=some (.slice na d.nodes.length nc)/\W'.cell? ⟨Bj,3,none⟩=some (.int .i64 n):=fun W' h =>
  ⟨⟨(hS0.trans hW).below.trans h.below⟩,h.cell ((hW.cellAt hBlt _).trans c0) (by simpa using hBX),h.cell ((hW.cellAt hBlt _).trans c1) (by simpa using hBX),h.cell ((hW.cellAt hBlt _).trans c3) (by simpa using hBX)⟩
 obtain ⟨hSW,d0,d1,d3⟩:=C W (KX.refl _ _ _)
 have hIW:=hG.since hSW
 refine callsIn_of_wp func207 rfl trivial ?_ rfl
 simp only [ntmps207,List.size_toArray,List.length_cons,List.length_nil,Nat.reduceAdd,Nat.reduceSub,Array.replicate_succ,Array.replicate_zero,List.push_toArray,List.append_toArray,List.nil_append,List.cons_append]
 obtain ⟨H,hH⟩:∃ H,hits d.groups [(n:Int)] d.groups.length=H:=⟨_,rfl⟩
 have hHl:H.length<=d.groups.length:=by rw [<-hH];exact CB _ _ _
 have HH:Hid (hits d.groups [(n:Int)] d.groups.length=H):=hH
 gi_wp2_with (refine ⟨trivial,fun h=>(by cases h), ?_⟩;gi_at_call 103;refine (callsIn_wide.2 (LJ _ _ _ d.groups _ _ hIW)).mono ?_;rw [hH];rintro e W0 ⟨v,rfl,hown,hbel⟩;obtain ⟨ra,QO,rfl,hR⟩:=xU hown (by omega))
 have yN:Since W W0:=⟨hbel⟩
 have hk0:KX w00.heap.size (some X) W W0:=KX.dD yN hSW.size
 have hJ0:=hJ _ _ _ h0 yN
 have hRc:=hR.cells
 have hge:∀ b off,ra=some ⟨b,off,none⟩->some b≠some X:=by
  intro b off e
  have:=aW hown b (by rw [e];rfl)
  have:=hW.size
  simp;omega
 clear hown hbel hH h0
 gi_loopw [13] (fun i wr=>∃ a G0:Nat,a<=H.length/\i=.int .i64 a/\G0<=d.groups.length/\(hits d.groups [(n:Int)] G0).length=a/\J (G0*d.nodes.length) wr/\KX w00.heap.size (some X) W0 wr) (fun i _=>H.length - (intOf i).toNat)
 case atStart=>exact ⟨0,0,Nat.zero_le _,rfl,Nat.zero_le _,rfl,by rw [Nat.zero_mul];exact hJ0,KX.refl _ _ _⟩
 case round =>
  obtain ⟨a,G0,ha,rfl,hG0,hla,hJa,hka⟩:=hrel
  obtain ⟨hSr,f0,f1,f3⟩:=C wr (hk0.trans hka)
  by_cases hlt:a < H.length
  ·obtain ⟨g,p1,p2,p3,p4,p5,p6⟩:=EK d.groups n (d.groups.length - G0) G0 a (by omega) hla (by rw [HH.out];exact hlt)
   have hJg:J (g*d.nodes.length) wr:=by
    have:=qR hsk G0 (g - G0) (by omega) (fun g' q1 q2=>p5 g' q1 (by omega)) hJa
    rwa [show G0+(g - G0)=g by omega] at this
   obtain ⟨b,off,rfl,hb,hcell⟩:=hRc (by omega)
   have hca:wr.cell? ⟨b,off+a,none⟩=some (.int .i64 (g:Int)):=by
    refine hka.cell ((hcell a hlt).trans ?_) (hge b off rfl)
    rw [HH.out] at p1
    rw [List.getElem?_map,p1];rfl
   have HL6:Hid ((hits d.groups [(n:Int)] (g+1)).length=a+1):=p6
   clear hcell hRc hla p1 p2 p5 p6 hJa hG0
   gi_wp2
   gi_loopw [21] (fun i wr=>∃ k:Nat,k<=d.nodes.length/\i=.int .i64 k/\J (g*d.nodes.length+k) wr/\KX w00.heap.size (some X) W0 wr) (fun i _=>d.nodes.length - (intOf i).toNat)
   case atStart=>exact ⟨0,Nat.zero_le _,rfl,hJg,hka⟩
   case round =>
    clear f0 f1 f3 hSr hca hka hJg
    obtain ⟨k,hk,rfl,hJk,hkk⟩:=hrel
    obtain ⟨hSr,f0,f1,f3⟩:=C wr (hk0.trans hkk)
    by_cases hkl:k < d.nodes.length
    ·have hp:=kH p3 hkl
     have hpl:g*d.nodes.length+k < d.groups.length*d.nodes.length:=by have:=(zQ2.1 hp).1;rwa [j6] at this
     have hIr:=hG.since hSr
     have HO:Hid (kF d n (g,k)=(((k:Int) != (n:Int)) && hasB d.groups g k)):=by unfold Hid kF;dsimp only;rw [p4];simp
     cases h1:((k:Int) != (n:Int))
     ·have hJn:J (g*d.nodes.length+(k+1)) wr:=hsk _ _ hJk hpl ⟨_,hp,by rw [HO.out,h1];rfl⟩
      clear hY
      gi_wp2
      refine ⟨trivial, ?_⟩
      gi_wp2
      refine ⟨fun _ h=>(by cases h), ?_⟩
      gi_wp2
      go_roundw
      case rel=>exact ⟨k+1,by omega,by simp,hJn,hkk⟩
      case measure=>simp [intOf];omega
     cases h2:hasB d.groups g k
     ·have hJn:J (g*d.nodes.length+(k+1)) wr:=hsk _ _ hJk hpl ⟨_,hp,by rw [HO.out,h2];simp⟩
      clear hY
      gi_wp2_with (first
       | (refine ⟨trivial,fun h=>(by cases h), ?_⟩;gi_at_call 50;refine (callsIn_wide.2 (gQ _ _ _ d.groups _ _ _ hIr)).mono ?_;rw [h2];rintro e w' ⟨rfl,hw⟩;obtain rfl:=hw.symm))
      refine ⟨fun _ h=>(by cases h), ?_⟩
      gi_wp2
      go_roundw
      case rel=>exact ⟨k+1,by omega,by simp,hJn,hkk⟩
      case measure=>simp [intOf];omega
     ·obtain ⟨fn,tmps,assign,body,hy,hRn⟩:=hY _ (g,k) wr hJk hpl ⟨hp,by rw [HO.out,h1,h2];rfl⟩
      clear hY
      gi_wp2_with (first
       | (refine ⟨trivial,fun h=>(by cases h), ?_⟩;gi_at_call 50;refine (callsIn_wide.2 (gQ _ _ _ d.groups _ _ _ hIr)).mono ?_;rw [h2];rintro e w' ⟨rfl,hw⟩;obtain rfl:=hw.symm))
      refine ⟨fun h=>(by cases h), ?_⟩
      refine hRn.mono ?_
      rintro e W3 (⟨rfl,hJ3,hk3⟩ | ⟨ch,rfl,hp3⟩)
      ·gi_wp2
       go_roundw
       case rel=>exact ⟨k+1,by omega,by simp,hJ3,hkk.trans hk3⟩
       case measure=>simp [intOf];omega
      ·exact ⟨rfl,.inr ⟨ch,rfl,hp3⟩⟩
    ·obtain rfl:k=d.nodes.length:=by omega
     gi_wp2
     go_roundw
     case rel=>exact ⟨a+1,g+1,by omega,by simp,by omega,HL6.out,by rw [Nat.succ_mul];exact hJk,hkk⟩
     case measure=>simp [intOf];omega
  ·have hJe:J (d.groups.length*d.nodes.length) wr:=by
    have hh:(hits d.groups [(n:Int)] G0).length=(hits d.groups [(n:Int)] d.groups.length).length:=by rw [HH.out];omega
    have:=qR hsk G0 (d.groups.length - G0) (by omega) (fun g' q1 q2=>Pv d.groups n G0 hh g' q1 (by omega)) hJa
    rwa [show G0+(d.groups.length - G0)=d.groups.length by omega] at this
   gi_wp2
   go_end0
   exact .inl ⟨_,rfl,hJe⟩
end Go.Proofs.YtiiifecfdkjmbaaGreat
set_option maxHeartbeats 2000000
namespace Go.Proofs.YtiiifecfdkjmbaaGreat
open _root_.Go.Proofs.Tryz
set_option maxRecDepth 8000
open Go.RowKit Go.Shelf
attribute [local go_sem] Oper.semAt_some
theorem Gp (x:WV) (n:Int) (w:World) :
  Calls prog 172 #[.agg #[.slice x.ga x.gl x.gc,.slice x.na x.nl x.nc,.slice x.wa x.wl x.wc,.int .i64 n]] w fun e w'=>e=.returned (.func (.func 207) #[] #[.pointer (some ⟨w.heap.size,0,none⟩)])/\w'=w.alloc (.cells #[.slice x.ga x.gl x.gc,.slice x.na x.nl x.nc,.slice x.wa x.wl x.wc,.int .i64 n] 130):=by
 go_enter func172,ntmps172
 go_wp2
 go_ret
 exact ⟨rfl,rfl⟩
theorem KX.same {n:Nat} {X:Option Nat} {A B:World} (h:KX n X A B) {p:Addr} {v:Value} (hc:A.cell? p=some v) (hX:some p.block≠X):B.heap[p.block]? = A.heap[p.block]?:=by
 have:∃ o,A.heap[p.block]? = some o/\o.isCells=true:=by
  unfold World.cell? at hc
  split at hc
  ·rename_i c e z hb;exact ⟨_,hb,rfl⟩
  ·cases hc
 obtain ⟨o,ho,hoc⟩:=this
 exact (h.cells _ _ ho hoc hX).trans ho.symm
set_option maxRecDepth 8000 in
theorem NH (x:WV) (d:Wd) (n:Nat) (nd:Nd) (w:World) (hW:WAt w x d) (hn:d.nodes[n]? = some nd) (hL0:jZ d nd) :
  Calls prog 118 #[.agg #[.slice x.ga x.gl x.gc,.slice x.na x.nl x.nc,.slice x.wa x.wl x.wc,.int .i64 n]] w fun e w'=>e=.returned (.int .i64 (sV d n nd))/\Since w w':=by
 have hnl:=(zQ2.1 hn).1
 obtain ⟨ga,gl,gc,na,nl,nc,wa,wl,wc⟩:=x
 have oz:=hW.n.hlen
 have hnm:=hW.n.hmax
 have hgl:=hW.g.hlen
 have hgm:=hW.g.hmax
 have hGw:=hW.g
 dsimp only at oz hnm hgl hgm hGw ⊢
 subst oz hgl
 obtain ⟨bn,on,rfl,hbn,hcn⟩:=hW.n.cells (by dsimp only;omega)
 obtain ⟨k0,⟨v1,k1,la,lc,rfl,hlc,hL⟩,⟨v2,k2,ha,hc,rfl,hhc,hH⟩,⟨v3,k3,ta,tc,rfl,htc,hT⟩⟩:=hcn n nd hn
 obtain ⟨w1,hw1⟩:∃ w1,((w.alloc (.cells #[.slice ga d.groups.length gc,.slice (some ⟨bn,on,none⟩) d.nodes.length nc,.slice wa wl wc,.int .i64 n] 130)).alloc (.cells #[.int .i64 nd.clock,.slice la nd.last.length lc,.slice ha nd.held.length hc,.slice ta nd.told.length tc] 45)).alloc (.cells #[.int .i64 nd.clock] 3)=w1:=⟨_,rfl⟩
 have hS1:Since w w1:=by rw [<-hw1];exact (((Since.refl w).alloc _).alloc _).alloc _
 have hsz:w.heap.size+2 < w1.heap.size:=by rw [<-hw1];simp
 have b0:w1.cell? ⟨w.heap.size,0,none⟩=some (.slice ga d.groups.length gc):=by rw [<-hw1];simp [go_sem]
 have b1:w1.cell? ⟨w.heap.size,1,none⟩=some (.slice (some ⟨bn,on,none⟩) d.nodes.length nc):=by rw [<-hw1];simp [go_sem]
 have b2:w1.cell? ⟨w.heap.size,2,none⟩=some (.slice wa wl wc):=by rw [<-hw1];simp [go_sem]
 have b3:w1.cell? ⟨w.heap.size,3,none⟩=some (.int .i64 n):=by rw [<-hw1];simp [go_sem]
 have b4:w1.cell? ⟨w.heap.size+1,1,none⟩=some (.slice la nd.last.length lc):=by rw [<-hw1];simp [go_sem]
 have b5:w1.cell? ⟨w.heap.size+2,0,none⟩=some (.int .i64 nd.clock):=by rw [<-hw1];simp [go_sem]
 have b6:w1.frozen? ⟨w.heap.size+2,0,none⟩=false:=by rw [<-hw1];simp [go_sem]
 have n1:(n:Int) < (d.nodes.length:Int):=by omega
 clear hcn
 refine iF func118 rfl ?_
 simp only [ntmps118,List.size_toArray,List.length_cons,List.length_nil,Nat.reduceAdd,Nat.reduceSub,Array.replicate_succ,Array.replicate_zero,List.push_toArray,List.append_toArray,List.nil_append,List.cons_append]
 refine dK (bE ?_)
 go_wp2
 refine dK (bE ?_)
 go_wp2
 refine dK (bE ?_)
 go_wp2
 refine dK (dK (bE ?_))
 go_wp2_with (go_at_call 172;refine (Gp ⟨ga,d.groups.length,gc,_,d.nodes.length,nc,wa,wl,wc⟩ n _).mono ?_;rintro e w' ⟨rfl,rfl⟩)
 refine mO ?_
 obtain ⟨w5,hw5⟩:∃ w5,w1.alloc (.cells #[.slice ga d.groups.length gc,.slice (some ⟨bn,on,none⟩) d.nodes.length nc,.slice wa wl wc,.int .i64 n] 130)=w5:=⟨_,rfl⟩
 have vG:=au hw5
 have hS5:=hS1.trans vG
 have z0:w5.cell? ⟨w1.heap.size,0,none⟩=some (.slice ga d.groups.length gc):=by rw [<-hw5];simp [go_sem]
 have z1:w5.cell? ⟨w1.heap.size,1,none⟩=some (.slice (some ⟨bn,on,none⟩) d.nodes.length nc):=by rw [<-hw5];simp [go_sem]
 have z3:w5.cell? ⟨w1.heap.size,3,none⟩=some (.int .i64 n):=by rw [<-hw5];simp [go_sem]
 have y4:w5.cell? ⟨w.heap.size+1,1,none⟩=some (.slice la nd.last.length lc):=(vG.cellAt (by omega) _).trans b4
 have y5:w5.cell? ⟨w.heap.size+2,0,none⟩=some (.int .i64 nd.clock):=(vG.cellAt (by omega) _).trans b5
 have y6:w5.frozen? ⟨w.heap.size+2,0,none⟩=false:=(vG.below.frozen (p:=⟨w.heap.size+2,0,none⟩) (by show w.heap.size+2 < _;omega)).trans b6
 rw [hw5]
 clear hw5 hw1
 refine wX (m:=1) func118 (gf:=207) (lb:=#[.pointer (some ⟨w1.heap.size,0,none⟩)]) rfl (enters_of func207 (by kernel_rfl) rfl) hS5.size
  (Gq 1 w1.heap.size (w.heap.size+2) w w5 hS5 (by omega) (by have:=vG.size;omega) ga gc _ nc d n hGw (by omega) z0 z1 z3) (fun _=>rfl)
  (fun i W=>Since w W/\W.cell? ⟨w.heap.size+2,0,none⟩=some (.int .i64 (jM d n nd i))/\W.frozen? ⟨w.heap.size+2,0,none⟩=false/\W.cell? ⟨w.heap.size+1,1,none⟩=some (.slice la nd.last.length lc))
  (fun _ _=>False)
  (fun i A B hA hk=>⟨⟨hA.1.below.trans (hk.below.mono hS5.size)⟩,hk.cell hA.2.1 (by simp),(World.frozen?_of_block (w:=A) (hk.same hA.2.1 (by simp))).trans hA.2.2.1,hk.cell hA.2.2.2 (by simp)⟩)
  (fun i A hA hi hs=>by
   obtain ⟨p,hp,ho⟩:=hs
   refine ⟨hA.1, ?_,hA.2.2⟩
   rw [uo hp];unfold nN;rw [ho];exact hA.2.1)
  ⟨hS5,by rw [y5];simp [jM],y6,y4⟩ ?round ?done ?pan
 case pan =>
  rintro D ch W hD h hK
  exact h.elim
 case done =>
  rintro D W hD ⟨hSW,hc1,hf1,-⟩ hK
  have HF:Hid (jM d n nd (d.groups.length*d.nodes.length)=sV d n nd):=Bv d n nd
  refine bE ?_
  go_wp2
  refine ⟨by simp,.inl ⟨_,_,rfl,run_takeDeferred hK, ?_⟩⟩
  refine ⟨_,results_tmp rfl _ _ _,by rw [<-HF.out];rfl,⟨hSW.below.trans ((KX.put (X:=none) (.deferred none) hK rfl hD).below.mono hS5.size)⟩⟩
 case round =>
  rintro l i ⟨g,k⟩ W W' hsz' ⟨hSW,hc1,hf1,hc2⟩ hiN ⟨hx,ho⟩
  obtain ⟨hgl,hkl⟩:=Bz hx
  obtain ⟨row,hrow⟩:∃ row,nd.last[g]? = some row:=⟨_,zQ1 (by have:=hL0.len;omega)⟩
  have hrl:=hL0.rows g row hrow
  obtain ⟨v,hv⟩:∃ v,row[k]? = some v:=⟨_,zQ1 (by omega)⟩
  obtain ⟨bL,oL,rfl,hbL,hcL⟩:=hL.cells (by have:=hL0.len;omega)
  obtain ⟨v4,k4,ra,rc,rfl,hrc,hR⟩:=hcL g row hrow
  obtain ⟨bR,oR,rfl,hbR,hcR⟩:=hR.cells (by omega)
  have k5:W'.cell? ⟨bL,oL+g,none⟩=_:=(hSW.cellAt hbL _).trans k4
  have k6:W'.cell? ⟨bR,oR+k,none⟩=some (.int .i64 v):=(hSW.cellAt hbR _).trans (by have:=hcR k (by omega);rw [hv] at this;exact this)
  have g1:(g:Int) < (nd.last.length:Int):=by have:=hL0.len;omega
  have g2:(k:Int) < (row.length:Int):=by omega
  obtain ⟨acc,hacc⟩:∃ acc,jM d n nd i=acc:=⟨_,rfl⟩
  have HV:Hid (jM d n nd (i+1)=if v < acc then v else acc):=by
   unfold Hid
   rw [uo hx,hacc]
   unfold nN
   rw [ho]
   have:dU nd.last g k=v:=by unfold dU;rw [hrow,Option.getD_some,hv];rfl
   dsimp only
   rw [this];rfl
  rw [hacc] at hc1
  clear hcL hcR hrow hv hx ho k4 hacc hrl hR
  have NJ:NC W' ((W'.setCell ⟨w.heap.size+1+1,0,none⟩ (.int .i64 (if v < acc then v else acc))).drew)/\KX w.heap.size (some (w.heap.size+2)) W' ((W'.setCell ⟨w.heap.size+1+1,0,none⟩ (.int .i64 (if v < acc then v else acc))).drew) /\
    (Since w ((W'.setCell ⟨w.heap.size+1+1,0,none⟩ (.int .i64 (if v < acc then v else acc))).drew)/\((W'.setCell ⟨w.heap.size+1+1,0,none⟩ (.int .i64 (if v < acc then v else acc))).drew).cell? ⟨w.heap.size+2,0,none⟩=some (.int .i64 (jM d n nd (i+1)))
     /\ ((W'.setCell ⟨w.heap.size+1+1,0,none⟩ (.int .i64 (if v < acc then v else acc))).drew).frozen? ⟨w.heap.size+2,0,none⟩=false/\((W'.setCell ⟨w.heap.size+1+1,0,none⟩ (.int .i64 (if v < acc then v else acc))).drew).cell? ⟨w.heap.size+1,1,none⟩=some (.slice (some ⟨bL,oL,none⟩) nd.last.length lc)):=by
   rw [HV.out]
   obtain ⟨u,hu⟩:∃ u,(Value.int .i64 (if v < acc then v else acc))=u:=⟨_,rfl⟩
   rw [hu]
   have hob:∀ j,j≠w.heap.size+2->((W'.setCell ⟨w.heap.size+2,0,none⟩ u).drew).heap[j]? = W'.heap[j]?:=fun j hj=>Below.heap_setCell W' ⟨w.heap.size+2,0,none⟩ u j hj
   have hcl:∃ o,W'.heap[w.heap.size+2]? = some o/\o.isCells=true:=by
    have:=hc1
    unfold World.cell? at this
    split at this
    ·rename_i hb;exact ⟨_,hb,rfl⟩
    ·cases this
   obtain ⟨o,SN,hoc⟩:=hcl
   refine ⟨fun j o' hj ho'=>?_,⟨?_,fun j o' hj ho' hX=>?_⟩,⟨?_⟩, ?_, ?_, ?_⟩
   ·refine (hob j ?_).trans hj
    rintro rfl
    rw [SN] at hj;cases hj;rw [hoc] at ho';cases ho'
   ·exact (((Below.refl w.heap.size W').setCell (p:=⟨w.heap.size+2,0,none⟩) (by show w.heap.size<=w.heap.size+2;omega) u)).drew
   ·exact (hob j (by simpa using hX)).trans hj
   ·exact ((hSW.below.setCell (p:=⟨w.heap.size+2,0,none⟩) (by show w.heap.size<=w.heap.size+2;omega) u)).drew
   ·exact World.cell?_setCell_same' W' ⟨w.heap.size+2,0,none⟩ u (by rw [hc1];rfl)
   ·show (W'.setCell ⟨w.heap.size+2,0,none⟩ u).frozen? _=false
    rw [World.frozen?_setCell];exact hf1
   ·exact (World.cell?_of_block (w:=W') (hob (w.heap.size+1) (by omega))).trans hc2
  clear hW hn hL0 hL hH hT hS1 vG hS5 z0 z1 z3 y4 y5 y6 b0 b1 b2 b3 b4 b5 b6 n1 hGw k0 k1 k2 k3 hnl hnm hgm hlc hhc htc hbn hsz hiN hSW hbL hbR hrc HV hgl hkl
  gi_wp2
  refine ⟨trivial, ?_⟩
  gi_wp2
  gi_region
  all_goals exact NJ
end Go.Proofs.YtiiifecfdkjmbaaGreat
set_option maxHeartbeats 2000000
namespace Go.Proofs.YtiiifecfdkjmbaaGreat
open _root_.Go.Proofs.Tryz
set_option maxRecDepth 8000
open Go.RowKit Go.Shelf
theorem mG (w0 w:World) (x:WV) (d:Wd) (hW:WAt w x d) (h:Since w0 w) :
  Calls prog 39 #[.agg #[.slice x.ga x.gl x.gc,.slice x.na x.nl x.nc,.slice x.wa x.wl x.wc]] w fun e w'=>e=.returned (.int .i64 (aD d))/\Since w0 w' :=
 (kE x d w hW).mono fun _ _ ⟨he,hw⟩=>⟨he,h.trans hw⟩
theorem JG (n:Int) (N:Nat):inB n 0 ((N:Int) - 1)=(!(decide (n < 0)) && !(decide ((N:Int)<=n))):=by
 unfold inB;rw [Bool.eq_iff_iff];simp;omega
def AP (x:WV) (d:Wd) (n:Int):Value:=if aR d n=0 then .agg #[.slice x.ga x.gl x.gc,.slice x.na x.nl x.nc,.slice x.wa x.wl x.wc,.int .i64 n] else .agg #[.slice none 0 0,.slice none 0 0,.slice none 0 0,.int .i64 0]
theorem vE (y:World) (b:Nat) (tmps:Array Value) (v5 a0 a1 a2 a3 o0 o1 o2 o3:Value) (h4:tmps[4]? = some (.pointer (some ⟨b,0,none⟩))) (h5:tmps[5]? = some v5)
  (r0:y.cell? ⟨b,0,none⟩=some o0) (r1:y.cell? ⟨b,1,none⟩=some o1) (r2:y.cell? ⟨b,2,none⟩=some o2) (r3:y.cell? ⟨b,3,none⟩=some o3) :
  (results Tryz.f117 tmps).run prog ((((y.setCell ⟨b,0,none⟩ a0).setCell ⟨b,1,none⟩ a1).setCell ⟨b,2,none⟩ a2).setCell ⟨b,3,none⟩ a3)=.ok (.tuple #[.agg #[a0,a1,a2,a3],v5]) ((((y.setCell ⟨b,0,none⟩ a0).setCell ⟨b,1,none⟩ a1).setCell ⟨b,2,none⟩ a2).setCell ⟨b,3,none⟩ a3):=by
 obtain ⟨Y,hY⟩:∃ Y,(((y.setCell ⟨b,0,none⟩ a0).setCell ⟨b,1,none⟩ a1).setCell ⟨b,2,none⟩ a2).setCell ⟨b,3,none⟩ a3=Y:=⟨_,rfl⟩
 have c0:Y.cell? ⟨b,0,none⟩=some a0:=by rw [<-hY];simp [go_sem,r0]
 have c1:Y.cell? ⟨b,1,none⟩=some a1:=by rw [<-hY];simp [go_sem,r1]
 have c2:Y.cell? ⟨b,2,none⟩=some a2:=by rw [<-hY];simp [go_sem,r2]
 have c3:Y.cell? ⟨b,3,none⟩=some a3:=by rw [<-hY];simp [go_sem,r3]
 rw [hY]
 simp [results,Tryz.f117,go_sem,h4,h5,c0,c1,c2,c3]
set_option maxRecDepth 8000 in
theorem NG (x:WV) (d:Wd) (n:Int) (w:World) (hW:WAt w x d) :
  Calls prog 117 #[.agg #[.slice x.ga x.gl x.gc,.slice x.na x.nl x.nc,.slice x.wa x.wl x.wc],.int .i64 n] w fun e w'=>e=.returned (.tuple #[AP x d n,.int .i64 (aR d n)])/\Since w w':=by
 obtain ⟨ga,gl,gc,na,nl,nc,wa,wl,wc⟩:=x
 have hnl:=hW.n.hlen
 have hnm:=hW.n.hmax
 dsimp only at hnl hnm ⊢
 subst hnl
 obtain ⟨w1,hw1⟩:∃ w1,(w.alloc (.cells #[.slice ga gl gc,.slice na d.nodes.length nc,.slice wa wl wc] 26)).alloc (.cells #[.slice none 0 0,.slice none 0 0,.slice none 0 0,.int .i64 0] 130)=w1:=⟨_,rfl⟩
 have hS1:Since w w1:=by rw [<-hw1];exact ((Since.refl w).alloc _).alloc _
 have hsz:w.heap.size+1 < w1.heap.size:=by rw [<-hw1];simp
 have b0:w1.cell? ⟨w.heap.size,0,none⟩=some (.slice ga gl gc):=by rw [<-hw1];simp [go_sem]
 have b1:w1.cell? ⟨w.heap.size,1,none⟩=some (.slice na d.nodes.length nc):=by rw [<-hw1];simp [go_sem]
 have b2:w1.cell? ⟨w.heap.size,2,none⟩=some (.slice wa wl wc):=by rw [<-hw1];simp [go_sem]
 have q0:w1.cell? ⟨w.heap.size+1,0,none⟩=some (.slice none 0 0):=by rw [<-hw1];simp [go_sem]
 have q1:w1.cell? ⟨w.heap.size+1,1,none⟩=some (.slice none 0 0):=by rw [<-hw1];simp [go_sem]
 have q2:w1.cell? ⟨w.heap.size+1,2,none⟩=some (.slice none 0 0):=by rw [<-hw1];simp [go_sem]
 have q3:w1.cell? ⟨w.heap.size+1,3,none⟩=some (.int .i64 0):=by rw [<-hw1];simp [go_sem]
 have hf:∀ o:Nat,w1.frozen? ⟨w.heap.size+1,o,none⟩=false:=by intro o;rw [<-hw1];simp [go_sem]
 have hW1:=hW.since hS1
 have hSr:=Since.refl w1
 have RF:Hid (∀ y,Since w1 y->(y.cell? ⟨w.heap.size,0,none⟩=some (.slice ga gl gc)/\y.cell? ⟨w.heap.size,1,none⟩=some (.slice na d.nodes.length nc)/\y.cell? ⟨w.heap.size,2,none⟩=some (.slice wa wl wc))
   /\ (y.cell? ⟨w.heap.size+1,0,none⟩=some (.slice none 0 0)/\y.cell? ⟨w.heap.size+1,1,none⟩=some (.slice none 0 0)/\y.cell? ⟨w.heap.size+1,2,none⟩=some (.slice none 0 0)/\y.cell? ⟨w.heap.size+1,3,none⟩=some (.int .i64 0))
   /\ ∀ o:Nat,y.frozen? ⟨w.heap.size+1,o,none⟩=false):=fun y hy =>
  ⟨⟨(hy.cellAt (by omega) _).trans b0,(hy.cellAt (by omega) _).trans b1,(hy.cellAt (by omega) _).trans b2⟩,
   ⟨(hy.cellAt (by omega) _).trans q0,(hy.cellAt (by omega) _).trans q1,(hy.cellAt (by omega) _).trans q2,(hy.cellAt (by omega) _).trans q3⟩,
   fun o=>(hy.below.frozen (p:=⟨w.heap.size+1,o,none⟩) (by show w.heap.size+1 < _;omega)).trans (hf o)⟩
 have SET:Hid (∀ y a b c e,Since w1 y->Since w ((((y.setCell ⟨w.heap.size+1,0,none⟩ a).setCell ⟨w.heap.size+1,1,none⟩ b).setCell ⟨w.heap.size+1,2,none⟩ c).setCell ⟨w.heap.size+1,3,none⟩ e)):=fun y a b c e hy =>
  ⟨((((hS1.trans hy).below.setCell (p:=⟨w.heap.size+1,0,none⟩) (Nat.le_succ _) a).setCell (p:=⟨w.heap.size+1,1,none⟩) (Nat.le_succ _) b).setCell (p:=⟨w.heap.size+1,2,none⟩) (Nat.le_succ _) c).setCell (p:=⟨w.heap.size+1,3,none⟩) (Nat.le_succ _) e⟩
 cases h1:(aD d != 0)
 rotate_left
 ·have HE:Hid (¬ aR d n=0/\aR d n=aD d):=by
   have:¬ aD d=0:=by simpa using h1
   have e:aR d n=aD d:=by unfold aR;rw [if_neg this]
   exact ⟨by rw [e];exact this,e⟩
  go_enter func117,ntmps117
  go_wp2_with (go_at_call 39;refine (mG w1 _ ⟨ga,gl,gc,na,d.nodes.length,nc,wa,wl,wc⟩ d hW1 hSr).mono ?_;rintro e w2 ⟨rfl,hS2⟩;obtain ⟨⟨f0,f1,f2⟩,⟨r0,r1,r2,r3⟩,rf⟩:=RF.out _ hS2)
  refine bodyPost_ret (vE _ _ _ (.int .i64 (aD d)) _ _ _ _ _ _ _ _ rfl rfl r0 r1 r2 r3) rfl ⟨?_,SET.out _ _ _ _ _ (by assumption)⟩
  unfold AP;rw [if_neg HE.out.1,HE.out.2]
 have h0:aD d=0:=by simpa using h1
 have HR:Hid (inB n 0 ((d.nodes.length:Int) - 1)=(!(decide (n < 0)) && !(decide ((d.nodes.length:Int)<=n)))):=JG n _
 have HE:Hid (aR d n=if inB n 0 ((d.nodes.length:Int) - 1) then 0 else 4):=by unfold Hid aR;rw [if_pos h0]
 clear h0
 cases h2:decide (n < 0)
 rotate_left
 ·have HB:Hid (aR d n=4):=by unfold Hid;rw [HE.out,HR.out,h2];rfl
  go_enter func117,ntmps117
  go_wp2_with (go_at_call 39;refine (mG w1 _ ⟨ga,gl,gc,na,d.nodes.length,nc,wa,wl,wc⟩ d hW1 hSr).mono ?_;rintro e w2 ⟨rfl,hS2⟩;obtain ⟨⟨f0,f1,f2⟩,⟨r0,r1,r2,r3⟩,rf⟩:=RF.out _ hS2)
  refine bodyPost_ret (vE _ _ _ (.int .i64 4) _ _ _ _ _ _ _ _ rfl rfl r0 r1 r2 r3) rfl ⟨?_,SET.out _ _ _ _ _ (by assumption)⟩
  unfold AP;rw [HB.out];rfl
 cases h3:decide ((d.nodes.length:Int)<=n)
 rotate_left
 ·have HB:Hid (aR d n=4):=by unfold Hid;rw [HE.out,HR.out,h3];simp
  go_enter func117,ntmps117
  go_wp2_with (go_at_call 39;refine (mG w1 _ ⟨ga,gl,gc,na,d.nodes.length,nc,wa,wl,wc⟩ d hW1 hSr).mono ?_;rintro e w2 ⟨rfl,hS2⟩;obtain ⟨⟨f0,f1,f2⟩,⟨r0,r1,r2,r3⟩,rf⟩:=RF.out _ hS2)
  refine bodyPost_ret (vE _ _ _ (.int .i64 4) _ _ _ _ _ _ _ _ rfl rfl r0 r1 r2 r3) rfl ⟨?_,SET.out _ _ _ _ _ (by assumption)⟩
  unfold AP;rw [HB.out];rfl
 ·have HB:Hid (aR d n=0):=by unfold Hid;rw [HE.out,HR.out,h2,h3];rfl
  go_enter func117,ntmps117
  go_wp2_with (go_at_call 39;refine (mG w1 _ ⟨ga,gl,gc,na,d.nodes.length,nc,wa,wl,wc⟩ d hW1 hSr).mono ?_;rintro e w2 ⟨rfl,hS2⟩;obtain ⟨⟨f0,f1,f2⟩,⟨r0,r1,r2,r3⟩,rf⟩:=RF.out _ hS2)
  refine bodyPost_ret (vE _ _ _ (.int .i64 0) _ _ _ _ _ _ _ _ rfl rfl r0 r1 r2 r3) rfl ⟨?_,SET.out _ _ _ _ _ (by assumption)⟩
  unfold AP;rw [HB.out];rfl
theorem OB (w0 w:World) (x:WV) (d:Wd) (n:Int) (v:Value) (e0:Int) (hv:AP x d n=v) (he:aR d n=e0) (hW:WAt w x d) (h:Since w0 w) :
  Calls prog 117 #[.agg #[.slice x.ga x.gl x.gc,.slice x.na x.nl x.nc,.slice x.wa x.wl x.wc],.int .i64 n] w fun e w'=>e=.returned (.tuple #[v,.int .i64 e0])/\Since w0 w' :=
 (NG x d n w hW).mono fun _ _ ⟨e1,hw⟩=>⟨by rw [<-hv,<-he];exact e1,h.trans hw⟩
theorem QC (w0 w:World) (x:WV) (d:Wd) (n:Nat) (nd:Nd) (hW:WAt w x d) (hn:d.nodes[n]? = some nd) (hL0:jZ d nd) (h:Since w0 w) :
  Calls prog 118 #[.agg #[.slice x.ga x.gl x.gc,.slice x.na x.nl x.nc,.slice x.wa x.wl x.wc,.int .i64 n]] w fun e w'=>e=.returned (.int .i64 (sV d n nd))/\Since w0 w' :=
 (NH x d n nd w hW hn hL0).mono fun _ _ ⟨he,hw⟩=>⟨he,h.trans hw⟩
set_option maxRecDepth 8000 in
theorem JH (x:WV) (d:Wd) (n:Nat) (nd:Nd) (w:World) (hW:WAt w x d) (hn:d.nodes[n]? = some nd) (hL0:jZ d nd) (hsh:nd.held.length<=40) :
  Calls prog 171 #[.agg #[.slice x.ga x.gl x.gc,.slice x.na x.nl x.nc,.slice x.wa x.wl x.wc,.int .i64 n]] w fun e w'=>∃ v,e=.returned v/\w'.ownsRow w.heap.size 42 5 v (bW d n nd).length (flat (bW d n nd))/\Since w w':=by
 obtain ⟨i0,hi,hz0,hz1,hz2⟩:=info_parts Tryz.sI
 have hnl:=(zQ2.1 hn).1
 obtain ⟨ga,gl,gc,na,nl,nc,wa,wl,wc⟩:=x
 have oz:=hW.n.hlen
 have hnm:=hW.n.hmax
 dsimp only at oz hnm ⊢
 subst oz
 obtain ⟨bn,on,rfl,hbn,hcn⟩:=hW.n.cells (by dsimp only;omega)
 obtain ⟨k0,-,⟨v2,k2,ha,hc,rfl,hhc,hH⟩,-⟩:=hcn n nd hn
 obtain ⟨w1,hw1⟩:∃ w1,w.alloc (.cells #[.slice ga gl gc,.slice (some ⟨bn,on,none⟩) d.nodes.length nc,.slice wa wl wc,.int .i64 n] 130)=w1:=⟨_,rfl⟩
 have hS1:=au hw1
 have hsz:w.heap.size < w1.heap.size:=by rw [<-hw1];simp
 have b0:w1.cell? ⟨w.heap.size,0,none⟩=some (.slice ga gl gc):=by rw [<-hw1];simp [go_sem]
 have b1:w1.cell? ⟨w.heap.size,1,none⟩=some (.slice (some ⟨bn,on,none⟩) d.nodes.length nc):=by rw [<-hw1];simp [go_sem]
 have b2:w1.cell? ⟨w.heap.size,2,none⟩=some (.slice wa wl wc):=by rw [<-hw1];simp [go_sem]
 have b3:w1.cell? ⟨w.heap.size,3,none⟩=some (.int .i64 n):=by rw [<-hw1];simp [go_sem]
 have hW1:=hW.since hS1
 have n1:(n:Int) < (d.nodes.length:Int):=by omega
 obtain ⟨far,Gn⟩:∃ far,sV d n nd=far:=⟨_,rfl⟩
 have HRL:Hid (bW d n nd=nd.held.filter fun m=>decide (m.st<=far)):=by unfold Hid bW;rw [Gn]
 clear hcn k0
 have RF:Hid (∀ y,Since w1 y->y.cell? ⟨w.heap.size,0,none⟩=some (.slice ga gl gc)/\y.cell? ⟨w.heap.size,1,none⟩=some (.slice (some ⟨bn,on,none⟩) d.nodes.length nc)/\y.cell? ⟨w.heap.size,2,none⟩=some (.slice wa wl wc)/\y.cell? ⟨w.heap.size,3,none⟩=some (.int .i64 n)/\y.cell? ⟨bn,on+n*4+2,none⟩=some (.slice ha nd.held.length hc)):=fun y hy =>
  ⟨(hy.cellAt (by omega) _).trans b0,(hy.cellAt (by omega) _).trans b1,(hy.cellAt (by omega) _).trans b2,(hy.cellAt (by omega) _).trans b3,((hS1.trans hy).cellAt hbn _).trans k2⟩
 obtain ⟨_,hHm,hHc⟩:=hH
 have HFZ:Hid (sV d n nd=far):=Gn
 clear Gn
 go_enter func171,ntmps171
 go_wp2_with (go_at_call 118;refine (QC w1 _ ⟨ga,gl,gc,_,d.nodes.length,nc,wa,wl,wc⟩ d n nd hW1 hn hL0 (Since.refl _)).mono ?_;rw [HFZ.out];rintro e w2 ⟨rfl,hS2⟩;obtain ⟨f0,f1,f2,f3,f4⟩:=RF.out _ hS2)
 clear hw1
 go_loopw [4,18] (fun v i wr=>(∃ k:Nat,k<=nd.held.length/\i=.int .i64 k/\wr.ownsRow w1.heap.size 42 5 v ((nd.held.take k).filter fun m=>decide (m.st<=far)).length (flat ((nd.held.take k).filter fun m=>decide (m.st<=far))))/\Since w1 wr) (fun _ i _=>nd.held.length - (intOf i).toNat)
 case atStart=>exact ⟨⟨0,by omega,rfl,World.ownsRow_nil _ _ _ _⟩,by assumption⟩
 case round =>
  obtain ⟨⟨k,hk,rfl,hown⟩,hS⟩:=hrel
  obtain ⟨va,ND,rfl,hvc⟩:=ownsRow_form hown
  by_cases hlt:k < nd.held.length
  ·obtain ⟨b,off,rfl,hb,hcell⟩:=hHc (by omega)
   obtain ⟨m,hm⟩:∃ m,nd.held[k]? = some m:=⟨_,zQ1 hlt⟩
   have hS0:=hS1.trans hS
   obtain ⟨d0,d1,d2,d3,d4⟩:=bJ (w:=wr) (fun i u hi=>(hS0.cellAt hb _).trans (hcell i u hi)) k m hm
   have HM:Hid (nd.held[k]? = some m):=hm
   obtain ⟨L,hL⟩:∃ L,((nd.held.take k).filter fun m=>decide (m.st<=far))=L:=⟨_,rfl⟩
   have hLk:L.length<=k:=by rw [<-hL];exact xS _ _ _
   rw [hL] at hown hvc ⊢
   have HL:Hid (((nd.held.take k).filter fun m=>decide (m.st<=far))=L):=hL
   obtain ⟨w9,hw9⟩:∃ w9,wr.alloc (.cells #[.int .i64 m.fr,.int .i64 m.gr,.int .i64 m.st,.bool m.nul,.string m.body] 42)=w9:=⟨_,rfl⟩
   have hS9:=au hw9
   have hQ:bH w9 wr.heap.size 0 m:=by rw [<-hw9];constructor <;> simp [go_sem]
   obtain ⟨p0,p1,p2,p3,p4⟩:=hQ
   simp only [Nat.zero_add] at p0 p1 p2 p3 p4
   have lu:=gG hS9 hown
   have AO:Since w1 w9:=hS.trans hS9
   clear hm hcell hHc hL hown
   cases h6:decide (m.st<=far)
   ·have HF:Hid (((nd.held.take (k+1)).filter fun m=>decide (m.st<=far))=L):=by
     unfold Hid;rw [List.take_add_one,HM.out,List.filter_append,HL.out];simp [h6]
    go_wp2
    go_roundw
    case rel=>exact ⟨⟨k+1,by omega,by go_num,by rw [HF.out];exact lu⟩,AO⟩
    case measure=>simp [intOf];omega
   ·have HF:Hid (((nd.held.take (k+1)).filter fun m=>decide (m.st<=far))=L++[m]):=by
     unfold Hid;rw [List.take_add_one,HM.out,List.filter_append,HL.out];simp [h6]
    go_wp2_with (at_builtin;refine wpList_append_own _ rfl _ _ 39 rfl w1.heap.size 42 i0 (.agg #[.int .i64 0,.int .i64 0,.int .i64 0,.bool false,.string ByteArray.empty]) 5 48 underlying39 hi hz0 hz1 hz2 rfl (by decide) _ _ _ rfl (lu.alloc _) ⟨w9.heap.size,0,none⟩ 1 1 m.cells rfl rfl (iH _ _ _) (fun u hu=>bZ u [m] (by simpa [flat] using hu)) (by unfold maxLen;omega) (by omega) (by have:=AO.size;simp;omega) ?_;intro v3 w12 hown3 kI _;have dw:Since w1 w12:=(AO.alloc _).grown kI (aW lu))
    go_roundw
    case rel=>exact ⟨⟨k+1,by omega,by go_num,by rw [HF.out,List.length_append,bT];simpa [flat] using hown3⟩,by assumption⟩
    case measure=>simp [intOf];omega
  ·obtain rfl:k=nd.held.length:=by omega
   rw [List.take_of_length_le (Nat.le_refl _)] at hown
   have hown':wr.ownsRow w1.heap.size 42 5 (.slice va ((nd.held.take nd.held.length).filter fun m=>decide (m.st<=far)).length ND) (bW d n nd).length (flat (bW d n nd)):=by
    rw [HRL.out];rw [List.take_of_length_le (Nat.le_refl _)];exact hown
   go_wp2
   go_ret
   exact ⟨_,rfl,kJ (by omega) hown',hS1.trans hS⟩
def pV (d:Wd) (n:Int):List Mg:=if aR d n=0 then (match d.nodes[n.toNat]? with | some nd=>bW d n.toNat nd | none=>[]) else []
theorem Bw {d:Wd} {n:Nat} {nd:Nd} (h:aR d n=0) (hn:d.nodes[n]? = some nd):pV d n=bW d n nd:=by
 unfold pV;rw [if_pos h,Int.toNat_natCast,hn]
theorem JI {d:Wd} {n:Int} (h:¬ aR d n=0):pV d n=[]:=by unfold pV;rw [if_neg h]
set_option maxRecDepth 8000 in
theorem qJ (x:WV) (d:Wd) (n:Int) (w:World) (hW:WAt w x d) :
  Calls prog 116 #[.agg #[.slice x.ga x.gl x.gc,.slice x.na x.nl x.nc,.slice x.wa x.wl x.wc],.int .i64 n] w fun e w'=>∃ v,e=.returned (.tuple #[v,.int .i64 (aR d n)])/\w'.ownsRow w.heap.size 42 5 v (pV d n).length (flat (pV d n))/\Since w w':=by
 have hS1:Since w (w.alloc (.cells #[.slice x.ga x.gl x.gc,.slice x.na x.nl x.nc,.slice x.wa x.wl x.wc] 26)):=(Since.refl w).alloc _
 have hW1:=hW.since hS1
 cases h1:(aR d n != 0)
 ·have h0:aR d n=0:=by simpa using h1
  obtain ⟨hE,k,nd,rfl,hn⟩:=Cx h0
  have HE:Hid (aR d (k:Int)=0):=h0
  have HB:Hid (pV d (k:Int)=bW d k nd):=Bw h0 hn
  have HA:Hid (AP x d (k:Int)=.agg #[.slice x.ga x.gl x.gc,.slice x.na x.nl x.nc,.slice x.wa x.wl x.wc,.int .i64 (k:Int)]):=by unfold Hid AP;rw [if_pos h0]
  have hL0:=JF hE hn
  have hsh:=Gm hE hn
  clear h0 hE
  go_enter func116,ntmps116
  go_wp2_with (first
   | (go_at_call 117;refine (OB w _ x d _ _ _ HA.out HE.out hW1 hS1).mono ?_;rintro e w2 ⟨rfl,hS2⟩;have jN:Since w (w2.alloc (.cells #[.slice x.ga x.gl x.gc,.slice x.na x.nl x.nc,.slice x.wa x.wl x.wc,.int .i64 (k:Int)] 130)):=Since.alloc hS2 _)
   | (go_at_call 171;refine (JH x d k nd _ (hW.since (by assumption)) hn hL0 hsh).mono ?_;rintro e w3 ⟨v,rfl,hown,hS3⟩))
  go_ret2
  exact ⟨v,by rw [HE.out];rfl,by rw [HB.out];exact kJ jN.size hown,jN.trans hS3⟩
 ·have h0:¬ aR d n=0:=by simpa using h1
  have HB:Hid (pV d n=[]):=JI h0
  have HA:Hid (AP x d n=.agg #[.slice none 0 0,.slice none 0 0,.slice none 0 0,.int .i64 0]):=by unfold Hid AP;rw [if_neg h0]
  clear h0
  go_enter func116,ntmps116
  go_wp2_with (first
   | (go_at_call 117;refine (OB w _ x d _ _ _ HA.out rfl hW1 hS1).mono ?_;rintro e w2 ⟨rfl,hS2⟩))
  go_ret2
  exact ⟨_,rfl,by rw [HB.out];exact World.ownsRow_nil _ _ _ _,Since.alloc (by assumption) _⟩
end Go.Proofs.YtiiifecfdkjmbaaGreat
