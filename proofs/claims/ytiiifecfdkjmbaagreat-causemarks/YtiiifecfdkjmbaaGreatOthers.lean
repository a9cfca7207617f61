/- Lemmas. Lemmas. -/
import Derived.Test.YtiiifecfdkjmbaaGreatBoundR
set_option maxHeartbeats 2000000
namespace Go.Proofs.YtiiifecfdkjmbaaGreat
open _root_.Go.Proofs.Tryz hiding checked
set_option maxRecDepth 8000
open Go.RowKit Go.Shelf
theorem zA (w0:World) (x:WV) (d:Wd) (n:Nat) (nd:Nd) (v:Int) (hv:uE d n nd=v) (hW:WAt w0 x d) (hn:d.nodes[n]? = some nd) (hL0:kJ d nd) (w:World) (h:Since w0 w) :
  Calls prog 218 #[.agg #[.slice x.ga x.gl x.gc,.slice x.na x.nl x.nc,.slice x.wa x.wl x.wc],.int .i64 n] w fun e w'=>e=.returned (.int .i64 v)/\Since w0 w' :=
 (Df x d n nd w (hW.since h) hn hL0).mono fun _ _ ⟨he,hw⟩=>⟨by rw [<-hv];exact he,h.trans hw⟩
def bX (d:Wd) (n:Nat) (nd:Nd):List Mg:=nd.held.filter fun m=>decide (m.st<=uE d n nd)
theorem yJ (f:Int) (l:List Mg) (k:Nat):((l.take k).filter fun m=>decide (m.st<=f)).length<=k:=by
 have:=List.length_filter_le (fun m:Mg=>decide (m.st<=f)) (l.take k);have:=List.length_take_le k l;omega
theorem Hl {d:Wd} (h:aL d=0) {n:Nat} {nd:Nd} (hn:d.nodes[n]? = some nd):nd.held.length<=40:=by
 have h1:iO d=true:=by
  unfold aL at h;by_cases c:dF d.nodes.length d.groups=0
  ·rw [if_pos c] at h;cases hs:iO d
   ·rw [hs] at h;simp at h
   ·rfl
  ·rw [if_neg c] at h;exact absurd h c
 rw [tZ,Bool.and_eq_true,List.all_eq_true] at h1;have:=h1.1 nd (List.mem_of_getElem? hn);unfold pF at this;rw [Bool.and_eq_true] at this;simpa using this.1
set_option maxRecDepth 8000 in
theorem Dh (x:WV) (d:Wd) (n:Nat) (nd:Nd) (w:World) (hW:WAt w x d) (hn:d.nodes[n]? = some nd) (hL0:kJ d nd) (hsh:nd.held.length<=40) :
  Calls prog 187 #[.agg #[.slice x.ga x.gl x.gc,.slice x.na x.nl x.nc,.slice x.wa x.wl x.wc],.int .i64 n] w fun e w'=>∃ v,e=.returned v/\w'.ownsRow w.heap.size 42 5 v (bX d n nd).length (flat (bX d n nd))/\Since w w':=by
 obtain ⟨i0,hi,hz0,hz1,hz2⟩:=info_parts Tryz.uf;have hnl:=(zQ2.1 hn).1;obtain ⟨ga,gl,gc,na,nl,nc,wa,wl,wc⟩:=x;have pE:=hW.n.hlen;have hnm:=hW.n.hmax;dsimp only at pE hnm ⊢;subst pE;obtain ⟨bn,on,rfl,hbn,hcn⟩:=hW.n.cells (by dsimp only;omega);obtain ⟨k0,-,⟨v2,k2,ha,hc,rfl,hhc,hH⟩,-⟩:=hcn n nd hn;obtain ⟨w1,hw1⟩:∃ w1,w.alloc (.cells #[.slice ga gl gc,.slice (some ⟨bn,on,none⟩) d.nodes.length nc,.slice wa wl wc] 26)=w1:=⟨_,rfl⟩;have hS1:=ay hw1;have hsz:w.heap.size < w1.heap.size:=by rw [<-hw1];simp
 have b0:w1.cell? ⟨w.heap.size,0,none⟩=some (.slice ga gl gc):=by rw [<-hw1];simp [go_sem]
 have b1:w1.cell? ⟨w.heap.size,1,none⟩=some (.slice (some ⟨bn,on,none⟩) d.nodes.length nc):=by rw [<-hw1];simp [go_sem]
 have b2:w1.cell? ⟨w.heap.size,2,none⟩=some (.slice wa wl wc):=by rw [<-hw1];simp [go_sem]
 have hW1:=hW.since hS1;have n1:(n:Int) < (d.nodes.length:Int):=by omega
 obtain ⟨far,Ho⟩:∃ far,uE d n nd=far:=⟨_,rfl⟩;have Sn:Hid (uE d n nd=far):=Ho;have HRL:Hid (bX d n nd=nd.held.filter fun m=>decide (m.st<=far)):=by unfold Hid bX;rw [Ho]
 clear hcn k0 Ho
 have RF:Hid (∀ y,Since w1 y->y.cell? ⟨w.heap.size,0,none⟩=some (.slice ga gl gc)/\y.cell? ⟨w.heap.size,1,none⟩=some (.slice (some ⟨bn,on,none⟩) d.nodes.length nc)/\y.cell? ⟨w.heap.size,2,none⟩=some (.slice wa wl wc)/\y.cell? ⟨bn,on+n*4+2,none⟩=some (.slice ha nd.held.length hc)):=fun y hy =>
  ⟨(hy.cellAt (by omega) _).trans b0,(hy.cellAt (by omega) _).trans b1,(hy.cellAt (by omega) _).trans b2,((hS1.trans hy).cellAt hbn _).trans k2⟩
 obtain ⟨_,hHm,hHc⟩:=hH
 go_enter func187,ntmps187
 go_wp2
 clear hw1
 go_loopw [5,6] (fun v i wr=>(∃ k:Nat,k<=nd.held.length/\i=.int .i64 k/\wr.ownsRow w1.heap.size 42 5 v ((nd.held.take k).filter fun m=>decide (m.st<=far)).length (flat ((nd.held.take k).filter fun m=>decide (m.st<=far))))/\Since w1 wr) (fun _ i _=>nd.held.length - (intOf i).toNat)
 case atStart=>exact ⟨⟨0,by omega,rfl,World.ownsRow_nil _ _ _ _⟩,Since.refl _⟩
 case round =>
  obtain ⟨⟨k,hk,rfl,hown⟩,hS⟩:=hrel;obtain ⟨va,Oy,rfl,hvc⟩:=ownsRow_form hown;obtain ⟨f0,f1,f2,f3⟩:=RF.out _ hS;by_cases hlt:k < nd.held.length
  ·obtain ⟨b,off,rfl,hb,hcell⟩:=hHc (by omega);obtain ⟨m,hm⟩:∃ m,nd.held[k]? = some m:=⟨_,zQ1 hlt⟩;have hS0:=hS1.trans hS;obtain ⟨d0,d1,d2,d3,d4⟩:=bP (w:=wr) (fun i u hi=>(hS0.cellAt hb _).trans (hcell i u hi)) k m hm;have HM:Hid (nd.held[k]? = some m):=hm;obtain ⟨L,hL⟩:∃ L,((nd.held.take k).filter fun m=>decide (m.st<=far))=L:=⟨_,rfl⟩;have hLk:L.length<=k:=by rw [<-hL];exact yJ _ _ _
   rw [hL] at hown hvc ⊢;have HL:Hid (((nd.held.take k).filter fun m=>decide (m.st<=far))=L):=hL;obtain ⟨w2,hw2⟩:∃ w2,wr.alloc (.cells #[.int .i64 m.fr,.int .i64 m.gr,.int .i64 m.st,.bool m.nul,.string m.body] 42)=w2:=⟨_,rfl⟩;have hS2:=ay hw2;have hsz2:wr.heap.size < w2.heap.size:=by rw [<-hw2];simp
   have q2:w2.cell? ⟨wr.heap.size,2,none⟩=some (.int .i64 m.st):=by rw [<-hw2];simp [go_sem]
   have hQ:bF w2 wr.heap.size 0 m:=by rw [<-hw2];constructor <;> simp [go_sem]
   have hne:Nonempty (Later w2):=⟨⟨w2,Since.refl w2⟩⟩;have gm:∀ (y:Later w2) (o:Nat),y.w.cell? ⟨wr.heap.size,o,none⟩=w2.cell? ⟨wr.heap.size,o,none⟩:=fun y o=>y.cell hsz2;have gw:∀ (y:Later w2) (o:Nat),y.w.cell? ⟨w.heap.size,o,none⟩=w1.cell? ⟨w.heap.size,o,none⟩:=fun y o=>Later.old (hS.trans hS2) y o (by omega);have hW2:=hW1.since (hS.trans hS2);have hown2:=gY hS2 hown;clear hm hcell hHc hL hown;cases h6:decide (m.st<=far)
   ·have HF:Hid (((nd.held.take (k+1)).filter fun m=>decide (m.st<=far))=L):=by
     unfold Hid;rw [List.take_add_one,HM.out,List.filter_append,HL.out];simp [h6]
    go_wp2_with fail
    refine av (by kernel_rfl) (by kernel_rfl) (Since.refl w2) ?_
    repeat (go_big_quiet_step ((go_at_call 218;exact Later.call (zA w2 ⟨ga,gl,gc,_,d.nodes.length,nc,wa,wl,wc⟩ d n nd _ Sn.out hW2 hn hL0))))
    refine wpQuiet_nil ?_;intro w9 hS9
    go_wp2
    go_roundw
    case rel=>exact ⟨⟨k+1,by omega,by go_num,by rw [HF.out];exact gY hS9 hown2⟩,hS.trans (hS2.trans hS9)⟩
    case measure=>simp [intOf];omega
   ·have HF:Hid (((nd.held.take (k+1)).filter fun m=>decide (m.st<=far))=L++[m]):=by
     unfold Hid;rw [List.take_add_one,HM.out,List.filter_append,HL.out];simp [h6]
    go_wp2_with fail
    refine av (by kernel_rfl) (by kernel_rfl) (Since.refl w2) ?_
    repeat (go_big_quiet_step ((go_at_call 218;exact Later.call (zA w2 ⟨ga,gl,gc,_,d.nodes.length,nc,wa,wl,wc⟩ d n nd _ Sn.out hW2 hn hL0))))
    refine wpQuiet_nil ?_;intro w9 hS9;have lN:=gY hS9 hown2;have BG:Since w1 w9:=hS.trans (hS2.trans hS9);obtain ⟨g0,g1,g2,g3,g4⟩:=hQ;have p0:w9.cell? ⟨wr.heap.size,0,none⟩=some (.int .i64 m.fr):=(hS9.cellAt hsz2 _).trans g0;have p1:w9.cell? ⟨wr.heap.size,1,none⟩=some (.int .i64 m.gr):=(hS9.cellAt hsz2 _).trans g1;have p2:w9.cell? ⟨wr.heap.size,2,none⟩=some (.int .i64 m.st):=(hS9.cellAt hsz2 _).trans g2;have p3:w9.cell? ⟨wr.heap.size,3,none⟩=some (.bool m.nul):=(hS9.cellAt hsz2 _).trans g3;have p4:w9.cell? ⟨wr.heap.size,4,none⟩=some (.string m.body):=(hS9.cellAt hsz2 _).trans g4;clear g0 g1 g2 g3 g4 gm gw hown2 hw2 d0 d1 d2 d3 d4 q2
    go_wp2_with (at_builtin;refine wpList_append_own _ rfl _ _ 39 rfl w1.heap.size 42 i0 (.agg #[.int .i64 0,.int .i64 0,.int .i64 0,.bool false,.string ByteArray.empty]) 5 48 underlying39 hi hz0 hz1 hz2 rfl (by decide) _ _ _ rfl (lN.alloc _) ⟨w9.heap.size,0,none⟩ 1 1 m.cells rfl rfl (iT _ _ _) (fun u hu=>dG u [m] (by simpa [flat] using hu)) (by unfold maxLen;omega) (by omega) (by have:=BG.size;simp;omega) ?_;intro v3 w12 hown3 kY _;have dn:Since w1 w12:=(BG.alloc _).grown kY (aY lN))
    go_roundw
    case rel=>exact ⟨⟨k+1,by omega,by go_num,by rw [HF.out,List.length_append,fG];simpa [flat] using hown3⟩,by assumption⟩
    case measure=>simp [intOf];omega
  ·obtain rfl:k=nd.held.length:=by omega
   rw [List.take_of_length_le (Nat.le_refl _)] at hown
   have hown':wr.ownsRow w1.heap.size 42 5 (.slice va ((nd.held.take nd.held.length).filter fun m=>decide (m.st<=far)).length Oy) (bX d n nd).length (flat (bX d n nd)):=by
    rw [HRL.out];rw [List.take_of_length_le (Nat.le_refl _)];exact hown
   go_wp2
   go_ret
   exact ⟨_,rfl,kZ (by omega) hown',hS1.trans hS⟩
end Go.Proofs.YtiiifecfdkjmbaaGreat
set_option maxHeartbeats 2000000
namespace Go.Proofs.YtiiifecfdkjmbaaGreat
open _root_.Go.Proofs.Tryz hiding checked
set_option maxRecDepth 8000
open Go.RowKit Go.Shelf
attribute [local go_sem] Oper.semAt_some
theorem FN {xs:List Int} {n:Int} {k:Nat} (hk:k < xs.length) (h:hasB xs k n=true):hits xs [n] (k+1)=hits xs [n] k++[k]:=by
 rw [E8 xs n k hk] at h;exact zO (by simpa using h)
theorem K4 {xs:List Int} {n:Int} {k:Nat} (hk:k < xs.length) (h:hasB xs k n=false):hits xs [n] (k+1)=hits xs [n] k:=by
 rw [E8 xs n k hk] at h;exact Du (by simpa using h)
theorem FP (xs:List Int) (n:Int):∀ (r G0 a:Nat),G0+r=xs.length->(hits xs [n] G0).length=a->a < (hits xs [n] xs.length).length ->
  ∃ g,(hits xs [n] xs.length)[a]? = some g/\G0<=g/\g < xs.length/\hasB xs g n=true/\(∀ g',G0<=g'->g' < g->hasB xs g' n=false)/\(hits xs [n] (g+1)).length=a+1
 | 0,G0,a,h1,h2,h3=>by
  obtain rfl:G0=xs.length:=by omega
  omega
 | r+1,G0,a,h1,h2,h3=>by
  have hG:G0 < xs.length:=by omega
  cases hb:hasB xs G0 n
  ·have e:=K4 hG hb;obtain ⟨g,p1,p2,p3,p4,p5,p6⟩:=FP xs n r (G0+1) a (by omega) (by rw [e];exact h2) h3;refine ⟨g,p1,by omega,p3,p4,fun g' q1 q2=>?_,p6⟩;by_cases c:g'=G0
   ·rw [c];exact hb
   ·exact p5 g' (by omega) q2
  ·have e:=FN hG hb;refine ⟨G0, ?_,Nat.le_refl _,hG,hb,fun g' q1 q2=>by omega,by rw [e,List.length_append];simp [h2]⟩;obtain ⟨t,ht⟩:=oD xs [n] (G0+1) xs.length (by omega);rw [<-ht,e,List.getElem?_append_left (by simp;omega),List.getElem?_append_right (by omega),h2];simp
theorem Rb (xs:List Int) (n:Int) (G0:Nat) (h:(hits xs [n] G0).length=(hits xs [n] xs.length).length) (g:Nat) (h1:G0<=g) (h2:g < xs.length):hasB xs g n=false:=by
 cases hb:hasB xs g n
 ·rfl
 ·have e:=FN h2 hb;have p1:=(oD xs [n] (g+1) xs.length (by omega)).length_le;have p2:=(oD xs [n] G0 g h1).length_le;rw [e,List.length_append] at p1;simp at p1;omega
theorem Iy {J:Nat->World->Prop} {d:Wd} {n:Nat} {W:World} (hsk:∀ i A,J i A->i < d.groups.length*d.nodes.length->(∃ p,(pairs d.groups.length d.nodes.length)[i]? = some p/\kV d n p=false)->J (i+1) A)
  (g:Nat) (hg:g < d.groups.length) (hb:hasB d.groups g n=false) (h:J (g*d.nodes.length) W):J ((g+1)*d.nodes.length) W:=by
 have:∀ k,k<=d.nodes.length->J (g*d.nodes.length+k) W:=by
  intro k
  induction k with
  | zero=>exact fun _=>h
  | succ k ih =>
   intro hk;have hp:=kX hg (show k < d.nodes.length by omega);exact hsk _ _ (ih (by omega)) (by have:=(zQ2.1 hp).1;rwa [kN] at this) ⟨_,hp,by unfold kV;rw [hb];simp⟩
 rw [Nat.succ_mul];exact this _ (Nat.le_refl _)
theorem sj {J:Nat->World->Prop} {d:Wd} {n:Nat} {W:World} (hsk:∀ i A,J i A->i < d.groups.length*d.nodes.length->(∃ p,(pairs d.groups.length d.nodes.length)[i]? = some p/\kV d n p=false)->J (i+1) A)
  (G0:Nat):∀ (r:Nat),G0+r<=d.groups.length->(∀ g',G0<=g'->g' < G0+r->hasB d.groups g' n=false)->J (G0*d.nodes.length) W->J ((G0+r)*d.nodes.length) W
 | 0,_,_,h=>h
 | r+1,hr,hm,h=>by
  have:=sj hsk G0 r (by omega) (fun g' a b=>hm g' a (by omega)) h;exact Iy hsk (G0+r) (by omega) (hm _ (by omega) (by omega)) this
set_option maxRecDepth 100000 in
theorem Ib (m:Nat) (Bj X:Nat) (w00 w:World) (hS0:Since w00 w) (hBX:Bj≠X) (hXw:X < w.heap.size) (ga:Option Addr) (gc:Nat) (na:Option Addr) (nc:Nat) (d:Wd) (n:Nat)
  (hG:Ints w00 ga d.groups.length d.groups) (hnm:d.nodes.length<=17592186043904)
  (c0:w.cell? ⟨Bj,0,none⟩=some (.slice ga d.groups.length gc)) (c1:w.cell? ⟨Bj,1,none⟩=some (.slice na d.nodes.length nc)) (c3:w.cell? ⟨Bj,3,none⟩=some (.int .i64 n)) :
  OT prog m 207 #[.pointer (some ⟨Bj,0,none⟩)] (fun p:Nat × Nat=>#[.int .i64 (p.1:Int),.int .i64 (p.2:Int)]) (KX w00.heap.size (some X))
   (fun i p=>(pairs d.groups.length d.nodes.length)[i]? = some p/\kV d n p=true) (fun i=>∃ p,(pairs d.groups.length d.nodes.length)[i]? = some p/\kV d n p=false) (d.groups.length*d.nodes.length) w:=by
 intro l J Jp W hW hJ hsk hY h0;have hgm:=hG.hmax
 have hBlt:Bj < w.heap.size:=by
  unfold World.cell? at c0;split at c0
  ·rename_i hb;exact (zQ3.1 hb).1
  ·cases c0
 have C:∀ W',KX w00.heap.size (some X) W W'->Since w00 W'/\W'.cell? ⟨Bj,0,none⟩=some (.slice ga d.groups.length gc)/\W'.cell? ⟨Bj,1,none⟩=some (.slice na d.nodes.length nc)/\W'.cell? ⟨Bj,3,none⟩=some (.int .i64 n):=fun W' h =>
  ⟨⟨(hS0.trans hW).below.trans h.below⟩,h.cell ((hW.cellAt hBlt _).trans c0) (by simpa using hBX),h.cell ((hW.cellAt hBlt _).trans c1) (by simpa using hBX),h.cell ((hW.cellAt hBlt _).trans c3) (by simpa using hBX)⟩
 obtain ⟨hSW,d0,d1,d3⟩:=C W (KX.refl _ _ _);have hIW:=hG.since hSW;refine callsIn_of_wp func207 rfl trivial ?_ rfl;simp only [ntmps207,List.size_toArray,List.length_cons,List.length_nil,Nat.reduceAdd,Nat.reduceSub,Array.replicate_succ,Array.replicate_zero,List.push_toArray,List.append_toArray,List.nil_append,List.cons_append];obtain ⟨H,hH⟩:∃ H,hits d.groups [(n:Int)] d.groups.length=H:=⟨_,rfl⟩;have hHl:H.length<=d.groups.length:=by rw [<-hH];exact Dr _ _ _
 have HH:Hid (hits d.groups [(n:Int)] d.groups.length=H):=hH
 gi_wp2_with (refine ⟨trivial,fun h=>(by cases h), ?_⟩;gi_at_call 103;refine (callsIn_wide.2 (MR _ _ _ d.groups _ _ hIW)).mono ?_;rw [hH];rintro e W0 ⟨v,rfl,hown,hbel⟩;obtain ⟨ra,Tc,rfl,hR⟩:=yP hown (by omega))
 have Hf:Since W W0:=⟨hbel⟩;have hk0:KX w00.heap.size (some X) W W0:=KX.dR Hf hSW.size;have hJ0:=hJ _ _ _ h0 Hf;have hRc:=hR.cells
 have hge:∀ b off,ra=some ⟨b,off,none⟩->some b≠some X:=by
  intro b off e;have:=aY hown b (by rw [e];rfl);have:=hW.size;simp;omega
 clear hown hbel hH h0
 gi_loopw [13] (fun i wr=>∃ a G0:Nat,a<=H.length/\i=.int .i64 a/\G0<=d.groups.length/\(hits d.groups [(n:Int)] G0).length=a/\J (G0*d.nodes.length) wr/\KX w00.heap.size (some X) W0 wr) (fun i _=>H.length - (intOf i).toNat)
 case atStart=>exact ⟨0,0,Nat.zero_le _,rfl,Nat.zero_le _,rfl,by rw [Nat.zero_mul];exact hJ0,KX.refl _ _ _⟩
 case round =>
  obtain ⟨a,G0,ha,rfl,hG0,hla,hJa,hka⟩:=hrel;obtain ⟨hSr,f0,f1,f3⟩:=C wr (hk0.trans hka);by_cases hlt:a < H.length
  ·obtain ⟨g,p1,p2,p3,p4,p5,p6⟩:=FP d.groups n (d.groups.length - G0) G0 a (by omega) hla (by rw [HH.out];exact hlt)
   have hJg:J (g*d.nodes.length) wr:=by
    have:=sj hsk G0 (g - G0) (by omega) (fun g' q1 q2=>p5 g' q1 (by omega)) hJa
    rwa [show G0+(g - G0)=g by omega] at this
   obtain ⟨b,off,rfl,hb,hcell⟩:=hRc (by omega)
   have hca:wr.cell? ⟨b,off+a,none⟩=some (.int .i64 (g:Int)):=by
    refine hka.cell ((hcell a hlt).trans ?_) (hge b off rfl);rw [HH.out] at p1;rw [List.getElem?_map,p1];rfl
   have HL6:Hid ((hits d.groups [(n:Int)] (g+1)).length=a+1):=p6;clear hcell hRc hla p1 p2 p5 p6 hJa hG0
   gi_wp2
   gi_loopw [21] (fun i wr=>∃ k:Nat,k<=d.nodes.length/\i=.int .i64 k/\J (g*d.nodes.length+k) wr/\KX w00.heap.size (some X) W0 wr) (fun i _=>d.nodes.length - (intOf i).toNat)
   case atStart=>exact ⟨0,Nat.zero_le _,rfl,hJg,hka⟩
   case round =>
    clear f0 f1 f3 hSr hca hka hJg;obtain ⟨k,hk,rfl,hJk,hkk⟩:=hrel;obtain ⟨hSr,f0,f1,f3⟩:=C wr (hk0.trans hkk);by_cases hkl:k < d.nodes.length
    ·have hp:=kX p3 hkl;have hpl:g*d.nodes.length+k < d.groups.length*d.nodes.length:=by have:=(zQ2.1 hp).1;rwa [kN] at this
     have hIr:=hG.since hSr;have HO:Hid (kV d n (g,k)=(((k:Int) != (n:Int)) && hasB d.groups g k)):=by unfold Hid kV;dsimp only;rw [p4];simp
     cases h1:((k:Int) != (n:Int))
     ·have hJn:J (g*d.nodes.length+(k+1)) wr:=hsk _ _ hJk hpl ⟨_,hp,by rw [HO.out,h1];rfl⟩;clear hY
      gi_wp2
      refine ⟨trivial, ?_⟩
      gi_wp2
      refine ⟨fun _ h=>(by cases h), ?_⟩
      gi_wp2
      go_roundw
      case rel=>exact ⟨k+1,by omega,by simp,hJn,hkk⟩
      case measure=>simp [intOf];omega
     cases h2:hasB d.groups g k
     ·have hJn:J (g*d.nodes.length+(k+1)) wr:=hsk _ _ hJk hpl ⟨_,hp,by rw [HO.out,h2];simp⟩;clear hY
      gi_wp2_with (first
       | (refine ⟨trivial,fun h=>(by cases h), ?_⟩;gi_at_call 50;refine (callsIn_wide.2 (iA _ _ _ d.groups _ _ _ hIr)).mono ?_;rw [h2];rintro e w' ⟨rfl,hw⟩;obtain rfl:=hw.symm))
      refine ⟨fun _ h=>(by cases h), ?_⟩
      gi_wp2
      go_roundw
      case rel=>exact ⟨k+1,by omega,by simp,hJn,hkk⟩
      case measure=>simp [intOf];omega
     ·obtain ⟨fn,tmps,assign,body,hy,hRn⟩:=hY _ (g,k) wr hJk hpl ⟨hp,by rw [HO.out,h1,h2];rfl⟩;clear hY
      gi_wp2_with (first
       | (refine ⟨trivial,fun h=>(by cases h), ?_⟩;gi_at_call 50;refine (callsIn_wide.2 (iA _ _ _ d.groups _ _ _ hIr)).mono ?_;rw [h2];rintro e w' ⟨rfl,hw⟩;obtain rfl:=hw.symm))
      refine ⟨fun h=>(by cases h), ?_⟩;refine hRn.mono ?_;rintro e W3 (⟨rfl,hJ3,hk3⟩ | ⟨ch,rfl,hp3⟩)
      ·gi_wp2
       go_roundw
       case rel=>exact ⟨k+1,by omega,by simp,hJ3,hkk.trans hk3⟩
       case measure=>simp [intOf];omega
      ·exact ⟨rfl,.inr ⟨ch,rfl,hp3⟩⟩
    ·obtain rfl:k=d.nodes.length:=by omega
     gi_wp2
     go_roundw
     case rel=>exact ⟨a+1,g+1,by omega,by simp,by omega,HL6.out,by rw [Nat.succ_mul];exact hJk,hkk⟩
     case measure=>simp [intOf];omega
  ·have hJe:J (d.groups.length*d.nodes.length) wr:=by
    have hh:(hits d.groups [(n:Int)] G0).length=(hits d.groups [(n:Int)] d.groups.length).length:=by rw [HH.out];omega
    have:=sj hsk G0 (d.groups.length - G0) (by omega) (fun g' q1 q2=>Rb d.groups n G0 hh g' q1 (by omega)) hJa
    rwa [show G0+(d.groups.length - G0)=d.groups.length by omega] at this
   gi_wp2
   go_end0
   exact .inl ⟨_,rfl,hJe⟩
end Go.Proofs.YtiiifecfdkjmbaaGreat
