/- Lemmas. Lemmas. Lemmas. Lemmas. -/
import Derived.Test.YtediempflagfkaaGreatDoorBoundR
import Derived.RegionIn
import Derived.BigRegionIn
set_option linter.unusedVariables false
set_option linter.unusedSimpArgs false
set_option linter.unnecessarySimpa false
set_option maxHeartbeats 2000000
namespace Go.Proofs.YtediempflagfkaaGreatDoor
open _root_.Go.Proofs.Tryz hiding checked
set_option maxRecDepth 8000
open Go.RowKit Go.Shelf
theorem zZ(w0:World)(x:WV)(d:Wd)(n:Nat)(nd:Nd)(v:Int)(hv:p8 d n nd=v)(hW:WAt w0 x d)(hn:d.ah[n]? = some nd)(hL0:j5 d nd)(w:World)(h:ak w0 w) :
  Calls prog 44 #[.agg #[.slice x.ga x.gl x.gc,.slice x.na x.nl x.nc,.slice x.wa x.wl x.wc],.int .i64 n] w fun e w'=>e=.returned (.int .i64 v)/\ak w0 w' :=
 (wY x d n nd w (hW.ay h) hn hL0).mono fun _ _ ⟨he,hw⟩=>⟨by rw[<-hv];exact he,h.trans hw⟩
theorem Lg{d:Wd}{n:Nat}{nd:Nd}(h:aM d n=0)(hn:d.ah[n]? = some nd):nU d n=p8 d n nd:=by
 unfold nU;rw[if_pos h,Int.toNat_natCast,hn]
theorem Lh{d:Wd}{n:Int}(h:¬ aM d n=0):nU d n=0:=by unfold nU;rw[if_neg h]
def dD(d:Wd)(n:Nat)(nd:Nd):List Mg:=nd.held.filter fun m=>decide (m.st<=p8 d n nd)
theorem zl(f:Int)(l:List Mg)(k:Nat):((l.take k).filter fun m=>decide (m.st<=f)).length<=k:=by
 have:=List.length_filter_le (fun m:Mg=>decide (m.st<=f)) (l.take k);have:=List.length_take_le k l;omega
theorem IK{d:Wd}(h:aZ d=0){n:Nat}{nd:Nd}(hn:d.ah[n]? = some nd):nd.held.length<=40:=by
 have h1:iM d=true:=by
  unfold aZ at h;by_cases c:dS d.ah.length d.au=0
  ·rw[if_pos c]at h;cases hs:iM d
   ·rw[hs]at h;simp at h
   ·rfl
  ·rw[if_neg c]at h;exact absurd h c
 rw[uR,Bool.and_eq_true,List.all_eq_true]at h1;have:=h1.1 nd (List.mem_of_getElem? hn);unfold qd at this;rw[Bool.and_eq_true]at this;simpa using this.1
set_option maxRecDepth 8000 in
theorem Ec(x:WV)(d:Wd)(n:Nat)(nd:Nd)(w:World)(hW:WAt w x d)(hn:d.ah[n]? = some nd)(hL0:j5 d nd)(hsh:nd.held.length<=40) :
  Calls prog 116 #[.agg #[.slice x.ga x.gl x.gc,.slice x.na x.nl x.nc,.slice x.wa x.wl x.wc],.int .i64 n] w fun e w'=>∃v,e=.returned v/\w'.ownsRow w.heap.size 95 5 v (dD d n nd).length (flat (dD d n nd))/\ak w w':=by
 obtain⟨i0,hi,hz0,hz1,hz2⟩:=info_parts Tryz.uS;have hnl:=(zQ2.1 hn).1;obtain⟨ga,gl,gc,na,nl,nc,wa,wl,wc⟩:=x;have p9:=hW.n.bq;have hnm:=hW.n.dY;dsimp only at p9 hnm ⊢;subst p9;obtain⟨bn,on,rfl,hbn,hcn⟩:=hW.n.cells (by dsimp only;omega);obtain⟨k0,-,⟨v2,k2,ha,hc,rfl,hhc,hH⟩,-⟩:=hcn n nd hn;obtain⟨w1,hw1⟩:∃w1,w.alloc (.cells #[.slice ga gl gc,.slice (some ⟨bn,on,none⟩) d.ah.length nc,.slice wa wl wc] 31)=w1:=⟨_,rfl⟩;have hS1:=aF hw1;have hsz:w.heap.size < w1.heap.size:=by rw[<-hw1];simp
 have b0:w1.cell? ⟨w.heap.size,0,none⟩=some (.slice ga gl gc):=by rw[<-hw1];simp[go_sem]
 have b1:w1.cell? ⟨w.heap.size,1,none⟩=some (.slice (some ⟨bn,on,none⟩) d.ah.length nc):=by rw[<-hw1];simp[go_sem]
 have b2:w1.cell? ⟨w.heap.size,2,none⟩=some (.slice wa wl wc):=by rw[<-hw1];simp[go_sem]
 have hW1:=hW.ay hS1;have n1:(n:Int) < (d.ah.length:Int):=by omega
 obtain⟨far,IL⟩:∃far,p8 d n nd=far:=⟨_,rfl⟩;have R4:Hid (p8 d n nd=far):=IL;have HRL:Hid (dD d n nd=nd.held.filter fun m=>decide (m.st<=far)):=by unfold Hid dD;rw[IL]
 clear hcn k0 IL
 have RF:Hid (∀y,ak w1 y->y.cell? ⟨w.heap.size,0,none⟩=some (.slice ga gl gc)/\y.cell? ⟨w.heap.size,1,none⟩=some (.slice (some ⟨bn,on,none⟩) d.ah.length nc)/\y.cell? ⟨w.heap.size,2,none⟩=some (.slice wa wl wc)/\y.cell? ⟨bn,on+n*4+2,none⟩=some (.slice ha nd.held.length hc)):=fun y hy =>
  ⟨(hy.av (by omega) _).trans b0,(hy.av (by omega) _).trans b1,(hy.av (by omega) _).trans b2,((hS1.trans hy).av hbn _).trans k2⟩
 obtain⟨_,hHm,hHc⟩:=hH
 go_enter func116,ntmps116
 go_wp2
 clear hw1
 go_loopw [5,6] (fun v i wr=>(∃k:Nat,k<=nd.held.length/\i=.int .i64 k/\wr.ownsRow w1.heap.size 95 5 v ((nd.held.take k).filter fun m=>decide (m.st<=far)).length (flat ((nd.held.take k).filter fun m=>decide (m.st<=far))))/\ak w1 wr) (fun _ i _=>nd.held.length - (intOf i).toNat)
 case atStart=>exact⟨⟨0,by omega,rfl,World.ownsRow_nil _ _ _ _⟩,ak.refl _⟩
 case round =>
  obtain⟨⟨k,hk,rfl,hown⟩,hS⟩:=hrel;obtain⟨va,Ph,rfl,hvc⟩:=ownsRow_form hown;obtain⟨f0,f1,f2,f3⟩:=RF.out _ hS;by_cases hlt:k < nd.held.length
  ·obtain⟨b,off,rfl,hb,hcell⟩:=hHc (by omega);obtain⟨m,hm⟩:∃m,nd.held[k]? = some m:=⟨_,zQ1 hlt⟩;have hS0:=hS1.trans hS;obtain⟨d0,d1,d2,d3,d4⟩:=dM (w:=wr) (fun i u hi=>(hS0.av hb _).trans (hcell i u hi)) k m hm;have HM:Hid (nd.held[k]? = some m):=hm;obtain⟨L,hL⟩:∃L,((nd.held.take k).filter fun m=>decide (m.st<=far))=L:=⟨_,rfl⟩;have hLk:L.length<=k:=by rw[<-hL];exact zl _ _ _
   rw[hL]at hown hvc ⊢;have HL:Hid (((nd.held.take k).filter fun m=>decide (m.st<=far))=L):=hL;obtain⟨w2,hw2⟩:∃w2,wr.alloc (.cells #[.int .i64 m.fr,.int .i64 m.gr,.int .i64 m.st,.bool m.nul,.string m.body] 95)=w2:=⟨_,rfl⟩;have hS2:=aF hw2;have hsz2:wr.heap.size < w2.heap.size:=by rw[<-hw2];simp
   have q2:w2.cell? ⟨wr.heap.size,2,none⟩=some (.int .i64 m.st):=by rw[<-hw2];simp[go_sem]
   have hQ:cO w2 wr.heap.size 0 m:=by rw[<-hw2];constructor <;> simp[go_sem]
   have hne:Nonempty (Later w2):=⟨⟨w2,ak.refl w2⟩⟩;have gm:∀(y:Later w2) (o:Nat),y.w.cell? ⟨wr.heap.size,o,none⟩=w2.cell? ⟨wr.heap.size,o,none⟩:=fun y o=>y.cell hsz2;have gw:∀(y:Later w2) (o:Nat),y.w.cell? ⟨w.heap.size,o,none⟩=w1.cell? ⟨w.heap.size,o,none⟩:=fun y o=>Later.old (hS.trans hS2) y o (by omega);have hW2:=hW1.ay (hS.trans hS2);have hown2:=gU hS2 hown;clear hm hcell hHc hL hown;cases h6:decide (m.st<=far)
   ·have HF:Hid (((nd.held.take (k+1)).filter fun m=>decide (m.st<=far))=L):=by
     unfold Hid;rw[List.take_add_one,HM.out,List.filter_append,HL.out];simp[h6]
    go_wp2_with fail
    refine aH (by kernel_rfl) (by kernel_rfl) (ak.refl w2) ?_
    repeat (go_big_quiet_step ((go_at_call 44;exact Later.call (zZ w2 ⟨ga,gl,gc,_,d.ah.length,nc,wa,wl,wc⟩ d n nd _ R4.out hW2 hn hL0))))
    refine wpQuiet_nil ?_;intro w9 hS9
    go_wp2
    go_roundw
    case rel=>exact⟨⟨k+1,by omega,by go_num,by rw[HF.out];exact gU hS9 hown2⟩,hS.trans (hS2.trans hS9)⟩
    case measure=>simp[intOf];omega
   ·have HF:Hid (((nd.held.take (k+1)).filter fun m=>decide (m.st<=far))=L++[m]):=by
     unfold Hid;rw[List.take_add_one,HM.out,List.filter_append,HL.out];simp[h6]
    go_wp2_with fail
    refine aH (by kernel_rfl) (by kernel_rfl) (ak.refl w2) ?_
    repeat (go_big_quiet_step ((go_at_call 44;exact Later.call (zZ w2 ⟨ga,gl,gc,_,d.ah.length,nc,wa,wl,wc⟩ d n nd _ R4.out hW2 hn hL0))))
    refine wpQuiet_nil ?_;intro w9 hS9;have lX:=gU hS9 hown2;have Co:ak w1 w9:=hS.trans (hS2.trans hS9);obtain⟨g0,g1,g2,g3,g4⟩:=hQ;have p0:w9.cell? ⟨wr.heap.size,0,none⟩=some (.int .i64 m.fr):=(hS9.av hsz2 _).trans g0;have p1:w9.cell? ⟨wr.heap.size,1,none⟩=some (.int .i64 m.gr):=(hS9.av hsz2 _).trans g1;have p2:w9.cell? ⟨wr.heap.size,2,none⟩=some (.int .i64 m.st):=(hS9.av hsz2 _).trans g2;have p3:w9.cell? ⟨wr.heap.size,3,none⟩=some (.bool m.nul):=(hS9.av hsz2 _).trans g3;have p4:w9.cell? ⟨wr.heap.size,4,none⟩=some (.string m.body):=(hS9.av hsz2 _).trans g4;clear g0 g1 g2 g3 g4 gm gw hown2 hw2 d0 d1 d2 d3 d4 q2
    go_wp2_with (at_builtin;refine wpList_append_own _ rfl _ _ 62 rfl w1.heap.size 95 i0 (.agg #[.int .i64 0,.int .i64 0,.int .i64 0,.bool false,.string ByteArray.empty]) 5 48 underlying62 hi hz0 hz1 hz2 rfl (by decide) _ _ _ rfl (lX.alloc _) ⟨w9.heap.size,0,none⟩ 1 1 m.cells rfl rfl (iX _ _ _) (fun u hu=>dN u [m] (by simpa[flat] using hu)) (by unfold maxLen;omega) (by omega) (by have:=Co.size;simp;omega) ?_;intro v3 w12 hown3 lu _;have dO:ak w1 w12:=(Co.alloc _).grown lu (bP lX))
    go_roundw
    case rel=>exact⟨⟨k+1,by omega,by go_num,by rw[HF.out,List.length_append,fM];simpa[flat] using hown3⟩,by assumption⟩
    case measure=>simp[intOf];omega
  ·obtain rfl:k=nd.held.length:=by omega
   rw[List.take_of_length_le (Nat.le_refl _)]at hown
   have hown':wr.ownsRow w1.heap.size 95 5 (.slice va ((nd.held.take nd.held.length).filter fun m=>decide (m.st<=far)).length Ph) (dD d n nd).length (flat (dD d n nd)):=by
    rw[HRL.out];rw[List.take_of_length_le (Nat.le_refl _)];exact hown
   go_wp2
   go_ret
   exact⟨_,rfl,lC (by omega) hown',hS1.trans hS⟩
end Go.Proofs.YtediempflagfkaaGreatDoor
set_option maxHeartbeats 2000000
namespace Go.Proofs.YtediempflagfkaaGreatDoor
open _root_.Go.Proofs.Tryz hiding checked
set_option maxRecDepth 8000
open Go.RowKit Go.Shelf
attribute [local go_sem] Oper.semAt_some
theorem GJ{xs:List Int}{n:Int}{k:Nat}(hk:k < xs.length)(h:hasB xs k n=true):hits xs [n] (k+1)=hits xs [n] k++[k]:=by
 rw[Gh xs n k hk]at h;exact AA (by simpa using h)
theorem Ms{xs:List Int}{n:Int}{k:Nat}(hk:k < xs.length)(h:hasB xs k n=false):hits xs [n] (k+1)=hits xs [n] k:=by
 rw[Gh xs n k hk]at h;exact EC (by simpa using h)
theorem GK(xs:List Int)(n:Int):∀(r G0 a:Nat),G0+r=xs.length->(hits xs [n] G0).length=a->a < (hits xs [n] xs.length).length ->
  ∃g,(hits xs [n] xs.length)[a]? = some g/\G0<=g/\g < xs.length/\hasB xs g n=true/\(∀g',G0<=g'->g' < g->hasB xs g' n=false)/\(hits xs [n] (g+1)).length=a+1
 | 0,G0,a,h1,h2,h3=>by
  obtain rfl:G0=xs.length:=by omega
  omega
 | r+1,G0,a,h1,h2,h3=>by
  have hG:G0 < xs.length:=by omega
  cases hb:hasB xs G0 n
  ·have e:=Ms hG hb;obtain⟨g,p1,p2,p3,p4,p5,p6⟩:=GK xs n r (G0+1) a (by omega) (by rw[e];exact h2) h3;refine⟨g,p1,by omega,p3,p4,fun g' q1 q2=>?_,p6⟩;by_cases c:g'=G0
   ·rw[c];exact hb
   ·exact p5 g' (by omega) q2
  ·have e:=GJ hG hb;refine⟨G0, ?_,Nat.le_refl _,hG,hb,fun g' q1 q2=>by omega,by rw[e,List.length_append];simp[h2]⟩;obtain⟨t,ht⟩:=pz xs [n] (G0+1) xs.length (by omega);rw[<-ht,e,List.getElem?_append_left (by simp;omega),List.getElem?_append_right (by omega),h2];simp
theorem Q6(xs:List Int)(n:Int)(G0:Nat)(h:(hits xs [n] G0).length=(hits xs [n] xs.length).length)(g:Nat)(h1:G0<=g)(h2:g < xs.length):hasB xs g n=false:=by
 cases hb:hasB xs g n
 ·rfl
 ·have e:=GJ h2 hb;have p1:=(pz xs [n] (g+1) xs.length (by omega)).length_le;have p2:=(pz xs [n] G0 g h1).length_le;rw[e,List.length_append]at p1;simp at p1;omega
theorem JF{J:Nat->World->Prop}{d:Wd}{n:Nat}{W:World}(hsk:∀i A,J i A->i < d.au.length*d.ah.length->(∃p,(pairs d.au.length d.ah.length)[i]? = some p/\kZ d n p=false)->J (i+1) A)
  (g:Nat) (hg:g < d.au.length) (hb:hasB d.au g n=false) (h:J (g*d.ah.length) W):J ((g+1)*d.ah.length) W:=by
 have:∀k,k<=d.ah.length->J (g*d.ah.length+k) W:=by
  intro k
  induction k with
  | zero=>exact fun _=>h
  | succ k ih =>
   intro hk;have hp:=lq hg (show k < d.ah.length by omega);exact hsk _ _ (ih (by omega)) (by have:=(zQ2.1 hp).1;rwa[kT]at this) ⟨_,hp,by unfold kZ;rw[hb];simp⟩
 rw[Nat.succ_mul];exact this _ (Nat.le_refl _)
theorem tQ{J:Nat->World->Prop}{d:Wd}{n:Nat}{W:World}(hsk:∀i A,J i A->i < d.au.length*d.ah.length->(∃p,(pairs d.au.length d.ah.length)[i]? = some p/\kZ d n p=false)->J (i+1) A)
  (G0:Nat):∀(r:Nat),G0+r<=d.au.length->(∀g',G0<=g'->g' < G0+r->hasB d.au g' n=false)->J (G0*d.ah.length) W->J ((G0+r)*d.ah.length) W
 | 0,_,_,h=>h
 | r+1,hr,hm,h=>by
  have:=tQ hsk G0 r (by omega) (fun g' a b=>hm g' a (by omega)) h;exact JF hsk (G0+r) (by omega) (hm _ (by omega) (by omega)) this
set_option maxRecDepth 100000 in
theorem Ju(m:Nat)(Bj X:Nat)(w00 w:World)(hS0:ak w00 w)(hBX:Bj≠X)(hXw:X < w.heap.size)(ga:Option Addr)(gc:Nat)(na:Option Addr)(nc:Nat)(d:Wd)(n:Nat)
  (hG:Ints w00 ga d.au.length d.au) (hnm:d.ah.length<=17592186043904)
  (c0:w.cell? ⟨Bj,0,none⟩=some (.slice ga d.au.length gc)) (c1:w.cell? ⟨Bj,1,none⟩=some (.slice na d.ah.length nc)) (c3:w.cell? ⟨Bj,3,none⟩=some (.int .i64 n)) :
  PI prog m 163 #[.pointer (some ⟨Bj,0,none⟩)] (fun p:Nat × Nat=>#[.int .i64 (p.1:Int),.int .i64 (p.2:Int)]) (KX w00.heap.size (some X))
   (fun i p=>(pairs d.au.length d.ah.length)[i]? = some p/\kZ d n p=true) (fun i=>∃p,(pairs d.au.length d.ah.length)[i]? = some p/\kZ d n p=false) (d.au.length*d.ah.length) w:=by
 intro l J Jp W hW hJ hsk hY h0;have hgm:=hG.dY
 have hBlt:Bj < w.heap.size:=by
  unfold World.cell? at c0;split at c0
  ·rename_i hb;exact(zQ3.1 hb).1
  ·cases c0
 have C:∀W',KX w00.heap.size (some X) W W'->ak w00 W'/\W'.cell? ⟨Bj,0,none⟩=some (.slice ga d.au.length gc)/\W'.cell? ⟨Bj,1,none⟩=some (.slice na d.ah.length nc)/\W'.cell? ⟨Bj,3,none⟩=some (.int .i64 n):=fun W' h =>
  ⟨⟨(hS0.trans hW).below.trans h.below⟩,h.cell ((hW.av hBlt _).trans c0) (by simpa using hBX),h.cell ((hW.av hBlt _).trans c1) (by simpa using hBX),h.cell ((hW.av hBlt _).trans c3) (by simpa using hBX)⟩
 obtain⟨hSW,d0,d1,d3⟩:=C W (KX.refl _ _ _);have hIW:=hG.ay hSW;refine callsIn_of_wp func163 rfl trivial ?_ rfl;simp only[ntmps163,List.size_toArray,List.length_cons,List.length_nil,Nat.reduceAdd,Nat.reduceSub,Array.replicate_succ,Array.replicate_zero,List.push_toArray,List.append_toArray,List.nil_append,List.cons_append];obtain⟨H,hH⟩:∃H,hits d.au [(n:Int)] d.au.length=H:=⟨_,rfl⟩;have hHl:H.length<=d.au.length:=by rw[<-hH];exact EA _ _ _
 have HH:Hid (hits d.au [(n:Int)] d.au.length=H):=hH
 gi_wp2_with (refine⟨trivial,fun h=>(by cases h), ?_⟩;gi_at_call 139;refine(callsIn_wide.2 (Oa _ _ _ d.au _ _ hIW)).mono ?_;rw[hH];rintro e W0 ⟨v,rfl,hown,hbel⟩;obtain⟨ra,SL,rfl,hR⟩:=zu hown (by omega))
 have Mt:ak W W0:=⟨hbel⟩;have hk0:KX w00.heap.size (some X) W W0:=KX.iD Mt hSW.size;have hJ0:=hJ _ _ _ h0 Mt;have hRc:=hR.cells
 have hge:∀b off,ra=some ⟨b,off,none⟩->some b≠some X:=by
  intro b off e;have:=bP hown b (by rw[e];rfl);have:=hW.size;simp;omega
 clear hown hbel hH h0
 gi_loopw [13] (fun i wr=>∃a G0:Nat,a<=H.length/\i=.int .i64 a/\G0<=d.au.length/\(hits d.au [(n:Int)] G0).length=a/\J (G0*d.ah.length) wr/\KX w00.heap.size (some X) W0 wr) (fun i _=>H.length - (intOf i).toNat)
 case atStart=>exact⟨0,0,Nat.zero_le _,rfl,Nat.zero_le _,rfl,by rw[Nat.zero_mul];exact hJ0,KX.refl _ _ _⟩
 case round =>
  obtain⟨a,G0,ha,rfl,hG0,hla,hJa,hka⟩:=hrel;obtain⟨hSr,f0,f1,f3⟩:=C wr (hk0.trans hka);by_cases hlt:a < H.length
  ·obtain⟨g,p1,p2,p3,p4,p5,p6⟩:=GK d.au n (d.au.length - G0) G0 a (by omega) hla (by rw[HH.out];exact hlt)
   have hJg:J (g*d.ah.length) wr:=by
    have:=tQ hsk G0 (g - G0) (by omega) (fun g' q1 q2=>p5 g' q1 (by omega)) hJa
    rwa[show G0+(g - G0)=g by omega]at this
   obtain⟨b,off,rfl,hb,hcell⟩:=hRc (by omega)
   have hca:wr.cell? ⟨b,off+a,none⟩=some (.int .i64 (g:Int)):=by
    refine hka.cell ((hcell a hlt).trans ?_) (hge b off rfl);rw[HH.out]at p1;rw[List.getElem?_map,p1];rfl
   have HL6:Hid ((hits d.au [(n:Int)] (g+1)).length=a+1):=p6;clear hcell hRc hla p1 p2 p5 p6 hJa hG0
   gi_wp2
   gi_loopw [21] (fun i wr=>∃k:Nat,k<=d.ah.length/\i=.int .i64 k/\J (g*d.ah.length+k) wr/\KX w00.heap.size (some X) W0 wr) (fun i _=>d.ah.length - (intOf i).toNat)
   case atStart=>exact⟨0,Nat.zero_le _,rfl,hJg,hka⟩
   case round =>
    clear f0 f1 f3 hSr hca hka hJg;obtain⟨k,hk,rfl,hJk,hkk⟩:=hrel;obtain⟨hSr,f0,f1,f3⟩:=C wr (hk0.trans hkk);by_cases hkl:k < d.ah.length
    ·have hp:=lq p3 hkl;have hpl:g*d.ah.length+k < d.au.length*d.ah.length:=by have:=(zQ2.1 hp).1;rwa[kT]at this
     have hIr:=hG.ay hSr;have HO:Hid (kZ d n (g,k)=(((k:Int) != (n:Int)) && hasB d.au g k)):=by unfold Hid kZ;dsimp only;rw[p4];simp
     cases h1:((k:Int) != (n:Int))
     ·have hJn:J (g*d.ah.length+(k+1)) wr:=hsk _ _ hJk hpl ⟨_,hp,by rw[HO.out,h1];rfl⟩;clear hY
      gi_wp2
      refine⟨trivial, ?_⟩
      gi_wp2
      refine⟨fun _ h=>(by cases h), ?_⟩
      gi_wp2
      go_roundw
      case rel=>exact⟨k+1,by omega,by simp,hJn,hkk⟩
      case measure=>simp[intOf];omega
     cases h2:hasB d.au g k
     ·have hJn:J (g*d.ah.length+(k+1)) wr:=hsk _ _ hJk hpl ⟨_,hp,by rw[HO.out,h2];simp⟩;clear hY
      gi_wp2_with (first
       | (refine⟨trivial,fun h=>(by cases h), ?_⟩;gi_at_call 151;refine(callsIn_wide.2 (iA _ _ _ d.au _ _ _ hIr)).mono ?_;rw[h2];rintro e w' ⟨rfl,hw⟩;obtain rfl:=hw.symm))
      refine⟨fun _ h=>(by cases h), ?_⟩
      gi_wp2
      go_roundw
      case rel=>exact⟨k+1,by omega,by simp,hJn,hkk⟩
      case measure=>simp[intOf];omega
     ·obtain⟨fn,tmps,assign,body,hy,hRn⟩:=hY _ (g,k) wr hJk hpl ⟨hp,by rw[HO.out,h1,h2];rfl⟩;clear hY
      gi_wp2_with (first
       | (refine⟨trivial,fun h=>(by cases h), ?_⟩;gi_at_call 151;refine(callsIn_wide.2 (iA _ _ _ d.au _ _ _ hIr)).mono ?_;rw[h2];rintro e w' ⟨rfl,hw⟩;obtain rfl:=hw.symm))
      refine⟨fun h=>(by cases h), ?_⟩;refine hRn.mono ?_;rintro e W3 (⟨rfl,hJ3,hk3⟩ | ⟨ch,rfl,hp3⟩)
      ·gi_wp2
       go_roundw
       case rel=>exact⟨k+1,by omega,by simp,hJ3,hkk.trans hk3⟩
       case measure=>simp[intOf];omega
      ·exact⟨rfl,.inr ⟨ch,rfl,hp3⟩⟩
    ·obtain rfl:k=d.ah.length:=by omega
     gi_wp2
     go_roundw
     case rel=>exact⟨a+1,g+1,by omega,by simp,by omega,HL6.out,by rw[Nat.succ_mul];exact hJk,hkk⟩
     case measure=>simp[intOf];omega
  ·have hJe:J (d.au.length*d.ah.length) wr:=by
    have hh:(hits d.au [(n:Int)] G0).length=(hits d.au [(n:Int)] d.au.length).length:=by rw[HH.out];omega
    have:=tQ hsk G0 (d.au.length - G0) (by omega) (fun g' q1 q2=>Q6 d.au n G0 hh g' q1 (by omega)) hJa
    rwa[show G0+(d.au.length - G0)=d.au.length by omega]at this
   gi_wp2
   go_end0
   exact .inl ⟨_,rfl,hJe⟩
end Go.Proofs.YtediempflagfkaaGreatDoor
set_option maxHeartbeats 2000000
namespace Go.Proofs.YtediempflagfkaaGreatDoor
open _root_.Go.Proofs.Tryz hiding checked
set_option maxRecDepth 8000
open Go.RowKit Go.Shelf
attribute [local go_sem] Oper.semAt_some
theorem Jt(x:WV)(n:Int)(w:World) :
  Calls prog 141 #[.agg #[.slice x.ga x.gl x.gc,.slice x.na x.nl x.nc,.slice x.wa x.wl x.wc,.int .i64 n]] w fun e w'=>e=.returned (.func (.func 163) #[] #[.pointer (some ⟨w.heap.size,0,none⟩)])/\w'=w.alloc (.cells #[.slice x.ga x.gl x.gc,.slice x.na x.nl x.nc,.slice x.wa x.wl x.wc,.int .i64 n] 139):=by
 go_enter func141,ntmps141
 go_wp2
 go_ret
 exact⟨rfl,rfl⟩
theorem KX.same{n:Nat}{X:Option Nat}{A B:World}(h:KX n X A B){p:Addr}{v:Value}(hc:A.cell? p=some v)(hX:some p.block≠X):B.heap[p.block]? = A.heap[p.block]?:=by
 have:∃o,A.heap[p.block]? = some o/\o.isCells=true:=by
  unfold World.cell? at hc;split at hc
  ·rename_i c e z hb;exact⟨_,hb,rfl⟩
  ·cases hc
 obtain⟨o,ho,hoc⟩:=this;exact(h.cells _ _ ho hoc hX).trans ho.symm
set_option maxRecDepth 8000 in
theorem Pk(x:WV)(d:Wd)(n:Nat)(nd:Nd)(w:World)(hW:WAt w x d)(hn:d.ah[n]? = some nd)(hL0:j5 d nd) :
  Calls prog 108 #[.agg #[.slice x.ga x.gl x.gc,.slice x.na x.nl x.nc,.slice x.wa x.wl x.wc,.int .i64 n]] w fun e w'=>e=.returned (.int .i64 (p8 d n nd))/\ak w w':=by
 have hnl:=(zQ2.1 hn).1;obtain⟨ga,gl,gc,na,nl,nc,wa,wl,wc⟩:=x;have p9:=hW.n.bq;have hnm:=hW.n.dY;have hgl:=hW.g.bq;have hgm:=hW.g.dY;have hGw:=hW.g;dsimp only at p9 hnm hgl hgm hGw ⊢;subst p9 hgl;obtain⟨bn,on,rfl,hbn,hcn⟩:=hW.n.cells (by dsimp only;omega);obtain⟨k0,⟨v1,k1,la,lc,rfl,hlc,hL⟩,⟨v2,k2,ha,hc,rfl,hhc,hH⟩,⟨v3,k3,ta,tc,rfl,htc,hT⟩⟩:=hcn n nd hn;obtain⟨w1,hw1⟩:∃w1,((w.alloc (.cells #[.slice ga d.au.length gc,.slice (some ⟨bn,on,none⟩) d.ah.length nc,.slice wa wl wc,.int .i64 n] 139)).alloc (.cells #[.int .i64 nd.aK,.slice la nd.last.length lc,.slice ha nd.held.length hc,.slice ta nd.aG.length tc] 64)).alloc (.cells #[.int .i64 nd.aK] 3)=w1:=⟨_,rfl⟩;have hS1:ak w w1:=by rw[<-hw1];exact(((ak.refl w).alloc _).alloc _).alloc _
 have hsz:w.heap.size+2 < w1.heap.size:=by rw[<-hw1];simp
 have b0:w1.cell? ⟨w.heap.size,0,none⟩=some (.slice ga d.au.length gc):=by rw[<-hw1];simp[go_sem]
 have b1:w1.cell? ⟨w.heap.size,1,none⟩=some (.slice (some ⟨bn,on,none⟩) d.ah.length nc):=by rw[<-hw1];simp[go_sem]
 have b2:w1.cell? ⟨w.heap.size,2,none⟩=some (.slice wa wl wc):=by rw[<-hw1];simp[go_sem]
 have b3:w1.cell? ⟨w.heap.size,3,none⟩=some (.int .i64 n):=by rw[<-hw1];simp[go_sem]
 have b4:w1.cell? ⟨w.heap.size+1,1,none⟩=some (.slice la nd.last.length lc):=by rw[<-hw1];simp[go_sem]
 have b5:w1.cell? ⟨w.heap.size+2,0,none⟩=some (.int .i64 nd.aK):=by rw[<-hw1];simp[go_sem]
 have b6:w1.frozen? ⟨w.heap.size+2,0,none⟩=false:=by rw[<-hw1];simp[go_sem]
 have n1:(n:Int) < (d.ah.length:Int):=by omega
 clear hcn;refine iY func108 rfl ?_;simp only[ntmps108,List.size_toArray,List.length_cons,List.length_nil,Nat.reduceAdd,Nat.reduceSub,Array.replicate_succ,Array.replicate_zero,List.push_toArray,List.append_toArray,List.nil_append,List.cons_append];refine eY (dw ?_)
 go_wp2
 refine eY (dw ?_)
 go_wp2
 refine eY (dw ?_)
 go_wp2
 refine eY (eY (dw ?_))
 go_wp2_with (go_at_call 141;refine(Jt ⟨ga,d.au.length,gc,_,d.ah.length,nc,wa,wl,wc⟩ n _).mono ?_;rintro e w' ⟨rfl,rfl⟩)
 refine uZ ?_;obtain⟨w5,hw5⟩:∃w5,w1.alloc (.cells #[.slice ga d.au.length gc,.slice (some ⟨bn,on,none⟩) d.ah.length nc,.slice wa wl wc,.int .i64 n] 139)=w5:=⟨_,rfl⟩;have xS:=aF hw5;have hS5:=hS1.trans xS;have z0:w5.cell? ⟨w1.heap.size,0,none⟩=some (.slice ga d.au.length gc):=by rw[<-hw5];simp[go_sem]
 have z1:w5.cell? ⟨w1.heap.size,1,none⟩=some (.slice (some ⟨bn,on,none⟩) d.ah.length nc):=by rw[<-hw5];simp[go_sem]
 have z3:w5.cell? ⟨w1.heap.size,3,none⟩=some (.int .i64 n):=by rw[<-hw5];simp[go_sem]
 have y4:w5.cell? ⟨w.heap.size+1,1,none⟩=some (.slice la nd.last.length lc):=(xS.av (by omega) _).trans b4;have y5:w5.cell? ⟨w.heap.size+2,0,none⟩=some (.int .i64 nd.aK):=(xS.av (by omega) _).trans b5;have y6:w5.frozen? ⟨w.heap.size+2,0,none⟩=false:=(xS.below.frozen (p:=⟨w.heap.size+2,0,none⟩) (by show w.heap.size+2 < _;omega)).trans b6;rw[hw5];clear hw5 hw1
 refine yP (m:=1) func108 (gf:=163) (lb:=#[.pointer (some ⟨w1.heap.size,0,none⟩)]) rfl (enters_of func163 (by kernel_rfl) rfl) hS5.size
  (Ju 1 w1.heap.size (w.heap.size+2) w w5 hS5 (by omega) (by have:=xS.size;omega) ga gc _ nc d n hGw (by omega) z0 z1 z3) (fun _=>rfl)
  (fun i W=>ak w W/\W.cell? ⟨w.heap.size+2,0,none⟩=some (.int .i64 (kr d n nd i))/\W.frozen? ⟨w.heap.size+2,0,none⟩=false/\W.cell? ⟨w.heap.size+1,1,none⟩=some (.slice la nd.last.length lc))
  (fun _ _=>False)
  (fun i A B hA hk=>⟨⟨hA.1.below.trans (hk.below.mono hS5.size)⟩,hk.cell hA.2.1 (by simp),(World.frozen?_of_block (w:=A) (hk.same hA.2.1 (by simp))).trans hA.2.2.1,hk.cell hA.2.2.2 (by simp)⟩)
  (fun i A hA hi hs=>by
   obtain⟨p,hp,ho⟩:=hs;refine⟨hA.1, ?_,hA.2.2⟩;rw[vT hp];unfold oV;rw[ho];exact hA.2.1)
  ⟨hS5,by rw[y5];simp[kr],y6,y4⟩ ?round ?done ?pan
 case pan =>
  rintro D ch W hD h hK;exact h.elim
 case done =>
  rintro D W hD ⟨hSW,hc1,hf1,-⟩ hK;have HF:Hid (kr d n nd (d.au.length*d.ah.length)=p8 d n nd):=Dj d n nd;refine dw ?_
  go_wp2
  refine⟨by simp,.inl ⟨_,_,rfl,run_takeDeferred hK, ?_⟩⟩;refine⟨_,results_tmp rfl _ _ _,by rw[<-HF.out];rfl,⟨hSW.below.trans ((KX.put (X:=none) (.deferred none) hK rfl hD).below.mono hS5.size)⟩⟩
 case round =>
  rintro l i ⟨g,k⟩ W W' hsz' ⟨hSW,hc1,hf1,hc2⟩ hiN ⟨hx,ho⟩;obtain⟨hgl,hkl⟩:=DF hx;obtain⟨row,hrow⟩:∃row,nd.last[g]? = some row:=⟨_,zQ1 (by have:=hL0.len;omega)⟩;have hrl:=hL0.rows g row hrow;obtain⟨v,hv⟩:∃v,row[k]? = some v:=⟨_,zQ1 (by omega)⟩;obtain⟨bL,oL,rfl,hbL,hcL⟩:=hL.cells (by have:=hL0.len;omega);obtain⟨v4,k4,ra,rc,rfl,hrc,hR⟩:=hcL g row hrow;obtain⟨bR,oR,rfl,hbR,hcR⟩:=hR.cells (by omega);have k5:W'.cell? ⟨bL,oL+g,none⟩=_:=(hSW.av hbL _).trans k4;have k6:W'.cell? ⟨bR,oR+k,none⟩=some (.int .i64 v):=(hSW.av hbR _).trans (by have:=hcR k (by omega);rw[hv]at this;exact this);have g1:(g:Int) < (nd.last.length:Int):=by have:=hL0.len;omega
  have g2:(k:Int) < (row.length:Int):=by omega
  obtain⟨acc,hacc⟩:∃acc,kr d n nd i=acc:=⟨_,rfl⟩
  have HV:Hid (kr d n nd (i+1)=if v < acc then v else acc):=by
   unfold Hid;rw[vT hx,hacc];unfold oV;rw[ho];have:eX nd.last g k=v:=by unfold eX;rw[hrow,Option.getD_some,hv];rfl
   dsimp only;rw[this];rfl
  rw[hacc]at hc1;clear hcL hcR hrow hv hx ho k4 hacc hrl hR
  have LP:NC W' ((W'.setCell ⟨w.heap.size+1+1,0,none⟩ (.int .i64 (if v < acc then v else acc))).drew)/\KX w.heap.size (some (w.heap.size+2)) W' ((W'.setCell ⟨w.heap.size+1+1,0,none⟩ (.int .i64 (if v < acc then v else acc))).drew) /\
    (ak w ((W'.setCell ⟨w.heap.size+1+1,0,none⟩ (.int .i64 (if v < acc then v else acc))).drew)/\((W'.setCell ⟨w.heap.size+1+1,0,none⟩ (.int .i64 (if v < acc then v else acc))).drew).cell? ⟨w.heap.size+2,0,none⟩=some (.int .i64 (kr d n nd (i+1)))
     /\ ((W'.setCell ⟨w.heap.size+1+1,0,none⟩ (.int .i64 (if v < acc then v else acc))).drew).frozen? ⟨w.heap.size+2,0,none⟩=false/\((W'.setCell ⟨w.heap.size+1+1,0,none⟩ (.int .i64 (if v < acc then v else acc))).drew).cell? ⟨w.heap.size+1,1,none⟩=some (.slice (some ⟨bL,oL,none⟩) nd.last.length lc)):=by
   rw[HV.out];obtain⟨u,hu⟩:∃u,(Value.int .i64 (if v < acc then v else acc))=u:=⟨_,rfl⟩;rw[hu];have hob:∀j,j≠w.heap.size+2->((W'.setCell ⟨w.heap.size+2,0,none⟩ u).drew).heap[j]? = W'.heap[j]?:=fun j hj=>Below.heap_setCell W' ⟨w.heap.size+2,0,none⟩ u j hj
   have hcl:∃o,W'.heap[w.heap.size+2]? = some o/\o.isCells=true:=by
    have:=hc1;unfold World.cell? at this;split at this
    ·rename_i hb;exact⟨_,hb,rfl⟩
    ·cases this
   obtain⟨o,UW,hoc⟩:=hcl;refine⟨fun j o' hj ho'=>?_,⟨?_,fun j o' hj ho' hX=>?_⟩,⟨?_⟩, ?_, ?_, ?_⟩
   ·refine(hob j ?_).trans hj;rintro rfl;rw[UW]at hj;cases hj;rw[hoc]at ho';cases ho'
   ·exact(((Below.refl w.heap.size W').setCell (p:=⟨w.heap.size+2,0,none⟩) (by show w.heap.size<=w.heap.size+2;omega) u)).drew
   ·exact(hob j (by simpa using hX)).trans hj
   ·exact((hSW.below.setCell (p:=⟨w.heap.size+2,0,none⟩) (by show w.heap.size<=w.heap.size+2;omega) u)).drew
   ·exact World.cell?_setCell_same' W' ⟨w.heap.size+2,0,none⟩ u (by rw[hc1];rfl)
   ·show(W'.setCell ⟨w.heap.size+2,0,none⟩ u).frozen? _=false;rw[World.frozen?_setCell];exact hf1
   ·exact(World.cell?_of_block (w:=W') (hob (w.heap.size+1) (by omega))).trans hc2
  clear hW hn hL0 hL hH hT hS1 xS hS5 z0 z1 z3 y4 y5 y6 b0 b1 b2 b3 b4 b5 b6 n1 hGw k0 k1 k2 k3 hnl hnm hgm hlc hhc htc hbn hsz hiN hSW hbL hbR hrc HV hgl hkl
  gi_wp2
  refine⟨trivial, ?_⟩
  gi_wp2
  gi_region
  all_goals exact LP
end Go.Proofs.YtediempflagfkaaGreatDoor
set_option maxHeartbeats 2000000
namespace Go.Proofs.YtediempflagfkaaGreatDoor
open _root_.Go.Proofs.Tryz hiding checked
set_option maxRecDepth 8000
open Go.RowKit Go.Shelf
theorem nG(w0 w:World)(x:WV)(d:Wd)(hW:WAt w x d)(h:ak w0 w) :
  Calls prog 129 #[.agg #[.slice x.ga x.gl x.gc,.slice x.na x.nl x.nc,.slice x.wa x.wl x.wc]] w fun e w'=>e=.returned (.int .i64 (aZ d))/\ak w0 w' :=
 (nV x d w hW).mono fun _ _ ⟨he,hw⟩=>⟨he,h.trans hw⟩
theorem Li(n:Int)(N:Nat):inB n 0 ((N:Int) - 1)=(!(decide (n < 0)) && !(decide ((N:Int)<=n))):=by
 unfold inB;rw[Bool.eq_iff_iff];simp;omega
def xg(x:WV)(d:Wd)(n:Int):Value:=if aM d n=0 then .agg #[.slice x.ga x.gl x.gc,.slice x.na x.nl x.nc,.slice x.wa x.wl x.wc,.int .i64 n] else .agg #[.slice none 0 0,.slice none 0 0,.slice none 0 0,.int .i64 0]
theorem xq(y:World)(b:Nat)(tmps:Array Value)(v5 a0 a1 a2 a3 o0 o1 o2 o3:Value)(h4:tmps[4]? = some (.pointer (some ⟨b,0,none⟩)))(h5:tmps[5]? = some v5)
  (r0:y.cell? ⟨b,0,none⟩=some o0) (r1:y.cell? ⟨b,1,none⟩=some o1) (r2:y.cell? ⟨b,2,none⟩=some o2) (r3:y.cell? ⟨b,3,none⟩=some o3) :
  (results Tryz.f107 tmps).run prog ((((y.setCell ⟨b,0,none⟩ a0).setCell ⟨b,1,none⟩ a1).setCell ⟨b,2,none⟩ a2).setCell ⟨b,3,none⟩ a3)=.ok (.tuple #[.agg #[a0,a1,a2,a3],v5]) ((((y.setCell ⟨b,0,none⟩ a0).setCell ⟨b,1,none⟩ a1).setCell ⟨b,2,none⟩ a2).setCell ⟨b,3,none⟩ a3):=by
 obtain⟨Y,hY⟩:∃Y,(((y.setCell ⟨b,0,none⟩ a0).setCell ⟨b,1,none⟩ a1).setCell ⟨b,2,none⟩ a2).setCell ⟨b,3,none⟩ a3=Y:=⟨_,rfl⟩;have c0:Y.cell? ⟨b,0,none⟩=some a0:=by rw[<-hY];simp[go_sem,r0]
 have c1:Y.cell? ⟨b,1,none⟩=some a1:=by rw[<-hY];simp[go_sem,r1]
 have c2:Y.cell? ⟨b,2,none⟩=some a2:=by rw[<-hY];simp[go_sem,r2]
 have c3:Y.cell? ⟨b,3,none⟩=some a3:=by rw[<-hY];simp[go_sem,r3]
 rw[hY];simp[results,Tryz.f107,go_sem,h4,h5,c0,c1,c2,c3]
set_option maxRecDepth 8000 in
theorem Pj(x:WV)(d:Wd)(n:Int)(w:World)(hW:WAt w x d) :
  Calls prog 107 #[.agg #[.slice x.ga x.gl x.gc,.slice x.na x.nl x.nc,.slice x.wa x.wl x.wc],.int .i64 n] w fun e w'=>e=.returned (.tuple #[xg x d n,.int .i64 (aM d n)])/\ak w w':=by
 obtain⟨ga,gl,gc,na,nl,nc,wa,wl,wc⟩:=x;have hnl:=hW.n.bq;have hnm:=hW.n.dY;dsimp only at hnl hnm ⊢;subst hnl;obtain⟨w1,hw1⟩:∃w1,(w.alloc (.cells #[.slice ga gl gc,.slice na d.ah.length nc,.slice wa wl wc] 31)).alloc (.cells #[.slice none 0 0,.slice none 0 0,.slice none 0 0,.int .i64 0] 139)=w1:=⟨_,rfl⟩;have hS1:ak w w1:=by rw[<-hw1];exact((ak.refl w).alloc _).alloc _
 have hsz:w.heap.size+1 < w1.heap.size:=by rw[<-hw1];simp
 have b0:w1.cell? ⟨w.heap.size,0,none⟩=some (.slice ga gl gc):=by rw[<-hw1];simp[go_sem]
 have b1:w1.cell? ⟨w.heap.size,1,none⟩=some (.slice na d.ah.length nc):=by rw[<-hw1];simp[go_sem]
 have b2:w1.cell? ⟨w.heap.size,2,none⟩=some (.slice wa wl wc):=by rw[<-hw1];simp[go_sem]
 have q0:w1.cell? ⟨w.heap.size+1,0,none⟩=some (.slice none 0 0):=by rw[<-hw1];simp[go_sem]
 have q1:w1.cell? ⟨w.heap.size+1,1,none⟩=some (.slice none 0 0):=by rw[<-hw1];simp[go_sem]
 have q2:w1.cell? ⟨w.heap.size+1,2,none⟩=some (.slice none 0 0):=by rw[<-hw1];simp[go_sem]
 have q3:w1.cell? ⟨w.heap.size+1,3,none⟩=some (.int .i64 0):=by rw[<-hw1];simp[go_sem]
 have hf:∀o:Nat,w1.frozen? ⟨w.heap.size+1,o,none⟩=false:=by intro o;rw[<-hw1];simp[go_sem]
 have hW1:=hW.ay hS1;have hSr:=ak.refl w1
 have RF:Hid (∀y,ak w1 y->(y.cell? ⟨w.heap.size,0,none⟩=some (.slice ga gl gc)/\y.cell? ⟨w.heap.size,1,none⟩=some (.slice na d.ah.length nc)/\y.cell? ⟨w.heap.size,2,none⟩=some (.slice wa wl wc))
   /\ (y.cell? ⟨w.heap.size+1,0,none⟩=some (.slice none 0 0)/\y.cell? ⟨w.heap.size+1,1,none⟩=some (.slice none 0 0)/\y.cell? ⟨w.heap.size+1,2,none⟩=some (.slice none 0 0)/\y.cell? ⟨w.heap.size+1,3,none⟩=some (.int .i64 0))
   /\ ∀o:Nat,y.frozen? ⟨w.heap.size+1,o,none⟩=false):=fun y hy =>
  ⟨⟨(hy.av (by omega) _).trans b0,(hy.av (by omega) _).trans b1,(hy.av (by omega) _).trans b2⟩,
   ⟨(hy.av (by omega) _).trans q0,(hy.av (by omega) _).trans q1,(hy.av (by omega) _).trans q2,(hy.av (by omega) _).trans q3⟩,
   fun o=>(hy.below.frozen (p:=⟨w.heap.size+1,o,none⟩) (by show w.heap.size+1 < _;omega)).trans (hf o)⟩
 have SET:Hid (∀y a b c e,ak w1 y->ak w ((((y.setCell ⟨w.heap.size+1,0,none⟩ a).setCell ⟨w.heap.size+1,1,none⟩ b).setCell ⟨w.heap.size+1,2,none⟩ c).setCell ⟨w.heap.size+1,3,none⟩ e)):=fun y a b c e hy =>
  ⟨((((hS1.trans hy).below.setCell (p:=⟨w.heap.size+1,0,none⟩) (Nat.le_succ _) a).setCell (p:=⟨w.heap.size+1,1,none⟩) (Nat.le_succ _) b).setCell (p:=⟨w.heap.size+1,2,none⟩) (Nat.le_succ _) c).setCell (p:=⟨w.heap.size+1,3,none⟩) (Nat.le_succ _) e⟩
 cases h1:(aZ d != 0)
 rotate_left
 ·have HE:Hid (¬ aM d n=0/\aM d n=aZ d):=by
   have:¬ aZ d=0:=by simpa using h1
   have e:aM d n=aZ d:=by unfold aM;rw[if_neg this]
   exact⟨by rw[e];exact this,e⟩
  go_enter func107,ntmps107
  go_wp2_with (go_at_call 129;refine(nG w1 _ ⟨ga,gl,gc,na,d.ah.length,nc,wa,wl,wc⟩ d hW1 hSr).mono ?_;rintro e w2 ⟨rfl,hS2⟩;obtain⟨⟨f0,f1,f2⟩,⟨r0,r1,r2,r3⟩,rf⟩:=RF.out _ hS2)
  refine bodyPost_ret (xq _ _ _ (.int .i64 (aZ d)) _ _ _ _ _ _ _ _ rfl rfl r0 r1 r2 r3) rfl ⟨?_,SET.out _ _ _ _ _ (by assumption)⟩;unfold xg;rw[if_neg HE.out.1,HE.out.2]
 have h0:aZ d=0:=by simpa using h1
 have HR:Hid (inB n 0 ((d.ah.length:Int) - 1)=(!(decide (n < 0)) && !(decide ((d.ah.length:Int)<=n)))):=Li n _;have HE:Hid (aM d n=if inB n 0 ((d.ah.length:Int) - 1) then 0 else 4):=by unfold Hid aM;rw[if_pos h0]
 clear h0;cases h2:decide (n < 0)
 rotate_left
 ·have HB:Hid (aM d n=4):=by unfold Hid;rw[HE.out,HR.out,h2];rfl
  go_enter func107,ntmps107
  go_wp2_with (go_at_call 129;refine(nG w1 _ ⟨ga,gl,gc,na,d.ah.length,nc,wa,wl,wc⟩ d hW1 hSr).mono ?_;rintro e w2 ⟨rfl,hS2⟩;obtain⟨⟨f0,f1,f2⟩,⟨r0,r1,r2,r3⟩,rf⟩:=RF.out _ hS2)
  refine bodyPost_ret (xq _ _ _ (.int .i64 4) _ _ _ _ _ _ _ _ rfl rfl r0 r1 r2 r3) rfl ⟨?_,SET.out _ _ _ _ _ (by assumption)⟩;unfold xg;rw[HB.out];rfl
 cases h3:decide ((d.ah.length:Int)<=n)
 rotate_left
 ·have HB:Hid (aM d n=4):=by unfold Hid;rw[HE.out,HR.out,h3];simp
  go_enter func107,ntmps107
  go_wp2_with (go_at_call 129;refine(nG w1 _ ⟨ga,gl,gc,na,d.ah.length,nc,wa,wl,wc⟩ d hW1 hSr).mono ?_;rintro e w2 ⟨rfl,hS2⟩;obtain⟨⟨f0,f1,f2⟩,⟨r0,r1,r2,r3⟩,rf⟩:=RF.out _ hS2)
  refine bodyPost_ret (xq _ _ _ (.int .i64 4) _ _ _ _ _ _ _ _ rfl rfl r0 r1 r2 r3) rfl ⟨?_,SET.out _ _ _ _ _ (by assumption)⟩;unfold xg;rw[HB.out];rfl
 ·have HB:Hid (aM d n=0):=by unfold Hid;rw[HE.out,HR.out,h2,h3];rfl
  go_enter func107,ntmps107
  go_wp2_with (go_at_call 129;refine(nG w1 _ ⟨ga,gl,gc,na,d.ah.length,nc,wa,wl,wc⟩ d hW1 hSr).mono ?_;rintro e w2 ⟨rfl,hS2⟩;obtain⟨⟨f0,f1,f2⟩,⟨r0,r1,r2,r3⟩,rf⟩:=RF.out _ hS2)
  refine bodyPost_ret (xq _ _ _ (.int .i64 0) _ _ _ _ _ _ _ _ rfl rfl r0 r1 r2 r3) rfl ⟨?_,SET.out _ _ _ _ _ (by assumption)⟩;unfold xg;rw[HB.out];rfl
theorem Kv(w0 w:World)(x:WV)(d:Wd)(n:Int)(v:Value)(e0:Int)(hv:xg x d n=v)(he:aM d n=e0)(hW:WAt w x d)(h:ak w0 w) :
  Calls prog 107 #[.agg #[.slice x.ga x.gl x.gc,.slice x.na x.nl x.nc,.slice x.wa x.wl x.wc],.int .i64 n] w fun e w'=>e=.returned (.tuple #[v,.int .i64 e0])/\ak w0 w' :=
 (Pj x d n w hW).mono fun _ _ ⟨e1,hw⟩=>⟨by rw[<-hv,<-he];exact e1,h.trans hw⟩
theorem Qh(w0 w:World)(x:WV)(d:Wd)(n:Nat)(nd:Nd)(hW:WAt w x d)(hn:d.ah[n]? = some nd)(hL0:j5 d nd)(h:ak w0 w) :
  Calls prog 108 #[.agg #[.slice x.ga x.gl x.gc,.slice x.na x.nl x.nc,.slice x.wa x.wl x.wc,.int .i64 n]] w fun e w'=>e=.returned (.int .i64 (p8 d n nd))/\ak w0 w' :=
 (Pk x d n nd w hW hn hL0).mono fun _ _ ⟨he,hw⟩=>⟨he,h.trans hw⟩
set_option maxRecDepth 8000 in
theorem zn(x:WV)(d:Wd)(n:Int)(w:World)(hW:WAt w x d) :
  Calls prog 80 #[.agg #[.slice x.ga x.gl x.gc,.slice x.na x.nl x.nc,.slice x.wa x.wl x.wc],.int .i64 n] w fun e w'=>e=.returned (.tuple #[.int .i64 (nU d n),.int .i64 (aM d n)])/\ak w w':=by
 have hS1:ak w (w.alloc (.cells #[.slice x.ga x.gl x.gc,.slice x.na x.nl x.nc,.slice x.wa x.wl x.wc] 31)):=(ak.refl w).alloc _;have hW1:=hW.ay hS1;cases h1:(aM d n != 0)
 ·have h0:aM d n=0:=by simpa using h1
  obtain⟨hE,k,nd,rfl,hn⟩:=wZ h0;have HE:Hid (aM d (k:Int)=0):=h0;have HB:Hid (nU d (k:Int)=p8 d k nd):=Lg h0 hn;have HA:Hid (xg x d (k:Int)=.agg #[.slice x.ga x.gl x.gc,.slice x.na x.nl x.nc,.slice x.wa x.wl x.wc,.int .i64 (k:Int)]):=by unfold Hid xg;rw[if_pos h0]
  have hL0:=Dk hE hn;clear h0 hE
  go_enter func80,ntmps80
  go_wp2_with (first
   | (go_at_call 107;refine(Kv w _ x d _ _ _ HA.out HE.out hW1 hS1).mono ?_;rintro e w2 ⟨rfl,hS2⟩)
   | (go_at_call 108;refine(Qh w _ x d k nd (hW.ay (ak.alloc (by assumption) _)) hn hL0 (ak.alloc (by assumption) _)).mono ?_;rintro e w3 ⟨rfl,hS3⟩))
  go_ret2
  exact⟨by rw[HB.out,HE.out];rfl,by assumption⟩
 ·have h0:¬ aM d n=0:=by simpa using h1
  have HB:Hid (nU d n=0):=Lh h0;have HA:Hid (xg x d n=.agg #[.slice none 0 0,.slice none 0 0,.slice none 0 0,.int .i64 0]):=by unfold Hid xg;rw[if_neg h0]
  clear h0
  go_enter func80,ntmps80
  go_wp2_with (first
   | (go_at_call 107;refine(Kv w _ x d _ _ _ HA.out rfl hW1 hS1).mono ?_;rintro e w2 ⟨rfl,hS2⟩))
  go_ret2
  exact⟨by rw[HB.out];rfl,ak.alloc (by assumption) _⟩
set_option maxRecDepth 8000 in
theorem Ll(x:WV)(d:Wd)(n:Nat)(nd:Nd)(w:World)(hW:WAt w x d)(hn:d.ah[n]? = some nd)(hL0:j5 d nd)(hsh:nd.held.length<=40) :
  Calls prog 158 #[.agg #[.slice x.ga x.gl x.gc,.slice x.na x.nl x.nc,.slice x.wa x.wl x.wc,.int .i64 n]] w fun e w'=>∃v,e=.returned v/\w'.ownsRow w.heap.size 95 5 v (dD d n nd).length (flat (dD d n nd))/\ak w w':=by
 obtain⟨i0,hi,hz0,hz1,hz2⟩:=info_parts Tryz.uS;have hnl:=(zQ2.1 hn).1;obtain⟨ga,gl,gc,na,nl,nc,wa,wl,wc⟩:=x;have p9:=hW.n.bq;have hnm:=hW.n.dY;dsimp only at p9 hnm ⊢;subst p9;obtain⟨bn,on,rfl,hbn,hcn⟩:=hW.n.cells (by dsimp only;omega);obtain⟨k0,-,⟨v2,k2,ha,hc,rfl,hhc,hH⟩,-⟩:=hcn n nd hn;obtain⟨w1,hw1⟩:∃w1,w.alloc (.cells #[.slice ga gl gc,.slice (some ⟨bn,on,none⟩) d.ah.length nc,.slice wa wl wc,.int .i64 n] 139)=w1:=⟨_,rfl⟩;have hS1:=aF hw1;have hsz:w.heap.size < w1.heap.size:=by rw[<-hw1];simp
 have b0:w1.cell? ⟨w.heap.size,0,none⟩=some (.slice ga gl gc):=by rw[<-hw1];simp[go_sem]
 have b1:w1.cell? ⟨w.heap.size,1,none⟩=some (.slice (some ⟨bn,on,none⟩) d.ah.length nc):=by rw[<-hw1];simp[go_sem]
 have b2:w1.cell? ⟨w.heap.size,2,none⟩=some (.slice wa wl wc):=by rw[<-hw1];simp[go_sem]
 have b3:w1.cell? ⟨w.heap.size,3,none⟩=some (.int .i64 n):=by rw[<-hw1];simp[go_sem]
 have hW1:=hW.ay hS1;have n1:(n:Int) < (d.ah.length:Int):=by omega
 obtain⟨far,IL⟩:∃far,p8 d n nd=far:=⟨_,rfl⟩;have HRL:Hid (dD d n nd=nd.held.filter fun m=>decide (m.st<=far)):=by unfold Hid dD;rw[IL]
 clear hcn k0
 have RF:Hid (∀y,ak w1 y->y.cell? ⟨w.heap.size,0,none⟩=some (.slice ga gl gc)/\y.cell? ⟨w.heap.size,1,none⟩=some (.slice (some ⟨bn,on,none⟩) d.ah.length nc)/\y.cell? ⟨w.heap.size,2,none⟩=some (.slice wa wl wc)/\y.cell? ⟨w.heap.size,3,none⟩=some (.int .i64 n)/\y.cell? ⟨bn,on+n*4+2,none⟩=some (.slice ha nd.held.length hc)):=fun y hy =>
  ⟨(hy.av (by omega) _).trans b0,(hy.av (by omega) _).trans b1,(hy.av (by omega) _).trans b2,(hy.av (by omega) _).trans b3,((hS1.trans hy).av hbn _).trans k2⟩
 obtain⟨_,hHm,hHc⟩:=hH;have HFZ:Hid (p8 d n nd=far):=IL;clear IL
 go_enter func158,ntmps158
 go_wp2_with (go_at_call 108;refine(Qh w1 _ ⟨ga,gl,gc,_,d.ah.length,nc,wa,wl,wc⟩ d n nd hW1 hn hL0 (ak.refl _)).mono ?_;rw[HFZ.out];rintro e w2 ⟨rfl,hS2⟩;obtain⟨f0,f1,f2,f3,f4⟩:=RF.out _ hS2)
 clear hw1
 go_loopw [4,18] (fun v i wr=>(∃k:Nat,k<=nd.held.length/\i=.int .i64 k/\wr.ownsRow w1.heap.size 95 5 v ((nd.held.take k).filter fun m=>decide (m.st<=far)).length (flat ((nd.held.take k).filter fun m=>decide (m.st<=far))))/\ak w1 wr) (fun _ i _=>nd.held.length - (intOf i).toNat)
 case atStart=>exact⟨⟨0,by omega,rfl,World.ownsRow_nil _ _ _ _⟩,by assumption⟩
 case round =>
  obtain⟨⟨k,hk,rfl,hown⟩,hS⟩:=hrel;obtain⟨va,Ph,rfl,hvc⟩:=ownsRow_form hown;by_cases hlt:k < nd.held.length
  ·obtain⟨b,off,rfl,hb,hcell⟩:=hHc (by omega);obtain⟨m,hm⟩:∃m,nd.held[k]? = some m:=⟨_,zQ1 hlt⟩;have hS0:=hS1.trans hS;obtain⟨d0,d1,d2,d3,d4⟩:=dM (w:=wr) (fun i u hi=>(hS0.av hb _).trans (hcell i u hi)) k m hm;have HM:Hid (nd.held[k]? = some m):=hm;obtain⟨L,hL⟩:∃L,((nd.held.take k).filter fun m=>decide (m.st<=far))=L:=⟨_,rfl⟩;have hLk:L.length<=k:=by rw[<-hL];exact zl _ _ _
   rw[hL]at hown hvc ⊢;have HL:Hid (((nd.held.take k).filter fun m=>decide (m.st<=far))=L):=hL;obtain⟨w9,hw9⟩:∃w9,wr.alloc (.cells #[.int .i64 m.fr,.int .i64 m.gr,.int .i64 m.st,.bool m.nul,.string m.body] 95)=w9:=⟨_,rfl⟩;have hS9:=aF hw9
   have hQ:cO w9 wr.heap.size 0 m:=by rw[<-hw9];constructor <;> simp[go_sem]
   obtain⟨p0,p1,p2,p3,p4⟩:=hQ;simp only[Nat.zero_add]at p0 p1 p2 p3 p4;have lX:=gU hS9 hown;have Co:ak w1 w9:=hS.trans hS9;clear hm hcell hHc hL hown;cases h6:decide (m.st<=far)
   ·have HF:Hid (((nd.held.take (k+1)).filter fun m=>decide (m.st<=far))=L):=by
     unfold Hid;rw[List.take_add_one,HM.out,List.filter_append,HL.out];simp[h6]
    go_wp2
    go_roundw
    case rel=>exact⟨⟨k+1,by omega,by go_num,by rw[HF.out];exact lX⟩,Co⟩
    case measure=>simp[intOf];omega
   ·have HF:Hid (((nd.held.take (k+1)).filter fun m=>decide (m.st<=far))=L++[m]):=by
     unfold Hid;rw[List.take_add_one,HM.out,List.filter_append,HL.out];simp[h6]
    go_wp2_with (at_builtin;refine wpList_append_own _ rfl _ _ 62 rfl w1.heap.size 95 i0 (.agg #[.int .i64 0,.int .i64 0,.int .i64 0,.bool false,.string ByteArray.empty]) 5 48 underlying62 hi hz0 hz1 hz2 rfl (by decide) _ _ _ rfl (lX.alloc _) ⟨w9.heap.size,0,none⟩ 1 1 m.cells rfl rfl (iX _ _ _) (fun u hu=>dN u [m] (by simpa[flat] using hu)) (by unfold maxLen;omega) (by omega) (by have:=Co.size;simp;omega) ?_;intro v3 w12 hown3 lu _;have dO:ak w1 w12:=(Co.alloc _).grown lu (bP lX))
    go_roundw
    case rel=>exact⟨⟨k+1,by omega,by go_num,by rw[HF.out,List.length_append,fM];simpa[flat] using hown3⟩,by assumption⟩
    case measure=>simp[intOf];omega
  ·obtain rfl:k=nd.held.length:=by omega
   rw[List.take_of_length_le (Nat.le_refl _)]at hown
   have hown':wr.ownsRow w1.heap.size 95 5 (.slice va ((nd.held.take nd.held.length).filter fun m=>decide (m.st<=far)).length Ph) (dD d n nd).length (flat (dD d n nd)):=by
    rw[HRL.out];rw[List.take_of_length_le (Nat.le_refl _)];exact hown
   go_wp2
   go_ret
   exact⟨_,rfl,lC (by omega) hown',hS1.trans hS⟩
def ru(d:Wd)(n:Int):List Mg:=if aM d n=0 then (match d.ah[n.toNat]? with | some nd=>dD d n.toNat nd | none=>[]) else []
theorem Dl{d:Wd}{n:Nat}{nd:Nd}(h:aM d n=0)(hn:d.ah[n]? = some nd):ru d n=dD d n nd:=by
 unfold ru;rw[if_pos h,Int.toNat_natCast,hn]
theorem Lm{d:Wd}{n:Int}(h:¬ aM d n=0):ru d n=[]:=by unfold ru;rw[if_neg h]
set_option maxRecDepth 8000 in
theorem sP(x:WV)(d:Wd)(n:Int)(w:World)(hW:WAt w x d) :
  Calls prog 134 #[.agg #[.slice x.ga x.gl x.gc,.slice x.na x.nl x.nc,.slice x.wa x.wl x.wc],.int .i64 n] w fun e w'=>∃v,e=.returned (.tuple #[v,.int .i64 (aM d n)])/\w'.ownsRow w.heap.size 95 5 v (ru d n).length (flat (ru d n))/\ak w w':=by
 have hS1:ak w (w.alloc (.cells #[.slice x.ga x.gl x.gc,.slice x.na x.nl x.nc,.slice x.wa x.wl x.wc] 31)):=(ak.refl w).alloc _;have hW1:=hW.ay hS1;cases h1:(aM d n != 0)
 ·have h0:aM d n=0:=by simpa using h1
  obtain⟨hE,k,nd,rfl,hn⟩:=wZ h0;have HE:Hid (aM d (k:Int)=0):=h0;have HB:Hid (ru d (k:Int)=dD d k nd):=Dl h0 hn;have HA:Hid (xg x d (k:Int)=.agg #[.slice x.ga x.gl x.gc,.slice x.na x.nl x.nc,.slice x.wa x.wl x.wc,.int .i64 (k:Int)]):=by unfold Hid xg;rw[if_pos h0]
  have hL0:=Dk hE hn;have hsh:=IK hE hn;clear h0 hE
  go_enter func134,ntmps134
  go_wp2_with (first
   | (go_at_call 107;refine(Kv w _ x d _ _ _ HA.out HE.out hW1 hS1).mono ?_;rintro e w2 ⟨rfl,hS2⟩;have ku:ak w (w2.alloc (.cells #[.slice x.ga x.gl x.gc,.slice x.na x.nl x.nc,.slice x.wa x.wl x.wc,.int .i64 (k:Int)] 139)):=ak.alloc hS2 _)
   | (go_at_call 158;refine(Ll x d k nd _ (hW.ay (by assumption)) hn hL0 hsh).mono ?_;rintro e w3 ⟨v,rfl,hown,hS3⟩))
  go_ret2
  exact⟨v,by rw[HE.out];rfl,by rw[HB.out];exact lC ku.size hown,ku.trans hS3⟩
 ·have h0:¬ aM d n=0:=by simpa using h1
  have HB:Hid (ru d n=[]):=Lm h0;have HA:Hid (xg x d n=.agg #[.slice none 0 0,.slice none 0 0,.slice none 0 0,.int .i64 0]):=by unfold Hid xg;rw[if_neg h0]
  clear h0
  go_enter func134,ntmps134
  go_wp2_with (first
   | (go_at_call 107;refine(Kv w _ x d _ _ _ HA.out rfl hW1 hS1).mono ?_;rintro e w2 ⟨rfl,hS2⟩))
  go_ret2
  exact⟨_,rfl,by rw[HB.out];exact World.ownsRow_nil _ _ _ _,ak.alloc (by assumption) _⟩
end Go.Proofs.YtediempflagfkaaGreatDoor
