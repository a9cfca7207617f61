/- Lemmas. -/
import Derived.Test.YtediempflagfkaaGreatDoorBoundX
import Derived.Test.YtediempflagfkaaGreatDoorSDo
set_option linter.unusedVariables false
set_option linter.unusedSimpArgs false
set_option linter.unnecessarySimpa false
set_option maxHeartbeats 1000000
namespace Go.Proofs.YtediempflagfkaaGreatDoor
open _root_.Go.Proofs.Tryz hiding checked
set_option maxRecDepth 8000
open Go.RowKit Go.Shelf
open Pu
def gM(a b:List Mg):Bool:=match a.getLast?,b.head? with | some x,some y=>lessM x y | _,_=>true
theorem zD(b:List Mg):gM [] b=true:=rfl
theorem yG(a:List Mg):gM a []=true:=by unfold gM;cases a.getLast? <;> rfl
theorem Ci{a b:List Mg}{x y:Mg}(ha:a.getLast? = some x)(hb:b.head? = some y):gM a b=lessM x y:=by unfold gM;rw[ha,hb]
theorem Di{a b:List Mg}(ha:bC a=true)(hb:bC b=true):bC (a++b)=gM a b:=by
 rw[Bool.eq_iff_iff,gq,List.pairwise_append];rw[gq]at ha hb;rcases List.eq_nil_or_concat a with rfl | ⟨a',x,rfl⟩
 ·rw[zD];simp[hb]
 ·cases b with
  | nil=>rw[yG];simp only[List.not_mem_nil,false_implies,implies_true,and_true,iff_true];exact⟨ha,List.Pairwise.nil⟩
  | cons y b' =>
   rw[Ci (x:=x) (y:=y) (by simp) rfl];constructor
   ·rintro⟨_,_,h⟩;exact h x (by simp) y (by simp)
   ·intro h;refine⟨ha,hb,fun p hp q hq=>?_⟩
    have h1:lessM p y=true:=by
     rw[List.concat_eq_append,List.mem_append]at hp;rcases hp with hp | hp
     ·rw[List.concat_eq_append,List.pairwise_append]at ha;exact pQ (ha.2.2 p hp x (by simp)) h
     ·simp at hp;rw[hp];exact h
    rcases List.mem_cons.1 hq with rfl | hq
    ·exact h1
    ·exact pQ h1 ((List.pairwise_cons.1 hb).1 q hq)
theorem dG.step{lo:Nat}{w w':World}{p:Nat}{d d':Wd}{L L':Lay}{m:Int}(h:dG lo w p d L m)(hM:dF lo w' p d' L')(st:jD w w' d L d' L'):dG lo w' p d' L' m:=by
 have hb:=(st.beside h.made.box.lt h.made.off).1;exact⟨hM,h.lop,(World.cell?_of_block (a:=⟨p,3,none⟩) hb).trans h.cm,(World.frozen?_of_block (a:=⟨p,3,none⟩) hb).trans h.zm⟩
theorem jD.up{lo:Nat}{w w':World}{d d':Wd}{L L':Lay}(hO:bG lo w d L)(st:jD w w' d L d' L')(X:Nat->Prop):Fr (Up lo X) w w' :=
 st.fr.mono (fun i _ hb=>.inl (by have:=(hO.blk hb).1;omega))
theorem dG.many{lo:Nat}{w:World}{p:Nat}{d:Wd}{L:Lay}{m:Int}(h:dG lo w p d L m)(k:Int):dG lo (w.setCell ⟨p,3,none⟩ (.int .i64 k)) p d L k:=by
 have hB:=h.made.box;exact⟨⟨h.made.own.ko h.made.off _,⟨by have:=hB.lt;simpa using this,(bH _ _ _ (by decide)).trans hB.c0,(bH _ _ _ (by decide)).trans hB.c1,(bH _ _ _ (by decide)).trans hB.c2,by rw[World.frozen?_setCell];exact hB.z0,by rw[World.frozen?_setCell];exact hB.z1,by rw[World.frozen?_setCell];exact hB.z2⟩,h.made.off⟩,h.lop,gN _ _ _ _ h.cm,by rw[World.frozen?_setCell];exact h.zm⟩
theorem dF.Qd{lo:Nat}{w w1:World}{p:Nat}{d:Wd}{L:Lay}(h:dF lo w p d L){n:Nat}{x:Nd}(hx:d.ah[n]? = some x){b off cap:Nat}(he:L (1,0,0)=⟨some ⟨b,off,none⟩,cap⟩)
  (hS:ak w w1) {rest:List Mg} (hm:rest.length<=1000) {s:Sl} (hR:Row w1 lo 5 s rest.length (flat rest)) (hb:∀c,s.blk=some c->(L (5,n,0)).blk=some c) :
  dF lo (w1.setCell ⟨b,off+n*4+2,none⟩ (s.v rest.length)) p (aD d n { x with held:=rest }) (L.upd (5,n,0) s)/\jD w (w1.setCell ⟨b,off+n*4+2,none⟩ (s.v rest.length)) d L (aD d n { x with held:=rest }) (L.upd (5,n,0) s):=by
 have hn:=bT hx;obtain⟨b',o,c',hL,_,_,hbk,_⟩:=h.own.lies (ix:=(1,0,0)) ⟨rfl,rfl⟩ (by show 0 < d.ah.length;omega);rw[he]at hL;have e1:b=b':=by simp at hL;exact hL.1.1
 subst e1;have Ul:okI d (5,n,0):=⟨hn,rfl⟩
 have hput:=(h.own.ay hS).zW hx he (s:=s) (l:=rest) hR hm (fun c hc=>by
  rintro⟨ix,hne,hok,e⟩;exact hne (h.own.inj ix (5,n,0) c hok Ul e (hb c hc)))
 have hst:=nQ (d:=d) (L:=L) (d':=aD d n { x with held:=rest }) hS (fV hx rfl) (5,n,0) s (fun c e=>.inl ⟨(5,n,0),Ul,hb c e⟩) (off:=off+n*4+2) (s.v rest.length) ⟨(1,0,0),⟨rfl,rfl⟩,hbk⟩
 exact⟨h.step hput hst rfl rfl rfl rfl (by simp[aD]) rfl,hst⟩
theorem dF.O8{lo:Nat}{w w1 w2:World}{p:Nat}{d:Wd}{L:Lay}(h:dF lo w p d L){n:Nat}{x:Nd}(hx:d.ah[n]? = some x){b off cap:Nat}(he:L (1,0,0)=⟨some ⟨b,off,none⟩,cap⟩)
  (hS:ak w w1) {ms:List Mg} {a':Option Addr} {c':Nat} (hl:x.aG.length+ms.length<=1000) (hR:Row w2 lo 5 ⟨a',c'⟩ (x.aG.length+ms.length) (flat x.aG++flat ms)) (hF:Fr (fun k=>(L (6,n,0)).blk=some k) w1 w2)
  (hB:(⟨a',c'⟩:Sl)=L (6,n,0)\/(ak w1 w2/\Sl.blk ⟨a',c'⟩=some w1.heap.size)) :
  dF lo (w2.setCell ⟨b,off+n*4+3,none⟩ (.slice a' (x.aG.length+ms.length) c')) p (aD d n { x with aG:=x.aG++ms }) (L.upd (6,n,0) ⟨a',c'⟩)/\jD w (w2.setCell ⟨b,off+n*4+3,none⟩ (.slice a' (x.aG.length+ms.length) c')) d L (aD d n { x with aG:=x.aG++ms }) (L.upd (6,n,0) ⟨a',c'⟩):=by
 have hn:=bT hx;obtain⟨b',o,cc,hL,_,_,hbk,_⟩:=h.own.lies (ix:=(1,0,0)) ⟨rfl,rfl⟩ (by show 0 < d.ah.length;omega);rw[he]at hL;have e1:b=b':=by simp at hL;exact hL.1.1
 subst e1;have hb1:gT d L b:=⟨(1,0,0),⟨rfl,rfl⟩,hbk⟩;have Kr:okI d (6,n,0):=⟨hn,rfl⟩;have hO1:=h.own.ay hS;have hnd:(bD d n).aG=x.aG:=by rw[dh hx]
 have hO2:bG lo w2 d L:=by
  refine hO1.grown Kr (s':=⟨a',c'⟩) hR (by show(bD d n).aG.length<=_;rw[hnd];omega) ?_ hF hB;show(flat x.aG++flat ms).take ((bD d n).aG.length*5)=flat (bD d n).aG;rw[hnd,List.take_append_of_le_length (by rw[dA];omega),List.take_of_length_le (by rw[dA];omega)]
 have hls:(x.aG++ms).length=x.aG.length+ms.length:=by simp
 have hge:∀c,Sl.blk ⟨a',c'⟩=some c->gT d L c\/w.heap.size<=c:=by
  intro c e;rcases hB with e2 | ⟨_,e2⟩
  ·rw[e2]at e;exact .inl ⟨(6,n,0),Kr,e⟩
  ·rw[e2]at e;cases e;exact .inr hS.size
 have hput:=hO2.KR hx he (s:=⟨a',c'⟩) (l:=x.aG++ms) (by rw[hls,fM];exact hR) (by omega) (by
  intro c hc;rintro⟨ix,hne,hok,e⟩;rcases hB with e2 | ⟨hS2,e2⟩
  ·rw[e2]at hc;exact hne (h.own.inj ix (6,n,0) c hok Kr e hc)
  ·rw[e2]at hc;cases hc;have:=(hO1.blk ⟨ix,hok,e⟩).2;omega)
 have hv:Sl.v ⟨a',c'⟩ (x.aG++ms).length=.slice a' (x.aG.length+ms.length) c':=by rw[hls];rfl
 rw[hv]at hput
 have hst:jD w (w2.setCell ⟨b,off+n*4+3,none⟩ (.slice a' (x.aG.length+ms.length) c')) d L (aD d n { x with aG:=x.aG++ms }) (L.upd (6,n,0) ⟨a',c'⟩):=by
  refine⟨?_,fun c hb=>?_⟩
  ·have hF1:Fr (gT d L) w w1:=hS.fr _;have hF2:Fr (gT d L) w1 w2:=hF.mono (fun i _ e=>⟨(6,n,0),Kr,e⟩);exact(hF1.trans hF2 (fun _ _ x=>x) (fun _ _ x=>x)).setCell _ _ (fun _=>hb1)
  ·obtain⟨ix,hix,e⟩:=hb;by_cases hh:ix=(6,n,0)
   ·subst hh;rw[Lay.upd_same]at e;exact hge c e
   ·rw[Lay.gG L _ hh]at e;exact .inl ⟨ix,(fV (y:={ x with aG:=x.aG++ms }) hx rfl ix).1 hix,e⟩
 exact⟨h.step hput hst rfl rfl rfl rfl (by simp[aD]) rfl,hst⟩
theorem Ng(ms:List Mg){k:Nat}(hk:k<=ms.length):(flat ms).drop (k*5)=flat (ms.drop k):=by
 have h:flat ms=flat (ms.take k)++flat (ms.drop k):=by rw[<-fM,List.take_append_drop]
 rw[h,List.drop_left' (by rw[dA,List.length_take];omega)]
def Cj(s:Sl)(m:Nat):Sl:=if m=s.cap then ⟨s.a,0⟩ else ⟨s.a.map fun a=>⟨a.block,a.off+m*5,a.spot⟩,s.cap - m⟩
theorem Row.cut{w:World}{lo:Nat}{s:Sl}{ms:List Mg}{k:Nat}(h:Row w lo 5 s ms.length (flat ms))(hk:k<=ms.length):Row w lo 5 (Cj s k) (ms.drop k).length (flat (ms.drop k))/\∀c,(Cj s k).blk=some c->s.blk=some c:=by
 have hcap:=h.cap;unfold Cj;split
 ·rename_i e;have hkl:k=ms.length:=by omega
  have hd:ms.drop k=[]:=List.drop_eq_nil_of_le (by omega);rw[hd];refine⟨⟨by simp[flat],Nat.le_refl _,Nat.zero_le _,fun _=>?_,fun h=>absurd h (by simp)⟩,fun c hc=>by unfold Sl.blk at hc;simp at hc⟩;by_cases h0:s.cap=0
  ·exact h.bare h0
  ·obtain⟨b,off,e,_⟩:=h.body (by omega);exact .inr ⟨b,off,e⟩
 ·rename_i e;have hlt:k < s.cap:=by omega
  obtain⟨b,off,ea,hb⟩:=h.body (by omega);obtain⟨a,cap⟩:=s;dsimp only at ea hlt hcap ⊢;subst ea;have:=h.drop k hk hlt;rw[Ng ms hk]at this;refine⟨by simpa using this,fun c hc=>?_⟩;unfold Sl.blk at hc ⊢;dsimp only at hc ⊢;rw[if_neg (by omega)]at hc;rw[if_neg (by omega)];simpa using hc
theorem Iz(a:Option Addr)(ca:Nat)(xs:List Mg)(b:Option Addr)(cb:Nat)(ys:List Mg)(w:World)(hA:gD w a xs.length xs)(hB:gD w b ys.length ys)(hxl:xs.length<=1000)(hyl:ys.length<=1000) :
  Calls prog 135 #[.slice a xs.length ca,.slice b ys.length cb] w fun e w'=>e=.returned (.bool (gM xs ys))/\ak w w':=by
 have hne:Nonempty (Later w):=⟨⟨w,ak.refl w⟩⟩;by_cases h0:xs.length=0
 ·obtain rfl:xs=[]:=zQ6 h0;clear hA h0;dsimp only[List.length_nil]
  go_enter func135,ntmps135
  go_wp2_with fail
  refine aH (by kernel_rfl) (by kernel_rfl) (ak.refl w) ?_
  repeat (go_big_quiet_step (fail))
  refine wpQuiet_nil ?_;intro w9 hS9
  go_wp2
  go_ret
  exact⟨by rw[zD];rfl,hS9⟩
 ·have h0':((xs.length:Int) == 0)=false:=by rw[beq_eq_false_iff_ne];omega
  by_cases h1:ys.length=0
  ·obtain rfl:ys=[]:=zQ6 h1;clear hB h1;dsimp only[List.length_nil]
   go_enter func135,ntmps135
   go_wp2_with fail
   refine aH (by kernel_rfl) (by kernel_rfl) (ak.refl w) ?_
   repeat (go_big_quiet_step (fail))
   refine wpQuiet_nil ?_;intro w9 hS9
   go_wp2
   go_ret
   exact⟨by rw[yG];rfl,hS9⟩
  ·have h1':((ys.length:Int) == 0)=false:=by rw[beq_eq_false_iff_ne];omega
   obtain⟨k,hk,hk1,VP⟩:∃k:Nat,k+1=xs.length/\(xs.length:Int) - 1=(k:Int)/\k < xs.length:=⟨xs.length - 1,by omega,by omega,by omega⟩;obtain⟨x,hx⟩:∃x,xs[k]? = some x:=⟨_,zQ1 VP⟩;obtain⟨y,hy⟩:∃y,ys[0]? = some y:=⟨_,zQ1 (by omega)⟩;obtain⟨bx,ox,rfl,hbx,hcx⟩:=hA.cells (by omega);obtain⟨bY,oY,rfl,hbY,hcY⟩:=hB.cells (by omega);obtain⟨d0,d1,d2,d3,d4⟩:=dM hcx k x hx;obtain⟨e0,e1,e2,e3,e4⟩:=dM hcY 0 y hy;simp only[Nat.zero_mul,Nat.add_zero]at e0 e1 e2 e3 e4;have hwk:IntKind.i64.wrap (k:Int)=(k:Int):=IntWalk.i64_in _ (by omega);have hg:∀(z:Later w) (o:Nat),z.w.cell? ⟨bx,o,none⟩=w.cell? ⟨bx,o,none⟩:=fun z o=>z.cell hbx;have hg2:∀(z:Later w) (o:Nat),z.w.cell? ⟨bY,o,none⟩=w.cell? ⟨bY,o,none⟩:=fun z o=>z.cell hbY;have HF:Hid (gM xs ys=lessM x y):=Ci (by rw[List.getLast?_eq_getElem?,<-hk];exact hx) (by rw[List.head?_eq_getElem?];exact hy);have hkl:(k:Int) < (xs.length:Int):=by omega
   have WG:(0:Int) < (ys.length:Int):=by omega
   obtain⟨v,hv⟩:∃v,lessM x y=v:=⟨_,rfl⟩;have HV:Hid (lessM x y=v):=hv;clear hcx hcY hx hy hk h0 h1 hA hB
   go_enter func135,ntmps135
   go_wp2_with fail
   refine aH (by kernel_rfl) (by kernel_rfl) (ak.refl w) ?_
   repeat (go_big_quiet_step ((go_at_call 159;exact Later.call (rJ w x y _ HV.out))))
   refine wpQuiet_nil ?_;intro w9 hS9
   go_wp2
   go_ret
   exact⟨by rw[HF.out,HV.out];rfl,hS9⟩
def iH(d:Wd)(n:Int):Except Int (Wd × Int):=if inB n 0 ((d.ah.length:Int) - 1) then (eZ d n.toNat).bind fun p=>.ok (p.1,(p.2:Int)) else .error 4
theorem vS{d:Wd}(R:aL d)(n:Int):aM d n=if inB n 0 ((d.ah.length:Int) - 1) then 0 else 4:=by
 unfold aM;rw[if_pos ((cZ d).2 R)]
theorem FC{d:Wd}(n:Nat)(x:Nd):(dD d n x).length<=x.held.length:=List.length_filter_le _ _
theorem FD{d:Wd}(R:aL d){n:Nat}{x:Nd}(hx:d.ah[n]? = some x):bC (dD d n x)=true:=by
 have h:=R.tY n;rw[(dU hx).2.1,gq]at h;rw[gq];exact h.filter _
theorem IC(lo p q:Nat)(n:Int)(d:Wd)(L:Lay)(w:World)(hB:dG lo w p d L 0)(R:aL d)(hq:q < w.heap.size)(hqc:w.cell? ⟨q,0,none⟩=some (.int .i64 n))(hn:inB n 0 ((d.ah.length:Int) - 1)=false) :
  Calls prog 133 #[.pointer (some ⟨p,0,none⟩),.pointer (some ⟨q,0,none⟩)] w fun e w'=>e=.panicked (pan 4)/\ak w w':=by
 have hE:aM d n=4:=by rw[vS R,hn];rfl
 have hpl:=hB.made.box.lt;have b0:=hB.made.box.c0;have b1:=hB.made.box.c1;have b2:=hB.made.box.c2;have hRd:=fun (y:World) (hy:ak w y)=>sP (fE L d) d n y (hB.made.own.wat.ay hy);unfold fE at hRd;rw[hE]at hRd;dsimp only at hRd;obtain⟨S0,hS0⟩:∃S0:World->Prop,∀w',S0 w'↔ak w w':=⟨_,fun _=>Iff.rfl⟩;have cB:=aO w;have x0:∀y:aA S0,y.w.cell? ⟨p,0,none⟩=some (.slice (L (0,0,0)).a d.au.length (L (0,0,0)).cap):=fun y=>(((hS0 _).1 y.h).av hpl _).trans b0;have x1:∀y:aA S0,y.w.cell? ⟨p,1,none⟩=some (.slice (L (1,0,0)).a d.ah.length (L (1,0,0)).cap):=fun y=>(((hS0 _).1 y.h).av hpl _).trans b1;have x2:∀y:aA S0,y.w.cell? ⟨p,2,none⟩=some (.slice (L (2,0,0)).a d.aB.length (L (2,0,0)).cap):=fun y=>(((hS0 _).1 y.h).av hpl _).trans b2;have x3:∀y:aA S0,y.w.cell? ⟨q,0,none⟩=some (.int .i64 n):=fun y=>(((hS0 _).1 y.h).av hq _).trans hqc;obtain⟨W0,hW0⟩:∃y,w.drew=y:=⟨_,rfl⟩;have hs0:=aY hW0;have aC:=(hS0 W0).2 hs0;have hne:Nonempty (aA S0):=⟨⟨_,aC⟩⟩
 go_enter func133,ntmps133
 go_wp2_with fail
 refine aW (fun w'=>∃x:aA S0,w'=x.w) (by kernel_rfl) ?_;rw[hW0];clear hW0;refine tW 0 rfl ?_;go_big_quiet_op;refine tW 1 rfl ?_;go_big_quiet_op;refine tW 2 rfl ?_;go_big_quiet_op;refine tM 3 rfl (aj aC) ?_;go_big_quiet_op;refine tM 4 rfl (aj aC) ?_;go_big_quiet_op;refine aV 5 rfl (by kernel_rfl) ?_;intro K hK;go_simp;refine(hRd W0 hs0).mono ?_;rintro e wA ⟨v,rfl,hv,hSA⟩;dsimp only;refine hK _ _ (fun h=>absurd h (by decide +kernel)) ?_;clear hK K;refine tW 6 rfl ?_;go_big_quiet_op;refine tW 7 rfl ?_;go_big_quiet_op;refine tW 8 rfl ?_;go_big_quiet_op;refine tW 9 rfl ?_;go_big_quiet_op;refine tW 10 rfl ?_;go_big_quiet_op;refine bE (by kernel_rfl) ?_;clear x0 x1 x2 x3 hne cB hRd
 go_wp2_with (go_at_call 128;refine(vw 4 rfl _).mono ?_;rintro e w' ⟨rfl,hw'⟩;obtain rfl:=hw'.symm)
 exact⟨rfl,rfl,hs0.trans hSA⟩
theorem set_set{d:Wd}{n:Nat}(a b:Nd):aD (aD d n a) n b=aD d n b:=by unfold aD;simp
theorem IE{lo p n:Nat}{d:Wd}{L:Lay}{w W1:World}{x:Nd}{rl rest:List Mg}{bn on cn:Nat}{ha ta ca ra:Option Addr}{hc tc cc rc:Nat}(hB:dG lo w p d L 0)(hx:d.ah[n]? = some x)(hL1:L (1,0,0)=⟨some ⟨bn,on,none⟩,cn⟩)(hL5:L (5,n,0)=⟨ha,hc⟩)(hL6:L (6,n,0)=⟨ta,tc⟩)
  (hs1:ak w W1) (hRr:Row W1 w.heap.size 5 ⟨ra,rc⟩ rl.length (flat rl)) (yH:Row W1 lo 5 ⟨ca,cc⟩ rest.length (flat rest)) (Eb:∀c,Sl.blk ⟨ca,cc⟩=some c->Sl.blk ⟨ha,hc⟩=some c) (hrl:rest.length<=1000) (htl:x.aG.length+rl.length<=1000) :
  Hid (∀(wB W2:World),ak W1 wB->wB.setCell ⟨bn,on+n*4+2,none⟩ (.slice ca rest.length cc)=W2 ->
   W2.cell? ⟨bn,on+n*4+3,none⟩=some (.slice ta x.aG.length tc)/\W2.frozen? ⟨bn,on+n*4+3,none⟩=false/\W2.cell? ⟨p,3,none⟩=some (.int .i64 0)/\W2.frozen? ⟨p,3,none⟩=false/\Row W2 lo 5 ⟨ta,tc⟩ x.aG.length (flat x.aG)/\gD W2 ra rl.length rl/\lo<=W2.heap.size /\
   ∀(ta':Option Addr) (tc':Nat) (W3:World),Row W3 lo 5 ⟨ta',tc'⟩ (x.aG.length+rl.length) (flat x.aG++flat rl)->Fr (fun k=>Sl.blk ⟨ta,tc⟩=some k) W2 W3->((⟨ta',tc'⟩:Sl)=⟨ta,tc⟩\/(ak W2 W3/\Sl.blk ⟨ta',tc'⟩=some W2.heap.size)) ->
   ∀W4,W3.setCell ⟨bn,on+n*4+3,none⟩ (.slice ta' (x.aG.length+rl.length) tc')=W4 ->
    W3.cell? ⟨bn,on+n*4+3,none⟩=some (.slice ta x.aG.length tc)/\W3.frozen? ⟨bn,on+n*4+3,none⟩=false/\W4.cell? ⟨p,3,none⟩=some (.int .i64 0)/\W4.frozen? ⟨p,3,none⟩=false /\
    dG lo (W4.setCell ⟨p,3,none⟩ (.int .i64 rl.length)) p (aD d n { x with held:=rest,aG:=x.aG++rl }) ((L.upd (5,n,0) ⟨ca,cc⟩).upd (6,n,0) ⟨ta',tc'⟩) rl.length/\Fr (Up lo fun _=>False) w (W4.setCell ⟨p,3,none⟩ (.int .i64 rl.length))):=by
 intro wB W2 hSB hW2;have hn:=bT hx;have hsB:=hs1.trans hSB;have hRB:=yH.ay hSB;obtain⟨hM2,Qe⟩:=hB.made.Qd hx hL1 hsB hrl hRB (fun c hc=>by rw[hL5];exact Eb c hc);dsimp only[Sl.v]at hM2 Qe;rw[hW2]at hM2 Qe;have hB2:=hB.step hM2 Qe
 have hx2:(aD d n { x with held:=rest }).ah[n]? = some { x with held:=rest }:=by rw[dI _ hx,if_pos rfl]
 have e1:(L.upd (5,n,0) ⟨ca,cc⟩) (1,0,0)=⟨some ⟨bn,on,none⟩,cn⟩:=by rw[Lay.gG _ _ (by simp)];exact hL1
 have e6:(L.upd (5,n,0) ⟨ca,cc⟩) (6,n,0)=⟨ta,tc⟩:=by rw[Lay.gG _ _ (by simp)];exact hL6
 obtain⟨k0,k1,k2,k3,kz⟩:=hM2.own.cells hx2 e1;rw[e6]at k3;dsimp only[Sl.v]at k3
 have Kr:okI (aD d n { x with held:=rest }) (6,n,0):=⟨by simpa[aD] using hn,rfl⟩
 have O9:Row W2 lo 5 ⟨ta,tc⟩ x.aG.length (flat x.aG):=by
  have h0:Row W2 lo 5 ((L.upd (5,n,0) ⟨ca,cc⟩) (6,n,0)) (bD (aD d n { x with held:=rest }) n).aG.length (flat (bD (aD d n { x with held:=rest }) n).aG):=hM2.own.row (6,n,0) Kr
  rw[e6,dh hx2]at h0;exact h0
 obtain⟨b',o',c',hL',VQ,Um,hbk',_⟩:=hM2.own.lies (ix:=(1,0,0)) ⟨rfl,rfl⟩ (by show 0 < (aD d n { x with held:=rest }).ah.length;simp[aD];omega)
 rw[e1]at hL' hbk';have eb:bn=b':=by simp at hL';exact hL'.1.1
 subst eb;have Wi:lo<=bn:=VQ;have hpl:=hB.made.box.lt;refine⟨k3,kz 3 (by omega),hB2.cm,hB2.zm,O9, ?_,by have:=hB.lop;have:=hB2.made.box.lt;omega, ?_⟩
 ·have WH:bn < w.heap.size:=by
   have h0:=hB.made.own.blk (b:=bn) ⟨(1,0,0),⟨rfl,rfl⟩,by rw[hL1];exact hbk'⟩;exact h0.2
  have hFs:Fr (fun i=>i=bn) wB W2:=by rw[<-hW2];exact(Fr.refl (fun i=>i=bn) wB).setCell ⟨bn,on+n*4+2,none⟩ _ (fun _=>rfl)
  exact lI ((hRr.ay hSB).fr hFs (fun c hc e=>by have:=hRr.jf c hc;omega)) (by omega)
 ·intro ta' tc' W3 hR3 hF3 hB3 W4 hW4
  have hne1:¬ Sl.blk ⟨ta,tc⟩=some bn:=fun e=>by
   have:=hM2.own.inj (6,n,0) (1,0,0) bn Kr ⟨rfl,rfl⟩ (by rw[e6];exact e) (by rw[e1];exact hbk');simp at this
  obtain⟨hM4,zJ⟩:=hM2.O8 hx2 e1 (ak.refl W2) (ms:=rl) htl hR3 (by rw[e6];exact hF3) (by rw[e6];exact hB3);dsimp only at hM4 zJ;rw[hW4,set_set]at hM4 zJ;have hB4:=hB2.step hM4 zJ;have hU:Fr (Up lo fun _=>False) w W4:=(Qe.up hB.made.own _).aT (zJ.up hM2.own _);exact⟨(hF3.cell (p:=⟨bn,on+n*4+3,none⟩) Um hne1).trans k3,(hF3.frozen (p:=⟨bn,on+n*4+3,none⟩) Um hne1).trans (kz 3 (by omega)),hB4.cm,hB4.zm,hB4.many _,hU.setCell ⟨p,3,none⟩ _ (fun _=>.inl (by show ¬ p < lo;have:=hB.lop;omega))⟩
theorem IG(lo p q:Nat)(n:Nat)(x:Nd)(rl:List Mg)(d:Wd)(L:Lay)(w:World)(hB:dG lo w p d L 0)(R:aL d)(hq:q < w.heap.size)(hqc:w.cell? ⟨q,0,none⟩=some (.int .i64 n))(hx:d.ah[n]? = some x)(hrl:dD d n x=rl)(Post:Ending->World->Prop)
  (h2:40 < x.aG.length+rl.length->∀w',ak w w'->Post (.panicked (pan 2)) w')
  (h1:¬ 40 < x.aG.length+rl.length->gM x.aG rl=false->∀w',ak w w'->Post (.panicked (pan 1)) w')
  (hok:¬ 40 < x.aG.length+rl.length->gM x.aG rl=true->∀w' L',dG lo w' p (aD d n { x with held:=x.held.drop rl.length,aG:=x.aG++rl }) L' rl.length->Fr (Up lo fun _=>False) w w'->Post (.returned (.tuple #[])) w') :
  Calls prog 133 #[.pointer (some ⟨p,0,none⟩),.pointer (some ⟨q,0,none⟩)] w fun e w'=>Hid (Post e w'):=by
 have hn:=bT hx;have hin:inB (n:Int) 0 ((d.ah.length:Int) - 1)=true:=by simp[inB];omega
 have hE:aM d (n:Int)=0:=by rw[vS R,hin];rfl
 have hRZ:ru d (n:Int)=rl:=by rw[Dl hE hx];exact hrl
 have JV:=R.nW n;rw[(dU hx).2.1]at JV;have VR:=R.vH n;rw[(dU hx).2.2.1]at VR;have VT:rl.length<=x.held.length:=by rw[<-hrl];exact FC n x
 have H2:Hid (40 < x.aG.length+rl.length->∀w',ak w w'->Post (.panicked (pan 2)) w'):=h2;have H1:Hid (¬ 40 < x.aG.length+rl.length->gM x.aG rl=false->∀w',ak w w'->Post (.panicked (pan 1)) w'):=h1
 have HOK:Hid (¬ 40 < x.aG.length+rl.length->gM x.aG rl=true->∀w' L',dG lo w' p (aD d n { x with held:=x.held.drop rl.length,aG:=x.aG++rl }) L' rl.length->Fr (Up lo fun _=>False) w w'->Post (.returned (.tuple #[])) w'):=hok
 clear h2 h1 hok;have hpl:=hB.made.box.lt;have b0:=hB.made.box.c0;have b1:=hB.made.box.c1;have b2:=hB.made.box.c2;obtain⟨bn,on,cn,hL1,_,hbn,hbk,hcn⟩:=hB.made.own.lies (ix:=(1,0,0)) ⟨rfl,rfl⟩ (by show 0 < d.ah.length;omega);have b1':=b1;rw[hL1]at b1';dsimp only at b1';obtain⟨k0,k1,k2,k3,kz⟩:=hB.made.own.cells hx hL1
 have hRH:Row w lo 5 (L (5,n,0)) x.held.length (flat x.held):=by
  have h0:Row w lo 5 (L (5,n,0)) (bD d n).held.length (flat (bD d n).held):=hB.made.own.row (5,n,0) ⟨hn,rfl⟩;rw[dh hx]at h0;exact h0
 have hRT:Row w lo 5 (L (6,n,0)) x.aG.length (flat x.aG):=by
  have h0:Row w lo 5 (L (6,n,0)) (bD d n).aG.length (flat (bD d n).aG):=hB.made.own.row (6,n,0) ⟨hn,rfl⟩;rw[dh hx]at h0;exact h0
 obtain⟨ha,hc,hL5⟩:∃a c,L (5,n,0)=⟨a,c⟩:=⟨_,_,rfl⟩;obtain⟨ta,tc,hL6⟩:∃a c,L (6,n,0)=⟨a,c⟩:=⟨_,_,rfl⟩;rw[hL5]at hRH;rw[hL6]at hRT;rw[hL5]at k2;rw[hL6]at k3;dsimp only[Sl.v]at k2 k3;have hRd:=fun (y:World) (hy:ak w y)=>sP (fE L d) d n y (hB.made.own.wat.ay hy);unfold fE at hRd;rw[hE,hRZ]at hRd;dsimp only at hRd;have n1:(n:Int) < (d.ah.length:Int):=by omega
 obtain⟨S0,hS0⟩:∃S0:World->Prop,∀w',S0 w'↔ak w w':=⟨_,fun _=>Iff.rfl⟩;have cB:=aO w;have x0:∀y:aA S0,y.w.cell? ⟨p,0,none⟩=some (.slice (L (0,0,0)).a d.au.length (L (0,0,0)).cap):=fun y=>(((hS0 _).1 y.h).av hpl _).trans b0;have x1:∀y:aA S0,y.w.cell? ⟨p,1,none⟩=some (.slice (L (1,0,0)).a d.ah.length (L (1,0,0)).cap):=fun y=>(((hS0 _).1 y.h).av hpl _).trans b1;have x2:∀y:aA S0,y.w.cell? ⟨p,2,none⟩=some (.slice (L (2,0,0)).a d.aB.length (L (2,0,0)).cap):=fun y=>(((hS0 _).1 y.h).av hpl _).trans b2;have x3:∀y:aA S0,y.w.cell? ⟨q,0,none⟩=some (.int .i64 n):=fun y=>(((hS0 _).1 y.h).av hq _).trans hqc;obtain⟨W0,hW0⟩:∃y,w.drew=y:=⟨_,rfl⟩;have hs0:=aY hW0;have aC:=(hS0 W0).2 hs0;have hne:Nonempty (aA S0):=⟨⟨_,aC⟩⟩;have HL1:Hid (L (1,0,0)=⟨some ⟨bn,on,none⟩,cn⟩):=hL1;have HL5:Hid (L (5,n,0)=⟨ha,hc⟩):=hL5;have HL6:Hid (L (6,n,0)=⟨ta,tc⟩):=hL6;clear hE hRZ hrl hin hL1 hL5 hL6
 go_enter func133,ntmps133
 go_wp2_with fail
 refine aW (fun w'=>∃x:aA S0,w'=x.w) (by kernel_rfl) ?_;rw[hW0];clear hW0;refine tW 0 rfl ?_;go_big_quiet_op;refine tW 1 rfl ?_;go_big_quiet_op;refine tW 2 rfl ?_;go_big_quiet_op;refine tM 3 rfl (aj aC) ?_;go_big_quiet_op;refine tM 4 rfl (aj aC) ?_;go_big_quiet_op;refine aV 5 rfl (by kernel_rfl) ?_;intro K hK;go_simp;refine(hRd W0 hs0).mono ?_;rintro e wA ⟨v,rfl,hv,hSA⟩;obtain⟨ra,rc,rfl,hRR⟩:=oW hv;dsimp only;refine hK _ _ (fun h=>absurd h (by decide +kernel)) ?_;clear hK K;refine tW 6 rfl ?_;go_big_quiet_op;refine tW 7 rfl ?_;go_big_quiet_op;refine tW 8 rfl ?_;go_big_quiet_op;refine tW 9 rfl ?_;go_big_quiet_op;refine tW 10 rfl ?_;go_big_quiet_op;refine bE (by kernel_rfl) ?_;clear x0 x1 x2 hRd;have hsA:=hs0.trans hSA;have y1:=(hsA.av hpl _).trans b1'
 go_wp2_with (go_at_call 128;refine(vB _).mono ?_;rintro e w' ⟨rfl,hw'⟩;obtain rfl:=hw'.symm)
 have x1:∀y:aA S0,y.w.cell? ⟨p,1,none⟩=some (.slice (some ⟨bn,on,none⟩) d.ah.length cn):=fun y=>(((hS0 _).1 y.h).av hpl _).trans b1';obtain⟨W1,hW0⟩:∃y,wA.drew=y:=⟨_,rfl⟩;have hsd:=aY hW0;have hs1:ak w W1:=hsA.trans hsd;have aC:=(hS0 W1).2 hs1;refine aW (fun w'=>∃x:aA S0,w'=x.w) (by kernel_rfl) ?_;rw[hW0];clear hW0;refine tW 0 rfl ?_;go_big_quiet_op;refine tW 1 rfl ?_;go_big_quiet_op;refine tW 2 rfl ?_;go_big_quiet_op;refine tW 3 rfl ?_;go_big_quiet_op;refine tM 4 rfl (aj aC) ?_;go_big_quiet_op;refine tM 5 rfl (aj aC) ?_;go_big_quiet_op;refine tW 6 rfl ?_;go_big_quiet_op;refine tW 7 rfl ?_;go_big_quiet_op;refine bE (by kernel_rfl) ?_;clear x1 x3 hne cB;have RS:=hRR.ay hsd;have hMr:gD W1 ra rl.length rl:=lI RS (by omega);have hMt:gD W1 ta x.aG.length x.aG:=lI (hRT.ay hs1) (by omega);have t2:W1.cell? ⟨bn,on+n*4+2,none⟩=some (.slice ha x.held.length hc):=(hs1.av hbn _).trans k2;have t3:W1.cell? ⟨bn,on+n*4+3,none⟩=some (.slice ta x.aG.length tc):=(hs1.av hbn _).trans k3;have hadd:IntKind.i64.wrap ((x.aG.length:Int)+(rl.length:Int))=(x.aG.length:Int)+(rl.length:Int):=IntWalk.i64_in _ (by omega);cases c1:decide ((x.aG.length:Int)+(rl.length:Int)<=40)
 ·have h40:40 < x.aG.length+rl.length:=by simp at c1;omega
  have HH:Hid (40 < x.aG.length+rl.length):=h40;clear h40
  go_wp2_with (go_at_call 99;refine(gH 2 _).mono ?_;rintro e w' ⟨rfl,hw'⟩;obtain rfl:=hw'.symm)
  exact⟨rfl,H2.out HH.out _ hs1⟩
 ·have h40:¬ 40 < x.aG.length+rl.length:=by simp at c1;omega
  have HH:Hid (¬ 40 < x.aG.length+rl.length):=h40;have hFo:=Iz ta tc x.aG ra rc rl W1 hMt hMr (by omega) (by omega);cases c2:gM x.aG rl
  ·rw[c2]at hFo;have HC:Hid (gM x.aG rl=false):=c2;clear c2 h40
   go_wp2_with (first
    | (go_at_call_of 99 (Value.int IntKind.i64 2);refine(dJ 2 _).mono ?_;rintro e w' ⟨rfl,hw'⟩;obtain rfl:=hw'.symm)
    | (go_at_call 135;refine hFo.mono ?_;rintro e wB ⟨rfl,hSB⟩)
    | (go_at_call 99;refine(gH 1 _).mono ?_;rintro e w' ⟨rfl,hw'⟩;obtain rfl:=hw'.symm))
   exact⟨rfl,H1.out HH.out HC.out _ (hs1.trans hSB)⟩
  ·rw[c2]at hFo;have HC:Hid (gM x.aG rl=true):=c2
   have RF:Hid (∀y,ak W1 y->y.cell? ⟨bn,on+n*4+2,none⟩=some (.slice ha x.held.length hc)/\y.cell? ⟨bn,on+n*4+3,none⟩=some (.slice ta x.aG.length tc)/\y.frozen? ⟨bn,on+n*4+2,none⟩=false/\y.frozen? ⟨bn,on+n*4+3,none⟩=false):=fun y hy =>
    ⟨((hs1.trans hy).av hbn _).trans k2,((hs1.trans hy).av hbn _).trans k3,((hs1.trans hy).below.frozen (p:=⟨bn,on+n*4+2,none⟩) hbn).trans (kz 2 (by omega)),((hs1.trans hy).below.frozen (p:=⟨bn,on+n*4+3,none⟩) hbn).trans (kz 3 (by omega))⟩
   clear c2 h40;have l1:(rl.length:Int)<=(x.held.length:Int):=by omega
   have hhc:x.held.length<=hc:=hRH.cap;have l2:(x.held.length:Int)<=(hc:Int):=by omega
   have l3:(0:Int)<=(rl.length:Int):=by omega
   have bq:(x.held.drop rl.length).length=x.held.length - rl.length:=List.length_drop;obtain⟨yH,Eb⟩:=(hRH.ay hs1).cut VT;have hnp:¬ gT d L p:=hB.made.off;have hp3:=hB.cm;have WI:=hB.zm;rcases Nat.lt_or_ge rl.length hc with hlt | hge
   ·obtain⟨bh,oh,eh,_⟩:=hRH.body (by show 0 < hc;omega);dsimp only at eh;subst eh;have hcs:Cj ⟨some ⟨bh,oh,none⟩,hc⟩ rl.length=⟨some ⟨bh,oh+rl.length*5,none⟩,hc - rl.length⟩:=by unfold Cj;rw[if_neg (by dsimp only;omega)];rfl
    rw[hcs]at yH Eb;rw[bq]at yH;have l4:(rl.length:Int) < (hc:Int):=by omega
    have l5:¬ hc=rl.length:=by omega
    clear hcs;have Pb:=IE hB hx HL1.out HL5.out HL6.out hs1 (RS.mono hs0.size) (rest:=x.held.drop rl.length) (ca:=some ⟨bh,oh+rl.length*5,none⟩) (cc:=hc - rl.length) (by rw[bq];exact yH) Eb (by omega) (by omega);rw[bq]at Pb
    go_wp2_with (first
     | (go_at_call_of 99 (Value.int IntKind.i64 2);refine(dJ 2 _).mono ?_;rintro e w' ⟨rfl,hw'⟩;obtain rfl:=hw'.symm)
     | (go_at_call 135;refine hFo.mono ?_;rintro e wB ⟨rfl,hSB⟩;obtain⟨u2,u3,z2,z3⟩:=RF.out _ hSB;have hsB:=hs1.trans hSB;obtain⟨W2,hW2⟩:∃y,wB.setCell ⟨bn,on+n*4+2,none⟩ (.slice (some ⟨bh,oh+rl.length*5,none⟩) (x.held.length - rl.length) (hc - rl.length))=y:=⟨_,rfl⟩;obtain⟨v3,vz,vp,vpz,O9,RU,hlo2,hGo⟩:=Pb.out _ _ hSB hW2)
     | (go_at_call 99;refine(dJ 1 _).mono ?_;rintro e w' ⟨rfl,hw'⟩;obtain rfl:=hw'.symm)
     | (at_builtin;refine iK jo rfl _ _ 62 rfl rfl O9 rfl (jq RU) (by omega) hlo2 ?_;intro ta' tc' W3 hR3 hF3 hB3;obtain⟨W4,hW4⟩:∃y,W3.setCell ⟨bn,on+n*4+3,none⟩ (.slice ta' (x.aG.length+rl.length) tc')=y:=⟨_,rfl⟩;obtain⟨y3,yz,yp,ypz,Pd⟩:=hGo _ _ _ hR3 hF3 hB3 _ hW4))
    go_end0
    exact HOK.out HH.out HC.out _ _ Pd.1 Pd.2
   ·obtain rfl:hc=rl.length:=by omega
    have hcs:Cj ⟨ha,rl.length⟩ rl.length=⟨ha,0⟩:=by unfold Cj;rw[if_pos rfl]
    rw[hcs]at yH Eb;rw[bq]at yH;have hz:x.held.length - rl.length=0:=by omega
    rw[hz]at yH bq;have hxe:x.held.length=rl.length:=by omega
    clear hcs;have Pb:=IE hB hx HL1.out HL5.out HL6.out hs1 (RS.mono hs0.size) (rest:=x.held.drop rl.length) (ca:=ha) (cc:=0) (by rw[bq];exact yH) Eb (by omega) (by omega);rw[bq]at Pb
    go_wp2_with (first
     | (go_at_call_of 99 (Value.int IntKind.i64 2);refine(dJ 2 _).mono ?_;rintro e w' ⟨rfl,hw'⟩;obtain rfl:=hw'.symm)
     | (go_at_call 135;refine hFo.mono ?_;rintro e wB ⟨rfl,hSB⟩;obtain⟨u2,u3,z2,z3⟩:=RF.out _ hSB;have hsB:=hs1.trans hSB;obtain⟨W2,hW2⟩:∃y,wB.setCell ⟨bn,on+n*4+2,none⟩ (.slice ha (0) (0))=y:=⟨_,rfl⟩;obtain⟨v3,vz,vp,vpz,O9,RU,hlo2,hGo⟩:=Pb.out _ _ hSB hW2)
     | (go_at_call 99;refine(dJ 1 _).mono ?_;rintro e w' ⟨rfl,hw'⟩;obtain rfl:=hw'.symm)
     | (at_builtin;refine iK jo rfl _ _ 62 rfl rfl O9 rfl (jq RU) (by omega) hlo2 ?_;intro ta' tc' W3 hR3 hF3 hB3;obtain⟨W4,hW4⟩:∃y,W3.setCell ⟨bn,on+n*4+3,none⟩ (.slice ta' (x.aG.length+rl.length) tc')=y:=⟨_,rfl⟩;obtain⟨y3,yz,yp,ypz,Pd⟩:=hGo _ _ _ hR3 hF3 hB3 _ hW4))
    go_end0
    exact HOK.out HH.out HC.out _ _ Pd.1 Pd.2
theorem FE(lo p q:Nat)(n:Int)(d:Wd)(L:Lay)(w:World)(hB:dG lo w p d L 0)(R:aL d)(hq:q < w.heap.size)(hqc:w.cell? ⟨q,0,none⟩=some (.int .i64 n)) :
  Calls prog 133 #[.pointer (some ⟨p,0,none⟩),.pointer (some ⟨q,0,none⟩)] w fun e w'=>Hid (vE lo (fun _=>False) p w (iH d n) e w'):=by
 cases hin:inB n 0 ((d.ah.length:Int) - 1)
 ·have e:iH d n=.error 4:=by unfold iH;rw[hin];rfl
  rw[e];exact(IC lo p q n d L w hB R hq hqc hin).mono fun _ _ ⟨he,hS⟩=>by rw[he];exact gu (hS.up _ _)
 ·obtain⟨k,hk,rfl⟩:∃k:Nat,k < d.ah.length/\n=(k:Int):=by
   have:0<=n/\n<=(d.ah.length:Int) - 1:=by simpa[inB] using hin
   exact⟨n.toNat,by omega,by omega⟩
  obtain⟨x,hx⟩:=pR hk;have hfr:bC (x.aG++dD d k x)=gM x.aG (dD d k x):=Di (by have:=R.Hr k;rw[(dU hx).2.2.1]at this;exact this) (FD R hx);have e:iH d (k:Int)=(eZ d k).bind fun p=>.ok (p.1,(p.2:Int)):=by unfold iH;rw[hin,if_pos rfl,Int.toNat_natCast]
  have e2:eZ d k=if 40 < (x.aG++dD d k x).length then .error 2 else if bC (x.aG++dD d k x)=false then .error 1 else .ok (aD d k { x with held:=x.held.drop (dD d k x).length,aG:=x.aG++dD d k x },(dD d k x).length):=by unfold eZ;rw[hx]
  rw[List.length_append,hfr]at e2;refine IG lo p q k x (dD d k x) d L w hB R hq hqc hx rfl (fun e w'=>vE lo (fun _=>False) p w (iH d (k:Int)) e w') (fun h w' hS=>?_) (fun h h' w' hS=>?_) (fun h h' w' L' hB' hF=>?_)
  ·rw[e,e2,if_pos h];exact gu (hS.up _ _)
  ·rw[e,e2,if_neg h,if_pos h'];exact gu (hS.up _ _)
  ·rw[e,e2,if_neg h,if_neg (by rw[h'];simp)];exact pX hF hB'
abbrev y8 (w:World) (r:Except Int (Wd × Int)) (e:Ending) (w':World):Prop:=QE (fun _=>False) w r e w'
theorem lQ{w:World}{er:Int}{w':World}(hS:ak w w'):y8 w (.error er) (.returned (.tuple #[.agg #[.slice none 0 0,.slice none 0 0,.slice none 0 0],.int .i64 0,.int .i64 er])) w' :=
 ⟨fun _ h=>(by cases h;exact⟨rfl,hS.fr _⟩),fun _ _ h=>(by cases h)⟩
theorem pV{w:World}{d:Wd}{m:Int}{L:Lay}{w':World}(hO:bG w.heap.size w' d L)(hS:ak w w'):y8 w (.ok (d,m)) (.returned (.tuple #[bF L d,.int .i64 m,.int .i64 0])) w' :=
 ⟨fun _ h=>(by cases h),fun _ _ h=>(by cases h;exact⟨L,rfl,hO,hS.fr _⟩)⟩
theorem Fr.none{w w':World}(h:Fr (fun _=>False) w w'):ak w w':=h.ay (fun _ _ x=>x)
theorem jZ(x:WV)(d:Wd)(n:Int)(w:World)(hW:WAt w x d) :
  Calls prog 102 #[.agg #[.slice x.ga x.gl x.gc,.slice x.na x.nl x.nc,.slice x.wa x.wl x.wc],.int .i64 n] w fun e w'=>Hid (y8 w (checked d (iH d n)) e w'):=by
 obtain⟨ga,gl,gc,na,nl,nc,wa,wl,wc⟩:=x;dsimp only;obtain⟨wp,hwp⟩:∃wp,w.alloc (.cells #[.slice ga gl gc,.slice na nl nc,.slice wa wl wc] 31)=wp:=⟨_,rfl⟩;have hPp:aP wp w.heap.size ⟨ga,gl,gc,na,nl,nc,wa,wl,wc⟩:=by rw[<-hwp];exact aP.new w ⟨ga,gl,gc,na,nl,nc,wa,wl,wc⟩ _
 have hSp:=aF hwp;obtain⟨wq,hwq⟩:∃w1,wp.alloc (.cells #[.int .i64 n] 3)=w1:=⟨_,rfl⟩;have Ca:=aF hwq;have hql:wp.heap.size < wq.heap.size:=by rw[<-hwq];simp
 have hqc:wq.cell? ⟨wp.heap.size,0,none⟩=some (.int .i64 n):=by rw[<-hwq];simp[go_sem]
 obtain⟨w1,hw1⟩:∃w1,wq.alloc (.cells #[.slice none 0 0,.slice none 0 0,.slice none 0 0] 31)=w1:=⟨_,rfl⟩;have hNB:aU w1 wq.heap.size:=by rw[<-hw1];exact aU.new wq _
 have q9:=aF hw1;have dZ:=Ca.trans q9;have hP1:=hPp.ay dZ;have hS1:=hSp.trans dZ;have hW1:=hW.ay hS1;have p0:=hP1.c0;have p1:=hP1.c1;have p2:=hP1.c2;dsimp only at p0 p1 p2
 have hmf:∀(fn:Fn) (first cap:Array Value) (w:World),(Instr.makeFunc fn first cap).run prog w=.ok (.func fn first cap) w:=fun _ _ _ _=>rfl
 have hDo:=mD ⟨ga,gl,gc,na,nl,nc,wa,wl,wc⟩ d 133 #[.pointer (some ⟨wp.heap.size,0,none⟩)] (fun _=>False) w1 hW1 (fun _ h=>h.elim) (iH d n) (enters_of func133 (by kernel_rfl) rfl)
  (fun hE lo p L y hlo hy hB=>FE lo p wp.heap.size n d L y hB ((cZ d).1 hE) (by have:=hy.size;have:=q9.size;omega) (((q9.trans hy).av hql _).trans hqc))
 dsimp only at hDo;obtain⟨r,hr⟩:∃r,checked d (iH d n)=r:=⟨_,rfl⟩;rw[hr]at hDo ⊢;clear hr hW;have hle:=zQ5 hSp.size Ca.size
 cases r with
 | error er =>
  go_enter func102,ntmps102
  go_wp2_with (go_at_call 96;refine hDo.mono ?_;rintro e w2 hR;obtain⟨rfl,hF2⟩:=hR.out.1 er rfl;have hS2:=hF2.none;obtain⟨lt,r0,r1,r2,r3,r4,r5⟩:=hNB.ay hS2)
  refine bodyPost_ret (v:=.tuple #[.agg #[.slice none 0 0,.slice none 0 0,.slice none 0 0],.int .i64 0,.int .i64 er]) ?_ rfl (show Hid _ from lQ (cu hle (hS1.trans hS2)));simp[results,results102,go_sem,r0,r1,r2]
 | ok dm =>
  obtain⟨d',m⟩:=dm
  go_enter func102,ntmps102
  go_wp2_with (go_at_call 96;refine hDo.mono ?_;rintro e w2 hR;obtain⟨L,rfl,hO,hF2⟩:=hR.out.2 d' m rfl;have hS2:=hF2.none;simp only[bF];obtain⟨lt,r0,r1,r2,r3,r4,r5⟩:=hNB.ay hS2)
  obtain⟨hO2,hSf⟩:=hO.result (w0:=w) (p:=wq.heap.size) hNB.lt hle (hS1.trans hS2) hS1.size;refine bodyPost_ret (v:=.tuple #[bF L d',.int .i64 m,.int .i64 0]) ?_ rfl (show Hid _ from pV hO2 hSf);simp[results,results102,go_sem,r0,r1,r2,bF]
end Go.Proofs.YtediempflagfkaaGreatDoor
