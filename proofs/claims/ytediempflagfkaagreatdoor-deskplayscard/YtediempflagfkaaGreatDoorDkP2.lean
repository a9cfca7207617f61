/- Lemmas. Lemmas. -/
import Derived.Test.YtediempflagfkaaGreatDoorPureDD
import Derived.Test.YtediempflagfkaaGreatDoorDkNums
import Derived.Test.YtediempflagfkaaGreatDoorWrWorld
import Derived.Test.YtediempflagfkaaGreatDoorRDo4X
set_option linter.unusedVariables false
set_option linter.unusedSimpArgs false
set_option linter.unnecessarySimpa false
set_option maxHeartbeats 2000000
namespace Go.Proofs.YtediempflagfkaaGreatDoor
open _root_.Go.Proofs.Tryz hiding checked
set_option maxRecDepth 8000
open Go.RowKit Go.Shelf
open Pu
def Et(w w':World)(v:WV)(d:Wd):Prop:=∀(X:Nat->Prop) (w2:World),(∀i,X i->i < w.heap.size)->Fr X w' w2->WAt w2 v d
theorem xK{w w':World}{d:Wd}{L:Lay}{lo:Nat}(hO:bG lo w' d L)(hlo:w.heap.size<=lo):Et w w' (fE L d) d :=
 fun X w2 hX hF=>(hO.fr hF (fun i hi e=>by have:=(hO.blk hi).1;have:=hX i e;omega)).wat
def PlR(w:World)(r:Except Int (Wd × List UInt8))(e:Ending)(w':World):Prop :=
 ak w w'/\(∀er,r=.error er->∃(v:WV) (T:ByteArray),e=.returned (.tuple #[.agg #[.slice v.ga v.gl v.gc,.slice v.na v.nl v.nc,.slice v.wa v.wl v.wc],.string T,.int .i64 er])) /\
 (∀d' t,r=.ok (d',t)->∃v:WV,e=.returned (.tuple #[.agg #[.slice v.ga v.gl v.gc,.slice v.na v.nl v.nc,.slice v.wa v.wl v.wc],.string (bs t),.int .i64 0])/\Et w w' v d')
def PlS(w:World)(x:WV)(t:List UInt8)(e:Ending)(w':World):Prop:=ak w w'/\e=.returned (.tuple #[.agg #[.slice x.ga x.gl x.gc,.slice x.na x.nl x.nc,.slice x.wa x.wl x.wc],.string (bs t),.int .i64 0])
theorem jd{w w':World}{er:Int}{v:WV}{T:ByteArray}(h:ak w w'):PlR w (.error er) (.returned (.tuple #[.agg #[.slice v.ga v.gl v.gc,.slice v.na v.nl v.nc,.slice v.wa v.wl v.wc],.string T,.int .i64 er])) w' :=
 ⟨h,fun _ e=>(by cases e;exact⟨v,T,rfl⟩),fun _ _ e=>(by cases e)⟩
theorem Eu{w w':World}{d':Wd}{t:List UInt8}{v:WV}(h:ak w w')(k:Et w w' v d'):PlR w (.ok (d',t)) (.returned (.tuple #[.agg #[.slice v.ga v.gl v.gc,.slice v.na v.nl v.nc,.slice v.wa v.wl v.wc],.string (bs t),.int .i64 0])) w' :=
 ⟨h,fun _ e=>(by cases e),fun _ _ e=>(by cases e;exact⟨v,rfl,k⟩)⟩
set_option maxRecDepth 8000 in
theorem F5(x:WV)(d:Wd)(w:World)(hW:WAt w x d):Calls prog 17 #[.agg #[.slice x.ga x.gl x.gc,.slice x.na x.nl x.nc,.slice x.wa x.wl x.wc],.string (bs iO)] w fun e w'=>PlR w (after (checked d (lD d)) fun _=>bOk) e w':=by
 obtain⟨w1,hw1⟩:∃y,w.alloc (.cells #[.slice x.ga x.gl x.gc,.slice x.na x.nl x.nc,.slice x.wa x.wl x.wc] 31)=y:=⟨_,rfl⟩;obtain⟨w2,hw2⟩:∃y,w1.alloc (.cells #[.slice none 0 0,.slice none 0 0,.slice none 0 0] 31)=y:=⟨_,rfl⟩;have hS1:=aF hw1;have hS2:=aF hw2
 have hB1:aP w2 w.heap.size x:=by
  have h:aP w1 w.heap.size x:=by rw[<-hw1];exact aP.new w x _
  exact h.ay hS2
 have hA2:Bx3 w2 w1.heap.size (.slice none 0 0) (.slice none 0 0) (.slice none 0 0):=by rw[<-hw2];exact Bx3.fresh w1 _
 have q0:=hB1.c0;have q1:=hB1.c1;have q2:=hB1.c2;have hl1:w.heap.size < w1.heap.size:=by rw[<-hw1];simp
 have hW2:=hW.ay (hS1.trans hS2);have hcm:=Cy x d w2 hW2;have hc0:((bs iO).toList == [99,97,108,109])=true:=by rw[jc];rfl
 obtain⟨r,hr⟩:∃r,checked d (lD d)=r:=⟨_,rfl⟩;rw[hr]at hcm ⊢;clear hr
 cases r with
 | error er =>
  unfold after
  go_enter func17,ntmps17
  go_wp2_with (go_at_call 37;refine hcm.mono ?_;rintro e w3 hR;obtain⟨rfl,hS3⟩:=hR.out.1 er rfl;clear hR;obtain⟨w4a,Sj⟩:∃y,w3.alloc (.cells #[.slice none 0 0,.slice none 0 0,.slice none 0 0] 31)=y:=⟨_,rfl⟩;have UK:ak w3 w4a:=(by rw[<-Sj];exact(ak.refl w3).alloc _);have hBa:Bx3 w4a w3.heap.size (.slice none 0 0) (.slice none 0 0) (.slice none 0 0):=(by rw[<-Sj];exact Bx3.fresh w3 _);have hBb:=hBa.all (.slice none 0 0) (.slice none 0 0) (.slice none 0 0);have hp4:=aS w4a w3.heap.size (.slice none 0 0) (.slice none 0 0) (.slice none 0 0);unfold iB at hp4;obtain⟨w4,hw4⟩:∃y,(((w4a.setCell ⟨w3.heap.size,0,none⟩ (.slice none 0 0)).setCell ⟨w3.heap.size,1,none⟩ (.slice none 0 0)).setCell ⟨w3.heap.size,2,none⟩ (.slice none 0 0))=y:=⟨_,rfl⟩;rw[hw4]at hBb hp4;have hS4:ak w3 w4:=hp4.aI UK (fun i hi e=>(by omega));obtain⟨_,m0,m1,m2,n0,n1,n2⟩:=hBa;obtain⟨_,b0,b1,b2,_,_,_⟩:=hBb;have hA4:=(hA2.fr (hS3.fr fun _=>False) (fun x=>x)).fr (hS4.fr fun _=>False) (fun x=>x);have hAV:=hA4.all (.slice none 0 0) (.slice none 0 0) (.slice none 0 0);have hpf:=aS w4 w1.heap.size (.slice none 0 0) (.slice none 0 0) (.slice none 0 0);unfold iB at hpf;obtain⟨V,hV⟩:∃y,(((w4.setCell ⟨w1.heap.size,0,none⟩ (.slice none 0 0)).setCell ⟨w1.heap.size,1,none⟩ (.slice none 0 0)).setCell ⟨w1.heap.size,2,none⟩ (.slice none 0 0))=y:=⟨_,rfl⟩;rw[hV]at hAV hpf;obtain⟨_,a0,a1,a2,y0,y1,y2⟩:=hA4;obtain⟨_,v0,v1,v2,_,_,_⟩:=hAV;have hSV:ak w V:=hpf.aI ((hS1.trans hS2).trans (hS3.trans hS4)) (fun i hi e=>(by omega)))
  refine bodyPost_ret (v:=.tuple #[.agg #[.slice none 0 0,.slice none 0 0,.slice none 0 0],.string ⟨#[111,107]⟩,.int .i64 er]) ?_ rfl ?_
  ·simp[results,results17,go_sem,v0,v1,v2]
  exact jd (v:=⟨none,0,0,none,0,0,none,0,0⟩) hSV
 | ok d' =>
  unfold after
  go_enter func17,ntmps17
  go_wp2_with (go_at_call 37;refine hcm.mono ?_;rintro e w3 hR;obtain⟨L,rfl,hO3,hS3⟩:=hR.out.2 d' rfl;clear hR;simp only[bF];obtain⟨w4,hw4⟩:∃y,w3.alloc (.cells #[.slice (L (0,0,0)).a d'.au.length (L (0,0,0)).cap,.slice (L (1,0,0)).a d'.ah.length (L (1,0,0)).cap,.slice (L (2,0,0)).a d'.aB.length (L (2,0,0)).cap] 31)=y:=⟨_,rfl⟩;have hS4:ak w3 w4:=(by rw[<-hw4];exact(ak.refl w3).alloc _);obtain⟨_,b0,b1,b2,_,_,_⟩:Bx3 w4 w3.heap.size (.slice (L (0,0,0)).a d'.au.length (L (0,0,0)).cap) (.slice (L (1,0,0)).a d'.ah.length (L (1,0,0)).cap) (.slice (L (2,0,0)).a d'.aB.length (L (2,0,0)).cap):=(by rw[<-hw4];constructor <;> simp[go_sem]);have hA4:=(hA2.fr (hS3.fr fun _=>False) (fun x=>x)).fr (hS4.fr fun _=>False) (fun x=>x);have hAV:=hA4.all (.slice (L (0,0,0)).a d'.au.length (L (0,0,0)).cap) (.slice (L (1,0,0)).a d'.ah.length (L (1,0,0)).cap) (.slice (L (2,0,0)).a d'.aB.length (L (2,0,0)).cap);have hpf:=aS w4 w1.heap.size (.slice (L (0,0,0)).a d'.au.length (L (0,0,0)).cap) (.slice (L (1,0,0)).a d'.ah.length (L (1,0,0)).cap) (.slice (L (2,0,0)).a d'.aB.length (L (2,0,0)).cap);unfold iB at hpf;obtain⟨V,hV⟩:∃y,(((w4.setCell ⟨w1.heap.size,0,none⟩ (.slice (L (0,0,0)).a d'.au.length (L (0,0,0)).cap)).setCell ⟨w1.heap.size,1,none⟩ (.slice (L (1,0,0)).a d'.ah.length (L (1,0,0)).cap)).setCell ⟨w1.heap.size,2,none⟩ (.slice (L (2,0,0)).a d'.aB.length (L (2,0,0)).cap))=y:=⟨_,rfl⟩;rw[hV]at hAV hpf;obtain⟨_,a0,a1,a2,y0,y1,y2⟩:=hA4;obtain⟨_,v0,v1,v2,_,_,_⟩:=hAV;have hSV:ak w V:=hpf.aI ((hS1.trans hS2).trans (hS3.trans hS4)) (fun i hi e=>(by omega));have hOV:=(hO3.ay hS4).fr hpf (fun i hi e=>(by have:=((hO3.ay hS4).blk hi).1;have:=hA2.lt;omega)))
  refine bodyPost_ret (v:=.tuple #[.agg #[.slice (L (0,0,0)).a d'.au.length (L (0,0,0)).cap,.slice (L (1,0,0)).a d'.ah.length (L (1,0,0)).cap,.slice (L (2,0,0)).a d'.aB.length (L (2,0,0)).cap],.string ⟨#[111,107]⟩,.int .i64 0]) ?_ rfl ?_
  ·simp[results,results17,go_sem,v0,v1,v2]
  exact Eu (v:=fE L d') (t:=bOk) hSV (xK hOV (zQ5 hS1.size hS2.size))
end Go.Proofs.YtediempflagfkaaGreatDoor
set_option maxHeartbeats 4000000
namespace Go.Proofs.YtediempflagfkaaGreatDoor
open _root_.Go.Proofs.Tryz hiding checked
set_option maxRecDepth 8000
open Go.RowKit Go.Shelf
open Pu
theorem fT{s t:List UInt8}(h:¬ s=t):((bs s).toList == t)=false:=by rw[jc];simpa using h
theorem sF{s t:List UInt8}(h:s=t):((bs s).toList == t)=true:=by rw[jc];simpa using h
set_option maxRecDepth 8000 in
theorem Am(x:WV)(s:List UInt8)(hs:s.length<=100000)(w:World)(hc:¬ s=iO)(hM:wM s=false):Calls prog 17 #[.agg #[.slice x.ga x.gl x.gc,.slice x.na x.nl x.nc,.slice x.wa x.wl x.wc],.string (bs s)] w fun e w'=>PlR w (.error 1) e w':=by
 obtain⟨ga,gl,gc,na,nl,nc,wa,wl,wc⟩:=x;dsimp only;obtain⟨w1,hw1⟩:∃y,w.alloc (.cells #[.slice ga gl gc,.slice na nl nc,.slice wa wl wc] 31)=y:=⟨_,rfl⟩;obtain⟨w2,hw2⟩:∃y,w1.alloc (.cells #[.slice none 0 0,.slice none 0 0,.slice none 0 0] 31)=y:=⟨_,rfl⟩;have hS1:=aF hw1;have hS2:=aF hw2
 have hB2:aP w2 w.heap.size ⟨ga,gl,gc,na,nl,nc,wa,wl,wc⟩:=by
  have h:aP w1 w.heap.size ⟨ga,gl,gc,na,nl,nc,wa,wl,wc⟩:=by rw[<-hw1];exact aP.new w ⟨ga,gl,gc,na,nl,nc,wa,wl,wc⟩ _
  exact h.ay hS2
 have hA2:Bx3 w2 w1.heap.size (.slice none 0 0) (.slice none 0 0) (.slice none 0 0):=by rw[<-hw2];exact Bx3.fresh w1 _
 have hl1:w.heap.size < w1.heap.size:=by rw[<-hw1];simp
 have PF:Hid (∀y,ak w2 y->y.cell? ⟨w.heap.size,0,none⟩=some (.slice ga gl gc)/\y.cell? ⟨w.heap.size,1,none⟩=some (.slice na nl nc)/\y.cell? ⟨w.heap.size,2,none⟩=some (.slice wa wl wc)):=fun y hy=>⟨(hB2.ay hy).c0,(hB2.ay hy).c1,(hB2.ay hy).c2⟩
 have AF:Hid (∀y,ak w2 y->∃V,(((y.setCell ⟨w1.heap.size,0,none⟩ (.slice ga gl gc)).setCell ⟨w1.heap.size,1,none⟩ (.slice na nl nc)).setCell ⟨w1.heap.size,2,none⟩ (.slice wa wl wc))=V/\Bx3 y w1.heap.size (.slice none 0 0) (.slice none 0 0) (.slice none 0 0)/\Bx3 V w1.heap.size (.slice ga gl gc) (.slice na nl nc) (.slice wa wl wc)/\ak w V):=fun y hy=>by
  have hA:=hA2.fr (hy.fr fun _=>False) (fun x=>x);have hp:=aS y w1.heap.size (.slice ga gl gc) (.slice na nl nc) (.slice wa wl wc);exact⟨_,rfl,hA,hA.all _ _ _,hp.aI ((hS1.trans hS2).trans hy) (fun i hi e=>by omega)⟩
 have hc0:((bs s).toList == [99,97,108,109])=false:=fT hc;obtain⟨A,hA⟩:∃y,wA s=y:=⟨_,rfl⟩;obtain⟨B,hB⟩:∃y,wB s=y:=⟨_,rfl⟩
 go_enter func17,ntmps17
 go_wp2_with (first
  | (go_at_call_of 38 (Value.string (bs s));refine(bQ s (by omega) w2).mono ?_;rw[hA,hB,hM];rintro e w3 ⟨rfl,hS3⟩;have hSY:=hS3;obtain⟨p0,p1,p2⟩:=PF.out _ hSY;obtain⟨V,hV,⟨_,a0,a1,a2,y0,y1,y2⟩,⟨_,v0,v1,v2,_,_,_⟩,hSV⟩:=AF.out _ hSY))
 refine bodyPost_ret (v:=.tuple #[.agg #[.slice ga gl gc,.slice na nl nc,.slice wa wl wc],.string ⟨#[]⟩,.int .i64 1]) ?_ rfl ?_
 ·simp[results,results17,go_sem,v0,v1,v2]
 exact jd (v:=⟨ga,gl,gc,na,nl,nc,wa,wl,wc⟩) hSV
set_option maxRecDepth 8000 in
theorem Ao(x:WV)(s:List UInt8)(hs:s.length<=100000)(w:World)(hc:¬ s=iO)(hM:wM s=true)(hop:wA s=qG)(hbad:¬ ((wM (wB s)=true/\wM (wB (wB s))=true)/\0<=bZ (wA (wB s))/\0<=bZ (wA (wB (wB s))))):Calls prog 17 #[.agg #[.slice x.ga x.gl x.gc,.slice x.na x.nl x.nc,.slice x.wa x.wl x.wc],.string (bs s)] w fun e w'=>PlR w (.error 1) e w':=by
 obtain⟨ga,gl,gc,na,nl,nc,wa,wl,wc⟩:=x;dsimp only;obtain⟨w1,hw1⟩:∃y,w.alloc (.cells #[.slice ga gl gc,.slice na nl nc,.slice wa wl wc] 31)=y:=⟨_,rfl⟩;obtain⟨w2,hw2⟩:∃y,w1.alloc (.cells #[.slice none 0 0,.slice none 0 0,.slice none 0 0] 31)=y:=⟨_,rfl⟩;have hS1:=aF hw1;have hS2:=aF hw2
 have hB2:aP w2 w.heap.size ⟨ga,gl,gc,na,nl,nc,wa,wl,wc⟩:=by
  have h:aP w1 w.heap.size ⟨ga,gl,gc,na,nl,nc,wa,wl,wc⟩:=by rw[<-hw1];exact aP.new w ⟨ga,gl,gc,na,nl,nc,wa,wl,wc⟩ _
  exact h.ay hS2
 have hA2:Bx3 w2 w1.heap.size (.slice none 0 0) (.slice none 0 0) (.slice none 0 0):=by rw[<-hw2];exact Bx3.fresh w1 _
 have hl1:w.heap.size < w1.heap.size:=by rw[<-hw1];simp
 have PF:Hid (∀y,ak w2 y->y.cell? ⟨w.heap.size,0,none⟩=some (.slice ga gl gc)/\y.cell? ⟨w.heap.size,1,none⟩=some (.slice na nl nc)/\y.cell? ⟨w.heap.size,2,none⟩=some (.slice wa wl wc)):=fun y hy=>⟨(hB2.ay hy).c0,(hB2.ay hy).c1,(hB2.ay hy).c2⟩
 have AF:Hid (∀y,ak w2 y->∃V,(((y.setCell ⟨w1.heap.size,0,none⟩ (.slice ga gl gc)).setCell ⟨w1.heap.size,1,none⟩ (.slice na nl nc)).setCell ⟨w1.heap.size,2,none⟩ (.slice wa wl wc))=V/\Bx3 y w1.heap.size (.slice none 0 0) (.slice none 0 0) (.slice none 0 0)/\Bx3 V w1.heap.size (.slice ga gl gc) (.slice na nl nc) (.slice wa wl wc)/\ak w V):=fun y hy=>by
  have hA:=hA2.fr (hy.fr fun _=>False) (fun x=>x);have hp:=aS y w1.heap.size (.slice ga gl gc) (.slice na nl nc) (.slice wa wl wc);exact⟨_,rfl,hA,hA.all _ _ _,hp.aI ((hS1.trans hS2).trans hy) (fun i hi e=>by omega)⟩
 have hc0:((bs s).toList == [99,97,108,109])=false:=fT hc;obtain⟨A,hA⟩:∃y,wA s=y:=⟨_,rfl⟩;obtain⟨B,hB⟩:∃y,wB s=y:=⟨_,rfl⟩;have hBl:B.length<=100000:=by rw[<-hB];have:=jA s;omega
 rw[hB]at hbad;rw[hA]at hop;have ho:((bs A).toList == [115,101,110,100])=true:=sF hop;obtain⟨A1,hA1⟩:∃y,wA B=y:=⟨_,rfl⟩;obtain⟨B1,hB1⟩:∃y,wB B=y:=⟨_,rfl⟩;have Sm:B1.length<=100000:=by rw[<-hB1];have:=jA B;omega
 have Sn:A1.length<=100000:=by rw[<-hA1];have:=sZ B;omega
 obtain⟨A2,xL⟩:∃y,wA B1=y:=⟨_,rfl⟩;have Sq:A2.length<=100000:=by rw[<-xL];have:=sZ B1;omega
 obtain⟨B2,hB2'⟩:∃y,wB B1=y:=⟨_,rfl⟩;rw[hA1,hB1,xL]at hbad;obtain⟨m1,hm1⟩:∃y,wM B=y:=⟨_,rfl⟩;obtain⟨m2,hm2⟩:∃y,wM B1=y:=⟨_,rfl⟩;obtain⟨x1,hx1⟩:∃y,bZ A1=y:=⟨_,rfl⟩;obtain⟨x2,hx2⟩:∃y,bZ A2=y:=⟨_,rfl⟩;rw[hm1,hm2,hx1,hx2]at hbad;have hwB:=fun y=>bQ B (by omega) y;rw[hA1,hB1,hm1]at hwB;have hwC:=fun y=>bQ B1 (by omega) y;rw[xL,hB2',hm2]at hwC;have hn1:=fun y=>kQ A1 (by omega) y;have hn2:=fun y=>kQ A2 (by omega) y;rw[hx1]at hn1;rw[hx2]at hn2;clear hm1 hm2 hx1 hx2;clear hA1 hB1 xL hB2' hop;cases m1
 ·clear hbad
  go_enter func17,ntmps17
  go_wp2_with (first
  | (go_at_call_of 38 (Value.string (bs s));refine(bQ s (by omega) w2).mono ?_;rw[hA,hB,hM];rintro e w3 ⟨rfl,hS3⟩;skip)
  | (go_at_call_of 38 (Value.string (bs B));refine(hwB w3).mono ?_;rintro e w4 ⟨rfl,hS4⟩)
  | (go_at_call_of 38 (Value.string (bs B1));refine(hwC w4).mono ?_;rintro e w5 ⟨rfl,hS5⟩;have hSY:=hS3.trans (hS4.trans hS5);obtain⟨p0,p1,p2⟩:=PF.out _ hSY;obtain⟨V,hV,⟨_,a0,a1,a2,y0,y1,y2⟩,⟨_,v0,v1,v2,_,_,_⟩,hSV⟩:=AF.out _ hSY))
  refine bodyPost_ret (v:=.tuple #[.agg #[.slice ga gl gc,.slice na nl nc,.slice wa wl wc],.string ⟨#[]⟩,.int .i64 1]) ?_ rfl ?_
  ·simp[results,results17,go_sem,v0,v1,v2]
  exact jd (v:=⟨ga,gl,gc,na,nl,nc,wa,wl,wc⟩) hSV
 cases m2
 ·clear hbad
  go_enter func17,ntmps17
  go_wp2_with (first
  | (go_at_call_of 38 (Value.string (bs s));refine(bQ s (by omega) w2).mono ?_;rw[hA,hB,hM];rintro e w3 ⟨rfl,hS3⟩;skip)
  | (go_at_call_of 38 (Value.string (bs B));refine(hwB w3).mono ?_;rintro e w4 ⟨rfl,hS4⟩)
  | (go_at_call_of 38 (Value.string (bs B1));refine(hwC w4).mono ?_;rintro e w5 ⟨rfl,hS5⟩;have hSY:=hS3.trans (hS4.trans hS5);obtain⟨p0,p1,p2⟩:=PF.out _ hSY;obtain⟨V,hV,⟨_,a0,a1,a2,y0,y1,y2⟩,⟨_,v0,v1,v2,_,_,_⟩,hSV⟩:=AF.out _ hSY))
  refine bodyPost_ret (v:=.tuple #[.agg #[.slice ga gl gc,.slice na nl nc,.slice wa wl wc],.string ⟨#[]⟩,.int .i64 1]) ?_ rfl ?_
  ·simp[results,results17,go_sem,v0,v1,v2]
  exact jd (v:=⟨ga,gl,gc,na,nl,nc,wa,wl,wc⟩) hSV
 by_cases hx1:x1 < 0
 ·have q1:decide (x1 < 0)=true:=by simpa using hx1
  clear hbad hx1
  go_enter func17,ntmps17
  go_wp2_with (first
  | (go_at_call_of 38 (Value.string (bs s));refine(bQ s (by omega) w2).mono ?_;rw[hA,hB,hM];rintro e w3 ⟨rfl,hS3⟩;skip)
  | (go_at_call_of 38 (Value.string (bs B));refine(hwB w3).mono ?_;rintro e w4 ⟨rfl,hS4⟩)
  | (go_at_call_of 38 (Value.string (bs B1));refine(hwC w4).mono ?_;rintro e w5 ⟨rfl,hS5⟩)
  | (go_at_call_of 39 (Value.string (bs A1));refine(hn1 w5).mono ?_;rintro e w6 ⟨rfl,hS6⟩;have hSY:=hS3.trans (hS4.trans (hS5.trans hS6));obtain⟨p0,p1,p2⟩:=PF.out _ hSY;obtain⟨V,hV,⟨_,a0,a1,a2,y0,y1,y2⟩,⟨_,v0,v1,v2,_,_,_⟩,hSV⟩:=AF.out _ hSY))
  refine bodyPost_ret (v:=.tuple #[.agg #[.slice ga gl gc,.slice na nl nc,.slice wa wl wc],.string ⟨#[]⟩,.int .i64 1]) ?_ rfl ?_
  ·simp[results,results17,go_sem,v0,v1,v2]
  exact jd (v:=⟨ga,gl,gc,na,nl,nc,wa,wl,wc⟩) hSV
 have hx2:x2 < 0:=by
  by_cases h:x2 < 0
  ·exact h
  ·exact absurd ⟨⟨rfl,rfl⟩,by omega,by omega⟩ hbad
 have q1:decide (x1 < 0)=false:=by simpa using hx1
 have q2:decide (x2 < 0)=true:=by simpa using hx2
 clear hbad hx1 hx2
 go_enter func17,ntmps17
 go_wp2_with (first
  | (go_at_call_of 38 (Value.string (bs s));refine(bQ s (by omega) w2).mono ?_;rw[hA,hB,hM];rintro e w3 ⟨rfl,hS3⟩;skip)
  | (go_at_call_of 38 (Value.string (bs B));refine(hwB w3).mono ?_;rintro e w4 ⟨rfl,hS4⟩)
  | (go_at_call_of 38 (Value.string (bs B1));refine(hwC w4).mono ?_;rintro e w5 ⟨rfl,hS5⟩)
  | (go_at_call_of 39 (Value.string (bs A1));refine(hn1 w5).mono ?_;rintro e w6 ⟨rfl,hS6⟩)
  | (go_at_call_of 39 (Value.string (bs A2));refine(hn2 w6).mono ?_;rintro e w7 ⟨rfl,hS7⟩;have hSY:=hS3.trans (hS4.trans (hS5.trans (hS6.trans hS7)));obtain⟨p0,p1,p2⟩:=PF.out _ hSY;obtain⟨V,hV,⟨_,a0,a1,a2,y0,y1,y2⟩,⟨_,v0,v1,v2,_,_,_⟩,hSV⟩:=AF.out _ hSY))
 refine bodyPost_ret (v:=.tuple #[.agg #[.slice ga gl gc,.slice na nl nc,.slice wa wl wc],.string ⟨#[]⟩,.int .i64 1]) ?_ rfl ?_
 ·simp[results,results17,go_sem,v0,v1,v2]
 exact jd (v:=⟨ga,gl,gc,na,nl,nc,wa,wl,wc⟩) hSV
end Go.Proofs.YtediempflagfkaaGreatDoor
