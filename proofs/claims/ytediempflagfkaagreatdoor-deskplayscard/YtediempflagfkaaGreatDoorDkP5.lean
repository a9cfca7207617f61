/- Lemmas. Lemmas. Lemmas. -/
import Derived.Test.YtediempflagfkaaGreatDoorDkP2
set_option linter.unusedVariables false
set_option linter.unusedSimpArgs false
set_option linter.unnecessarySimpa false
set_option maxHeartbeats 4000000
namespace Go.Proofs.YtediempflagfkaaGreatDoor
open _root_.Go.Proofs.Tryz hiding checked
set_option maxRecDepth 8000
open Go.RowKit Go.Shelf
open Pu
theorem Dw(n:Nat)(hn:n<=2)(s:List UInt8)(hs:s.length<=100000)(b:Bool)(hb:(numsL n s).isSome=b)(w:World):Calls prog 41 #[.string (bs s),.int .i64 n] w fun e w'=>ak w w'/\∃a l c,e=.returned (.tuple #[.slice a l c,.bool b]):=by
 refine(o9 n hn s hs w).mono ?_;rintro e w' ⟨hS,(⟨h,rfl⟩ | ⟨l,a,c,h,_,rfl,_⟩)⟩
 ·rw[h]at hb;subst hb;exact⟨hS,_,_,_,rfl⟩
 ·rw[h]at hb;subst hb;exact⟨hS,_,_,_,rfl⟩
set_option maxRecDepth 8000 in
theorem jG(x:WV)(s:List UInt8)(hs:s.length<=100000)(w:World)(hc:¬ s=iO)(hM:wM s=true)(hop:¬ wA s=qG)(h2:¬ ((numsL 2 (wB s)).isSome=true/\(wA s=r9\/wA s=sj)))(h1:¬ ((numsL 1 (wB s)).isSome=true/\(wA s=su\/wA s=sw))):Calls prog 17 #[.agg #[.slice x.ga x.gl x.gc,.slice x.na x.nl x.nc,.slice x.wa x.wl x.wc],.string (bs s)] w fun e w'=>PlR w (.error 1) e w':=by
 obtain⟨ga,gl,gc,na,nl,nc,wa,wl,wc⟩:=x;dsimp only;obtain⟨w1,hw1⟩:∃y,w.alloc (.cells #[.slice ga gl gc,.slice na nl nc,.slice wa wl wc] 31)=y:=⟨_,rfl⟩;obtain⟨w2,hw2⟩:∃y,w1.alloc (.cells #[.slice none 0 0,.slice none 0 0,.slice none 0 0] 31)=y:=⟨_,rfl⟩;have hS1:=aF hw1;have hS2:=aF hw2
 have hB2:aP w2 w.heap.size ⟨ga,gl,gc,na,nl,nc,wa,wl,wc⟩:=by
  have h:aP w1 w.heap.size ⟨ga,gl,gc,na,nl,nc,wa,wl,wc⟩:=by rw[<-hw1];exact aP.new w ⟨ga,gl,gc,na,nl,nc,wa,wl,wc⟩ _
  exact h.ay hS2
 have hA2:Bx3 w2 w1.heap.size (.slice none 0 0) (.slice none 0 0) (.slice none 0 0):=by rw[<-hw2];exact Bx3.fresh w1 _
 have hl1:w.heap.size < w1.heap.size:=by rw[<-hw1];simp
 have PF:Hid (∀y,ak w2 y->y.cell? ⟨w.heap.size,0,none⟩=some (.slice ga gl gc)/\y.cell? ⟨w.heap.size,1,none⟩=some (.slice na nl nc)/\y.cell? ⟨w.heap.size,2,none⟩=some (.slice wa wl wc)):=fun y hy=>⟨(hB2.ay hy).c0,(hB2.ay hy).c1,(hB2.ay hy).c2⟩
 have AF:Hid (∀y,ak w2 y->∃V,(((y.setCell ⟨w1.heap.size,0,none⟩ (.slice ga gl gc)).setCell ⟨w1.heap.size,1,none⟩ (.slice na nl nc)).setCell ⟨w1.heap.size,2,none⟩ (.slice wa wl wc))=V/\Bx3 y w1.heap.size (.slice none 0 0) (.slice none 0 0) (.slice none 0 0)/\Bx3 V w1.heap.size (.slice ga gl gc) (.slice na nl nc) (.slice wa wl wc)/\ak w V):=fun y hy=>by
  have hA:=hA2.fr (hy.fr fun _=>False) (fun x=>x);have hp:=aS y w1.heap.size (.slice ga gl gc) (.slice na nl nc) (.slice wa wl wc);exact⟨_,rfl,hA,hA.all _ _ _,hp.aI ((hS1.trans hS2).trans hy) (fun i hi e=>by omega)⟩
 have hc0:((bs s).toList == [99,97,108,109])=false:=fT hc;obtain⟨A,hA⟩:∃y,wA s=y:=⟨_,rfl⟩;obtain⟨B,hB⟩:∃y,wB s=y:=⟨_,rfl⟩;have hBl:B.length<=100000:=by rw[<-hB];have:=jA s;omega
 rw[hA]at hop h2 h1;rw[hB]at h2 h1;have ho:((bs A).toList == [115,101,110,100])=false:=fT hop;obtain⟨b2,hb2⟩:∃y,(numsL 2 B).isSome=y:=⟨_,rfl⟩;obtain⟨b1,hb1⟩:∃y,(numsL 1 B).isSome=y:=⟨_,rfl⟩;rw[hb2]at h2;rw[hb1]at h1;have hn2:∀y,Calls prog 41 #[.string (bs B),.int .i64 2] y fun e w'=>ak y w'/\∃a l c,e=.returned (.tuple #[.slice a l c,.bool b2]):=fun y=>Dw 2 (by omega) B hBl b2 hb2 y;have hn1:∀y,Calls prog 41 #[.string (bs B),.int .i64 1] y fun e w'=>ak y w'/\∃a l c,e=.returned (.tuple #[.slice a l c,.bool b1]):=fun y=>Dw 1 (by omega) B hBl b1 hb1 y;clear hb2 hb1 hop;cases b2
 ·cases b1
  ·clear h1 h2
   go_enter func17,ntmps17
   go_wp2_with (first
  | (go_at_call_of 38 (Value.string (bs s));refine(bQ s (by omega) w2).mono ?_;rw[hA,hB,hM];rintro e w3 ⟨rfl,hS3⟩;have HS3:Hid (ak w2 w3):=hS3)
  | (go_at_call_of 41 (Value.int .i64 2);refine(hn2 _).mono ?_;rintro e w4 ⟨hS4,a4,l4,c4,rfl⟩;replace HS3:Hid (ak w2 w4):=HS3.out.trans hS4;clear hS4)
  | (go_at_call_of 41 (Value.int .i64 1);refine(hn1 _).mono ?_;rintro e w6 ⟨hS6,a6,l6,c6,rfl⟩;have hSY:=HS3.out.trans hS6;obtain⟨p0,p1,p2⟩:=PF.out _ hSY;obtain⟨V,hV,⟨_,a0,a1,a2,y0,y1,y2⟩,⟨_,v0,v1,v2,_,_,_⟩,hSV⟩:=AF.out _ hSY))
   refine bodyPost_ret (v:=.tuple #[.agg #[.slice ga gl gc,.slice na nl nc,.slice wa wl wc],.string ⟨#[]⟩,.int .i64 1]) ?_ rfl ?_
   ·simp[results,results17,go_sem,v0,v1,v2]
   exact jd (v:=⟨ga,gl,gc,na,nl,nc,wa,wl,wc⟩) hSV
  have o5:((bs A).toList == [116,111,108,100])=false:=fT fun h=>h1 ⟨rfl,.inl h⟩;have o6:((bs A).toList == [104,101,108,100])=false:=fT fun h=>h1 ⟨rfl,.inr h⟩;clear h1 h2
  go_enter func17,ntmps17
  go_wp2_with (first
  | (go_at_call_of 38 (Value.string (bs s));refine(bQ s (by omega) w2).mono ?_;rw[hA,hB,hM];rintro e w3 ⟨rfl,hS3⟩;have HS3:Hid (ak w2 w3):=hS3)
  | (go_at_call_of 41 (Value.int .i64 2);refine(hn2 _).mono ?_;rintro e w4 ⟨hS4,a4,l4,c4,rfl⟩;replace HS3:Hid (ak w2 w4):=HS3.out.trans hS4;clear hS4)
  | (go_at_call_of 41 (Value.int .i64 1);refine(hn1 _).mono ?_;rintro e w6 ⟨hS6,a6,l6,c6,rfl⟩;have hSY:=HS3.out.trans hS6;obtain⟨p0,p1,p2⟩:=PF.out _ hSY;obtain⟨V,hV,⟨_,a0,a1,a2,y0,y1,y2⟩,⟨_,v0,v1,v2,_,_,_⟩,hSV⟩:=AF.out _ hSY))
  refine bodyPost_ret (v:=.tuple #[.agg #[.slice ga gl gc,.slice na nl nc,.slice wa wl wc],.string ⟨#[]⟩,.int .i64 1]) ?_ rfl ?_
  ·simp[results,results17,go_sem,v0,v1,v2]
  exact jd (v:=⟨ga,gl,gc,na,nl,nc,wa,wl,wc⟩) hSV
 have o3:((bs A).toList == [110,117,108,108])=false:=fT fun h=>h2 ⟨rfl,.inl h⟩;have o4:((bs A).toList == [109,111,118,101])=false:=fT fun h=>h2 ⟨rfl,.inr h⟩;cases b1
 ·clear h1 h2
  go_enter func17,ntmps17
  go_wp2_with (first
  | (go_at_call_of 38 (Value.string (bs s));refine(bQ s (by omega) w2).mono ?_;rw[hA,hB,hM];rintro e w3 ⟨rfl,hS3⟩;have HS3:Hid (ak w2 w3):=hS3)
  | (go_at_call_of 41 (Value.int .i64 2);refine(hn2 _).mono ?_;rintro e w4 ⟨hS4,a4,l4,c4,rfl⟩;replace HS3:Hid (ak w2 w4):=HS3.out.trans hS4;clear hS4)
  | (go_at_call_of 41 (Value.int .i64 1);refine(hn1 _).mono ?_;rintro e w6 ⟨hS6,a6,l6,c6,rfl⟩;have hSY:=HS3.out.trans hS6;obtain⟨p0,p1,p2⟩:=PF.out _ hSY;obtain⟨V,hV,⟨_,a0,a1,a2,y0,y1,y2⟩,⟨_,v0,v1,v2,_,_,_⟩,hSV⟩:=AF.out _ hSY))
  refine bodyPost_ret (v:=.tuple #[.agg #[.slice ga gl gc,.slice na nl nc,.slice wa wl wc],.string ⟨#[]⟩,.int .i64 1]) ?_ rfl ?_
  ·simp[results,results17,go_sem,v0,v1,v2]
  exact jd (v:=⟨ga,gl,gc,na,nl,nc,wa,wl,wc⟩) hSV
 have o5:((bs A).toList == [116,111,108,100])=false:=fT fun h=>h1 ⟨rfl,.inl h⟩;have o6:((bs A).toList == [104,101,108,100])=false:=fT fun h=>h1 ⟨rfl,.inr h⟩;clear h1 h2
 go_enter func17,ntmps17
 go_wp2_with (first
  | (go_at_call_of 38 (Value.string (bs s));refine(bQ s (by omega) w2).mono ?_;rw[hA,hB,hM];rintro e w3 ⟨rfl,hS3⟩;have HS3:Hid (ak w2 w3):=hS3)
  | (go_at_call_of 41 (Value.int .i64 2);refine(hn2 _).mono ?_;rintro e w4 ⟨hS4,a4,l4,c4,rfl⟩;replace HS3:Hid (ak w2 w4):=HS3.out.trans hS4;clear hS4)
  | (go_at_call_of 41 (Value.int .i64 1);refine(hn1 _).mono ?_;rintro e w6 ⟨hS6,a6,l6,c6,rfl⟩;have hSY:=HS3.out.trans hS6;obtain⟨p0,p1,p2⟩:=PF.out _ hSY;obtain⟨V,hV,⟨_,a0,a1,a2,y0,y1,y2⟩,⟨_,v0,v1,v2,_,_,_⟩,hSV⟩:=AF.out _ hSY))
 refine bodyPost_ret (v:=.tuple #[.agg #[.slice ga gl gc,.slice na nl nc,.slice wa wl wc],.string ⟨#[]⟩,.int .i64 1]) ?_ rfl ?_
 ·simp[results,results17,go_sem,v0,v1,v2]
 exact jd (v:=⟨ga,gl,gc,na,nl,nc,wa,wl,wc⟩) hSV
end Go.Proofs.YtediempflagfkaaGreatDoor
set_option maxHeartbeats 4000000
namespace Go.Proofs.YtediempflagfkaaGreatDoor
open _root_.Go.Proofs.Tryz hiding checked
set_option maxRecDepth 8000
open Go.RowKit Go.Shelf
open Pu
theorem xP(s:List UInt8)(hs:s.length<=100000)(p q:Int)(h:numsL 2 s=some [p,q])(w:World):Calls prog 41 #[.string (bs s),.int .i64 2] w fun e w'=>ak w w'/\∃b o c,e=.returned (.tuple #[.slice (some ⟨b,o,none⟩) 2 c,.bool true])/\b < w'.heap.size/\w'.cell? ⟨b,o,none⟩=some (.int .i64 p)/\w'.cell? ⟨b,o+1,none⟩=some (.int .i64 q):=by
 refine(o9 2 (by omega) s hs w).mono ?_;rintro e w' ⟨hS,(⟨h0,rfl⟩ | ⟨l,a,c,h0,_,rfl,hI⟩)⟩
 ·rw[h]at h0;cases h0
 rw[h]at h0;cases h0;refine⟨hS, ?_⟩;obtain⟨b,o,rfl,hb,hc⟩:=hI.cells (by simp);exact⟨b,o,c,rfl,hb,hc 0 (by simp),hc 1 (by simp)⟩
set_option maxRecDepth 8000 in
theorem Ap(x:WV)(d:Wd)(s:List UInt8)(hs:s.length<=100000)(w:World)(hW:WAt w x d)(hc:¬ s=iO)(hM:wM s=true)(hop:wA s=r9)(p q:Int)(hn:numsL 2 (wB s)=some [p,q])(er:Int)(h0:er≠0)(hr:checked d (dR d p q true ByteArray.empty)=.error er):Calls prog 17 #[.agg #[.slice x.ga x.gl x.gc,.slice x.na x.nl x.nc,.slice x.wa x.wl x.wc],.string (bs s)] w fun e w'=>PlR w (.error er) e w':=by
 have hcm:=fun y (hy:ak w y)=>mG x d p q true ByteArray.empty y (hW.ay hy);rw[hr]at hcm;obtain⟨ga,gl,gc,na,nl,nc,wa,wl,wc⟩:=x;dsimp only;obtain⟨w1,hw1⟩:∃y,w.alloc (.cells #[.slice ga gl gc,.slice na nl nc,.slice wa wl wc] 31)=y:=⟨_,rfl⟩;obtain⟨w2,hw2⟩:∃y,w1.alloc (.cells #[.slice none 0 0,.slice none 0 0,.slice none 0 0] 31)=y:=⟨_,rfl⟩;have hS1:=aF hw1;have hS2:=aF hw2
 have hB2:aP w2 w.heap.size ⟨ga,gl,gc,na,nl,nc,wa,wl,wc⟩:=by
  have h:aP w1 w.heap.size ⟨ga,gl,gc,na,nl,nc,wa,wl,wc⟩:=by rw[<-hw1];exact aP.new w ⟨ga,gl,gc,na,nl,nc,wa,wl,wc⟩ _
  exact h.ay hS2
 have hA2:Bx3 w2 w1.heap.size (.slice none 0 0) (.slice none 0 0) (.slice none 0 0):=by rw[<-hw2];exact Bx3.fresh w1 _
 have hl1:w.heap.size < w1.heap.size:=by rw[<-hw1];simp
 have PF:Hid (∀y,ak w2 y->y.cell? ⟨w.heap.size,0,none⟩=some (.slice ga gl gc)/\y.cell? ⟨w.heap.size,1,none⟩=some (.slice na nl nc)/\y.cell? ⟨w.heap.size,2,none⟩=some (.slice wa wl wc)):=fun y hy=>⟨(hB2.ay hy).c0,(hB2.ay hy).c1,(hB2.ay hy).c2⟩
 have AF:Hid (∀y,ak w2 y->∃V,(((y.setCell ⟨w1.heap.size,0,none⟩ (.slice ga gl gc)).setCell ⟨w1.heap.size,1,none⟩ (.slice na nl nc)).setCell ⟨w1.heap.size,2,none⟩ (.slice wa wl wc))=V/\Bx3 y w1.heap.size (.slice none 0 0) (.slice none 0 0) (.slice none 0 0)/\Bx3 V w1.heap.size (.slice ga gl gc) (.slice na nl nc) (.slice wa wl wc)/\ak w V):=fun y hy=>by
  have hA:=hA2.fr (hy.fr fun _=>False) (fun x=>x);have hp:=aS y w1.heap.size (.slice ga gl gc) (.slice na nl nc) (.slice wa wl wc);exact⟨_,rfl,hA,hA.all _ _ _,hp.aI ((hS1.trans hS2).trans hy) (fun i hi e=>by omega)⟩
 dsimp only at hcm;have hc0:((bs s).toList == [99,97,108,109])=false:=fT hc;obtain⟨A,hA⟩:∃y,wA s=y:=⟨_,rfl⟩;obtain⟨B,hB⟩:∃y,wB s=y:=⟨_,rfl⟩;have hBl:B.length<=100000:=by rw[<-hB];have:=jA s;omega
 rw[hA]at hop;rw[hB]at hn;have ho:((bs A).toList == [115,101,110,100])=false:=fT (by rw[hop];decide);have ho2:((bs A).toList == [110,117,108,108])=true:=sF hop;have hn2:=fun y=>xP B hBl p q hn y;have her:(er == 0)=false:=by simpa using h0
 clear hop hn hr
 go_enter func17,ntmps17
 go_wp2_with (first
  | (go_at_call_of 38 (Value.string (bs s));refine(bQ s (by omega) w2).mono ?_;rw[hA,hB,hM];rintro e w3 ⟨rfl,hS3⟩)
  | (go_at_call_of 41 (Value.int .i64 2);refine(hn2 w3).mono ?_;rintro e w4 ⟨hS4,b4,o4,c4,rfl,hb4,n0,n1⟩))
 obtain⟨S0,hS0⟩:∃S0:World->Prop,∀w',S0 w'↔ak w4 w':=⟨_,fun _=>Iff.rfl⟩;have fK:=hS3.trans hS4;have c0:∀y:aA S0,y.w.cell? ⟨w.heap.size,0,none⟩=some (.slice ga gl gc):=fun y=>(PF.out _ (fK.trans ((hS0 _).1 y.h))).1;have c1:∀y:aA S0,y.w.cell? ⟨w.heap.size,1,none⟩=some (.slice na nl nc):=fun y=>(PF.out _ (fK.trans ((hS0 _).1 y.h))).2.1;have c2:∀y:aA S0,y.w.cell? ⟨w.heap.size,2,none⟩=some (.slice wa wl wc):=fun y=>(PF.out _ (fK.trans ((hS0 _).1 y.h))).2.2;have c3:∀y:aA S0,y.w.cell? ⟨b4,o4,none⟩=some (.int .i64 p):=fun y=>(((hS0 _).1 y.h).av hb4 _).trans n0;have c4':∀y:aA S0,y.w.cell? ⟨b4,o4+1,none⟩=some (.int .i64 q):=fun y=>(((hS0 _).1 y.h).av hb4 _).trans n1;obtain⟨W0,hW0⟩:∃y,w4.drew=y:=⟨_,rfl⟩;have hs0:=aY hW0;have aC:=(hS0 W0).2 hs0;have hne:Nonempty (aA S0):=⟨⟨_,aC⟩⟩;have cB:=aO W0;have hSw:ak w w4:=(hS1.trans hS2).trans fK;refine aW (fun w'=>∃x:aA S0,w'=x.w) (by kernel_rfl) ?_;rw[hW0];clear hW0;refine tM 0 rfl (aj aC) ?_;go_big_quiet_op;refine tW 1 rfl ?_;go_big_quiet_op;refine tW 2 rfl ?_;go_big_quiet_op;refine tM 3 rfl (aj aC) ?_;go_big_quiet_op;refine tW 4 rfl ?_;go_big_quiet_op;refine tW 5 rfl ?_;go_big_quiet_op;refine tM 6 rfl (aj aC) ?_;go_big_quiet_op;refine qM 7 11 rfl rfl (by kernel_rfl) ?oA ?oB
 case' oA =>
  intro K hK;go_simp;refine(hcm W0 (hSw.trans (hs0))).mono ?_;rintro e W1 hR;obtain⟨rfl,hSc⟩:=hR.out.1 er rfl;clear hR;dsimp only;refine hK _ _ (fun _ _=>aj ((hS0 _).2 (hs0.trans hSc))) ?_;clear hK K;refine tW 8 rfl ?_;go_big_quiet_op;refine tW 9 rfl ?_;go_big_quiet_op;refine tW 10 rfl ?_;go_big_quiet_op;refine aV 11 rfl (by kernel_rfl) ?_;obtain⟨W2,hW2⟩:∃y,W1.alloc (.cells #[.slice none 0 0,.slice none 0 0,.slice none 0 0] 31)=y:=⟨_,rfl⟩;have hSa:=aF hW2;have hBx:Bx3 W2 W1.heap.size (.slice none 0 0) (.slice none 0 0) (.slice none 0 0):=by rw[<-hW2];exact Bx3.fresh W1 _
  intro K hK;go_simp;refine hK _ _ (fun _ _=>aj ((hS0 _).2 (hs0.trans (hSc.trans hSa)))) ?_;clear hK K;refine aV 12 rfl (by kernel_rfl) ?_;obtain⟨W3,hW3⟩:∃y,(((W2.setCell ⟨W1.heap.size,0,none⟩ (.slice none 0 0)).setCell ⟨W1.heap.size,1,none⟩ (.slice none 0 0)).setCell ⟨W1.heap.size,2,none⟩ (.slice none 0 0))=y:=⟨_,rfl⟩;have hpf:=aS W2 W1.heap.size (.slice none 0 0) (.slice none 0 0) (.slice none 0 0);unfold iB at hpf;rw[hW3]at hpf;obtain⟨_,m0,m1,m2,k0,k1,k2⟩:=hBx;intro K hK;go_simp;refine hK _ _ (fun h=>absurd h (by decide +kernel)) ?_;clear hK K;refine tW 13 rfl ?_;go_big_quiet_op;refine bE (by kernel_rfl) ?_;have hSY:ak w2 W3:=hpf.aI ((fK.trans hs0).trans (hSc.trans hSa)) (fun i hi e=>by have:=((fK.trans hs0).trans hSc).size;omega)
 case' oB =>
  obtain⟨W1,hW1⟩:∃y,W0.alloc (.cells #[.slice none 0 0,.slice none 0 0,.slice none 0 0] 31)=y:=⟨_,rfl⟩;have hSa:=aF hW1;have hBx:Bx3 W1 W0.heap.size (.slice none 0 0) (.slice none 0 0) (.slice none 0 0):=by rw[<-hW1];exact Bx3.fresh W0 _
  intro K hK;go_simp;refine hK _ _ (fun _ _=>aj ((hS0 _).2 (hs0.trans hSa))) ?_;clear hK K;refine aV 7 rfl (by kernel_rfl) ?_;intro K hK;go_simp;refine(hcm W1 (hSw.trans (hs0.trans hSa))).mono ?_;rintro e W2 hR;obtain⟨rfl,hSc⟩:=hR.out.1 er rfl;clear hR;dsimp only;refine hK _ _ (fun _ _=>aj ((hS0 _).2 (hs0.trans (hSa.trans hSc)))) ?_;clear hK K;refine tW 8 rfl ?_;go_big_quiet_op;refine tW 9 rfl ?_;go_big_quiet_op;refine tW 10 rfl ?_;go_big_quiet_op
  replace hBx:=hBx.fr (hSc.fr fun _=>False) (fun x=>x)
  refine aV 12 rfl (by kernel_rfl) ?_;obtain⟨W3,hW3⟩:∃y,(((W2.setCell ⟨W0.heap.size,0,none⟩ (.slice none 0 0)).setCell ⟨W0.heap.size,1,none⟩ (.slice none 0 0)).setCell ⟨W0.heap.size,2,none⟩ (.slice none 0 0))=y:=⟨_,rfl⟩;have hpf:=aS W2 W0.heap.size (.slice none 0 0) (.slice none 0 0) (.slice none 0 0);unfold iB at hpf;rw[hW3]at hpf;obtain⟨_,m0,m1,m2,k0,k1,k2⟩:=hBx;intro K hK;go_simp;refine hK _ _ (fun h=>absurd h (by decide +kernel)) ?_;clear hK K;refine tW 13 rfl ?_;go_big_quiet_op;refine bE (by kernel_rfl) ?_;have hSY:ak w2 W3:=hpf.aI ((fK.trans hs0).trans (hSa.trans hSc)) (fun i hi e=>by have:=(fK.trans hs0).size;omega)
 all_goals
  clear c0 c1 c2 c3 c4' hne cB m0 m1 m2 k0 k1 k2 hpf;obtain⟨p0,p1,p2⟩:=PF.out _ hSY;obtain⟨V,hV,⟨_,a0,a1,a2,y0,y1,y2⟩,⟨_,v0,v1,v2,_,_,_⟩,hSV⟩:=AF.out _ hSY
  go_wp2_with fail
  refine bodyPost_ret (v:=.tuple #[.agg #[.slice ga gl gc,.slice na nl nc,.slice wa wl wc],.string ⟨#[]⟩,.int .i64 er]) ?_ rfl ?_
  ·simp[results,results17,go_sem,v0,v1,v2]
  exact jd (v:=⟨ga,gl,gc,na,nl,nc,wa,wl,wc⟩) hSV
end Go.Proofs.YtediempflagfkaaGreatDoor
set_option maxHeartbeats 4000000
namespace Go.Proofs.YtediempflagfkaaGreatDoor
open _root_.Go.Proofs.Tryz hiding checked
set_option maxRecDepth 8000
open Go.RowKit Go.Shelf
open Pu
set_option maxRecDepth 8000 in
theorem CG(x:WV)(d d':Wd)(s:List UInt8)(hs:s.length<=100000)(w:World)(hW:WAt w x d)(hc:¬ s=iO)(hM:wM s=true)(hop:wA s=r9)(n:Nat)(q:Int)(hn:numsL 2 (wB s)=some [(n:Int),q])(hr:checked d (dR d n q true ByteArray.empty)=.ok d')(x':Nd)(hx:d'.ah[n]? = some x')(ck:Nat)(hkx:x'.aK=ck)(hck:ck<=1000000000):Calls prog 17 #[.agg #[.slice x.ga x.gl x.gc,.slice x.na x.nl x.nc,.slice x.wa x.wl x.wc],.string (bs s)] w fun e w'=>PlR w (.ok (d',dn ck)) e w':=by
 have hcm:=fun y (hy:ak w y)=>mG x d n q true ByteArray.empty y (hW.ay hy);rw[hr]at hcm;have hnl:=bT hx;have n9:(n:Int) < (d'.ah.length:Int):=by omega
 obtain⟨ga,gl,gc,na,nl,nc,wa,wl,wc⟩:=x;dsimp only;obtain⟨w1,hw1⟩:∃y,w.alloc (.cells #[.slice ga gl gc,.slice na nl nc,.slice wa wl wc] 31)=y:=⟨_,rfl⟩;obtain⟨w2,hw2⟩:∃y,w1.alloc (.cells #[.slice none 0 0,.slice none 0 0,.slice none 0 0] 31)=y:=⟨_,rfl⟩;have hS1:=aF hw1;have hS2:=aF hw2
 have hB2:aP w2 w.heap.size ⟨ga,gl,gc,na,nl,nc,wa,wl,wc⟩:=by
  have h:aP w1 w.heap.size ⟨ga,gl,gc,na,nl,nc,wa,wl,wc⟩:=by rw[<-hw1];exact aP.new w ⟨ga,gl,gc,na,nl,nc,wa,wl,wc⟩ _
  exact h.ay hS2
 have hA2:Bx3 w2 w1.heap.size (.slice none 0 0) (.slice none 0 0) (.slice none 0 0):=by rw[<-hw2];exact Bx3.fresh w1 _
 have hl1:w.heap.size < w1.heap.size:=by rw[<-hw1];simp
 have PF:Hid (∀y,ak w2 y->y.cell? ⟨w.heap.size,0,none⟩=some (.slice ga gl gc)/\y.cell? ⟨w.heap.size,1,none⟩=some (.slice na nl nc)/\y.cell? ⟨w.heap.size,2,none⟩=some (.slice wa wl wc)):=fun y hy=>⟨(hB2.ay hy).c0,(hB2.ay hy).c1,(hB2.ay hy).c2⟩
 have AF:Hid (∀y,ak w2 y->∃V,(((y.setCell ⟨w1.heap.size,0,none⟩ (.slice ga gl gc)).setCell ⟨w1.heap.size,1,none⟩ (.slice na nl nc)).setCell ⟨w1.heap.size,2,none⟩ (.slice wa wl wc))=V/\Bx3 y w1.heap.size (.slice none 0 0) (.slice none 0 0) (.slice none 0 0)/\Bx3 V w1.heap.size (.slice ga gl gc) (.slice na nl nc) (.slice wa wl wc)/\ak w V):=fun y hy=>by
  have hA:=hA2.fr (hy.fr fun _=>False) (fun x=>x);have hp:=aS y w1.heap.size (.slice ga gl gc) (.slice na nl nc) (.slice wa wl wc);exact⟨_,rfl,hA,hA.all _ _ _,hp.aI ((hS1.trans hS2).trans hy) (fun i hi e=>by omega)⟩
 dsimp only at hcm;have hc0:((bs s).toList == [99,97,108,109])=false:=fT hc;obtain⟨A,hA⟩:∃y,wA s=y:=⟨_,rfl⟩;obtain⟨B,hB⟩:∃y,wB s=y:=⟨_,rfl⟩;have hBl:B.length<=100000:=by rw[<-hB];have:=jA s;omega
 rw[hA]at hop;rw[hB]at hn;have ho:((bs A).toList == [115,101,110,100])=false:=fT (by rw[hop];decide);have ho2:((bs A).toList == [110,117,108,108])=true:=sF hop;have hn2:=fun y=>xP B hBl n q hn y;clear hop hn hr
 go_enter func17,ntmps17
 go_wp2_with (first
  | (go_at_call_of 38 (Value.string (bs s));refine(bQ s (by omega) w2).mono ?_;rw[hA,hB,hM];rintro e w3 ⟨rfl,hS3⟩)
  | (go_at_call_of 41 (Value.int .i64 2);refine(hn2 w3).mono ?_;rintro e w4 ⟨hS4,b4,o4,c4,rfl,hb4,n0,n1⟩))
 obtain⟨S0,hS0⟩:∃S0:World->Prop,∀w',S0 w'↔ak w4 w':=⟨_,fun _=>Iff.rfl⟩;have fK:=hS3.trans hS4;have c0:∀y:aA S0,y.w.cell? ⟨w.heap.size,0,none⟩=some (.slice ga gl gc):=fun y=>(PF.out _ (fK.trans ((hS0 _).1 y.h))).1;have c1:∀y:aA S0,y.w.cell? ⟨w.heap.size,1,none⟩=some (.slice na nl nc):=fun y=>(PF.out _ (fK.trans ((hS0 _).1 y.h))).2.1;have c2:∀y:aA S0,y.w.cell? ⟨w.heap.size,2,none⟩=some (.slice wa wl wc):=fun y=>(PF.out _ (fK.trans ((hS0 _).1 y.h))).2.2;have c3:∀y:aA S0,y.w.cell? ⟨b4,o4,none⟩=some (.int .i64 n):=fun y=>(((hS0 _).1 y.h).av hb4 _).trans n0;have c4':∀y:aA S0,y.w.cell? ⟨b4,o4+1,none⟩=some (.int .i64 q):=fun y=>(((hS0 _).1 y.h).av hb4 _).trans n1;obtain⟨W0,hW0⟩:∃y,w4.drew=y:=⟨_,rfl⟩;have hs0:=aY hW0;have aC:=(hS0 W0).2 hs0;have hne:Nonempty (aA S0):=⟨⟨_,aC⟩⟩;have cB:=aO W0;have hSw:ak w w4:=(hS1.trans hS2).trans fK;refine aW (fun w'=>∃x:aA S0,w'=x.w) (by kernel_rfl) ?_;rw[hW0];clear hW0;refine tM 0 rfl (aj aC) ?_;go_big_quiet_op;refine tW 1 rfl ?_;go_big_quiet_op;refine tW 2 rfl ?_;go_big_quiet_op;refine tM 3 rfl (aj aC) ?_;go_big_quiet_op;refine tW 4 rfl ?_;go_big_quiet_op;refine tW 5 rfl ?_;go_big_quiet_op;refine tM 6 rfl (aj aC) ?_;go_big_quiet_op;refine qM 7 11 rfl rfl (by kernel_rfl) ?oA ?oB
 case' oA =>
  intro K hK;go_simp;refine(hcm W0 (hSw.trans (hs0))).mono ?_;rintro e W1 hR;obtain⟨L,rfl,hO,hSc⟩:=hR.out.2 d' rfl;clear hR;have hlo:W0.heap.size<=W0.heap.size:=Nat.le_refl _;obtain⟨bn,on,cn,hL1,hbl,hbn,_,hcn⟩:=hO.lies (ix:=(1,0,0)) ⟨rfl,rfl⟩ (by show 0 < d'.ah.length;omega);simp only[bF,hL1];refine hK _ _ (fun _ _=>aj ((hS0 _).2 (hs0.trans hSc))) ?_;clear hK K;refine tW 8 rfl ?_;go_big_quiet_op;refine tW 9 rfl ?_;go_big_quiet_op;refine tW 10 rfl ?_;go_big_quiet_op;refine aV 11 rfl (by kernel_rfl) ?_;obtain⟨W2,hW2⟩:∃y,W1.alloc (.cells #[.slice none 0 0,.slice none 0 0,.slice none 0 0] 31)=y:=⟨_,rfl⟩;have hSa:=aF hW2;have hBx:Bx3 W2 W1.heap.size (.slice none 0 0) (.slice none 0 0) (.slice none 0 0):=by rw[<-hW2];exact Bx3.fresh W1 _
  intro K hK;go_simp;refine hK _ _ (fun _ _=>aj ((hS0 _).2 (hs0.trans (hSc.trans hSa)))) ?_;clear hK K;refine aV 12 rfl (by kernel_rfl) ?_;have hBV:=hBx.all (.slice (L (0,0,0)).a d'.au.length (L (0,0,0)).cap) (.slice (some ⟨bn,on,none⟩) d'.ah.length cn) (.slice (L (2,0,0)).a d'.aB.length (L (2,0,0)).cap);obtain⟨W3,hW3⟩:∃y,(((W2.setCell ⟨W1.heap.size,0,none⟩ (.slice (L (0,0,0)).a d'.au.length (L (0,0,0)).cap)).setCell ⟨W1.heap.size,1,none⟩ (.slice (some ⟨bn,on,none⟩) d'.ah.length cn)).setCell ⟨W1.heap.size,2,none⟩ (.slice (L (2,0,0)).a d'.aB.length (L (2,0,0)).cap))=y:=⟨_,rfl⟩;have hpf:=aS W2 W1.heap.size (.slice (L (0,0,0)).a d'.au.length (L (0,0,0)).cap) (.slice (some ⟨bn,on,none⟩) d'.ah.length cn) (.slice (L (2,0,0)).a d'.aB.length (L (2,0,0)).cap);unfold iB at hpf;rw[hW3]at hpf hBV;obtain⟨_,m0,m1,m2,k0,k1,k2⟩:=hBx;intro K hK;go_simp;refine hK _ _ (fun h=>absurd h (by decide +kernel)) ?_;clear hK K;refine tW 13 rfl ?_;go_big_quiet_op;refine bE (by kernel_rfl) ?_;have hSY:ak w4 W3:=hpf.aI (hs0.trans (hSc.trans hSa)) (fun i hi e=>by have:=(hs0.trans hSc).size;omega);have hO3:bG w4.heap.size W3 d' L:=((hO.ay hSa).fr hpf (fun i hi e=>by have:=(hO.blk hi).2;omega)).mono hs0.size;obtain⟨bx,hbx⟩:∃y,W1.heap.size=y:=⟨_,rfl⟩;have Al:w4.heap.size<=bx:=by have:=(hs0.trans hSc).size;omega
 case' oB =>
  obtain⟨W1,hW1⟩:∃y,W0.alloc (.cells #[.slice none 0 0,.slice none 0 0,.slice none 0 0] 31)=y:=⟨_,rfl⟩;have hSa:=aF hW1;have hBx:Bx3 W1 W0.heap.size (.slice none 0 0) (.slice none 0 0) (.slice none 0 0):=by rw[<-hW1];exact Bx3.fresh W0 _
  intro K hK;go_simp;refine hK _ _ (fun _ _=>aj ((hS0 _).2 (hs0.trans hSa))) ?_;clear hK K;refine aV 7 rfl (by kernel_rfl) ?_;intro K hK;go_simp;refine(hcm W1 (hSw.trans (hs0.trans hSa))).mono ?_;rintro e W2 hR;obtain⟨L,rfl,hO,hSc⟩:=hR.out.2 d' rfl;clear hR;have hlo:W1.heap.size<=W1.heap.size:=Nat.le_refl _;obtain⟨bn,on,cn,hL1,hbl,hbn,_,hcn⟩:=hO.lies (ix:=(1,0,0)) ⟨rfl,rfl⟩ (by show 0 < d'.ah.length;omega);simp only[bF,hL1];refine hK _ _ (fun _ _=>aj ((hS0 _).2 (hs0.trans (hSa.trans hSc)))) ?_;clear hK K;refine tW 8 rfl ?_;go_big_quiet_op;refine tW 9 rfl ?_;go_big_quiet_op;refine tW 10 rfl ?_;go_big_quiet_op;have hbz:=hBx.lt
  replace hBx:=hBx.fr (hSc.fr fun _=>False) (fun x=>x)
  refine aV 12 rfl (by kernel_rfl) ?_;have hBV:=hBx.all (.slice (L (0,0,0)).a d'.au.length (L (0,0,0)).cap) (.slice (some ⟨bn,on,none⟩) d'.ah.length cn) (.slice (L (2,0,0)).a d'.aB.length (L (2,0,0)).cap);obtain⟨W3,hW3⟩:∃y,(((W2.setCell ⟨W0.heap.size,0,none⟩ (.slice (L (0,0,0)).a d'.au.length (L (0,0,0)).cap)).setCell ⟨W0.heap.size,1,none⟩ (.slice (some ⟨bn,on,none⟩) d'.ah.length cn)).setCell ⟨W0.heap.size,2,none⟩ (.slice (L (2,0,0)).a d'.aB.length (L (2,0,0)).cap))=y:=⟨_,rfl⟩;have hpf:=aS W2 W0.heap.size (.slice (L (0,0,0)).a d'.au.length (L (0,0,0)).cap) (.slice (some ⟨bn,on,none⟩) d'.ah.length cn) (.slice (L (2,0,0)).a d'.aB.length (L (2,0,0)).cap);unfold iB at hpf;rw[hW3]at hpf hBV;obtain⟨_,m0,m1,m2,k0,k1,k2⟩:=hBx;intro K hK;go_simp;refine hK _ _ (fun h=>absurd h (by decide +kernel)) ?_;clear hK K;refine tW 13 rfl ?_;go_big_quiet_op;refine bE (by kernel_rfl) ?_;have hSY:ak w4 W3:=hpf.aI (hs0.trans (hSa.trans hSc)) (fun i hi e=>by have:=hs0.size;omega);have hO3:bG w4.heap.size W3 d' L:=(hO.fr hpf (fun i hi e=>by have:=(hO.blk hi).1;omega)).mono (hs0.trans hSa).size;obtain⟨bx,hbx⟩:∃y,W0.heap.size=y:=⟨_,rfl⟩;have Al:w4.heap.size<=bx:=by have:=hs0.size;omega
 all_goals
  rw[hbx]at hBV ⊢;clear hpf hbx hO hSc hSa m0 m1 m2 k0 k1 k2 hne cB hs0 aC hS0 hlo hbl hbn hcn;clear c0 c1 c2 c3 c4'
  try clear hW1
  try clear hW2
  clear hW3
  go_wp2_with fail
  obtain⟨S0,hS0⟩:∃S0:World->Prop,∀w',S0 w'↔ak W3 w':=⟨_,fun _=>Iff.rfl⟩;obtain⟨hbz,f0,f1,f2,_,_,_⟩:=hBV;obtain⟨_,_,_,hL1',_,hbn,_,_⟩:=hO3.lies (ix:=(1,0,0)) ⟨rfl,rfl⟩ (by show 0 < d'.ah.length;omega);rw[hL1]at hL1';cases hL1';have q0:=(hO3.cells hx hL1).1;rw[hkx]at q0;have c0:∀y:aA S0,y.w.cell? ⟨bx,0,none⟩=some (.slice (L (0,0,0)).a d'.au.length (L (0,0,0)).cap):=fun y=>(((hS0 _).1 y.h).av hbz _).trans f0;have c1:∀y:aA S0,y.w.cell? ⟨bx,1,none⟩=some (.slice (some ⟨bn,on,none⟩) d'.ah.length cn):=fun y=>(((hS0 _).1 y.h).av hbz _).trans f1;have c2:∀y:aA S0,y.w.cell? ⟨bx,2,none⟩=some (.slice (L (2,0,0)).a d'.aB.length (L (2,0,0)).cap):=fun y=>(((hS0 _).1 y.h).av hbz _).trans f2;have c3:∀y:aA S0,y.w.cell? ⟨b4,o4,none⟩=some (.int .i64 n):=fun y=>((hSY.trans ((hS0 _).1 y.h)).av hb4 _).trans n0;have c5:∀y:aA S0,y.w.cell? ⟨bn,on+n*4,none⟩=some (.int .i64 ck):=fun y=>(((hS0 _).1 y.h).av hbn _).trans q0;obtain⟨W4,hW4⟩:∃y,W3.drew=y:=⟨_,rfl⟩;have hs0:=aY hW4;have aC:=(hS0 W4).2 hs0;have hne:Nonempty (aA S0):=⟨⟨_,aC⟩⟩;have cB:=aO W4;refine aW (fun w'=>∃x:aA S0,w'=x.w) (by kernel_rfl) ?_;rw[hW4];clear hW4;refine tM 0 rfl (aj aC) ?_;go_big_quiet_op;refine tW 1 rfl ?_;go_big_quiet_op;refine tM 2 rfl (aj aC) ?_;go_big_quiet_op;refine tW 3 rfl ?_;go_big_quiet_op;refine tW 4 rfl ?_;go_big_quiet_op;refine tM 5 rfl (aj aC) ?_;go_big_quiet_op;refine tW 6 rfl ?_;go_big_quiet_op;refine tW 7 rfl ?_;go_big_quiet_op;refine tM 8 rfl (aj aC) ?_;go_big_quiet_op;refine aV 9 rfl (by kernel_rfl) ?_;intro K hK;go_simp;refine(je (ck+1) ck (by omega) hck W4).mono ?_;rintro e W5 ⟨rfl,hS5⟩;dsimp only;refine hK _ _ (fun _ _=>aj ((hS0 _).2 (hs0.trans hS5))) ?_;clear hK K;refine aV 10 rfl (by kernel_rfl) ?_;intro K hK;have hA5:=hA2.fr ((fK.trans (hSY.trans (hs0.trans hS5))).fr fun _=>False) (fun x=>x);have hAV:=hA5.all (.slice (L (0,0,0)).a d'.au.length (L (0,0,0)).cap) (.slice (some ⟨bn,on,none⟩) d'.ah.length cn) (.slice (L (2,0,0)).a d'.aB.length (L (2,0,0)).cap);have hpf:=aS W5 w1.heap.size (.slice (L (0,0,0)).a d'.au.length (L (0,0,0)).cap) (.slice (some ⟨bn,on,none⟩) d'.ah.length cn) (.slice (L (2,0,0)).a d'.aB.length (L (2,0,0)).cap);unfold iB at hpf;obtain⟨V,hV⟩:∃y,(((W5.setCell ⟨w1.heap.size,0,none⟩ (.slice (L (0,0,0)).a d'.au.length (L (0,0,0)).cap)).setCell ⟨w1.heap.size,1,none⟩ (.slice (some ⟨bn,on,none⟩) d'.ah.length cn)).setCell ⟨w1.heap.size,2,none⟩ (.slice (L (2,0,0)).a d'.aB.length (L (2,0,0)).cap))=y:=⟨_,rfl⟩;rw[hV]at hAV hpf;obtain⟨_,a0,a1,a2,y0,y1,y2⟩:=hA5;obtain⟨_,v0,v1,v2,_,_,_⟩:=hAV;go_simp;refine hK _ _ (fun h=>absurd h (by decide +kernel)) ?_;clear hK K;refine tW 11 rfl ?_;go_big_quiet_op;refine tW 12 rfl ?_;go_big_quiet_op;refine bE (by kernel_rfl) ?_;have hSV:ak w V:=hpf.aI (hSw.trans (hSY.trans (hs0.trans hS5))) (fun i hi e=>by omega)
  have hWV:Et w V ⟨(L (0,0,0)).a,d'.au.length,(L (0,0,0)).cap,some ⟨bn,on,none⟩,d'.ah.length,cn,(L (2,0,0)).a,d'.aB.length,(L (2,0,0)).cap⟩ d':=by
   have h:=xK (w:=w) (((hO3.ay (hs0.trans hS5))).fr hpf (fun i hi e=>by have:=(hO3.blk hi).1;have:=fK.size;have:=hA2.lt;omega)) hSw.size;unfold fE at h;rw[hL1]at h;exact h
  go_wp2_with fail
  refine bodyPost_ret (v:=.tuple #[.agg #[.slice (L (0,0,0)).a d'.au.length (L (0,0,0)).cap,.slice (some ⟨bn,on,none⟩) d'.ah.length cn,.slice (L (2,0,0)).a d'.aB.length (L (2,0,0)).cap],.string (bs (dn ck)),.int .i64 0]) ?_ rfl ?_
  ·simp[results,results17,go_sem,v0,v1,v2]
  exact Eu hSV hWV
end Go.Proofs.YtediempflagfkaaGreatDoor
