/- Lemmas. Lemmas. Lemmas. -/
import Derived.Test.YtediempflagfkaaGreatDoorDkP6
set_option linter.unusedVariables false
set_option linter.unusedSimpArgs false
set_option linter.unnecessarySimpa false
set_option maxHeartbeats 4000000
namespace Go.Proofs.YtediempflagfkaaGreatDoor
open _root_.Go.Proofs.Tryz hiding checked
set_option maxRecDepth 8000
open Go.RowKit Go.Shelf
open Pu
theorem nJ{s:List UInt8}{l:List Int}(h:numsL 1 s=some l):numsL 2 s=none:=by
 unfold numsL at h ⊢;split at h
 ·rename_i h1;rw[if_neg];rintro⟨_,h2⟩;rw[h1.2]at h2;simp at h2
 ·cases h
theorem uY(s:List UInt8)(hs:s.length<=100000)(h:numsL 2 s=none)(w:World):Calls prog 41 #[.string (bs s),.int .i64 2] w fun e w'=>ak w w'/\e=.returned (.tuple #[.slice none 0 0,.bool false]):=by
 refine(o9 2 (by omega) s hs w).mono ?_;rintro e w' ⟨hS,(⟨h0,rfl⟩ | ⟨l,a,c,h0,_,rfl,hI⟩)⟩
 ·exact⟨hS,rfl⟩
 ·rw[h]at h0;cases h0
theorem xQ(s:List UInt8)(hs:s.length<=100000)(p:Int)(h:numsL 1 s=some [p])(w:World):Calls prog 41 #[.string (bs s),.int .i64 1] w fun e w'=>ak w w'/\∃b o c,e=.returned (.tuple #[.slice (some ⟨b,o,none⟩) 1 c,.bool true])/\b < w'.heap.size/\w'.cell? ⟨b,o,none⟩=some (.int .i64 p):=by
 refine(o9 1 (by omega) s hs w).mono ?_;rintro e w' ⟨hS,(⟨h0,rfl⟩ | ⟨l,a,c,h0,_,rfl,hI⟩)⟩
 ·rw[h]at h0;cases h0
 rw[h]at h0;cases h0;refine⟨hS, ?_⟩;obtain⟨b,o,rfl,hb,hc⟩:=hI.cells (by simp);exact⟨b,o,c,rfl,hb,hc 0 (by simp)⟩
set_option maxRecDepth 8000 in
theorem CO(x:WV)(d:Wd)(s:List UInt8)(hs:s.length<=100000)(w:World)(hW:WAt w x d)(hc:¬ s=iO)(hM:wM s=true)(hop:wA s=su)(p:Int)(hn:numsL 1 (wB s)=some [p])(hE:aM d p≠0):Calls prog 17 #[.agg #[.slice x.ga x.gl x.gc,.slice x.na x.nl x.nc,.slice x.wa x.wl x.wc],.string (bs s)] w fun e w'=>PlR w (.error (aM d p)) e w':=by
 have hcm:=fun y (hy:ak w y)=>iJ x d p y (hW.ay hy);obtain⟨ga,gl,gc,na,nl,nc,wa,wl,wc⟩:=x;dsimp only;obtain⟨w1,hw1⟩:∃y,w.alloc (.cells #[.slice ga gl gc,.slice na nl nc,.slice wa wl wc] 31)=y:=⟨_,rfl⟩;obtain⟨w2,hw2⟩:∃y,w1.alloc (.cells #[.slice none 0 0,.slice none 0 0,.slice none 0 0] 31)=y:=⟨_,rfl⟩;have hS1:=aF hw1;have hS2:=aF hw2
 have hB2:aP w2 w.heap.size ⟨ga,gl,gc,na,nl,nc,wa,wl,wc⟩:=by
  have h:aP w1 w.heap.size ⟨ga,gl,gc,na,nl,nc,wa,wl,wc⟩:=by rw[<-hw1];exact aP.new w ⟨ga,gl,gc,na,nl,nc,wa,wl,wc⟩ _
  exact h.ay hS2
 have hA2:Bx3 w2 w1.heap.size (.slice none 0 0) (.slice none 0 0) (.slice none 0 0):=by rw[<-hw2];exact Bx3.fresh w1 _
 have hl1:w.heap.size < w1.heap.size:=by rw[<-hw1];simp
 have PF:Hid (∀y,ak w2 y->y.cell? ⟨w.heap.size,0,none⟩=some (.slice ga gl gc)/\y.cell? ⟨w.heap.size,1,none⟩=some (.slice na nl nc)/\y.cell? ⟨w.heap.size,2,none⟩=some (.slice wa wl wc)):=fun y hy=>⟨(hB2.ay hy).c0,(hB2.ay hy).c1,(hB2.ay hy).c2⟩
 have AF:Hid (∀y,ak w2 y->∃V,(((y.setCell ⟨w1.heap.size,0,none⟩ (.slice ga gl gc)).setCell ⟨w1.heap.size,1,none⟩ (.slice na nl nc)).setCell ⟨w1.heap.size,2,none⟩ (.slice wa wl wc))=V/\Bx3 y w1.heap.size (.slice none 0 0) (.slice none 0 0) (.slice none 0 0)/\Bx3 V w1.heap.size (.slice ga gl gc) (.slice na nl nc) (.slice wa wl wc)/\ak w V):=fun y hy=>by
  have hA:=hA2.fr (hy.fr fun _=>False) (fun x=>x);have hp:=aS y w1.heap.size (.slice ga gl gc) (.slice na nl nc) (.slice wa wl wc);exact⟨_,rfl,hA,hA.all _ _ _,hp.aI ((hS1.trans hS2).trans hy) (fun i hi e=>by omega)⟩
 dsimp only at hcm;have hc0:((bs s).toList == [99,97,108,109])=false:=fT hc;obtain⟨A,hA⟩:∃y,wA s=y:=⟨_,rfl⟩;obtain⟨B,hB⟩:∃y,wB s=y:=⟨_,rfl⟩;have hBl:B.length<=100000:=by rw[<-hB];have:=jA s;omega
 rw[hA]at hop;rw[hB]at hn;have ho:((bs A).toList == [115,101,110,100])=false:=fT (by rw[hop];decide);have ho5:((bs A).toList == [116,111,108,100])=true:=sF hop;have ho6:((bs A).toList == [104,101,108,100])=false:=fT (by rw[hop];decide);have hn2:=fun y=>uY B hBl (nJ hn) y;have hn1:=fun y=>xQ B hBl p hn y;obtain⟨er,her⟩:∃y,aM d p=y:=⟨_,rfl⟩;rw[her]at hcm hE ⊢;have hE0:(er == 0)=false:=by simpa using hE
 clear hop hn her
 go_enter func17,ntmps17
 go_wp2_with (first
  | (go_at_call_of 38 (Value.string (bs s));refine(bQ s (by omega) w2).mono ?_;rw[hA,hB,hM];rintro e w3 ⟨rfl,hS3⟩;have HS3:Hid (ak w2 w3):=hS3;clear hS3)
  | (go_at_call_of 41 (Value.int .i64 2);refine(hn2 _).mono ?_;rintro e w4 ⟨hS4,rfl⟩;replace HS3:Hid (ak w2 w4):=HS3.out.trans hS4;clear hS4)
  | (go_at_call_of 41 (Value.int .i64 1);refine(hn1 _).mono ?_;rintro e w4 ⟨hS4,b4,o4,c4,rfl,hb4,n0⟩;replace HS3:Hid (ak w2 w4):=HS3.out.trans hS4;clear hS4))
 obtain⟨S0,hS0⟩:∃S0:World->Prop,∀w',S0 w'↔ak w4 w':=⟨_,fun _=>Iff.rfl⟩;have fK:=HS3.out;have c0:∀y:aA S0,y.w.cell? ⟨w.heap.size,0,none⟩=some (.slice ga gl gc):=fun y=>(PF.out _ (fK.trans ((hS0 _).1 y.h))).1;have c1:∀y:aA S0,y.w.cell? ⟨w.heap.size,1,none⟩=some (.slice na nl nc):=fun y=>(PF.out _ (fK.trans ((hS0 _).1 y.h))).2.1;have c2:∀y:aA S0,y.w.cell? ⟨w.heap.size,2,none⟩=some (.slice wa wl wc):=fun y=>(PF.out _ (fK.trans ((hS0 _).1 y.h))).2.2;have c3:∀y:aA S0,y.w.cell? ⟨b4,o4,none⟩=some (.int .i64 p):=fun y=>(((hS0 _).1 y.h).av hb4 _).trans n0;obtain⟨W0,hW0⟩:∃y,w4.drew=y:=⟨_,rfl⟩;have hs0:=aY hW0;have aC:=(hS0 W0).2 hs0;have hne:Nonempty (aA S0):=⟨⟨_,aC⟩⟩;have cB:=aO W0;have hSw:ak w w4:=(hS1.trans hS2).trans fK;refine aW (fun w'=>∃x:aA S0,w'=x.w) (by kernel_rfl) ?_;rw[hW0];clear hW0;refine tM 0 rfl (aj aC) ?_;go_big_quiet_op;refine tW 1 rfl ?_;go_big_quiet_op;refine tW 2 rfl ?_;go_big_quiet_op;refine tM 3 rfl (aj aC) ?_;go_big_quiet_op;refine aV 4 rfl (by kernel_rfl) ?_;intro K hK;go_simp;refine(hcm W0 (hSw.trans hs0)).mono ?_;rintro e W1 ⟨rfl,hSc⟩;dsimp only;refine hK _ _ (fun h=>absurd h (by decide +kernel)) ?_;clear hK K;refine tW 5 rfl ?_;go_big_quiet_op;refine bE (by kernel_rfl) ?_;have qO:ak w4 W1:=hs0.trans hSc;have hSY:ak w2 W1:=fK.trans qO;clear c0 c1 c2 c3 hne cB hs0 aC hS0 hSc;obtain⟨p0,p1,p2⟩:=PF.out _ hSY;obtain⟨V,hV,⟨_,a0,a1,a2,y0,y1,y2⟩,⟨_,v0,v1,v2,_,_,_⟩,hSV⟩:=AF.out _ hSY
 go_wp2_with fail
 refine bodyPost_ret (v:=.tuple #[.agg #[.slice ga gl gc,.slice na nl nc,.slice wa wl wc],.string ⟨#[]⟩,.int .i64 er]) ?_ rfl ?_
 ·simp[results,results17,go_sem,v0,v1,v2]
 exact jd (v:=⟨ga,gl,gc,na,nl,nc,wa,wl,wc⟩) hSV
set_option maxRecDepth 8000 in
theorem CQ(x:WV)(d:Wd)(s:List UInt8)(hs:s.length<=100000)(w:World)(hW:WAt w x d)(hc:¬ s=iO)(hM:wM s=true)(hop:wA s=sw)(p:Int)(hn:numsL 1 (wB s)=some [p])(hE:aM d p≠0):Calls prog 17 #[.agg #[.slice x.ga x.gl x.gc,.slice x.na x.nl x.nc,.slice x.wa x.wl x.wc],.string (bs s)] w fun e w'=>PlR w (.error (aM d p)) e w':=by
 have hcm:=fun y (hy:ak w y)=>iJ x d p y (hW.ay hy);obtain⟨ga,gl,gc,na,nl,nc,wa,wl,wc⟩:=x;dsimp only;obtain⟨w1,hw1⟩:∃y,w.alloc (.cells #[.slice ga gl gc,.slice na nl nc,.slice wa wl wc] 31)=y:=⟨_,rfl⟩;obtain⟨w2,hw2⟩:∃y,w1.alloc (.cells #[.slice none 0 0,.slice none 0 0,.slice none 0 0] 31)=y:=⟨_,rfl⟩;have hS1:=aF hw1;have hS2:=aF hw2
 have hB2:aP w2 w.heap.size ⟨ga,gl,gc,na,nl,nc,wa,wl,wc⟩:=by
  have h:aP w1 w.heap.size ⟨ga,gl,gc,na,nl,nc,wa,wl,wc⟩:=by rw[<-hw1];exact aP.new w ⟨ga,gl,gc,na,nl,nc,wa,wl,wc⟩ _
  exact h.ay hS2
 have hA2:Bx3 w2 w1.heap.size (.slice none 0 0) (.slice none 0 0) (.slice none 0 0):=by rw[<-hw2];exact Bx3.fresh w1 _
 have hl1:w.heap.size < w1.heap.size:=by rw[<-hw1];simp
 have PF:Hid (∀y,ak w2 y->y.cell? ⟨w.heap.size,0,none⟩=some (.slice ga gl gc)/\y.cell? ⟨w.heap.size,1,none⟩=some (.slice na nl nc)/\y.cell? ⟨w.heap.size,2,none⟩=some (.slice wa wl wc)):=fun y hy=>⟨(hB2.ay hy).c0,(hB2.ay hy).c1,(hB2.ay hy).c2⟩
 have AF:Hid (∀y,ak w2 y->∃V,(((y.setCell ⟨w1.heap.size,0,none⟩ (.slice ga gl gc)).setCell ⟨w1.heap.size,1,none⟩ (.slice na nl nc)).setCell ⟨w1.heap.size,2,none⟩ (.slice wa wl wc))=V/\Bx3 y w1.heap.size (.slice none 0 0) (.slice none 0 0) (.slice none 0 0)/\Bx3 V w1.heap.size (.slice ga gl gc) (.slice na nl nc) (.slice wa wl wc)/\ak w V):=fun y hy=>by
  have hA:=hA2.fr (hy.fr fun _=>False) (fun x=>x);have hp:=aS y w1.heap.size (.slice ga gl gc) (.slice na nl nc) (.slice wa wl wc);exact⟨_,rfl,hA,hA.all _ _ _,hp.aI ((hS1.trans hS2).trans hy) (fun i hi e=>by omega)⟩
 dsimp only at hcm;have hc0:((bs s).toList == [99,97,108,109])=false:=fT hc;obtain⟨A,hA⟩:∃y,wA s=y:=⟨_,rfl⟩;obtain⟨B,hB⟩:∃y,wB s=y:=⟨_,rfl⟩;have hBl:B.length<=100000:=by rw[<-hB];have:=jA s;omega
 rw[hA]at hop;rw[hB]at hn;have ho:((bs A).toList == [115,101,110,100])=false:=fT (by rw[hop];decide);have ho5:((bs A).toList == [116,111,108,100])=false:=fT (by rw[hop];decide);have ho6:((bs A).toList == [104,101,108,100])=true:=sF hop;have hn2:=fun y=>uY B hBl (nJ hn) y;have hn1:=fun y=>xQ B hBl p hn y;obtain⟨er,her⟩:∃y,aM d p=y:=⟨_,rfl⟩;rw[her]at hcm hE ⊢;have hE0:(er == 0)=false:=by simpa using hE
 clear hop hn her
 go_enter func17,ntmps17
 go_wp2_with (first
  | (go_at_call_of 38 (Value.string (bs s));refine(bQ s (by omega) w2).mono ?_;rw[hA,hB,hM];rintro e w3 ⟨rfl,hS3⟩;have HS3:Hid (ak w2 w3):=hS3;clear hS3)
  | (go_at_call_of 41 (Value.int .i64 2);refine(hn2 _).mono ?_;rintro e w4 ⟨hS4,rfl⟩;replace HS3:Hid (ak w2 w4):=HS3.out.trans hS4;clear hS4)
  | (go_at_call_of 41 (Value.int .i64 1);refine(hn1 _).mono ?_;rintro e w4 ⟨hS4,b4,o4,c4,rfl,hb4,n0⟩;replace HS3:Hid (ak w2 w4):=HS3.out.trans hS4;clear hS4))
 obtain⟨S0,hS0⟩:∃S0:World->Prop,∀w',S0 w'↔ak w4 w':=⟨_,fun _=>Iff.rfl⟩;have fK:=HS3.out;have c0:∀y:aA S0,y.w.cell? ⟨w.heap.size,0,none⟩=some (.slice ga gl gc):=fun y=>(PF.out _ (fK.trans ((hS0 _).1 y.h))).1;have c1:∀y:aA S0,y.w.cell? ⟨w.heap.size,1,none⟩=some (.slice na nl nc):=fun y=>(PF.out _ (fK.trans ((hS0 _).1 y.h))).2.1;have c2:∀y:aA S0,y.w.cell? ⟨w.heap.size,2,none⟩=some (.slice wa wl wc):=fun y=>(PF.out _ (fK.trans ((hS0 _).1 y.h))).2.2;have c3:∀y:aA S0,y.w.cell? ⟨b4,o4,none⟩=some (.int .i64 p):=fun y=>(((hS0 _).1 y.h).av hb4 _).trans n0;obtain⟨W0,hW0⟩:∃y,w4.drew=y:=⟨_,rfl⟩;have hs0:=aY hW0;have aC:=(hS0 W0).2 hs0;have hne:Nonempty (aA S0):=⟨⟨_,aC⟩⟩;have cB:=aO W0;have hSw:ak w w4:=(hS1.trans hS2).trans fK;refine aW (fun w'=>∃x:aA S0,w'=x.w) (by kernel_rfl) ?_;rw[hW0];clear hW0;refine tM 0 rfl (aj aC) ?_;go_big_quiet_op;refine tW 1 rfl ?_;go_big_quiet_op;refine tW 2 rfl ?_;go_big_quiet_op;refine tM 3 rfl (aj aC) ?_;go_big_quiet_op;refine aV 4 rfl (by kernel_rfl) ?_;intro K hK;go_simp;refine(hcm W0 (hSw.trans hs0)).mono ?_;rintro e W1 ⟨rfl,hSc⟩;dsimp only;refine hK _ _ (fun h=>absurd h (by decide +kernel)) ?_;clear hK K;refine tW 5 rfl ?_;go_big_quiet_op;refine bE (by kernel_rfl) ?_;have qO:ak w4 W1:=hs0.trans hSc;have hSY:ak w2 W1:=fK.trans qO;clear c0 c1 c2 c3 hne cB hs0 aC hS0 hSc;obtain⟨p0,p1,p2⟩:=PF.out _ hSY;obtain⟨V,hV,⟨_,a0,a1,a2,y0,y1,y2⟩,⟨_,v0,v1,v2,_,_,_⟩,hSV⟩:=AF.out _ hSY
 go_wp2_with fail
 refine bodyPost_ret (v:=.tuple #[.agg #[.slice ga gl gc,.slice na nl nc,.slice wa wl wc],.string ⟨#[]⟩,.int .i64 er]) ?_ rfl ?_
 ·simp[results,results17,go_sem,v0,v1,v2]
 exact jd (v:=⟨ga,gl,gc,na,nl,nc,wa,wl,wc⟩) hSV
end Go.Proofs.YtediempflagfkaaGreatDoor
set_option maxHeartbeats 4000000
namespace Go.Proofs.YtediempflagfkaaGreatDoor
open _root_.Go.Proofs.Tryz hiding checked
set_option maxRecDepth 8000
open Go.RowKit Go.Shelf
open Pu
set_option maxRecDepth 8000 in
theorem CP(x:WV)(d:Wd)(s:List UInt8)(hs:s.length<=100000)(w:World)(hW:WAt w x d)(hc:¬ s=iO)(hM:wM s=true)(hop:wA s=sw)(n:Nat)(hn:numsL 1 (wB s)=some [(n:Int)])(hE:aM d n=0)(x0:Nd)(hx0:d.ah[n]? = some x0)(hL0:j5 d x0)(fk:Nat)(hfk:p8 d n x0=fk)(hf9:fk<=1000000000)(hh9:x0.held.length<=1000000000):Calls prog 17 #[.agg #[.slice x.ga x.gl x.gc,.slice x.na x.nl x.nc,.slice x.wa x.wl x.wc],.string (bs s)] w fun e w'=>PlS w x (dn x0.held.length++32::dn fk) e w':=by
 have hbd:=fun y (hy:ak w y)=>wY x d n x0 y (hW.ay hy) hx0 hL0;rw[hfk]at hbd;clear hfk;have hd1:=mQ 10 x0.held.length (by omega);have hd2:=mQ 10 fk (by omega);have hz1:¬ 9223372036854775807 < (bs (dn x0.held.length)).size+1:=by rw[bX];omega
 have hz2:¬ 9223372036854775807 < (bs (dn x0.held.length)++⟨#[32]⟩).size+(bs (dn fk)).size:=by rw[show(⟨#[32]⟩:ByteArray)=bs [32] from rfl,iP,bX,bX,List.length_append,List.length_singleton];omega
 have ht:bs (dn x0.held.length)++⟨#[32]⟩++bs (dn fk)=bs (dn x0.held.length++32::dn fk):=by rw[show(⟨#[32]⟩:ByteArray)=bs [32] from rfl,iP,iP,List.append_assoc];rfl
 have HT:Hid (bs (dn x0.held.length)++⟨#[32]⟩++bs (dn fk)=bs (dn x0.held.length++32::dn fk)):=ht;clear hd1 hd2 ht;have hcm:=fun y (hy:ak w y)=>iJ x d n y (hW.ay hy);obtain⟨ga,gl,gc,na,nl,nc,wa,wl,wc⟩:=x;dsimp only;obtain⟨b0,o0,hna,hb0,hnd⟩:=hW.n.cells (by have:=hW.n.bq;have:=bT hx0;omega);obtain⟨hk0,⟨vl,hk1,la,lc,rfl,_,_⟩,⟨vh,hk2,ha,hcp,rfl,_,_⟩,⟨vt,hk3,ta,tc,rfl,_,hMt⟩⟩:=hnd n x0 hx0;have n8:(n:Int) < (nl:Int):=by have:=hW.n.bq;have:=bT hx0;dsimp only at *;omega
 dsimp only at hna;have HNA:Hid (na=some ⟨b0,o0,none⟩):=hna;have HMT:Hid (gD w ta x0.aG.length x0.aG):=hMt;clear hna hnd hMt;obtain⟨w1,hw1⟩:∃y,w.alloc (.cells #[.slice ga gl gc,.slice na nl nc,.slice wa wl wc] 31)=y:=⟨_,rfl⟩;obtain⟨w2,hw2⟩:∃y,w1.alloc (.cells #[.slice none 0 0,.slice none 0 0,.slice none 0 0] 31)=y:=⟨_,rfl⟩;have hS1:=aF hw1;have hS2:=aF hw2
 have hB2:aP w2 w.heap.size ⟨ga,gl,gc,na,nl,nc,wa,wl,wc⟩:=by
  have h:aP w1 w.heap.size ⟨ga,gl,gc,na,nl,nc,wa,wl,wc⟩:=by rw[<-hw1];exact aP.new w ⟨ga,gl,gc,na,nl,nc,wa,wl,wc⟩ _
  exact h.ay hS2
 have hA2:Bx3 w2 w1.heap.size (.slice none 0 0) (.slice none 0 0) (.slice none 0 0):=by rw[<-hw2];exact Bx3.fresh w1 _
 have hl1:w.heap.size < w1.heap.size:=by rw[<-hw1];simp
 have PF:Hid (∀y,ak w2 y->y.cell? ⟨w.heap.size,0,none⟩=some (.slice ga gl gc)/\y.cell? ⟨w.heap.size,1,none⟩=some (.slice na nl nc)/\y.cell? ⟨w.heap.size,2,none⟩=some (.slice wa wl wc)):=fun y hy=>⟨(hB2.ay hy).c0,(hB2.ay hy).c1,(hB2.ay hy).c2⟩
 have AF:Hid (∀y,ak w2 y->∃V,(((y.setCell ⟨w1.heap.size,0,none⟩ (.slice ga gl gc)).setCell ⟨w1.heap.size,1,none⟩ (.slice na nl nc)).setCell ⟨w1.heap.size,2,none⟩ (.slice wa wl wc))=V/\Bx3 y w1.heap.size (.slice none 0 0) (.slice none 0 0) (.slice none 0 0)/\Bx3 V w1.heap.size (.slice ga gl gc) (.slice na nl nc) (.slice wa wl wc)/\ak w V):=fun y hy=>by
  have hA:=hA2.fr (hy.fr fun _=>False) (fun x=>x);have hp:=aS y w1.heap.size (.slice ga gl gc) (.slice na nl nc) (.slice wa wl wc);exact⟨_,rfl,hA,hA.all _ _ _,hp.aI ((hS1.trans hS2).trans hy) (fun i hi e=>by omega)⟩
 dsimp only at hcm hbd;have hc0:((bs s).toList == [99,97,108,109])=false:=fT hc;obtain⟨A,hA⟩:∃y,wA s=y:=⟨_,rfl⟩;obtain⟨B,hB⟩:∃y,wB s=y:=⟨_,rfl⟩;have hBl:B.length<=100000:=by rw[<-hB];have:=jA s;omega
 rw[hA]at hop;rw[hB]at hn;have ho:((bs A).toList == [115,101,110,100])=false:=fT (by rw[hop];decide);have ho5:((bs A).toList == [116,111,108,100])=false:=fT (by rw[hop];decide);have ho6:((bs A).toList == [104,101,108,100])=true:=sF hop;have hn2:=fun y=>uY B hBl (nJ hn) y;have hn1:=fun y=>xQ B hBl n hn y;obtain⟨er,her⟩:∃y,aM d n=y:=⟨_,rfl⟩;rw[her]at hcm hE;subst hE;clear hop hn her
 go_enter func17,ntmps17
 go_wp2_with (first
  | (go_at_call_of 38 (Value.string (bs s));refine(bQ s (by omega) w2).mono ?_;rw[hA,hB,hM];rintro e w3 ⟨rfl,hS3⟩;have HS3:Hid (ak w2 w3):=hS3;clear hS3)
  | (go_at_call_of 41 (Value.int .i64 2);refine(hn2 _).mono ?_;rintro e w4 ⟨hS4,rfl⟩;replace HS3:Hid (ak w2 w4):=HS3.out.trans hS4;clear hS4)
  | (go_at_call_of 41 (Value.int .i64 1);refine(hn1 _).mono ?_;rintro e w4 ⟨hS4,b4,o4,c4,rfl,hb4,n0⟩;replace HS3:Hid (ak w2 w4):=HS3.out.trans hS4;clear hS4))
 obtain⟨S0,hS0⟩:∃S0:World->Prop,∀w',S0 w'↔ak w4 w':=⟨_,fun _=>Iff.rfl⟩;have fK:=HS3.out;have c0:∀y:aA S0,y.w.cell? ⟨w.heap.size,0,none⟩=some (.slice ga gl gc):=fun y=>(PF.out _ (fK.trans ((hS0 _).1 y.h))).1;have c1:∀y:aA S0,y.w.cell? ⟨w.heap.size,1,none⟩=some (.slice na nl nc):=fun y=>(PF.out _ (fK.trans ((hS0 _).1 y.h))).2.1;have c2:∀y:aA S0,y.w.cell? ⟨w.heap.size,2,none⟩=some (.slice wa wl wc):=fun y=>(PF.out _ (fK.trans ((hS0 _).1 y.h))).2.2;have c3:∀y:aA S0,y.w.cell? ⟨b4,o4,none⟩=some (.int .i64 n):=fun y=>(((hS0 _).1 y.h).av hb4 _).trans n0;obtain⟨W0,hW0⟩:∃y,w4.drew=y:=⟨_,rfl⟩;have hs0:=aY hW0;have aC:=(hS0 W0).2 hs0;have hne:Nonempty (aA S0):=⟨⟨_,aC⟩⟩;have cB:=aO W0;have hSw:ak w w4:=(hS1.trans hS2).trans fK;refine aW (fun w'=>∃x:aA S0,w'=x.w) (by kernel_rfl) ?_;rw[hW0];clear hW0;refine tM 0 rfl (aj aC) ?_;go_big_quiet_op;refine tW 1 rfl ?_;go_big_quiet_op;refine tW 2 rfl ?_;go_big_quiet_op;refine tM 3 rfl (aj aC) ?_;go_big_quiet_op;refine aV 4 rfl (by kernel_rfl) ?_;intro K hK;go_simp;refine(hcm W0 (hSw.trans hs0)).mono ?_;rintro e W1 ⟨rfl,hSc⟩;dsimp only;refine hK _ _ (fun h=>absurd h (by decide +kernel)) ?_;clear hK K;refine tW 5 rfl ?_;go_big_quiet_op;refine bE (by kernel_rfl) ?_;have qO:ak w4 W1:=hs0.trans hSc;have hSY:ak w2 W1:=fK.trans qO;clear c0 c1 c2 c3 hne cB hs0 aC hS0 hSc
 go_wp2_with fail
 obtain⟨S0,hS0⟩:∃S0:World->Prop,∀w',S0 w'↔ak W1 w':=⟨_,fun _=>Iff.rfl⟩;have c1:∀y:aA S0,y.w.cell? ⟨w.heap.size,1,none⟩=some (.slice (some ⟨b0,o0,none⟩) nl nc):=fun y=>by rw[(PF.out _ (hSY.trans ((hS0 _).1 y.h))).2.1,HNA.out]
 have c3:∀y:aA S0,y.w.cell? ⟨b4,o4,none⟩=some (.int .i64 n):=fun y=>((qO.trans ((hS0 _).1 y.h)).av hb4 _).trans n0;have e0:∀y:aA S0,y.w.cell? ⟨b0,o0+n*4,none⟩=some (.int .i64 x0.aK):=fun y=>((hSw.trans (qO.trans ((hS0 _).1 y.h))).av hb0 _).trans hk0;have e1:∀y:aA S0,y.w.cell? ⟨b0,o0+n*4+1,none⟩=some (.slice la x0.last.length lc):=fun y=>((hSw.trans (qO.trans ((hS0 _).1 y.h))).av hb0 _).trans hk1;have e2:∀y:aA S0,y.w.cell? ⟨b0,o0+n*4+2,none⟩=some (.slice ha x0.held.length hcp):=fun y=>((hSw.trans (qO.trans ((hS0 _).1 y.h))).av hb0 _).trans hk2;have e3:∀y:aA S0,y.w.cell? ⟨b0,o0+n*4+3,none⟩=some (.slice ta x0.aG.length tc):=fun y=>((hSw.trans (qO.trans ((hS0 _).1 y.h))).av hb0 _).trans hk3;obtain⟨W2,hW2⟩:∃y,W1.drew=y:=⟨_,rfl⟩;have hs0:=aY hW2;have aC:=(hS0 W2).2 hs0;have hne:Nonempty (aA S0):=⟨⟨_,aC⟩⟩;have cB:=aO W2;refine aW (fun w'=>∃x:aA S0,w'=x.w) (by kernel_rfl) ?_;rw[hW2];clear hW2;refine tW 0 rfl ?_;go_big_quiet_op;refine tM 1 rfl (aj aC) ?_;go_big_quiet_op;refine tW 2 rfl ?_;go_big_quiet_op;refine tW 3 rfl ?_;go_big_quiet_op;refine tM 4 rfl (aj aC) ?_;go_big_quiet_op;refine tW 5 rfl ?_;go_big_quiet_op;refine tM 6 rfl (aj aC) ?_;go_big_quiet_op;refine aV 7 rfl (by kernel_rfl) ?_;intro K hK;obtain⟨WA,hWA⟩:∃y,W2.alloc (.cells #[.int .i64 0,.slice none 0 0,.slice none 0 0,.slice none 0 0] 64)=y:=⟨_,rfl⟩;have hSa:=aF hWA;have hBx:xR WA W2.heap.size (.int .i64 0) (.slice none 0 0) (.slice none 0 0) (.slice none 0 0):=by rw[<-hWA];exact xR.new W2 _ _ _ _ _
 go_simp;refine hK _ _ (fun _ _=>aj ((hS0 _).2 (hs0.trans hSa))) ?_;clear hK K;refine aV 8 rfl (by kernel_rfl) ?_;intro K hK;have hBV:=hBx.put (.int .i64 x0.aK) (.slice la x0.last.length lc) (.slice ha x0.held.length hcp) (.slice ta x0.aG.length tc);obtain⟨W3,hW3⟩:∃y,((((WA.setCell ⟨W2.heap.size,0,none⟩ (.int .i64 x0.aK)).setCell ⟨W2.heap.size,1,none⟩ (.slice la x0.last.length lc)).setCell ⟨W2.heap.size,2,none⟩ (.slice ha x0.held.length hcp)).setCell ⟨W2.heap.size,3,none⟩ (.slice ta x0.aG.length tc))=y:=⟨_,rfl⟩;have hpf:=Ew WA W2.heap.size (.int .i64 x0.aK) (.slice la x0.last.length lc) (.slice ha x0.held.length hcp) (.slice ta x0.aG.length tc);unfold LQ at hpf hBV;rw[hW3]at hpf hBV;obtain⟨_,m0,m1,m2,m3,k0,k1,k2,k3⟩:=hBx;go_simp;refine hK _ _ (fun h=>absurd h (by decide +kernel)) ?_;clear hK K;refine bE (by kernel_rfl) ?_;have nY:ak W1 W3:=hpf.aI (hs0.trans hSa) (fun i hi e=>by have:=hs0.size;omega);obtain⟨bx,hbx⟩:∃y,W2.heap.size=y:=⟨_,rfl⟩;rw[hbx]at hBV ⊢;clear hpf hbx hSa m0 m1 m2 m3 k0 k1 k2 k3 hne cB hs0 aC hS0 c1 c3 e0 e1 e2 e3 hWA hW3;obtain⟨hbz,f0,f1,f2,f3,_,_,_,_⟩:=hBV
 go_wp2_with fail
 obtain⟨S0,hS0⟩:∃S0:World->Prop,∀w',S0 w'↔ak W3 w':=⟨_,fun _=>Iff.rfl⟩;have hSZ:=hSY.trans nY;have c0:∀y:aA S0,y.w.cell? ⟨w.heap.size,0,none⟩=some (.slice ga gl gc):=fun y=>(PF.out _ (hSZ.trans ((hS0 _).1 y.h))).1;have c1:∀y:aA S0,y.w.cell? ⟨w.heap.size,1,none⟩=some (.slice na nl nc):=fun y=>(PF.out _ (hSZ.trans ((hS0 _).1 y.h))).2.1;have c2:∀y:aA S0,y.w.cell? ⟨w.heap.size,2,none⟩=some (.slice wa wl wc):=fun y=>(PF.out _ (hSZ.trans ((hS0 _).1 y.h))).2.2;have c3:∀y:aA S0,y.w.cell? ⟨b4,o4,none⟩=some (.int .i64 n):=fun y=>(((qO.trans nY).trans ((hS0 _).1 y.h)).av hb4 _).trans n0;have c4':∀y:aA S0,y.w.cell? ⟨bx,2,none⟩=some (.slice ha x0.held.length hcp):=fun y=>(((hS0 _).1 y.h).av hbz _).trans f2;obtain⟨W4,hW4⟩:∃y,W3.drew=y:=⟨_,rfl⟩;have hs0:=aY hW4;have aC:=(hS0 W4).2 hs0;have hne:Nonempty (aA S0):=⟨⟨_,aC⟩⟩;have cB:=aO W4;refine aW (fun w'=>∃x:aA S0,w'=x.w) (by kernel_rfl) ?_;rw[hW4];clear hW4;refine tM 0 rfl (aj aC) ?_;go_big_quiet_op;refine tW 1 rfl ?_;go_big_quiet_op;refine tM 2 rfl (aj aC) ?_;go_big_quiet_op;refine tM 3 rfl (aj aC) ?_;go_big_quiet_op;refine tM 6 rfl (aj aC) ?_;go_big_quiet_op;refine tW 7 rfl ?_;go_big_quiet_op;refine tW 8 rfl ?_;go_big_quiet_op;refine tM 9 rfl (aj aC) ?_;go_big_quiet_op;refine aV 4 rfl (by kernel_rfl) ?_;intro K hK;go_simp;refine(je (x0.held.length+1) x0.held.length (by omega) hh9 W4).mono ?_;rintro e W5 ⟨rfl,hS5⟩;dsimp only;refine hK _ _ (fun _ _=>aj ((hS0 _).2 (hs0.trans hS5))) ?_;clear hK K;refine tW 5 rfl ?_;go_big_quiet_op;refine aV 10 rfl (by kernel_rfl) ?_;intro K hK;go_simp;refine(hbd W5 (hSw.trans ((qO.trans nY).trans (hs0.trans hS5)))).mono ?_;rintro e W6 ⟨rfl,hS6⟩;dsimp only;refine hK _ _ (fun _ _=>aj ((hS0 _).2 (hs0.trans (hS5.trans hS6)))) ?_;clear hK K;refine aV 11 rfl (by kernel_rfl) ?_;intro K hK;go_simp;refine(je (fk+1) fk (by omega) hf9 W6).mono ?_;rintro e W7 ⟨rfl,hS7⟩;dsimp only;refine hK _ _ (fun _ _=>aj ((hS0 _).2 (hs0.trans (hS5.trans (hS6.trans hS7))))) ?_;clear hK K;refine tW 12 rfl ?_;go_big_quiet_op;refine aV 13 rfl (by kernel_rfl) ?_;intro K hK;have Gb:=hSZ.trans (hs0.trans (hS5.trans (hS6.trans hS7)));obtain⟨p0,p1,p2⟩:=PF.out _ Gb;obtain⟨V,hV,⟨_,a0,a1,a2,y0,y1,y2⟩,⟨_,v0,v1,v2,_,_,_⟩,hSV⟩:=AF.out _ Gb;go_simp;refine hK _ _ (fun h=>absurd h (by decide +kernel)) ?_;clear hK K;refine tW 14 rfl ?_;go_big_quiet_op;refine tW 15 rfl ?_;go_big_quiet_op;refine bE (by kernel_rfl) ?_
 go_wp2_with fail
 refine bodyPost_ret (v:=.tuple #[.agg #[.slice ga gl gc,.slice na nl nc,.slice wa wl wc],.string (bs (dn x0.held.length)++⟨#[32]⟩++bs (dn fk)),.int .i64 0]) ?_ rfl ?_
 ·simp[results,results17,go_sem,v0,v1,v2]
 rw[HT.out];exact⟨hSV,rfl⟩
end Go.Proofs.YtediempflagfkaaGreatDoor
set_option maxHeartbeats 4000000
namespace Go.Proofs.YtediempflagfkaaGreatDoor
open _root_.Go.Proofs.Tryz hiding checked
set_option maxRecDepth 8000
open Go.RowKit Go.Shelf
open Pu
def iQ(l:List Mg):List UInt8:=l.flatMap fun m=>32::m.body.data.toList
theorem Jm{l:List Mg}(h:l≠[]):(iQ l).drop 1=mK l:=by
 cases l with
 | nil=>exact absurd rfl h
 | cons m r=>simp[iQ,mK,Nw,List.flatMap_map]
theorem Jo{l:List Mg}{k:Nat}{m:Mg}(h:l[k]? = some m):iQ (l.take (k+1))=iQ (l.take k)++32::m.body.data.toList:=by
 rw[List.take_add_one,h];simp[iQ]
theorem Jq(l:List Mg)(k:Nat):(iQ (l.take k)).length<=(iQ l).length:=by
 have h:iQ l=iQ (l.take k)++iQ (l.drop k):=by
  unfold iQ;rw[<-List.flatMap_append,List.take_append_drop]
 rw[h,List.length_append];omega
theorem Gc:∀l:List Mg,l.length<=(iQ l).length
 | []=>by simp[iQ]
 | m::r=>by
  have h:=Gc r;unfold iQ at h ⊢;rw[List.flatMap_cons,List.length_append,List.length_cons,List.length_cons];omega
theorem Gd{l:List Mg}(h:l≠[]):iQ l≠[]:=by
 cases l with
 | nil=>exact absurd rfl h
 | cons m r=>simp[iQ]
set_option maxRecDepth 8000 in
theorem CK(x:WV)(d:Wd)(s:List UInt8)(hs:s.length<=100000)(w:World)(hW:WAt w x d)(hc:¬ s=iO)(hM:wM s=true)(hop:wA s=su)(n:Nat)(hn:numsL 1 (wB s)=some [(n:Int)])(hE:aM d n=0)(x0:Nd)(hx0:d.ah[n]? = some x0)(hT:(iQ x0.aG).length<=1000000):Calls prog 17 #[.agg #[.slice x.ga x.gl x.gc,.slice x.na x.nl x.nc,.slice x.wa x.wl x.wc],.string (bs s)] w fun e w'=>PlS w x (mK x0.aG) e w':=by
 have hcm:=fun y (hy:ak w y)=>iJ x d n y (hW.ay hy);obtain⟨ga,gl,gc,na,nl,nc,wa,wl,wc⟩:=x;dsimp only;obtain⟨b0,o0,hna,hb0,hnd⟩:=hW.n.cells (by have:=hW.n.bq;have:=bT hx0;omega);obtain⟨hk0,⟨vl,hk1,la,lc,rfl,_,_⟩,⟨vh,hk2,ha,hcp,rfl,_,_⟩,⟨vt,hk3,ta,tc,rfl,_,hMt⟩⟩:=hnd n x0 hx0;have n8:(n:Int) < (nl:Int):=by have:=hW.n.bq;have:=bT hx0;dsimp only at *;omega
 dsimp only at hna;have HNA:Hid (na=some ⟨b0,o0,none⟩):=hna;have HMT:Hid (gD w ta x0.aG.length x0.aG):=hMt;clear hna hnd hMt;obtain⟨w1,hw1⟩:∃y,w.alloc (.cells #[.slice ga gl gc,.slice na nl nc,.slice wa wl wc] 31)=y:=⟨_,rfl⟩;obtain⟨w2,hw2⟩:∃y,w1.alloc (.cells #[.slice none 0 0,.slice none 0 0,.slice none 0 0] 31)=y:=⟨_,rfl⟩;have hS1:=aF hw1;have hS2:=aF hw2
 have hB2:aP w2 w.heap.size ⟨ga,gl,gc,na,nl,nc,wa,wl,wc⟩:=by
  have h:aP w1 w.heap.size ⟨ga,gl,gc,na,nl,nc,wa,wl,wc⟩:=by rw[<-hw1];exact aP.new w ⟨ga,gl,gc,na,nl,nc,wa,wl,wc⟩ _
  exact h.ay hS2
 have hA2:Bx3 w2 w1.heap.size (.slice none 0 0) (.slice none 0 0) (.slice none 0 0):=by rw[<-hw2];exact Bx3.fresh w1 _
 have hl1:w.heap.size < w1.heap.size:=by rw[<-hw1];simp
 have PF:Hid (∀y,ak w2 y->y.cell? ⟨w.heap.size,0,none⟩=some (.slice ga gl gc)/\y.cell? ⟨w.heap.size,1,none⟩=some (.slice na nl nc)/\y.cell? ⟨w.heap.size,2,none⟩=some (.slice wa wl wc)):=fun y hy=>⟨(hB2.ay hy).c0,(hB2.ay hy).c1,(hB2.ay hy).c2⟩
 have AF:Hid (∀y,ak w2 y->∃V,(((y.setCell ⟨w1.heap.size,0,none⟩ (.slice ga gl gc)).setCell ⟨w1.heap.size,1,none⟩ (.slice na nl nc)).setCell ⟨w1.heap.size,2,none⟩ (.slice wa wl wc))=V/\Bx3 y w1.heap.size (.slice none 0 0) (.slice none 0 0) (.slice none 0 0)/\Bx3 V w1.heap.size (.slice ga gl gc) (.slice na nl nc) (.slice wa wl wc)/\ak w V):=fun y hy=>by
  have hA:=hA2.fr (hy.fr fun _=>False) (fun x=>x);have hp:=aS y w1.heap.size (.slice ga gl gc) (.slice na nl nc) (.slice wa wl wc);exact⟨_,rfl,hA,hA.all _ _ _,hp.aI ((hS1.trans hS2).trans hy) (fun i hi e=>by omega)⟩
 dsimp only at hcm;have hc0:((bs s).toList == [99,97,108,109])=false:=fT hc;obtain⟨A,hA⟩:∃y,wA s=y:=⟨_,rfl⟩;obtain⟨B,hB⟩:∃y,wB s=y:=⟨_,rfl⟩;have hBl:B.length<=100000:=by rw[<-hB];have:=jA s;omega
 rw[hA]at hop;rw[hB]at hn;have ho:((bs A).toList == [115,101,110,100])=false:=fT (by rw[hop];decide);have ho5:((bs A).toList == [116,111,108,100])=true:=sF hop;have ho6:((bs A).toList == [104,101,108,100])=false:=fT (by rw[hop];decide);have hn2:=fun y=>uY B hBl (nJ hn) y;have hn1:=fun y=>xQ B hBl n hn y;obtain⟨er,her⟩:∃y,aM d n=y:=⟨_,rfl⟩;rw[her]at hcm hE;subst hE;clear hop hn her
 go_enter func17,ntmps17
 go_wp2_with (first
  | (go_at_call_of 38 (Value.string (bs s));refine(bQ s (by omega) w2).mono ?_;rw[hA,hB,hM];rintro e w3 ⟨rfl,hS3⟩;have HS3:Hid (ak w2 w3):=hS3;clear hS3)
  | (go_at_call_of 41 (Value.int .i64 2);refine(hn2 _).mono ?_;rintro e w4 ⟨hS4,rfl⟩;replace HS3:Hid (ak w2 w4):=HS3.out.trans hS4;clear hS4)
  | (go_at_call_of 41 (Value.int .i64 1);refine(hn1 _).mono ?_;rintro e w4 ⟨hS4,b4,o4,c4,rfl,hb4,n0⟩;replace HS3:Hid (ak w2 w4):=HS3.out.trans hS4;clear hS4))
 obtain⟨S0,hS0⟩:∃S0:World->Prop,∀w',S0 w'↔ak w4 w':=⟨_,fun _=>Iff.rfl⟩;have fK:=HS3.out;have c0:∀y:aA S0,y.w.cell? ⟨w.heap.size,0,none⟩=some (.slice ga gl gc):=fun y=>(PF.out _ (fK.trans ((hS0 _).1 y.h))).1;have c1:∀y:aA S0,y.w.cell? ⟨w.heap.size,1,none⟩=some (.slice na nl nc):=fun y=>(PF.out _ (fK.trans ((hS0 _).1 y.h))).2.1;have c2:∀y:aA S0,y.w.cell? ⟨w.heap.size,2,none⟩=some (.slice wa wl wc):=fun y=>(PF.out _ (fK.trans ((hS0 _).1 y.h))).2.2;have c3:∀y:aA S0,y.w.cell? ⟨b4,o4,none⟩=some (.int .i64 n):=fun y=>(((hS0 _).1 y.h).av hb4 _).trans n0;obtain⟨W0,hW0⟩:∃y,w4.drew=y:=⟨_,rfl⟩;have hs0:=aY hW0;have aC:=(hS0 W0).2 hs0;have hne:Nonempty (aA S0):=⟨⟨_,aC⟩⟩;have cB:=aO W0;have hSw:ak w w4:=(hS1.trans hS2).trans fK;refine aW (fun w'=>∃x:aA S0,w'=x.w) (by kernel_rfl) ?_;rw[hW0];clear hW0;refine tM 0 rfl (aj aC) ?_;go_big_quiet_op;refine tW 1 rfl ?_;go_big_quiet_op;refine tW 2 rfl ?_;go_big_quiet_op;refine tM 3 rfl (aj aC) ?_;go_big_quiet_op;refine aV 4 rfl (by kernel_rfl) ?_;intro K hK;go_simp;refine(hcm W0 (hSw.trans hs0)).mono ?_;rintro e W1 ⟨rfl,hSc⟩;dsimp only;refine hK _ _ (fun h=>absurd h (by decide +kernel)) ?_;clear hK K;refine tW 5 rfl ?_;go_big_quiet_op;refine bE (by kernel_rfl) ?_;have qO:ak w4 W1:=hs0.trans hSc;have hSY:ak w2 W1:=fK.trans qO;clear c0 c1 c2 c3 hne cB hs0 aC hS0 hSc
 go_wp2_with fail
 obtain⟨S0,hS0⟩:∃S0:World->Prop,∀w',S0 w'↔ak W1 w':=⟨_,fun _=>Iff.rfl⟩;have c1:∀y:aA S0,y.w.cell? ⟨w.heap.size,1,none⟩=some (.slice (some ⟨b0,o0,none⟩) nl nc):=fun y=>by rw[(PF.out _ (hSY.trans ((hS0 _).1 y.h))).2.1,HNA.out]
 have c3:∀y:aA S0,y.w.cell? ⟨b4,o4,none⟩=some (.int .i64 n):=fun y=>((qO.trans ((hS0 _).1 y.h)).av hb4 _).trans n0;have e0:∀y:aA S0,y.w.cell? ⟨b0,o0+n*4,none⟩=some (.int .i64 x0.aK):=fun y=>((hSw.trans (qO.trans ((hS0 _).1 y.h))).av hb0 _).trans hk0;have e1:∀y:aA S0,y.w.cell? ⟨b0,o0+n*4+1,none⟩=some (.slice la x0.last.length lc):=fun y=>((hSw.trans (qO.trans ((hS0 _).1 y.h))).av hb0 _).trans hk1;have e2:∀y:aA S0,y.w.cell? ⟨b0,o0+n*4+2,none⟩=some (.slice ha x0.held.length hcp):=fun y=>((hSw.trans (qO.trans ((hS0 _).1 y.h))).av hb0 _).trans hk2;have e3:∀y:aA S0,y.w.cell? ⟨b0,o0+n*4+3,none⟩=some (.slice ta x0.aG.length tc):=fun y=>((hSw.trans (qO.trans ((hS0 _).1 y.h))).av hb0 _).trans hk3;obtain⟨W2,hW2⟩:∃y,W1.drew=y:=⟨_,rfl⟩;have hs0:=aY hW2;have aC:=(hS0 W2).2 hs0;have hne:Nonempty (aA S0):=⟨⟨_,aC⟩⟩;have cB:=aO W2;refine aW (fun w'=>∃x:aA S0,w'=x.w) (by kernel_rfl) ?_;rw[hW2];clear hW2;refine tW 0 rfl ?_;go_big_quiet_op;refine tM 1 rfl (aj aC) ?_;go_big_quiet_op;refine tW 2 rfl ?_;go_big_quiet_op;refine tW 3 rfl ?_;go_big_quiet_op;refine tM 4 rfl (aj aC) ?_;go_big_quiet_op;refine tW 5 rfl ?_;go_big_quiet_op;refine tM 6 rfl (aj aC) ?_;go_big_quiet_op;refine aV 7 rfl (by kernel_rfl) ?_;intro K hK;obtain⟨WA,hWA⟩:∃y,W2.alloc (.cells #[.int .i64 0,.slice none 0 0,.slice none 0 0,.slice none 0 0] 64)=y:=⟨_,rfl⟩;have hSa:=aF hWA;have hBx:xR WA W2.heap.size (.int .i64 0) (.slice none 0 0) (.slice none 0 0) (.slice none 0 0):=by rw[<-hWA];exact xR.new W2 _ _ _ _ _
 go_simp;refine hK _ _ (fun _ _=>aj ((hS0 _).2 (hs0.trans hSa))) ?_;clear hK K;refine aV 8 rfl (by kernel_rfl) ?_;intro K hK;have hBV:=hBx.put (.int .i64 x0.aK) (.slice la x0.last.length lc) (.slice ha x0.held.length hcp) (.slice ta x0.aG.length tc);obtain⟨W3,hW3⟩:∃y,((((WA.setCell ⟨W2.heap.size,0,none⟩ (.int .i64 x0.aK)).setCell ⟨W2.heap.size,1,none⟩ (.slice la x0.last.length lc)).setCell ⟨W2.heap.size,2,none⟩ (.slice ha x0.held.length hcp)).setCell ⟨W2.heap.size,3,none⟩ (.slice ta x0.aG.length tc))=y:=⟨_,rfl⟩;have hpf:=Ew WA W2.heap.size (.int .i64 x0.aK) (.slice la x0.last.length lc) (.slice ha x0.held.length hcp) (.slice ta x0.aG.length tc);unfold LQ at hpf hBV;rw[hW3]at hpf hBV;obtain⟨_,m0,m1,m2,m3,k0,k1,k2,k3⟩:=hBx;go_simp;refine hK _ _ (fun h=>absurd h (by decide +kernel)) ?_;clear hK K;refine bE (by kernel_rfl) ?_;have nY:ak W1 W3:=hpf.aI (hs0.trans hSa) (fun i hi e=>by have:=hs0.size;omega);obtain⟨bx,hbx⟩:∃y,W2.heap.size=y:=⟨_,rfl⟩;rw[hbx]at hBV ⊢;clear hpf hbx hSa m0 m1 m2 m3 k0 k1 k2 k3 hne cB hs0 aC hS0 c1 c3 e0 e1 e2 e3 hWA hW3;obtain⟨hbz,f0,f1,f2,f3,_,_,_,_⟩:=hBV;have hSZ:=hSY.trans nY;have UQ:=hSw.trans (qO.trans nY)
 go_wp2_with fail
 go_loopw [31,32] (fun v i wr=>∃k:Nat,k<=x0.aG.length/\i=.int .i64 k/\v=.string (bs (iQ (x0.aG.take k)))/\wr=W3) (fun _ i _=>x0.aG.length - (intOf i).toNat)
 case atStart=>exact⟨0,Nat.zero_le _,rfl,rfl,rfl⟩
 case round =>
  obtain⟨k,hk,rfl,rfl,hwr⟩:=hrel;have UR:=hwr.symm;subst UR;clear hwr;by_cases hlt:k < x0.aG.length
  ·obtain⟨m,hm⟩:∃m,x0.aG[k]? = some m:=⟨_,zQ1 hlt⟩;obtain⟨bt,ot,eta,hbt,hcl⟩:=HMT.out.cells (by omega);rw[eta]at f3;have r4:=(UQ.av hbt _).trans (dM hcl k m hm).c4;have hl1:=Jq x0.aG (k+1);have hsu:=Jo hm;rw[hsu,List.length_append,List.length_cons]at hl1
   have HV:Hid (bs (iQ (x0.aG.take k))++⟨#[32]⟩++m.body=bs (iQ (x0.aG.take (k+1)))):=by
    unfold Hid;rw[hsu,<-KE m.body,show(⟨#[32]⟩:ByteArray)=bs [32] from rfl,iP,iP,kK,List.append_assoc];rfl
   have hkl:=Gc (x0.aG.take k);rw[List.length_take,Nat.min_eq_left (by omega)]at hkl;have hmb:m.body.size=m.body.data.toList.length:=by rw[<-KE m.body,bX,kK]
   obtain⟨T,hTd⟩:∃y,iQ (x0.aG.take k)=y:=⟨_,rfl⟩;rw[hTd]at hl1 HV hkl ⊢;have hz1:¬ 9223372036854775807 < (bs T).size+1:=by rw[bX];omega
   have hz2:¬ 9223372036854775807 < (bs T).size+1+m.body.size:=by rw[bX];omega
   have hk9:k < 1000000:=by omega
   have d1:decide ((k:Int) < (x0.aG.length:Int))=true:=by simp;omega
   clear hkl hmb hl1 hsu hTd eta hcl hm hT HMT hk;have HZ2:Hid (¬ 9223372036854775807 < (bs T).size+1+m.body.size):=hz2;clear d1 hz2;clear hk0 hk1 hk2 hk3 n8 hB2 hn1 hn2 hcm ho ho5 ho6 hc0 hA hB hBl hx0 hs hb0 hc hM hbt hb4 n0 f0 f1 f2
   go_wp2_with fail
   exact⟨⟨k+1,hlt,by go_num,by rw[HV.out],trivial⟩,by simp[intOf];omega⟩
  ·obtain rfl:k=x0.aG.length:=by omega
   rw[List.take_length];by_cases hnil:x0.aG=[]
   ·have hz:((bs (iQ x0.aG)).toList == [])=true:=sF (by rw[hnil];rfl);have HTT:Hid (mK x0.aG=[45]):=by unfold Hid;rw[hnil];rfl
    have HDR:Hid ((⟨#[32,45]⟩:ByteArray).extract 1 2=bs ([32,45].drop 1)):=by unfold Hid;rfl
    clear hnil
    go_wp2_with fail
    obtain⟨S0,hS0⟩:∃S0:World->Prop,∀w',S0 w'↔Fr (fun i=>i=w1.heap.size) W3 w':=⟨_,fun _=>Iff.rfl⟩;have hx1:¬ (w.heap.size=w1.heap.size):=by omega
    have hx2:w.heap.size < W3.heap.size:=by have:=hA2.lt;have:=hSZ.size;omega
    have c0:∀y:aA S0,y.w.cell? ⟨w.heap.size,0,none⟩=some (.slice ga gl gc):=fun y=>(((hS0 _).1 y.h).cell (p:=⟨w.heap.size,0,none⟩) hx2 hx1).trans (PF.out _ hSZ).1;have c1:∀y:aA S0,y.w.cell? ⟨w.heap.size,1,none⟩=some (.slice na nl nc):=fun y=>(((hS0 _).1 y.h).cell (p:=⟨w.heap.size,1,none⟩) hx2 hx1).trans (PF.out _ hSZ).2.1;have c2:∀y:aA S0,y.w.cell? ⟨w.heap.size,2,none⟩=some (.slice wa wl wc):=fun y=>(((hS0 _).1 y.h).cell (p:=⟨w.heap.size,2,none⟩) hx2 hx1).trans (PF.out _ hSZ).2.2;clear hx1 hx2;obtain⟨W4,hW4⟩:∃y,W3.drew=y:=⟨_,rfl⟩;have hs0:=aY hW4;have aC:=(hS0 W4).2 (hs0.fr _);have hne:Nonempty (aA S0):=⟨⟨_,aC⟩⟩;have cB:=aO W4;refine aW (fun w'=>∃x:aA S0,w'=x.w) (by kernel_rfl) ?_;rw[hW4];clear hW4;refine tM 0 rfl (aj aC) ?_;go_big_quiet_op;refine tW 1 rfl ?_;go_big_quiet_op;refine tM 2 rfl (aj aC) ?_;go_big_quiet_op;refine aV 3 rfl (by kernel_rfl) ?_;intro K hK;have Gb:=hSZ.trans hs0;obtain⟨p0,p1,p2⟩:=PF.out _ Gb;obtain⟨V,hV,⟨_,a0,a1,a2,y0,y1,y2⟩,⟨_,v0,v1,v2,_,_,_⟩,hSV⟩:=AF.out _ Gb;have hpf:=aS W4 w1.heap.size (.slice ga gl gc) (.slice na nl nc) (.slice wa wl wc);unfold iB at hpf;rw[hV]at hpf;have hFV:=(hs0.fr fun i=>i=w1.heap.size).trans hpf (fun _ _ x=>x) (fun _ _ x=>x);go_simp;refine hK _ _ (fun _ _=>aj ((hS0 _).2 hFV)) ?_;clear hK K;refine tW 4 rfl ?_;go_big_quiet_op;refine tW 5 rfl ?_;go_big_quiet_op;refine bE (by kernel_rfl) ?_
    go_wp2_with fail
    refine bodyPost_ret (v:=.tuple #[.agg #[.slice ga gl gc,.slice na nl nc,.slice wa wl wc],.string (bs (([32,45]).drop 1)),.int .i64 0]) ?_ rfl ?_
    ·simp[results,results17,go_sem,v0,v1,v2,HDR.out]
    rw[HTT.out];exact⟨hSV,rfl⟩
   ·have hz:((bs (iQ x0.aG)).toList == [])=false:=fT (Gd hnil);have HTT:Hid (mK x0.aG=(iQ x0.aG).drop 1):=(Jm hnil).symm;have hpos:0 < (iQ x0.aG).length:=List.length_pos_iff.2 (Gd hnil);clear hnil;obtain⟨T,hTd⟩:∃y,iQ x0.aG=y:=⟨_,rfl⟩;rw[hTd]at hz HTT hpos hT ⊢;clear hTd;have hsz:=bX T;have HDR:Hid ((bs T).extract 1 (bs T).size=bs (T.drop 1)):=by unfold Hid;exact zU T 1 _ hsz
    have hp1:1<=(bs T).size:=by omega
    clear hsz
    go_wp2_with fail
    obtain⟨S0,hS0⟩:∃S0:World->Prop,∀w',S0 w'↔Fr (fun i=>i=w1.heap.size) W3 w':=⟨_,fun _=>Iff.rfl⟩;have hx1:¬ (w.heap.size=w1.heap.size):=by omega
    have hx2:w.heap.size < W3.heap.size:=by have:=hA2.lt;have:=hSZ.size;omega
    have c0:∀y:aA S0,y.w.cell? ⟨w.heap.size,0,none⟩=some (.slice ga gl gc):=fun y=>(((hS0 _).1 y.h).cell (p:=⟨w.heap.size,0,none⟩) hx2 hx1).trans (PF.out _ hSZ).1;have c1:∀y:aA S0,y.w.cell? ⟨w.heap.size,1,none⟩=some (.slice na nl nc):=fun y=>(((hS0 _).1 y.h).cell (p:=⟨w.heap.size,1,none⟩) hx2 hx1).trans (PF.out _ hSZ).2.1;have c2:∀y:aA S0,y.w.cell? ⟨w.heap.size,2,none⟩=some (.slice wa wl wc):=fun y=>(((hS0 _).1 y.h).cell (p:=⟨w.heap.size,2,none⟩) hx2 hx1).trans (PF.out _ hSZ).2.2;clear hx1 hx2;obtain⟨W4,hW4⟩:∃y,W3.drew=y:=⟨_,rfl⟩;have hs0:=aY hW4;have aC:=(hS0 W4).2 (hs0.fr _);have hne:Nonempty (aA S0):=⟨⟨_,aC⟩⟩;have cB:=aO W4;refine aW (fun w'=>∃x:aA S0,w'=x.w) (by kernel_rfl) ?_;rw[hW4];clear hW4;refine tM 0 rfl (aj aC) ?_;go_big_quiet_op;refine tW 1 rfl ?_;go_big_quiet_op;refine tM 2 rfl (aj aC) ?_;go_big_quiet_op;refine aV 3 rfl (by kernel_rfl) ?_;intro K hK;have Gb:=hSZ.trans hs0;obtain⟨p0,p1,p2⟩:=PF.out _ Gb;obtain⟨V,hV,⟨_,a0,a1,a2,y0,y1,y2⟩,⟨_,v0,v1,v2,_,_,_⟩,hSV⟩:=AF.out _ Gb;have hpf:=aS W4 w1.heap.size (.slice ga gl gc) (.slice na nl nc) (.slice wa wl wc);unfold iB at hpf;rw[hV]at hpf;have hFV:=(hs0.fr fun i=>i=w1.heap.size).trans hpf (fun _ _ x=>x) (fun _ _ x=>x);go_simp;refine hK _ _ (fun _ _=>aj ((hS0 _).2 hFV)) ?_;clear hK K;refine tW 4 rfl ?_;go_big_quiet_op;refine tW 5 rfl ?_;go_big_quiet_op;refine bE (by kernel_rfl) ?_
    go_wp2_with fail
    refine bodyPost_ret (v:=.tuple #[.agg #[.slice ga gl gc,.slice na nl nc,.slice wa wl wc],.string (bs ((T).drop 1)),.int .i64 0]) ?_ rfl ?_
    ·simp[results,results17,go_sem,v0,v1,v2,HDR.out]
    rw[HTT.out];exact⟨hSV,rfl⟩
end Go.Proofs.YtediempflagfkaaGreatDoor
