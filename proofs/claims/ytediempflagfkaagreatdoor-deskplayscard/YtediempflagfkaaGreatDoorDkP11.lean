/- Lemmas. Lemmas. Lemmas. -/
import Derived.Laws.EntriesVeiled
import Derived.Test.YtediempflagfkaaGreatDoorDkC5
import Derived.Test.YtediempflagfkaaGreatDoorPureDD
import Derived.Test.YtediempflagfkaaGreatDoorDkB1
import Derived.Test.YtediempflagfkaaGreatDoorDkP10
set_option linter.unusedVariables false
set_option linter.unusedSimpArgs false
set_option linter.unnecessarySimpa false
set_option maxHeartbeats 4000000
namespace Go.Proofs.YtediempflagfkaaGreatDoor
open _root_.Go.Proofs.Tryz hiding checked
set_option maxRecDepth 8000
open Go.RowKit Go.Shelf
open Pu
def AnR(B:Nat)(w:World)(d:Wd)(r:Except Int (Wd × List UInt8))(e:Ending)(w':World):Prop :=
 (∀er,r=.error er->e=.returned (.string (bs (kP++dn er.toNat)))/\ak w w') /\
 (∀d' t,r=.ok (d',t)->e=.returned (.string (bs t))/\((ak w w'/\d'=d)\/∃L,Ck w' B (fE L d')/\bG w.heap.size w' d' L/\Fr (fun i=>i=B) w w'))
theorem KD{B:Nat}{w w':World}{d:Wd}{r:Except Int (Wd × List UInt8)}{n:Nat}(hr:r=.error (n:Int))(h:ak w w'):AnR B w d r (.returned (.string (bs (kP++dn n)))) w':=by
 subst hr;exact⟨fun _ e=>(by cases e;exact⟨by simp,h⟩),fun _ _ e=>(by cases e)⟩
attribute [local go_sem] Oper.semAt_some
set_option maxRecDepth 8000 in
theorem Lr(B:Nat)(d:Wd)(s:List UInt8)(hs:s.length<=100000)(w:World)(hT:Tb w)(hf:Instr.findNow .string (.string (bs (wA s))) (ruE B).toList 0=some none) :
  Calls prog 11 #[.pointer (some ⟨B,0,none⟩),.string (bs s)] w fun e w'=>Hid (AnR B w d (.error 1) e w'):=by
 obtain⟨w1,hw1⟩:∃y,w.alloc (.cells #[.string ⟨#[]⟩] 9)=y:=⟨_,rfl⟩;have hS1:=aF hw1;have hl1:w.heap.size < w1.heap.size:=by rw[<-hw1];simp
 have o0:w1.cell? ⟨w.heap.size,0,none⟩=some (.string ⟨#[]⟩):=by rw[<-hw1];simp[go_sem]
 have o1:w1.frozen? ⟨w.heap.size,0,none⟩=false:=by rw[<-hw1];simp[go_sem]
 have hmf:∀(fn:Fn) (first cap:Array Value) (w:World),(Instr.makeFunc fn first cap).run prog w=.ok (.func fn first cap) w:=fun _ _ _ _=>rfl
 have hcut:=fun y=>Eh s (by omega) y;obtain⟨A,hA⟩:∃y,wA s=y:=⟨_,rfl⟩;obtain⟨RB,hRB⟩:∃y,wB s=y:=⟨_,rfl⟩;obtain⟨RM,hRM⟩:∃y,wM s=y:=⟨_,rfl⟩;rw[hA,hRB,hRM]at hcut;rw[hA]at hf;clear hA hRB hRM;refine iY func11 rfl ?_;simp only[ntmps11,List.size_toArray,List.length_cons,List.length_nil,Nat.reduceAdd,Nat.reduceSub,Array.replicate_succ,Array.replicate_zero,List.push_toArray,List.append_toArray,List.nil_append,List.cons_append];refine dw ?_
 go_wp2_with (first
  | (go_at_call 30;refine(hcut _).mono ?_;rintro e W1 ⟨rfl,hS2⟩)
  | (go_at_call 31;refine(Dp B _).mono ?_;rintro e W2 ⟨rfl,hmap,hS3⟩;have hlk:=I4 (z:=.agg #[.int .i64 0,.bool false,.nilFunc]) kU hmap (bs A) (fun w=>rfl) hf;obtain⟨W3,hW3⟩:∃y,W2.alloc (.cells #[.int .i64 0,.bool false,.nilFunc] 74)=y:=⟨_,rfl⟩;have hS4:ak W2 W3:=(by rw[<-hW3];exact(ak.refl W2).alloc _);have hBx:Bx3 W3 W2.heap.size (.int .i64 0) (.bool false) .nilFunc:=(by rw[<-hW3];constructor <;> simp[go_sem]);have hpf:=aS W3 W2.heap.size (.int .i64 0) (.bool false) .nilFunc;unfold iB at hpf;obtain⟨W4,hW4⟩:∃y,(((W3.setCell ⟨W2.heap.size,0,none⟩ (.int .i64 0)).setCell ⟨W2.heap.size,1,none⟩ (.bool false)).setCell ⟨W2.heap.size,2,none⟩ .nilFunc)=y:=⟨_,rfl⟩;rw[hW4]at hpf;have hS5:ak W2 W4:=hpf.aI hS4 (fun i hi e=>(by omega));obtain⟨_,m0,m1,m2,k0,k1,k2⟩:=hBx)
  | (go_at_call 32;refine(iZ _ _).mono ?_;rintro e w' ⟨rfl,hw⟩;obtain rfl:=hw.symm))
 have hSf:=hS2.trans (hS3.trans hS5);refine xA W4 w.heap.size _ rfl (.string ⟨#[]⟩) 1 (by omega) (hT.ay (hS1.trans hSf)) (zQ4 hl1 hSf.size) ((hSf.av hl1 _).trans o0) ((hSf.below.frozen (p:=⟨w.heap.size,0,none⟩) hl1).trans o1) _ ?_;intro y2 hy;exact KD (n:=1) rfl (((((hS1.trans hSf).trans hy).fr fun i=>i=w.heap.size).setCell ⟨w.heap.size,0,none⟩ _ (fun _=>rfl)).ay (fun i hi e=>by omega))
set_option maxRecDepth 8000 in
theorem lZ(B k gf:Nat)(bd:Bool)(hk:k<=2)(d:Wd)(s:List UInt8)(hs:s.length<=100000)(w:World)(hT:Tb w)(hB4:4<=B)(hBl:B < w.heap.size)
  (heg:∀args w,(callFunc gf args).run prog w=.ok (.enter gf args) w)
  (i0:Nat) (hf:Instr.findNow .string (.string (bs (wA s))) (ruE B).toList 0=some (some (i0,ruV B k bd gf)))
  (r R0:Except Int (Wd × List UInt8)) (hr1:I5 k (wB s) (wM s)/\(rdN k (wB s) (wM s)).2=bd->R0=r) (hr2:¬ (I5 k (wB s) (wM s)/\(rdN k (wB s) (wM s)).2=bd)->R0=.error 1) (her:∀er,r=.error er->∃n:Nat,er=n/\n<=1000)
  (Nt:I5 k (wB s) (wM s)->(rdN k (wB s) (wM s)).2=bd->∀w1,ak w w1->Calls prog gf #[.pointer (some ⟨B,0,none⟩),.agg #[.int .i64 (rdC k 0 (wB s) (wM s)),.int .i64 (rdC k 1 (wB s) (wM s)),.string (bs (rdN k (wB s) (wM s)).1)]] w1 fun e w'=>Hid (GvR B w1 d r e w')) :
  Calls prog 11 #[.pointer (some ⟨B,0,none⟩),.string (bs s)] w fun e w'=>Hid (AnR B w d R0 e w'):=by
 obtain⟨w1,hw1⟩:∃y,w.alloc (.cells #[.string ⟨#[]⟩] 9)=y:=⟨_,rfl⟩;have hS1:=aF hw1;have hl1:w.heap.size < w1.heap.size:=by rw[<-hw1];simp
 have o0:w1.cell? ⟨w.heap.size,0,none⟩=some (.string ⟨#[]⟩):=by rw[<-hw1];simp[go_sem]
 have o1:w1.frozen? ⟨w.heap.size,0,none⟩=false:=by rw[<-hw1];simp[go_sem]
 have hmf:∀(fn:Fn) (first cap:Array Value) (w:World),(Instr.makeFunc fn first cap).run prog w=.ok (.func fn first cap) w:=fun _ _ _ _=>rfl
 have hcut:=fun y=>Eh s (by omega) y;have hRl:(wB s).length<=100000:=by have:=jA s;omega
 obtain⟨A,hA⟩:∃y,wA s=y:=⟨_,rfl⟩;obtain⟨RB,hRB⟩:∃y,wB s=y:=⟨_,rfl⟩;obtain⟨RM,hRM⟩:∃y,wM s=y:=⟨_,rfl⟩;rw[hA,hRB,hRM]at hcut;rw[hA]at hf;rw[hRB]at hRl;rw[hRB,hRM]at hr1 hr2 Nt;clear hA hRB hRM;have HR1:Hid _:=hr1;have HR2:Hid _:=hr2;have HER:Hid _:=her;have HGV:Hid _:=Nt;clear hr1 hr2 her Nt;obtain⟨C0,hC0⟩:∃y,rdC k 0 RB RM=y:=⟨_,rfl⟩;obtain⟨C1,hC1⟩:∃y,rdC k 1 RB RM=y:=⟨_,rfl⟩;obtain⟨C2,hC2⟩:∃y,bs (rdN k RB RM).1=y:=⟨_,rfl⟩;refine iY func11 rfl ?_;simp only[ntmps11,List.size_toArray,List.length_cons,List.length_nil,Nat.reduceAdd,Nat.reduceSub,Array.replicate_succ,Array.replicate_zero,List.push_toArray,List.append_toArray,List.nil_append,List.cons_append];refine dw ?_;unfold ruV at hf
 go_wp2_with (first
  | (go_at_call 30;refine(hcut _).mono ?_;rintro e W1 ⟨rfl,hS2⟩)
  | (go_at_call 31;refine(Dp B _).mono ?_;rintro e W2 ⟨rfl,hmap,hS3⟩;have hlk:=Nu kU hmap (bs A) hf;obtain⟨W3,hW3⟩:∃y,W2.alloc (.cells #[.int .i64 0,.bool false,.nilFunc] 74)=y:=⟨_,rfl⟩;have hS4:ak W2 W3:=(by rw[<-hW3];exact(ak.refl W2).alloc _);have hBx:Bx3 W3 W2.heap.size (.int .i64 0) (.bool false) .nilFunc:=(by rw[<-hW3];constructor <;> simp[go_sem]);have hBV:=hBx.all (.int .i64 k) (.bool bd) (.func (.func gf) #[.pointer (some ⟨B,0,none⟩)] #[]);have hpf:=aS W3 W2.heap.size (.int .i64 k) (.bool bd) (.func (.func gf) #[.pointer (some ⟨B,0,none⟩)] #[]);unfold iB at hpf;obtain⟨W4,hW4⟩:∃y,(((W3.setCell ⟨W2.heap.size,0,none⟩ (.int .i64 k)).setCell ⟨W2.heap.size,1,none⟩ (.bool bd)).setCell ⟨W2.heap.size,2,none⟩ (.func (.func gf) #[.pointer (some ⟨B,0,none⟩)] #[]))=y:=⟨_,rfl⟩;rw[hW4]at hpf hBV;have hS5:ak W2 W4:=hpf.aI hS4 (fun i hi e=>(by omega));obtain⟨_,m0,m1,m2,k0,k1,k2⟩:=hBx)
  | (go_at_call 32;refine(l9 _ _).mono ?_;rintro e w' ⟨rfl,hw⟩;obtain rfl:=hw.symm))
 have hSf:=hS2.trans (hS3.trans hS5);obtain⟨bo,hbo⟩:∃y,w.heap.size=y:=⟨_,rfl⟩;obtain⟨rb,hrb⟩:∃y,W2.heap.size=y:=⟨_,rfl⟩;have p0:W4.cell? ⟨bo,0,none⟩=some (.string ⟨#[]⟩):=by rw[<-hbo];exact(hSf.av hl1 _).trans o0
 have p1:W4.frozen? ⟨bo,0,none⟩=false:=by rw[<-hbo];exact(hSf.below.frozen (p:=⟨w.heap.size,0,none⟩) hl1).trans o1
 have hp4:bo < W4.heap.size:=by rw[<-hbo];exact zQ4 hl1 hSf.size
 have I6:ak w W4:=hS1.trans hSf;have hBo:B < bo:=by omega
 rw[hrb]at hBV;clear m0 m1 m2 k0 k1 k2 hW3 hW4 hpf hlk hmap hf hS4 hS5 hcut o0 o1 hw1 hl1
 try rw[hbo]
 try rw[hrb]
 have HBO:Hid (w.heap.size=bo):=hbo;clear hbo hrb;refine Ls (p:=.pointer (some ⟨bo,0,none⟩)) (ds:=[{ target:=.fn (.func 28) #[.pointer (some ⟨bo,0,none⟩)],args:=#[] }]) (R:=fun ch y=>∃n:Nat,n<=1000/\ch=pan n/\R0=.error (n:Int)/\ak W4 y) ?_ ?_
 ·intro ch a' w' h4 hd ⟨n,hn,hch,hR0,hS⟩;subst hch;show LeavesInM Fence.wide 0 prog Tryz.f11 a'.tmps _ a'.defers (.panicking (pan n)) w';rw[hd];refine xA w' bo a'.tmps h4 (.string ⟨#[]⟩) n hn (hT.ay (I6.trans hS)) (zQ4 hp4 hS.size) ((hS.av hp4 _).trans p0) ((hS.below.frozen (p:=⟨bo,0,none⟩) hp4).trans p1) _ ?_;intro y2 hy;refine KD (n:=n) hR0 (((((I6.trans hS).trans hy).fr fun i=>i=bo).setCell ⟨bo,0,none⟩ _ (fun _=>rfl)).ay (fun i hi e=>by have:=HBO.out;omega))
 obtain⟨S0,hS0⟩:∃S0:World->Prop,∀w',S0 w'↔ak W4 w':=⟨_,fun _=>Iff.rfl⟩;have c0:∀y:aA S0,y.w.cell? ⟨rb,0,none⟩=some (.int .i64 k):=fun y=>(((hS0 _).1 y.h).av hBV.lt _).trans hBV.c0;have c1:∀y:aA S0,y.w.cell? ⟨rb,1,none⟩=some (.bool bd):=fun y=>(((hS0 _).1 y.h).av hBV.lt _).trans hBV.c1;have c2:∀y:aA S0,y.w.cell? ⟨rb,2,none⟩=some (.func (.func gf) #[.pointer (some ⟨B,0,none⟩)] #[]):=fun y=>(((hS0 _).1 y.h).av hBV.lt _).trans hBV.c2;obtain⟨W5,hW5⟩:∃y,W4.drew=y:=⟨_,rfl⟩;have hs0:=aY hW5;have aC:=(hS0 W5).2 hs0;have hne:Nonempty (aA S0):=⟨⟨_,aC⟩⟩;have cB:=aO W5;have hrd:=Nv k hk bd gf B RB RM hRl W5 (hT.ay (I6.trans hs0));refine aW (fun w'=>∃x:aA S0,w'=x.w) (by kernel_rfl) ?_;rw[hW5];clear hW5;refine sS 0 rfl (by kernel_rfl) (sU (by decide)) (by rfl) rfl ?_;go_big_quiet_op;refine FN 1 rfl (by kernel_rfl) (aj aC) (sU (by decide)) (by rfl) rfl ?_;go_big_quiet_op;refine FN 2 rfl (by kernel_rfl) (aj aC) (sU (by decide)) (by rfl) rfl ?_;go_big_quiet_op;refine sS 3 rfl (by kernel_rfl) (sU (by decide)) (by rfl) rfl ?_;go_big_quiet_op;refine sS 4 rfl (by kernel_rfl) (sU (by decide)) (by rfl) rfl ?_;go_big_quiet_op;refine aV 5 rfl (by kernel_rfl) ?_;intro K hK;go_simp;refine hrd.mono ?_;rintro e W6 ⟨hS6,hcase⟩;rcases hcase with ⟨hno,rfl⟩ | ⟨hyes,rfl⟩
 ·exact⟨rfl,rfl,1,by omega,rfl,HR2.out hno,hs0.trans hS6⟩
 have hgv:=HGV.out hyes.1 hyes.2 W6 (I6.trans (hs0.trans hS6));have HRR:Hid (R0=r):=HR1.out hyes;rw[hC0,hC1,hC2]at hgv ⊢;dsimp only;refine hK _ _ (fun _ _=>aj ((hS0 _).2 (hs0.trans hS6))) ?_;clear hK K;refine aV 6 rfl (by kernel_rfl) ?_;intro K hK;go_simp;refine hgv.mono ?_;rintro e W7 hG;rcases hrr:r with er | ⟨d',t⟩
 ·obtain⟨n,rfl,hn⟩:=HER.out er hrr;obtain⟨rfl,hS7⟩:=hG.out.1 _ hrr;exact⟨rfl,rfl,n,hn,rfl,by rw[HRR.out,hrr],hs0.trans (hS6.trans hS7)⟩
 obtain⟨rfl,hst⟩:=hG.out.2 d' t hrr;have HRK:Hid (R0=.ok (d',t)):=by unfold Hid;rw[HRR.out,hrr]
 clear hG hrr;dsimp only;have Ct:=hs0.trans hS6
 have hF7:Fr (fun i=>i=B) W6 W7:=by
  rcases hst with h | ⟨L,_,_,h⟩
  ·exact h.1.fr _
  ·exact h
 have l6:bo < W6.heap.size:=zQ4 hp4 Ct.size;have g0:W7.cell? ⟨bo,0,none⟩=some (.string ⟨#[]⟩):=(hF7.cell (p:=⟨bo,0,none⟩) l6 (by show ¬ bo=B;omega)).trans ((Ct.av hp4 _).trans p0);have g1:W7.frozen? ⟨bo,0,none⟩=false:=(hF7.frozen (p:=⟨bo,0,none⟩) l6 (by show ¬ bo=B;omega)).trans ((Ct.below.frozen (p:=⟨bo,0,none⟩) hp4).trans p1);obtain⟨V,hV⟩:∃y,W7.setCell ⟨bo,0,none⟩ (.string (bs t))=y:=⟨_,rfl⟩;refine hK _ _ (fun h=>absurd h (by decide +kernel)) ?_;clear hK K;refine aV 7 rfl (by kernel_rfl) ?_;intro K hK;go_simp;refine hK _ _ (fun h=>absurd h (by decide +kernel)) ?_;clear hK K;refine bE (by kernel_rfl) ?_;unfold Pq
 go_wp2_with fail
 refine Ei V bo _ rfl (bs t) (by rw[<-hV];exact gN _ _ _ _ g0) _ ?_;unfold Hid;rw[HRK.out];refine⟨fun _ e=>(by cases e),fun d1 t1 e=>?_⟩;cases e;refine⟨rfl, ?_⟩;have hFV:Fr (fun i=>i=bo) W7 V:=by rw[<-hV];exact(Fr.refl (fun i=>i=bo) W7).setCell ⟨bo,0,none⟩ _ (fun _=>rfl)
 have hb:=HBO.out;have hsz:=(I6.trans Ct).size;rcases hst with ⟨h1,h2⟩ | ⟨L,h1,h2,h3⟩
 ·exact .inl ⟨hFV.aI ((I6.trans Ct).trans h1) (fun i hi e=>by omega),h2⟩
 ·refine .inr ⟨L,h1.fr hFV (by show ¬ B=bo;omega),(h2.fr hFV (fun i hi e=>by have:=(h2.blk hi).1;omega)).mono hsz, ?_⟩;exact(((I6.trans Ct).fr (fun i=>i=B)).trans h3 (D:=fun i=>i=B) (fun _ _ x=>x) (fun _ _ x=>x)).trans hFV (fun _ _ x=>x) (fun i hi e=>by have e:i=bo:=e;omega)
end Go.Proofs.YtediempflagfkaaGreatDoor
set_option maxHeartbeats 1000000
namespace Go.Proofs.YtediempflagfkaaGreatDoor
open _root_.Go.Proofs.Tryz hiding checked
set_option maxRecDepth 8000
open Go.RowKit Go.Shelf
open Pu
theorem Ej{d:Wd}(R:aL d){k:Nat}{m:Mg}(h:m∈bM d k):m.body.data.toList.length<=8:=by
 have h1:=(R.Ad k m h).1;unfold jC iN at h1;simp only[Bool.and_eq_true,decide_eq_true_eq]at h1;have h2:=h1.1;split at h2
 ·contradiction
 ·split at h2
  ·cases h2
  ·split at h2
   ·cases h2
   ·split at h2
    ·cases h2
    ·rename_i h5;unfold vV at h5;have:m.body.size=m.body.data.toList.length:=by rw[<-KE m.body,bX,kK]
     simp at h5;omega
theorem FP{l:List Mg}(h:∀m∈l,m.body.data.toList.length<=8):(l.flatMap fun m=>32::m.body.data.toList).length<=9*l.length:=by
 induction l with
 | nil=>simp
 | cons m r ih =>
  have h1:=h m (by simp);have h2:=ih (fun x hx=>h x (by simp[hx]));rw[List.flatMap_cons,List.length_append,List.length_cons,List.length_cons];omega
theorem Dq{l:List Mg}(h:∀m∈l,m.body.data.toList.length<=8):(mK l).length<=9*l.length+1:=by
 cases l with
 | nil=>decide
 | cons m r =>
  have h1:=FP h
  have:(mK (m::r)).length+1=((m::r).flatMap fun m=>32::m.body.data.toList).length:=by
   unfold mK Nw;simp[List.flatMap_map]
  omega
theorem kL{d:Wd}{n:Nat}{x0:Nd}(h:d.ah[n]? = some x0):bM d n=x0.aG:=by unfold bM;rw[h]
theorem KG{d:Wd}{n:Nat}{x0:Nd}(h:d.ah[n]? = some x0):aQ d n=x0.held:=by unfold aQ;rw[h]
theorem El{α:Type}{r:Except Int α}(h:Er r):∀er,r=.error er->∃n:Nat,er=n/\n<=1000:=fun er e=>by
 have:=h er e;exact⟨er.toNat,by omega,by omega⟩
theorem KH{B:Nat}{w:World}{d:Wd}{r:Except Int (Wd × List UInt8)}{f:Nat}{args:Array Value}
  (he:∀er,r=.error er->Calls prog f args w fun e w'=>e=.panicked (pan er)/\ak w w') (ho:∀p,r=.ok p->Calls prog f args w fun e w'=>Hid (GvR B w d (.ok p) e w')):Calls prog f args w fun e w'=>Hid (GvR B w d r e w'):=by
 cases r with
 | error er=>exact(he er rfl).mono fun e w' ⟨h1,h2⟩=>by rw[h1];exact Em h2
 | ok p=>exact ho p rfl
theorem kV{r:Except Int Wd}{f:Wd->List UInt8}{er:Int}(h:after r f=.error er):r=.error er:=by
 unfold after at h
 cases r with
 | error e=>cases h;rfl
 | ok d=>cases h
theorem mM{r:Except Int Wd}{f:Wd->List UInt8}{p:Wd × List UInt8}(h:after r f=.ok p):∃d',r=.ok d'/\p=(d',f d'):=by
 unfold after at h
 cases r with
 | error e=>cases h
 | ok d=>cases h;exact⟨d,rfl,rfl⟩
theorem Ae{d:Wd}(R:aL d){k:Nat}(hk:k < d.ah.length):0<=dQ d k:=(mO hk 0).2 ⟨(R.clk k).1,fun g i _ _ _ _=>(R.lst k g i).1⟩
theorem I7(B:Nat)(x:WV)(d:Wd)(s:List UInt8)(hs:s.length<=100000)(w:World)(hB:Ck w B x)(hK:∀w',Fr (fun i=>i=B) w w'->WAt w' x d)(hT:Tb w)(hB4:4<=B)(R:aL d) :
  Calls prog 11 #[.pointer (some ⟨B,0,none⟩),.string (bs s)] w fun e w'=>Hid (AnR B w d (dW d s) e w'):=by
 have HB:∀y,ak w y->Ck y B x:=fun y hy=>hB.fr (hy.fr fun _=>False) (fun x=>x);have HK:∀y,ak w y->∀w',Fr (fun i=>i=B) y w'->WAt w' x d:=fun y hy w' h=>hK w' ((hy.fr _).trans h (fun _ _ x=>x) (fun _ _ x=>x));have HW:∀y,ak w y->WAt y x d:=fun y hy=>hK y (hy.fr _);have HT:∀y,ak w y->Tb y:=fun y hy=>hT.ay hy;have hBl:=hB.lt;by_cases h1:wA s=qG
 ·rw[zO h1]
  refine lZ B 2 55 true (by omega) d s hs w hT hB4 hBl (enters_of func55 (by kernel_rfl) rfl) 0 (by rw[h1];rfl)
   (after (checked d (dR d (rdC 2 0 (wB s) (wM s)) (rdC 2 1 (wB s) (wM s)) false (bs (rdN 2 (wB s) (wM s)).1))) fun d'=>dn (bB d' (rdC 2 0 (wB s) (wM s)).toNat).toNat) _ ?_ ?_ (El (mP (gV R (nH _ _ _ _ _)))) ?_
  ·rintro⟨hok,hbd⟩;have a0:0<=bZ (wA (wB s)):=hok 0 (by omega);have a1:0<=bZ (wA (wB (wB s))):=hok 1 (by omega);unfold xB;rw[if_pos ⟨⟨FQ a1,hbd⟩,a0,a1⟩];rfl
  ·intro hno;refine FR (fun h=>hno ⟨fun i hi=>?_,h.1.2⟩);have:i=0\/i=1:=by omega
   rcases this with rfl | rfl
   ·exact h.2.1
   ·exact h.2.2
  ·intro hok hbd w1 hy;have a0:0<=rdC 2 0 (wB s) (wM s):=hok 0 (by omega);refine KH (fun er he=>I8 B x d _ _ _ er (by have:=(gV R (nH d _ _ _ _)) er (kV he);omega) w1 (HB _ hy) (HW _ hy) (kV he)) (fun p hp=>?_);obtain⟨d',hd',rfl⟩:=mM hp;obtain⟨R',hn0,hnl⟩:=nN (fun h=>by cases h) hd';obtain⟨x',ck,hx',hck,hc9,hcl⟩:=qH R' hnl;have R9:d'.ah.length<=4:=by have:=(jQ R'.chk).2.1;omega
   rw[hcl];exact Lu B x d d' _ _ _ (by omega) (by omega) _ w1 (HB _ hy) (HW _ hy) (HT _ hy) hB4 hd' x' hx' ck hck (by omega)
 by_cases h2:wA s=r9
 ·rw[zP h2]
  refine lZ B 2 56 false (by omega) d s hs w hT hB4 hBl (enters_of func56 (by kernel_rfl) rfl) 1 (by rw[h2];rfl)
   (after (checked d (dR d (rdC 2 0 (wB s) (wM s)) (rdC 2 1 (wB s) (wM s)) true ByteArray.empty)) fun d'=>dn (bB d' (rdC 2 0 (wB s) (wM s)).toNat).toNat) _ ?_ ?_ (El (mP (gV R (nH _ _ _ _ _)))) ?_
  ·rintro⟨hok,hbd⟩;unfold xC;rw[uU (r:=wB s) (hok 0 (by omega)) (hok 1 (by omega)) hbd];rfl
  ·intro hno;refine FT (sV (fun h=>hno ⟨fun i hi=>?_,h.2.2⟩));have:i=0\/i=1:=by omega
   rcases this with rfl | rfl
   ·exact h.1
   ·exact h.2.1
  ·intro hok hbd w1 hy;have a0:0<=rdC 2 0 (wB s) (wM s):=hok 0 (by omega);refine KH (fun er he=>I9 B x d _ _ _ er (by have:=(gV R (nH d _ _ _ _)) er (kV he);omega) w1 (HB _ hy) (HW _ hy) (kV he)) (fun p hp=>?_);obtain⟨d',hd',rfl⟩:=mM hp;obtain⟨R',hn0,hnl⟩:=nN (fun _=>rfl) hd';obtain⟨x',ck,hx',hck,hc9,hcl⟩:=qH R' hnl;have R9:d'.ah.length<=4:=by have:=(jQ R'.chk).2.1;omega
   rw[hcl];exact Lv B x d d' _ _ _ (by omega) (by omega) _ w1 (HB _ hy) (HW _ hy) (HT _ hy) hB4 hd' x' hx' ck hck (by omega)
 by_cases h3:wA s=sj
 ·rw[zQ h3]
  refine lZ B 2 57 false (by omega) d s hs w hT hB4 hBl (enters_of func57 (by kernel_rfl) rfl) 2 (by rw[h3];rfl)
   (after (fC d (rdC 2 0 (wB s) (wM s)) (rdC 2 1 (wB s) (wM s))) fun d'=>dn ((bM d' (rdC 2 1 (wB s) (wM s)).toNat).length - (bM d (rdC 2 1 (wB s) (wM s)).toNat).length)) _ ?_ ?_ (El (mP (uV R _ _))) ?_
  ·rintro⟨hok,hbd⟩;unfold mvD;rw[uU (r:=wB s) (hok 0 (by omega)) (hok 1 (by omega)) hbd];rfl
  ·intro hno;refine Ny (sV (fun h=>hno ⟨fun i hi=>?_,h.2.2⟩));have:i=0\/i=1:=by omega
   rcases this with rfl | rfl
   ·exact h.1
   ·exact h.2.1
  ·intro hok hbd w1 hy;refine KH (fun er he=>Ja B x d _ _ _ er (by have:=(uV R _ _) er (kV he);omega) w1 (HB _ hy) (HW _ hy) (kV he)) (fun p hp=>?_);obtain⟨d',hd',rfl⟩:=mM hp;obtain⟨_,R',hn0,hnl,hal,hle,h40⟩:=yI hd';obtain⟨x0,hx0⟩:∃y,d.ah[(rdC 2 1 (wB s) (wM s)).toNat]? = some y:=⟨_,zQ1 hnl⟩;obtain⟨x',hx'⟩:∃y,d'.ah[(rdC 2 1 (wB s) (wM s)).toNat]? = some y:=⟨_,zQ1 (by omega)⟩;have R9:d.ah.length<=4:=by have:=(jQ R.chk).2.1;omega
   rw[kL hx0,kL hx']at hle;rw[kL hx']at h40;rw[kL hx0,kL hx'];exact Lx B x d d' (rdC 2 1 (wB s) (wM s)).toNat _ _ (by omega) (by omega) _ w1 (HB _ hy) (HK _ hy) (HT _ hy) hB4 hd' x0 x' hx0 hx' _ (by omega) (by omega)
 by_cases h4:wA s=iO
 ·refine lZ B 0 58 false (by omega) d s hs w hT hB4 hBl (enters_of func58 (by kernel_rfl) rfl) 3 (by rw[h4];rfl)
   (after (checked d (lD d)) fun _=>bOk) _ ?_ ?_ (El (mP (gV R (En _)))) ?_
  ·rintro⟨hok,hbd⟩;exact zR h4 hbd
  ·intro hno;exact yJ h4 (fun h=>hno ⟨fun i hi=>by omega,h⟩)
  ·intro hok hbd w1 hy;refine KH (fun er he=>Jb B x d _ _ _ er (by have:=(gV R (En d)) er (kV he);omega) w1 (HB _ hy) (HW _ hy) (kV he)) (fun p hp=>?_);obtain⟨d',hd',rfl⟩:=mM hp;exact LA B x d d' _ _ _ w1 (HB _ hy) (HW _ hy) hd'
 have hE0:aZ d=0:=(cZ d).2 R;by_cases h5:wA s=su
 ·rw[zS h5]
  refine lZ B 1 59 false (by omega) d s hs w hT hB4 hBl (enters_of func59 (by kernel_rfl) rfl) 4 (by rw[h5];rfl)
   (if aM d (rdC 1 0 (wB s) (wM s))=0 then .ok (d,mK (bM d (rdC 1 0 (wB s) (wM s)).toNat)) else .error (aM d (rdC 1 0 (wB s) (wM s)))) _ ?_ ?_ ?_ ?_
  ·rintro⟨hok,hbd⟩;unfold xD;rw[qI (r:=wB s) (hok 0 (by omega)) hbd];rfl
  ·intro hno;refine FU (qJ (fun h=>hno ⟨fun i hi=>?_,h.2⟩));obtain rfl:i=0:=by omega
   exact h.1
  ·intro er he;refine⟨4, ?_,by omega⟩;unfold aM at he;rw[if_pos hE0]at he;split at he
   ·cases he
   ·split at he
    ·contradiction
    ·cases he;rfl
  ·intro hok hbd w1 hy;have a0:0<=rdC 1 0 (wB s) (wM s):=hok 0 (by omega);by_cases hin:rdC 1 0 (wB s) (wM s) < d.ah.length
   ·have hne:aM d (rdC 1 0 (wB s) (wM s))=0:=by
     unfold aM;rw[if_pos hE0,if_pos (by unfold inB;simp;omega)]
    rw[if_pos hne];obtain⟨x0,hx0⟩:∃y,d.ah[(rdC 1 0 (wB s) (wM s)).toNat]? = some y:=⟨_,zQ1 (by omega)⟩;have h40:=R.vH (rdC 1 0 (wB s) (wM s)).toNat;have htl:=Dq (fun m hm=>Ej R (k:=(rdC 1 0 (wB s) (wM s)).toNat) hm);rw[kL hx0]at h40 htl ⊢;exact LB B x d (rdC 1 0 (wB s) (wM s)).toNat _ _ (by omega) _ w1 (HB _ hy) (HW _ hy) x0 hx0 h40 (by omega)
   ·have hne:aM d (rdC 1 0 (wB s) (wM s))=4:=by
     unfold aM;rw[if_pos hE0,if_neg (by unfold inB;simp;omega)]
    rw[hne,if_neg (by decide)];exact(Jc B x d _ _ _ w1 (HB _ hy) (HW _ hy) hin).mono fun e w' ⟨h1,h2⟩=>by rw[h1];exact Em h2
 by_cases h6:wA s=sw
 ·rw[zT h6]
  refine lZ B 1 60 false (by omega) d s hs w hT hB4 hBl (enters_of func60 (by kernel_rfl) rfl) 5 (by rw[h6];rfl)
   (if aM d (rdC 1 0 (wB s) (wM s))=0 then .ok (d,dn (aQ d (rdC 1 0 (wB s) (wM s)).toNat).length++32::dn (dQ d (rdC 1 0 (wB s) (wM s)).toNat).toNat) else .error (aM d (rdC 1 0 (wB s) (wM s)))) _ ?_ ?_ ?_ ?_
  ·rintro⟨hok,hbd⟩;unfold xE;rw[qI (r:=wB s) (hok 0 (by omega)) hbd];rfl
  ·intro hno;refine FV (qJ (fun h=>hno ⟨fun i hi=>?_,h.2⟩));obtain rfl:i=0:=by omega
   exact h.1
  ·intro er he;refine⟨4, ?_,by omega⟩;unfold aM at he;rw[if_pos hE0]at he;split at he
   ·cases he
   ·split at he
    ·contradiction
    ·cases he;rfl
  ·intro hok hbd w1 hy;have a0:0<=rdC 1 0 (wB s) (wM s):=hok 0 (by omega);by_cases hin:rdC 1 0 (wB s) (wM s) < d.ah.length
   ·have hne:aM d (rdC 1 0 (wB s) (wM s))=0:=by
     unfold aM;rw[if_pos hE0,if_pos (by unfold inB;simp;omega)]
    rw[if_pos hne];obtain⟨x0,hx0⟩:∃y,d.ah[(rdC 1 0 (wB s) (wM s)).toNat]? = some y:=⟨_,zQ1 (by omega)⟩;have h40:=R.nW (rdC 1 0 (wB s) (wM s)).toNat
    obtain⟨fk,hfk,hf9⟩:∃fk:Nat,dQ d (rdC 1 0 (wB s) (wM s)).toNat=fk/\fk<=1048576:=by
     have h0:=Ae R (k:=(rdC 1 0 (wB s) (wM s)).toNat) (by omega);have h1:=rz (d:=d) (k:=(rdC 1 0 (wB s) (wM s)).toNat) (by omega);have h2:=R.clk (rdC 1 0 (wB s) (wM s)).toNat;exact⟨(dQ d (rdC 1 0 (wB s) (wM s)).toNat).toNat,by omega,by omega⟩
    have hbz:nU d (rdC 1 0 (wB s) (wM s))=fk:=by
     unfold nU;rw[if_pos hne,hx0,<-hfk];unfold dQ;rw[hx0]
    rw[KG hx0]at h40 ⊢;rw[hfk];exact LC B x d (rdC 1 0 (wB s) (wM s)).toNat _ _ (by omega) _ w1 (HB _ hy) (HW _ hy) (HT _ hy) hne x0 hx0 fk hbz (by omega) (by omega)
   ·have hne:aM d (rdC 1 0 (wB s) (wM s))=4:=by
     unfold aM;rw[if_pos hE0,if_neg (by unfold inB;simp;omega)]
    rw[hne,if_neg (by decide)];exact(Jd B x d _ _ _ 4 (by decide) w1 (HB _ hy) (HW _ hy) hne).mono fun e w' ⟨h1,h2⟩=>by rw[h1];exact Em h2
 rw[Af h4 h1 h2 h3 h5 h6];refine Lr B d s hs w hT ?_
 have q:∀(b:List UInt8),wA s≠b->(bs (wA s) == bs b)=false:=fun b hb=>by
  have e:(bs (wA s) == bs b)=((bs (wA s)).toList == (bs b).toList):=by simp[beq_toListBytes]
  rw[e,jc,jc,beq_eq_false_iff_ne];exact hb
 have q1:=q qG h1;have q2:=q r9 h2;have q3:=q sj h3;have q4:=q iO h4;have q5:=q su h5;have q6:=q sw h6;unfold bs qG at q1;unfold bs r9 at q2;unfold bs sj at q3;unfold bs iO at q4;unfold bs su at q5;unfold bs sw at q6;simp only[ruE,Instr.findNow,Instr.sameNow,bs,q1,q2,q3,q4,q5,q6]
def PlY(w:World)(x:WV)(d:Wd)(r:Except Int (Wd × List UInt8))(e:Ending)(w':World):Prop:=PlR w r e w'\/∃t,r=.ok (d,t)/\PlS w x t e w'
theorem CB(x:WV)(d:Wd)(s:List UInt8)(hs:s.length<=100000)(w:World)(hW:WAt w x d)(R:aL d) :
  Calls prog 17 #[.agg #[.slice x.ga x.gl x.gc,.slice x.na x.nl x.nc,.slice x.wa x.wl x.wc],.string (bs s)] w fun e w'=>PlY w x d (dW d s) e w':=by
 by_cases hc:s=iO
 ·subst hc;rw[zR (by rfl) (by rfl)];exact(F5 x d w hW).mono fun _ _ h=>Or.inl h
 cases hM:wM s
 ·have e:dW d s=.error 1:=by unfold dW;rw[if_neg hc,if_pos hM]
  rw[e];exact(Am x s hs w hc hM).mono fun _ _ h=>Or.inl h
 have hE0:aZ d=0:=(cZ d).2 R
 have node:∀a:Int,0<=a->aM d a=0->∃x0,d.ah[a.toNat]? = some x0:=fun a ha he=>by
  unfold aM at he;rw[if_pos hE0]at he;split at he
  ·rename_i hin;unfold inB at hin;simp at hin;exact⟨_,zQ1 (by omega)⟩
  ·cases he
 by_cases h1:wA s=qG
 ·rw[zO h1];by_cases hk:(wM (wB s)=true/\wM (wB (wB s))=true)/\0<=bZ (wA (wB s))/\0<=bZ (wA (wB (wB s)))
  ·unfold xB;rw[if_pos hk];obtain⟨⟨m1,m2⟩,n1,n2⟩:=hk;have hEr:=gV R (nH d (bZ (wA (wB s))) (bZ (wA (wB (wB s)))) false (bs (wB (wB (wB s)))))
   cases hr:checked d (dR d (bZ (wA (wB s))) (bZ (wA (wB (wB s)))) false (bs (wB (wB (wB s))))) with
   | error er =>
    have:=hEr er hr;have e2:checked d (dR d (bZ (wA (wB s))) (bZ (wA (wB (wB s)))) false ⟨(wB (wB (wB s))).toArray⟩)=.error er:=hr;rw[e2];exact(Ak x d s hs w hW hc hM h1 m1 m2 n1 n2 er (by omega) hr).mono fun _ _ h=>Or.inl h
   | ok d' =>
    have e2:checked d (dR d (bZ (wA (wB s))) (bZ (wA (wB (wB s)))) false ⟨(wB (wB (wB s))).toArray⟩)=.ok d':=hr;rw[e2];obtain⟨R',_,hnl⟩:=nN (fun h=>by cases h) hr;obtain⟨x',ck,hx',hck,hc9,hcl⟩:=qH R' hnl;have en:bZ (wA (wB s))=((bZ (wA (wB s))).toNat:Int):=by omega
    unfold after;dsimp only;rw[hcl];exact(Cz x d d' s hs w hW hc hM h1 m1 m2 (bZ (wA (wB s))).toNat en n2 (by rw[<-en];exact hr) x' hx' ck hck (by omega)).mono fun _ _ h=>Or.inl h
  ·rw[FR hk];exact(Ao x s hs w hc hM h1 hk).mono fun _ _ h=>Or.inl h
 have n2:(0<=bZ (wA (wB s))/\0<=bZ (wA (wB (wB s)))/\wM (wB (wB s))=false)\/numsL 2 (wB s)=none:=by
  by_cases h:0<=bZ (wA (wB s))/\0<=bZ (wA (wB (wB s)))/\wM (wB (wB s))=false
  ·exact .inl h
  ·exact .inr (sV h)
 have n1:(0<=bZ (wA (wB s))/\wM (wB s)=false)\/numsL 1 (wB s)=none:=by
  by_cases h:0<=bZ (wA (wB s))/\wM (wB s)=false
  ·exact .inl h
  ·exact .inr (qJ h)
 by_cases h2:wA s=r9
 ·rw[zP h2];rcases n2 with ⟨ha,hb,hm⟩ | hno
  ·have hn:=uU ha hb hm;unfold xC;rw[hn];show Calls _ _ _ _ fun e w'=>PlY w x d (after _ _) e w';have hEr:=gV R (nH d (bZ (wA (wB s))) (bZ (wA (wB (wB s)))) true ByteArray.empty)
   cases hr:checked d (dR d (bZ (wA (wB s))) (bZ (wA (wB (wB s)))) true ByteArray.empty) with
   | error er =>
    have:=hEr er hr;exact(Ap x d s hs w hW hc hM h2 _ _ hn er (by omega) hr).mono fun _ _ h=>Or.inl h
   | ok d' =>
    obtain⟨R',_,hnl⟩:=nN (fun _=>rfl) hr;obtain⟨x',ck,hx',hck,hc9,hcl⟩:=qH R' hnl;have en:bZ (wA (wB s))=((bZ (wA (wB s))).toNat:Int):=by omega
    unfold after;dsimp only;rw[hcl];exact(CG x d d' s hs w hW hc hM h2 (bZ (wA (wB s))).toNat _ (by rw[<-en];exact hn) (by rw[<-en];exact hr) x' hx' ck hck (by omega)).mono fun _ _ h=>Or.inl h
  ·rw[FT hno]
   exact(jG x s hs w hc hM h1 (fun k=>by rw[hno]at k;cases k.1) (fun k=>by rcases k.2 with e | e <;> (rw[h2]at e;exact absurd e (by decide)))).mono fun _ _ h=>Or.inl h
 by_cases h3:wA s=sj
 ·rw[zQ h3];rcases n2 with ⟨ha,hb,hm⟩ | hno
  ·have hn:=uU ha hb hm;unfold mvD;rw[hn];show Calls _ _ _ _ fun e w'=>PlY w x d (after _ _) e w';have hEr:=uV R (bZ (wA (wB s))) (bZ (wA (wB (wB s))))
   cases hr:fC d (bZ (wA (wB s))) (bZ (wA (wB (wB s)))) with
   | error er =>
    have:=hEr er hr;exact(Aq x d s hs w hW hc hM h3 _ _ hn er (by omega) hr).mono fun _ _ h=>Or.inl h
   | ok d' =>
    obtain⟨_,R',hn0,hnl,hal,hle,h40⟩:=yI hr;obtain⟨x0,hx0⟩:∃y,d.ah[(bZ (wA (wB (wB s)))).toNat]? = some y:=⟨_,zQ1 hnl⟩;obtain⟨x',hx'⟩:∃y,d'.ah[(bZ (wA (wB (wB s)))).toNat]? = some y:=⟨_,zQ1 (by omega)⟩;have en:bZ (wA (wB (wB s)))=((bZ (wA (wB (wB s)))).toNat:Int):=by omega
    unfold after;dsimp only;rw[kL hx0,kL hx']at hle;rw[kL hx']at h40;rw[kL hx0,kL hx'];exact(CJ x d d' s hs w hW hc hM h3 _ (bZ (wA (wB (wB s)))).toNat (by rw[<-en];exact hn) (by rw[<-en];exact hr) x0 x' hx0 hx' _ (by omega) (by omega)).mono fun _ _ h=>Or.inl h
  ·rw[Ny hno]
   exact(jG x s hs w hc hM h1 (fun k=>by rw[hno]at k;cases k.1) (fun k=>by rcases k.2 with e | e <;> (rw[h3]at e;exact absurd e (by decide)))).mono fun _ _ h=>Or.inl h
 by_cases h5:wA s=su
 ·rw[zS h5];rcases n1 with ⟨ha,hm⟩ | hno
  ·have hn:=qI ha hm;unfold xD;rw[hn];show Calls _ _ _ _ fun e w'=>PlY w x d (if aM d _=0 then _ else _) e w';by_cases he:aM d (bZ (wA (wB s)))=0
   ·rw[if_pos he];obtain⟨x0,hx0⟩:=node _ ha he;have en:bZ (wA (wB s))=((bZ (wA (wB s))).toNat:Int):=by omega
    have h40:=R.vH (bZ (wA (wB s))).toNat;have htl:=FP (fun m hm=>Ej R (k:=(bZ (wA (wB s))).toNat) hm);rw[kL hx0]at h40 htl ⊢;exact(CK x d s hs w hW hc hM h5 (bZ (wA (wB s))).toNat (by rw[<-en];exact hn) (by rw[<-en];exact he) x0 hx0 (by unfold iQ;omega)).mono fun _ _ h=>Or.inr ⟨_,rfl,h⟩
   ·rw[if_neg he];exact(CO x d s hs w hW hc hM h5 _ hn he).mono fun _ _ h=>Or.inl h
  ·rw[FU hno]
   exact(jG x s hs w hc hM h1 (fun k=>by rcases k.2 with e | e <;> (rw[h5]at e;exact absurd e (by decide))) (fun k=>by rw[hno]at k;cases k.1)).mono fun _ _ h=>Or.inl h
 by_cases h6:wA s=sw
 ·rw[zT h6];rcases n1 with ⟨ha,hm⟩ | hno
  ·have hn:=qI ha hm;unfold xE;rw[hn];show Calls _ _ _ _ fun e w'=>PlY w x d (if aM d _=0 then _ else _) e w';by_cases he:aM d (bZ (wA (wB s)))=0
   ·rw[if_pos he];obtain⟨x0,hx0⟩:=node _ ha he;have hnl:=bT hx0;have en:bZ (wA (wB s))=((bZ (wA (wB s))).toNat:Int):=by omega
    have h40:=R.nW (bZ (wA (wB s))).toNat
    obtain⟨fk,hfk,hf9⟩:∃fk:Nat,dQ d (bZ (wA (wB s))).toNat=fk/\fk<=1048576:=by
     have h0:=Ae R hnl;have h1:=rz (d:=d) hnl;have h2:=R.clk (bZ (wA (wB s))).toNat;exact⟨(dQ d (bZ (wA (wB s))).toNat).toNat,by omega,by omega⟩
    have hfz:p8 d (bZ (wA (wB s))).toNat x0=fk:=by rw[<-hfk];unfold dQ;rw[hx0]
    rw[KG hx0]at h40 ⊢;rw[hfk];exact(CP x d s hs w hW hc hM h6 (bZ (wA (wB s))).toNat (by rw[<-en];exact hn) (by rw[<-en];exact he) x0 hx0 (rE R hx0) fk hfz (by omega) (by omega)).mono fun _ _ h=>Or.inr ⟨_,rfl,h⟩
   ·rw[if_neg he];exact(CQ x d s hs w hW hc hM h6 _ hn he).mono fun _ _ h=>Or.inl h
  ·rw[FV hno]
   exact(jG x s hs w hc hM h1 (fun k=>by rcases k.2 with e | e <;> (rw[h6]at e;exact absurd e (by decide))) (fun k=>by rw[hno]at k;cases k.1)).mono fun _ _ h=>Or.inl h
 have e:dW d s=.error 1:=by
  unfold dW;rw[if_neg hc,if_neg (by rw[hM];decide),if_neg h1,if_neg h2,if_neg h3,if_neg h5,if_neg h6]
 rw[e]
 exact(jG x s hs w hc hM h1 (fun k=>by rcases k.2 with e | e;exact h2 e;exact h3 e) (fun k=>by rcases k.2 with e | e;exact h5 e;exact h6 e)).mono fun _ _ h=>Or.inl h
end Go.Proofs.YtediempflagfkaaGreatDoor
