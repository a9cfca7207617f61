/- Lemmas. -/
import Derived.Test.YtediempflagfkaaGreatDoorRange
set_option linter.unusedVariables false
set_option linter.unusedSimpArgs false
set_option linter.unnecessarySimpa false
set_option maxHeartbeats 2000000
namespace Go.Proofs.YtediempflagfkaaGreatDoor
open _root_.Go.Proofs.Tryz hiding checked
set_option maxRecDepth 8000
open Go.RowKit Go.Shelf
def EN(w w':World)(a':Option Addr)(len' cap':Nat)(m:Mg)(ms:List Mg):Prop:=len'<=cap'/\w'.ownsRow w.heap.size 95 5 (.slice a' len' cap') len' (flat (gK m ms))
theorem qY{w w':World}{m:Mg}{ms:List Mg}(h:gK m ms=[]):EN w w' none 0 0 m ms:=⟨Nat.le_refl _,by rw[h];exact World.ownsRow_nil _ _ _ _⟩
theorem jr{w W:World}{base:Nat}{v:Value}{m:Mg}{ms:List Mg}{p n:Nat}{l:List Value}(hb:w.heap.size<=base)(hE:dV m ms=0)(hp:dK m ms=p)(dY:ms.length < 40)(h:W.ownsRow base 95 5 v n l)(hn:n=ms.length+1)(hl:l=flat (ms.take p)++m.cells++flat (ms.drop p)) :
  ∃a' len' cap',v=.slice a' len' cap'/\gD W a' len' (gK m ms)/\EN w W a' len' cap' m ms:=by
 have e:flat (gK m ms)=l:=by unfold gK;rw[if_pos hE,hp,fM,fM,hl];simp[flat]
 have hn':n=(gK m ms).length:=by rw[lH m ms hE];exact hn
 rw[<-e,hn']at h;obtain⟨a,cap,rfl,hM⟩:=Gy h (by rw[lH m ms hE];omega);refine⟨_,_,_,rfl,hM, ?_,lC hb h⟩;rcases h.2 with ⟨h1,h2⟩ | ⟨g,cap',cur,h1,h2,h3,h4,_⟩
 ·rw[lH m ms hE]at h2;omega
 ·simp only[Value.slice.injEq]at h1;rw[h1.2.2];exact h4
theorem MK(a:Option Addr)(len cap:Nat)(ms:List Mg)(m:Mg)(w:World)(hM:gD w a len ms)(hcap:len<=cap)(h0:0 < len) :
  Calls prog 152 #[.slice a len cap,.agg #[.int .i64 m.fr,.int .i64 m.gr,.int .i64 m.st,.bool m.nul,.string m.body]] w fun e w'=>∃a' len' cap',e=.returned (.tuple #[.slice a' len' cap',.int .i64 (dV m ms)])/\gD w' a' len' (gK m ms)/\EN w w' a' len' cap' m ms/\ak w w':=by
 obtain⟨i0,hi,hz0,hz1,hz2⟩:=info_parts Tryz.uS;obtain⟨w1,hw1⟩:∃w1,w.alloc (.cells #[.int .i64 m.fr,.int .i64 m.gr,.int .i64 m.st,.bool m.nul,.string m.body] 95)=w1:=⟨_,rfl⟩;have hS1:=aF hw1;have hsz:w1.heap.size=w.heap.size+1:=by rw[<-hw1];simp
 have hB:cO w1 w.heap.size 0 m:=by rw[<-hw1];constructor <;> simp[go_sem]
 have bq:=hM.bq;have dY:=hM.dY;subst bq;cases hr:bC ms
 ·have HE:Hid (dV m ms=1):=by unfold Hid dV;rw[if_pos hr]
  have HL:Hid (gK m ms=[]):=nP m ms (by rw[HE.out];decide);have HR:Hid (bC ms=false):=hr;clear hr
  go_enter func152,ntmps152
  go_wp2_with fail
  refine(nO _ _ _ ms _ (hM.ay hS1)).mono ?_;rw[HR.out];rintro e w2 ⟨rfl,hS2⟩
  go_wp2_with fail
  go_ret2
  exact⟨none,0,0,by rw[HE.out];rfl,by rw[HL.out];exact gJ,qY HL.out,hS1.trans hS2⟩
 have HR:Hid (bC ms=true):=hr;have hEr:¬ bC ms=false:=by rw[hr];decide
 clear hr;by_cases hl:40<=ms.length
 ·have HE:Hid (dV m ms=2):=by unfold Hid dV;rw[if_neg hEr,if_pos hl]
  have HL:Hid (gK m ms=[]):=nP m ms (by rw[HE.out];decide);clear hEr
  go_enter func152,ntmps152
  go_wp2_with fail
  refine(nO _ _ _ ms _ (hM.ay hS1)).mono ?_;rw[HR.out];rintro e w2 ⟨rfl,hS2⟩
  go_wp2_with fail
  go_ret2
  exact⟨none,0,0,by rw[HE.out];rfl,by rw[HL.out];exact gJ,qY HL.out,hS1.trans hS2⟩
 have HE0:Hid (dV m ms=match ms[dK m ms]? with | some x=>if lessM m x then 0 else 1 | none=>0):=by unfold Hid dV;rw[if_neg hEr,if_neg hl];rfl
 clear hEr
 go_enter func152,ntmps152
 go_wp2_with fail
 refine(nO _ _ _ ms _ (hM.ay hS1)).mono ?_;rw[HR.out];rintro e w2 ⟨rfl,hS2⟩;have hg:∀o:Nat,w2.cell? ⟨w.heap.size,o,none⟩=w1.cell? ⟨w.heap.size,o,none⟩:=fun o=>hS2.av (by omega) o;obtain⟨f0,f1,f2,f3,f4⟩:=hB;simp only[Nat.zero_add]at f0 f1 f2 f3 f4;have g0:=f0;have g1:=f1;have g2:=f2;have g3:=f3;have g4:=f4;rw[<-hg]at f0 f1 f2 f3 f4;clear hg hw1
 go_wp2_with fail
 refine(vk _ _ _ ms m _ (hM.ay (hS1.trans hS2))).mono ?_;rintro e w3 ⟨rfl,hS3⟩;have nY:=hS2.trans hS3;have ML:=mo m ms;obtain⟨p,hpe⟩:∃p,dK m ms=p:=⟨_,rfl⟩
 have HE:Hid (dV m ms=match ms[p]? with | some x=>if lessM m x then 0 else 1 | none=>0):=by rw[<-hpe];exact HE0.out
 rw[hpe]at ML ⊢;have HP:Hid (dK m ms=p):=hpe;clear hpe f0 f1 f2 f3 f4 hS2 hS3 HE0;have hne:Nonempty (Later w1):=⟨⟨w1,ak.refl w1⟩⟩;have hg2:∀(x:Later w1) (o:Nat),x.w.cell? ⟨w.heap.size,o,none⟩=w1.cell? ⟨w.heap.size,o,none⟩:=fun x o=>x.cell (by omega);by_cases hp:p < ms.length
 ·obtain⟨b,off,rfl,hb,hcell⟩:=hM.cells (by omega);obtain⟨x,hx⟩:∃x,ms[p]? = some x:=⟨_,zQ1 hp⟩;obtain⟨d0,d1,d2,d3,d4⟩:=dM hcell p x hx;have hg:∀(x:Later w1) (o:Nat),x.w.cell? ⟨b,o,none⟩=w.cell? ⟨b,o,none⟩:=fun x o=>(x.cell (by omega)).trans (hS1.below.cell (p:=⟨b,o,none⟩) hb);have HE2:Hid (dV m ms=if lessM m x then 0 else 1):=by unfold Hid;rw[HE.out,hx]
  clear HE hx;cases hlx:lessM m x
  ·have HV:Hid (dV m ms=1):=by unfold Hid;rw[HE2.out,hlx];rfl
   have HL:Hid (gK m ms=[]):=nP m ms (by rw[HV.out];decide);clear HE2
   go_wp2_with fail
   refine aH (by kernel_rfl) (by kernel_rfl) nY ?_
   repeat (go_big_quiet_step ((go_at_call 159;exact Later.call (rJ w1 m x _ hlx))))
   refine wpQuiet_nil ?_;intro w9 hS9
   go_wp2_with fail
   go_ret2
   exact⟨none,0,0,by rw[HV.out];rfl,by rw[HL.out];exact gJ,qY HL.out,hS1.trans hS9⟩
  ·have HV:Hid (dV m ms=0):=by unfold Hid;rw[HE2.out,hlx];rfl
   clear HE2
   go_wp2_with fail
   refine aH (by kernel_rfl) (by kernel_rfl) nY ?_
   repeat (go_big_quiet_step ((go_at_call 159;exact Later.call (rJ w1 m x _ hlx))))
   refine wpQuiet_nil ?_;intro w9 hS9;clear hg hg2 d0 d1 d2 d3 d4
   go_wp2_with (first
    | (at_make;refine wpList_make_own _ rfl _ _ 62 rfl w1.heap.size 95 i0 (.agg #[.int .i64 0,.int .i64 0,.int .i64 0,.bool false,.string ByteArray.empty]) 5 underlying62 hi hz0 hz1 .i64 .i64 _ (ms.length+1) rfl rfl (by simp) (by rw[hz2];omega) (by unfold maxLen;omega) hS9.size ?_;intro w10 hown hgr;have oG:ak w1 w10:=hS9.grown hgr (fun k e=>by cases e))
    | (at_builtin;refine wpList_append_own _ rfl _ _ 62 rfl w1.heap.size 95 i0 (.agg #[.int .i64 0,.int .i64 0,.int .i64 0,.bool false,.string ByteArray.empty]) 5 48 underlying62 hi hz0 hz1 hz2 rfl (by decide) _ _ _ rfl hown3 ⟨b,off+p*5,none⟩ (ms.length - p) (cap - p) (flat (ms.drop p)) rfl (by rw[dA,List.length_drop]) (fun j u hj=>by rw[tO,dO.av (by omega),hS1.av hb,Nat.add_assoc];exact hcell _ _ (kE ML hj)) (fun u hu=>dN u _ hu) (by unfold maxLen;omega) (by omega) dO.size ?_;intro v4 w13 uh Bv _;have uj:ak w1 w13:=dO.grown Bv (bP hown3))
    | (at_builtin;refine wpList_append_own _ rfl _ _ 62 rfl w1.heap.size 95 i0 (.agg #[.int .i64 0,.int .i64 0,.int .i64 0,.bool false,.string ByteArray.empty]) 5 48 underlying62 hi hz0 hz1 hz2 rfl (by decide) _ _ _ rfl (hown2.alloc _) ⟨w11.heap.size,0,none⟩ 1 1 m.cells rfl rfl (iX _ _ _) (fun u hu=>dN u [m] (by simpa[flat] using hu)) (by unfold maxLen;omega) (by omega) (by have:=rH.size;simp;omega) ?_;intro v3 w12 hown3 lu _;have dO:ak w1 w12:=(rH.alloc _).grown lu (bP hown2))
    | (at_builtin;refine wpList_append_own _ rfl _ _ 62 rfl w1.heap.size 95 i0 (.agg #[.int .i64 0,.int .i64 0,.int .i64 0,.bool false,.string ByteArray.empty]) 5 48 underlying62 hi hz0 hz1 hz2 rfl (by decide) _ _ _ rfl hown ⟨b,off,none⟩ p cap (flat (ms.take p)) rfl (by rw[dA,List.length_take,Nat.min_eq_left ML]) (fun j u hj=>by rw[tO,oG.av (by omega),hS1.av hb];exact hcell _ _ (qm hj)) (fun u hu=>dN u _ hu) (by unfold maxLen;omega) (by omega) oG.size ?_;intro v2 w11 hown2 Ov _;have rH:ak w1 w11:=oG.grown Ov (bP hown);have hgb:∀o:Nat,w11.cell? ⟨w.heap.size,o,none⟩=w1.cell? ⟨w.heap.size,o,none⟩:=fun o=>rH.av (by omega) o))
   obtain⟨a',len',cap',rfl,hMs,hcs⟩:=jr hS1.size HV.out HP.out (by omega) uh (by omega) (by simp)
   go_ret2
   exact⟨a',len',cap',by rw[HV.out];rfl,hMs,hcs,hS1.trans uj⟩
 ·have hpl:p=ms.length:=by omega
  have HV:Hid (dV m ms=0):=by unfold Hid;rw[HE.out,hpl,List.getElem?_eq_none (Nat.le_refl _)]
  have HPL:Hid (p=ms.length):=hpl;have hd:decide ((p:Int) < (ms.length:Int))=false:=by simpa using hp
  have hd':decide (p < ms.length)=false:=by simpa using hp
  clear HE hpl
  go_wp2_with fail
  refine aH (by kernel_rfl) (by kernel_rfl) nY ?_
  repeat (go_big_quiet_step (fail))
  refine wpQuiet_nil ?_;intro w9 hS9;clear hg2;by_cases hcp:cap=p
  ·obtain rfl:p=cap:=hcp.symm;obtain⟨b,off,rfl,hb,hcell⟩:=hM.cells h0
   go_wp2_with (first
    | (at_make;refine wpList_make_own _ rfl _ _ 62 rfl w1.heap.size 95 i0 (.agg #[.int .i64 0,.int .i64 0,.int .i64 0,.bool false,.string ByteArray.empty]) 5 underlying62 hi hz0 hz1 .i64 .i64 _ (ms.length+1) rfl rfl (by simp) (by rw[hz2];omega) (by unfold maxLen;omega) hS9.size ?_;intro w10 hown hgr;have oG:ak w1 w10:=hS9.grown hgr (fun k e=>by cases e))
    | (at_builtin;refine wpList_append_own _ rfl _ _ 62 rfl w1.heap.size 95 i0 (.agg #[.int .i64 0,.int .i64 0,.int .i64 0,.bool false,.string ByteArray.empty]) 5 48 underlying62 hi hz0 hz1 hz2 rfl (by decide) _ _ _ rfl hown3 ⟨b,off,none⟩ 0 0 [] rfl rfl (fun j u hj=>by simp at hj) (fun u hu=>by cases hu) (by unfold maxLen;omega) (by omega) dO.size ?_;intro v4 w13 uh Bv _;have uj:ak w1 w13:=dO.grown Bv (bP hown3))
    | (at_builtin;refine wpList_append_own _ rfl _ _ 62 rfl w1.heap.size 95 i0 (.agg #[.int .i64 0,.int .i64 0,.int .i64 0,.bool false,.string ByteArray.empty]) 5 48 underlying62 hi hz0 hz1 hz2 rfl (by decide) _ _ _ rfl (hown2.alloc _) ⟨w11.heap.size,0,none⟩ 1 1 m.cells rfl rfl (iX _ _ _) (fun u hu=>dN u [m] (by simpa[flat] using hu)) (by unfold maxLen;omega) (by omega) (by have:=rH.size;simp;omega) ?_;intro v3 w12 hown3 lu _;have dO:ak w1 w12:=(rH.alloc _).grown lu (bP hown2))
    | (at_builtin;refine wpList_append_own _ rfl _ _ 62 rfl w1.heap.size 95 i0 (.agg #[.int .i64 0,.int .i64 0,.int .i64 0,.bool false,.string ByteArray.empty]) 5 48 underlying62 hi hz0 hz1 hz2 rfl (by decide) _ _ _ rfl hown ⟨b,off,none⟩ p p (flat (ms.take p)) rfl (by rw[dA,List.length_take,Nat.min_eq_left ML]) (fun j u hj=>by rw[tO,oG.av (by omega),hS1.av hb];exact hcell _ _ (qm hj)) (fun u hu=>dN u _ hu) (by unfold maxLen;omega) (by omega) oG.size ?_;intro v2 w11 hown2 Ov _;have rH:ak w1 w11:=oG.grown Ov (bP hown);have hgb:∀o:Nat,w11.cell? ⟨w.heap.size,o,none⟩=w1.cell? ⟨w.heap.size,o,none⟩:=fun o=>rH.av (by omega) o))
   obtain⟨a',len',cap',rfl,hMs,hcs⟩:=jr hS1.size HV.out HP.out (by omega) uh (by have:=HPL.out;omega) (by rw[List.drop_eq_nil_of_le (Nat.le_of_eq HPL.out.symm)];simp[flat])
   go_ret2
   exact⟨a',len',cap',by rw[HV.out];rfl,hMs,hcs,hS1.trans uj⟩
  ·have hcp2:p < cap:=by have:=HPL.out;omega
   obtain⟨b,off,rfl,hb,hcell⟩:=hM.cells h0
   go_wp2_with (first
    | (at_make;refine wpList_make_own _ rfl _ _ 62 rfl w1.heap.size 95 i0 (.agg #[.int .i64 0,.int .i64 0,.int .i64 0,.bool false,.string ByteArray.empty]) 5 underlying62 hi hz0 hz1 .i64 .i64 _ (ms.length+1) rfl rfl (by simp) (by rw[hz2];omega) (by unfold maxLen;omega) hS9.size ?_;intro w10 hown hgr;have oG:ak w1 w10:=hS9.grown hgr (fun k e=>by cases e))
    | (at_builtin;refine wpList_append_own _ rfl _ _ 62 rfl w1.heap.size 95 i0 (.agg #[.int .i64 0,.int .i64 0,.int .i64 0,.bool false,.string ByteArray.empty]) 5 48 underlying62 hi hz0 hz1 hz2 rfl (by decide) _ _ _ rfl hown3 ⟨b,off+p*5,none⟩ (ms.length - p) (cap - p) (flat (ms.drop p)) rfl (by rw[dA,List.length_drop]) (fun j u hj=>by rw[tO,dO.av (by omega),hS1.av hb,Nat.add_assoc];exact hcell _ _ (kE ML hj)) (fun u hu=>dN u _ hu) (by unfold maxLen;omega) (by omega) dO.size ?_;intro v4 w13 uh Bv _;have uj:ak w1 w13:=dO.grown Bv (bP hown3))
    | (at_builtin;refine wpList_append_own _ rfl _ _ 62 rfl w1.heap.size 95 i0 (.agg #[.int .i64 0,.int .i64 0,.int .i64 0,.bool false,.string ByteArray.empty]) 5 48 underlying62 hi hz0 hz1 hz2 rfl (by decide) _ _ _ rfl (hown2.alloc _) ⟨w11.heap.size,0,none⟩ 1 1 m.cells rfl rfl (iX _ _ _) (fun u hu=>dN u [m] (by simpa[flat] using hu)) (by unfold maxLen;omega) (by omega) (by have:=rH.size;simp;omega) ?_;intro v3 w12 hown3 lu _;have dO:ak w1 w12:=(rH.alloc _).grown lu (bP hown2))
    | (at_builtin;refine wpList_append_own _ rfl _ _ 62 rfl w1.heap.size 95 i0 (.agg #[.int .i64 0,.int .i64 0,.int .i64 0,.bool false,.string ByteArray.empty]) 5 48 underlying62 hi hz0 hz1 hz2 rfl (by decide) _ _ _ rfl hown ⟨b,off,none⟩ p cap (flat (ms.take p)) rfl (by rw[dA,List.length_take,Nat.min_eq_left ML]) (fun j u hj=>by rw[tO,oG.av (by omega),hS1.av hb];exact hcell _ _ (qm hj)) (fun u hu=>dN u _ hu) (by unfold maxLen;omega) (by omega) oG.size ?_;intro v2 w11 hown2 Ov _;have rH:ak w1 w11:=oG.grown Ov (bP hown);have hgb:∀o:Nat,w11.cell? ⟨w.heap.size,o,none⟩=w1.cell? ⟨w.heap.size,o,none⟩:=fun o=>rH.av (by omega) o))
   obtain⟨a',len',cap',rfl,hMs,hcs⟩:=jr hS1.size HV.out HP.out (by omega) uh (by omega) (by simp)
   go_ret2
   exact⟨a',len',cap',by rw[HV.out];rfl,hMs,hcs,hS1.trans uj⟩
theorem MN(a:Option Addr)(cap:Nat)(m:Mg)(w:World) :
  Calls prog 152 #[.slice a 0 cap,.agg #[.int .i64 m.fr,.int .i64 m.gr,.int .i64 m.st,.bool m.nul,.string m.body]] w fun e w'=>∃a' len' cap',e=.returned (.tuple #[.slice a' len' cap',.int .i64 (dV m [])])/\gD w' a' len' (gK m [])/\EN w w' a' len' cap' m []/\ak w w':=by
 obtain⟨i0,hi,hz0,hz1,hz2⟩:=info_parts Tryz.uS;obtain⟨w1,hw1⟩:∃w1,w.alloc (.cells #[.int .i64 m.fr,.int .i64 m.gr,.int .i64 m.st,.bool m.nul,.string m.body] 95)=w1:=⟨_,rfl⟩;have hS1:=aF hw1;have hsz:w1.heap.size=w.heap.size+1:=by rw[<-hw1];simp
 have hB:cO w1 w.heap.size 0 m:=by rw[<-hw1];constructor <;> simp[go_sem]
 obtain⟨g0,g1,g2,g3,g4⟩:=hB;simp only[Nat.zero_add]at g0 g1 g2 g3 g4
 cases a with
 | none =>
  go_enter func152,ntmps152
  go_wp2_with fail
  refine(nO _ _ _ [] _ gJ).mono ?_;rw[show bC []=true from rfl];rintro e w2 ⟨rfl,hS2⟩;have hg:∀o:Nat,w2.cell? ⟨w.heap.size,o,none⟩=w1.cell? ⟨w.heap.size,o,none⟩:=fun o=>hS2.av (by omega) o;have f0:=(hg 0).trans g0;have f1:=(hg 1).trans g1;have f2:=(hg 2).trans g2;have f3:=(hg 3).trans g3;have f4:=(hg 4).trans g4;clear hg hw1
  go_wp2_with fail
  refine(vk _ _ _ [] m _ gJ).mono ?_;rw[show dK m []=0 from rfl];rintro e w3 ⟨rfl,hS3⟩;have nY:=hS2.trans hS3;clear f0 f1 f2 f3 f4 hS2 hS3;have hne:Nonempty (Later w1):=⟨⟨w1,ak.refl w1⟩⟩
  go_wp2_with fail
  refine aH (by kernel_rfl) (by kernel_rfl) nY ?_
  repeat (go_big_quiet_step (fail))
  refine wpQuiet_nil ?_;intro w9 hS9;clear nY
  go_wp2_with (first
   | (at_make;refine wpList_make_own _ rfl _ _ 62 rfl w1.heap.size 95 i0 (.agg #[.int .i64 0,.int .i64 0,.int .i64 0,.bool false,.string ByteArray.empty]) 5 underlying62 hi hz0 hz1 .i64 .i64 _ 1 rfl rfl (by simp) (by rw[hz2];omega) (by unfold maxLen;omega) hS9.size ?_;intro w10 hown hgr;have oG:ak w1 w10:=hS9.grown hgr (fun k e=>by cases e);have hgb:∀o:Nat,w10.cell? ⟨w.heap.size,o,none⟩=w1.cell? ⟨w.heap.size,o,none⟩:=fun o=>oG.av (by omega) o)
   | (at_builtin;refine wpList_append_own _ rfl _ _ 62 rfl w1.heap.size 95 i0 (.agg #[.int .i64 0,.int .i64 0,.int .i64 0,.bool false,.string ByteArray.empty]) 5 48 underlying62 hi hz0 hz1 hz2 rfl (by decide) _ _ _ rfl (hown.alloc _) ⟨w10.heap.size,0,none⟩ 1 1 m.cells rfl rfl (iX _ _ _) (fun u hu=>dN u [m] (by simpa[flat] using hu)) (by unfold maxLen;omega) (by omega) (by have:=oG.size;simp;omega) ?_;intro v3 w12 hown3 lu _;have dO:ak w1 w12:=(oG.alloc _).grown lu (bP hown);obtain⟨g',cap',rfl⟩:=ownsRow_succ hown3;have hcp:1<=cap':=kW hown3))
  obtain⟨a',len',um,e1,hMs,hcs⟩:=jr hS1.size (m:=m) (ms:=[]) (p:=0) rfl rfl (by simp) hown3 (by simp) (by simp[flat])
  go_ret2
  exact⟨a',len',um,by rw[<-e1];rfl,hMs,hcs,hS1.trans dO⟩
 | some x =>
  by_cases hc0:cap=0
  ·subst hc0
   go_enter func152,ntmps152
   go_wp2_with fail
   refine(nO _ _ _ [] _ gJ).mono ?_;rw[show bC []=true from rfl];rintro e w2 ⟨rfl,hS2⟩;have hg:∀o:Nat,w2.cell? ⟨w.heap.size,o,none⟩=w1.cell? ⟨w.heap.size,o,none⟩:=fun o=>hS2.av (by omega) o;have f0:=(hg 0).trans g0;have f1:=(hg 1).trans g1;have f2:=(hg 2).trans g2;have f3:=(hg 3).trans g3;have f4:=(hg 4).trans g4;clear hg hw1
   go_wp2_with fail
   refine(vk _ _ _ [] m _ gJ).mono ?_;rw[show dK m []=0 from rfl];rintro e w3 ⟨rfl,hS3⟩;have nY:=hS2.trans hS3;clear f0 f1 f2 f3 f4 hS2 hS3;have hne:Nonempty (Later w1):=⟨⟨w1,ak.refl w1⟩⟩
   go_wp2_with fail
   refine aH (by kernel_rfl) (by kernel_rfl) nY ?_
   repeat (go_big_quiet_step (fail))
   refine wpQuiet_nil ?_;intro w9 hS9;clear nY
   go_wp2_with (first
    | (at_make;refine wpList_make_own _ rfl _ _ 62 rfl w1.heap.size 95 i0 (.agg #[.int .i64 0,.int .i64 0,.int .i64 0,.bool false,.string ByteArray.empty]) 5 underlying62 hi hz0 hz1 .i64 .i64 _ 1 rfl rfl (by simp) (by rw[hz2];omega) (by unfold maxLen;omega) hS9.size ?_;intro w10 hown hgr;have oG:ak w1 w10:=hS9.grown hgr (fun k e=>by cases e);have hgb:∀o:Nat,w10.cell? ⟨w.heap.size,o,none⟩=w1.cell? ⟨w.heap.size,o,none⟩:=fun o=>oG.av (by omega) o)
    | (at_builtin;refine wpList_append_own _ rfl _ _ 62 rfl w1.heap.size 95 i0 (.agg #[.int .i64 0,.int .i64 0,.int .i64 0,.bool false,.string ByteArray.empty]) 5 48 underlying62 hi hz0 hz1 hz2 rfl (by decide) _ _ _ rfl (hown.alloc _) ⟨w10.heap.size,0,none⟩ 1 1 m.cells rfl rfl (iX _ _ _) (fun u hu=>dN u [m] (by simpa[flat] using hu)) (by unfold maxLen;omega) (by omega) (by have:=oG.size;simp;omega) ?_;intro v3 w12 hown3 lu _;have dO:ak w1 w12:=(oG.alloc _).grown lu (bP hown);obtain⟨g',cap',rfl⟩:=ownsRow_succ hown3;have hcp:1<=cap':=kW hown3))
   obtain⟨a',len',um,e1,hMs,hcs⟩:=jr hS1.size (m:=m) (ms:=[]) (p:=0) rfl rfl (by simp) hown3 (by simp) (by simp[flat])
   go_ret2
   exact⟨a',len',um,by rw[<-e1];rfl,hMs,hcs,hS1.trans dO⟩
  ·have hc1:0 < cap:=by omega
   go_enter func152,ntmps152
   go_wp2_with fail
   refine(nO _ _ _ [] _ gJ).mono ?_;rw[show bC []=true from rfl];rintro e w2 ⟨rfl,hS2⟩;have hg:∀o:Nat,w2.cell? ⟨w.heap.size,o,none⟩=w1.cell? ⟨w.heap.size,o,none⟩:=fun o=>hS2.av (by omega) o;have f0:=(hg 0).trans g0;have f1:=(hg 1).trans g1;have f2:=(hg 2).trans g2;have f3:=(hg 3).trans g3;have f4:=(hg 4).trans g4;clear hg hw1
   go_wp2_with fail
   refine(vk _ _ _ [] m _ gJ).mono ?_;rw[show dK m []=0 from rfl];rintro e w3 ⟨rfl,hS3⟩;have nY:=hS2.trans hS3;clear f0 f1 f2 f3 f4 hS2 hS3;have hne:Nonempty (Later w1):=⟨⟨w1,ak.refl w1⟩⟩
   go_wp2_with fail
   refine aH (by kernel_rfl) (by kernel_rfl) nY ?_
   repeat (go_big_quiet_step (fail))
   refine wpQuiet_nil ?_;intro w9 hS9;clear nY
   go_wp2_with (first
    | (at_make;refine wpList_make_own _ rfl _ _ 62 rfl w1.heap.size 95 i0 (.agg #[.int .i64 0,.int .i64 0,.int .i64 0,.bool false,.string ByteArray.empty]) 5 underlying62 hi hz0 hz1 .i64 .i64 _ 1 rfl rfl (by simp) (by rw[hz2];omega) (by unfold maxLen;omega) hS9.size ?_;intro w10 hown hgr;have oG:ak w1 w10:=hS9.grown hgr (fun k e=>by cases e);have hgb:∀o:Nat,w10.cell? ⟨w.heap.size,o,none⟩=w1.cell? ⟨w.heap.size,o,none⟩:=fun o=>oG.av (by omega) o)
    | (at_builtin;refine wpList_append_own _ rfl _ _ 62 rfl w1.heap.size 95 i0 (.agg #[.int .i64 0,.int .i64 0,.int .i64 0,.bool false,.string ByteArray.empty]) 5 48 underlying62 hi hz0 hz1 hz2 rfl (by decide) _ _ _ rfl (hown.alloc _) ⟨w10.heap.size,0,none⟩ 1 1 m.cells rfl rfl (iX _ _ _) (fun u hu=>dN u [m] (by simpa[flat] using hu)) (by unfold maxLen;omega) (by omega) (by have:=oG.size;simp;omega) ?_;intro v3 w12 hown3 lu _;have dO:ak w1 w12:=(oG.alloc _).grown lu (bP hown);obtain⟨g',cap',rfl⟩:=ownsRow_succ hown3;have hcp:1<=cap':=kW hown3))
   obtain⟨a',len',um,e1,hMs,hcs⟩:=jr hS1.size (m:=m) (ms:=[]) (p:=0) rfl rfl (by simp) hown3 (by simp) (by simp[flat])
   go_ret2
   exact⟨a',len',um,by rw[<-e1];rfl,hMs,hcs,hS1.trans dO⟩
theorem Ow(a:Option Addr)(len cap:Nat)(ms:List Mg)(m:Mg)(w:World)(hM:gD w a len ms)(hcap:len<=cap) :
  Calls prog 152 #[.slice a len cap,.agg #[.int .i64 m.fr,.int .i64 m.gr,.int .i64 m.st,.bool m.nul,.string m.body]] w fun e w'=>∃a' len' cap',e=.returned (.tuple #[.slice a' len' cap',.int .i64 (dV m ms)])/\gD w' a' len' (gK m ms)/\EN w w' a' len' cap' m ms/\ak w w':=by
 by_cases h0:0 < len
 ·exact MK a len cap ms m w hM hcap h0
 ·have hl:=hM.bq;obtain rfl:len=0:=by omega
  obtain rfl:ms=[]:=zQ6 hl;exact MN a cap m w
set_option maxRecDepth 8000 in
theorem Ht(a:Option Addr)(len cap:Nat)(ms:List Mg)(m:Mg)(w:World)(hM:gD w a len ms)(hcap:len<=cap)(h0:0 < len) :
  Calls prog 115 #[.slice a len cap,.agg #[.int .i64 m.fr,.int .i64 m.gr,.int .i64 m.st,.bool m.nul,.string m.body]] w fun e w'=>∃a' len' cap',e=.returned (.tuple #[.slice a' len' cap',.int .i64 (dV m ms)])/\gD w' a' len' (gK m ms)/\EN w w' a' len' cap' m ms/\ak w w':=by
 obtain⟨i0,hi,hz0,hz1,hz2⟩:=info_parts Tryz.uS;obtain⟨w1,hw1⟩:∃w1,w.alloc (.cells #[.int .i64 m.fr,.int .i64 m.gr,.int .i64 m.st,.bool m.nul,.string m.body] 95)=w1:=⟨_,rfl⟩;have hS1:=aF hw1;have hsz:w1.heap.size=w.heap.size+1:=by rw[<-hw1];simp
 have hB:cO w1 w.heap.size 0 m:=by rw[<-hw1];constructor <;> simp[go_sem]
 have bq:=hM.bq;have dY:=hM.dY;subst bq;cases hr:bC ms
 ·have HE:Hid (dV m ms=1):=by unfold Hid dV;rw[if_pos hr]
  have HL:Hid (gK m ms=[]):=nP m ms (by rw[HE.out];decide);have HR:Hid (bC ms=false):=hr;clear hr
  go_enter func115,ntmps115
  go_wp2_with fail
  refine(iF _ _ _ ms _ (hM.ay hS1)).mono ?_;rw[HR.out];rintro e w2 ⟨rfl,hS2⟩
  go_wp2_with fail
  go_ret2
  exact⟨none,0,0,by rw[HE.out];rfl,by rw[HL.out];exact gJ,qY HL.out,hS1.trans hS2⟩
 have HR:Hid (bC ms=true):=hr;have hEr:¬ bC ms=false:=by rw[hr];decide
 clear hr;by_cases hl:40<=ms.length
 ·have HE:Hid (dV m ms=2):=by unfold Hid dV;rw[if_neg hEr,if_pos hl]
  have HL:Hid (gK m ms=[]):=nP m ms (by rw[HE.out];decide);clear hEr
  go_enter func115,ntmps115
  go_wp2_with fail
  refine(iF _ _ _ ms _ (hM.ay hS1)).mono ?_;rw[HR.out];rintro e w2 ⟨rfl,hS2⟩
  go_wp2_with fail
  go_ret2
  exact⟨none,0,0,by rw[HE.out];rfl,by rw[HL.out];exact gJ,qY HL.out,hS1.trans hS2⟩
 have HEr:Hid (¬ bC ms=false):=hEr;clear hEr;obtain⟨g0,g1,g2,g3,g4⟩:=hB;simp only[Nat.zero_add]at g0 g1 g2 g3 g4;obtain⟨b,off,rfl,hb,hcell⟩:=hM.cells h0
 go_enter func115,ntmps115
 go_wp2_with fail
 refine(iF _ _ _ ms _ (hM.ay hS1)).mono ?_;rw[HR.out];rintro e w2 ⟨rfl,hS2⟩;clear hw1
 go_wp2_with fail
 go_loopw [6,7] (fun v i wr=>(∃k:Nat,k<=dK m ms/\i=.int .i64 k/\wr.ownsRow w1.heap.size 95 5 v k (flat (ms.take k)))/\ak w1 wr) (fun _ i _=>ms.length - (intOf i).toNat)
 case atStart=>exact⟨⟨0,by omega,rfl,World.ownsRow_nil _ _ _ _⟩,hS2⟩
 case round =>
  obtain⟨⟨k,hk,rfl,hown⟩,hS⟩:=hrel;obtain⟨va,Ph,rfl,hvc⟩:=ownsRow_form hown;have HK:Hid (k<=dK m ms):=hk;have hkl:k<=ms.length:=zQ5 hk (mo m ms);have hne:Nonempty (Later wr):=⟨⟨wr,ak.refl wr⟩⟩;have hg:∀(x:Later wr) (o:Nat),x.w.cell? ⟨b,o,none⟩=w.cell? ⟨b,o,none⟩:=fun x o=>Later.old (hS1.trans hS) x o hb;have hg2:∀(x:Later wr) (o:Nat),x.w.cell? ⟨w.heap.size,o,none⟩=w1.cell? ⟨w.heap.size,o,none⟩:=fun x o=>Later.old hS x o (by omega);clear hk hS2;by_cases hlt:k < ms.length
  ·obtain⟨x,hx⟩:∃x,ms[k]? = some x:=⟨_,zQ1 hlt⟩;obtain⟨d0,d1,d2,d3,d4⟩:=dM hcell k x hx;have HX:Hid (ms[k]? = some x):=hx;clear hx;cases hl2:lessM x m
   ·have HP:Hid (dK m ms=k):=yS m ms k x HK.out HX.out hl2;have HE2:Hid (dV m ms=if lessM m x then 0 else 1):=PK HEr.out hl (by rw[HP.out];exact HX.out)
    go_wp2_with fail
    refine aH (by kernel_rfl) (by kernel_rfl) (ak.refl wr) ?_
    repeat (go_big_quiet_step ((go_at_call 147;exact Later.call (qQ wr x m _ hl2))))
    refine wpQuiet_nil ?_;intro w8 hS8
    go_wp2_with fail
    have hkc:k < cap:=by omega
    have hpos:decide (0 < ((ms.length - k:Nat):Int))=true:=by simp;omega
    have hpos':0 < ms.length - k:=by omega
    cases hl3:lessM m x
    ·have HV:Hid (dV m ms=1):=by unfold Hid;rw[HE2.out,hl3];rfl
     have HL:Hid (gK m ms=[]):=nP m ms (by rw[HV.out];decide);refine aH (by kernel_rfl) (by kernel_rfl) hS8 ?_
     repeat (go_big_quiet_step ((go_at_call 147;exact Later.call (qQ wr m x _ hl3))))
     refine wpQuiet_nil ?_;intro w9 uo
     go_wp2_with fail
     go_ret2
     exact⟨none,0,0,by rw[HV.out];rfl,by rw[HL.out];exact gJ,qY HL.out,hS1.trans (hS.trans uo)⟩
    ·have HV:Hid (dV m ms=0):=by unfold Hid;rw[HE2.out,hl3];rfl
     refine aH (by kernel_rfl) (by kernel_rfl) hS8 ?_
     repeat (go_big_quiet_step ((go_at_call 147;exact Later.call (qQ wr m x _ hl3))))
     refine wpQuiet_nil ?_;intro w9 uo;have lX:=gU uo hown;have hS9:ak w1 w9:=hS.trans uo;have hgb:∀o:Nat,w9.cell? ⟨w.heap.size,o,none⟩=w1.cell? ⟨w.heap.size,o,none⟩:=fun o=>hS9.av (by omega) o;clear hg hg2 d0 d1 d2 d3 d4 hown hS8 uo
     go_wp2_with (first
      | (at_builtin;refine wpList_append_own _ rfl _ _ 62 rfl w1.heap.size 95 i0 (.agg #[.int .i64 0,.int .i64 0,.int .i64 0,.bool false,.string ByteArray.empty]) 5 48 underlying62 hi hz0 hz1 hz2 rfl (by decide) _ _ _ rfl hown3 ⟨b,off+k*5,none⟩ (ms.length - k) (cap - k) (flat (ms.drop k)) rfl (by rw[dA,List.length_drop]) (fun j u hj=>by rw[tO,dO.av (by omega),hS1.av hb,Nat.add_assoc];exact hcell _ _ (kE hkl hj)) (fun u hu=>dN u _ hu) (by unfold maxLen;omega) (by omega) dO.size ?_;intro v4 w13 uh Bv _;have uj:ak w1 w13:=dO.grown Bv (bP hown3))
      | (at_builtin;refine wpList_append_own _ rfl _ _ 62 rfl w1.heap.size 95 i0 (.agg #[.int .i64 0,.int .i64 0,.int .i64 0,.bool false,.string ByteArray.empty]) 5 48 underlying62 hi hz0 hz1 hz2 rfl (by decide) _ _ _ rfl (lX.alloc _) ⟨w9.heap.size,0,none⟩ 1 1 m.cells rfl rfl (iX _ _ _) (fun u hu=>dN u [m] (by simpa[flat] using hu)) (by unfold maxLen;omega) (by omega) (by have:=hS9.size;simp;omega) ?_;intro v3 w12 hown3 lu _;have dO:ak w1 w12:=(hS9.alloc _).grown lu (bP lX)))
     obtain⟨a',len',cap',rfl,hMs,hcs⟩:=jr hS1.size HV.out HP.out (by omega) uh (by omega) (by simp)
     go_ret2
     exact⟨a',len',cap',by rw[HV.out];rfl,hMs,hcs,hS1.trans uj⟩
   ·have HF:Hid (k+1<=dK m ms):=vX m ms k x HK.out HX.out hl2;have HFL:Hid (flat (ms.take (k+1))=flat (ms.take k)++x.cells):=Mq HX.out
    go_wp2_with fail
    refine aH (by kernel_rfl) (by kernel_rfl) (ak.refl wr) ?_
    repeat (go_big_quiet_step ((go_at_call 147;exact Later.call (qQ wr x m _ hl2))))
    refine wpQuiet_nil ?_;intro w9 uo;have lX:=gU uo hown;have hS9:ak w1 w9:=hS.trans uo;have hgb:∀o:Nat,w9.cell? ⟨b,o,none⟩=w.cell? ⟨b,o,none⟩:=fun o=>(hS1.trans hS9).av hb o;clear hg hg2 hown uo
    go_wp2_with (at_builtin;refine wpList_append_own _ rfl _ _ 62 rfl w1.heap.size 95 i0 (.agg #[.int .i64 0,.int .i64 0,.int .i64 0,.bool false,.string ByteArray.empty]) 5 48 underlying62 hi hz0 hz1 hz2 rfl (by decide) _ _ _ rfl (lX.alloc _) ⟨w9.heap.size,0,none⟩ 1 1 x.cells rfl rfl (iX _ _ _) (fun u hu=>dN u [x] (by simpa[flat] using hu)) (by unfold maxLen;omega) (by omega) (by have:=hS9.size;simp;omega) ?_;intro v3 w12 hown3 lu _;have dO:ak w1 w12:=(hS9.alloc _).grown lu (bP lX))
    go_roundw
    case rel=>exact⟨⟨k+1,HF.out,by go_num,by rw[HFL.out];exact hown3⟩,dO⟩
    case measure=>simp[intOf];omega
  ·have HPL:Hid (k=ms.length):=by unfold Hid;omega
   have HP:Hid (dK m ms=k):=by have:=mo m ms;have:=HK.out;have:=HPL.out;unfold Hid;omega
   have HV:Hid (dV m ms=0):=Od HEr.out hl (by rw[HP.out];exact HPL.out);have hd:decide ((k:Int) < (ms.length:Int))=false:=by simpa using hlt
   have hd':decide (k < ms.length)=false:=by simpa using hlt
   go_wp2_with fail
   refine aH (by kernel_rfl) (by kernel_rfl) (ak.refl wr) ?_
   repeat (go_big_quiet_step (fail))
   refine wpQuiet_nil ?_;intro w8 hS8;by_cases hcp:cap=k
   ·obtain rfl:k=cap:=hcp.symm
    go_wp2_with fail
    refine aH (by kernel_rfl) (by kernel_rfl) hS8 ?_
    repeat (go_big_quiet_step (fail))
    refine wpQuiet_nil ?_;intro w9 uo;have lX:=gU uo hown;have hS9:ak w1 w9:=hS.trans uo;have hgb:∀o:Nat,w9.cell? ⟨w.heap.size,o,none⟩=w1.cell? ⟨w.heap.size,o,none⟩:=fun o=>hS9.av (by omega) o;clear hg hg2 hown hS8 uo
    go_wp2_with (first
     | (at_builtin;refine wpList_append_own _ rfl _ _ 62 rfl w1.heap.size 95 i0 (.agg #[.int .i64 0,.int .i64 0,.int .i64 0,.bool false,.string ByteArray.empty]) 5 48 underlying62 hi hz0 hz1 hz2 rfl (by decide) _ _ _ rfl hown3 ⟨b,off,none⟩ 0 0 [] rfl rfl (fun j u hj=>by simp at hj) (fun u hu=>by cases hu) (by unfold maxLen;omega) (by omega) dO.size ?_;intro v4 w13 uh Bv _;have uj:ak w1 w13:=dO.grown Bv (bP hown3))
     | (at_builtin;refine wpList_append_own _ rfl _ _ 62 rfl w1.heap.size 95 i0 (.agg #[.int .i64 0,.int .i64 0,.int .i64 0,.bool false,.string ByteArray.empty]) 5 48 underlying62 hi hz0 hz1 hz2 rfl (by decide) _ _ _ rfl (lX.alloc _) ⟨w9.heap.size,0,none⟩ 1 1 m.cells rfl rfl (iX _ _ _) (fun u hu=>dN u [m] (by simpa[flat] using hu)) (by unfold maxLen;omega) (by omega) (by have:=hS9.size;simp;omega) ?_;intro v3 w12 hown3 lu _;have dO:ak w1 w12:=(hS9.alloc _).grown lu (bP lX)))
    obtain⟨a',len',cap',rfl,hMs,hcs⟩:=jr hS1.size HV.out HP.out (by omega) uh (by have:=HPL.out;omega) (by rw[List.drop_eq_nil_of_le (Nat.le_of_eq HPL.out.symm)];simp[flat])
    go_ret2
    exact⟨a',len',cap',by rw[HV.out];rfl,hMs,hcs,hS1.trans uj⟩
   ·have hcp2:k < cap:=by have:=HPL.out;omega
    have hnz:decide (0 < ms.length - k)=false:=by have:=HPL.out;simp;omega
    go_wp2_with fail
    refine aH (by kernel_rfl) (by kernel_rfl) hS8 ?_
    repeat (go_big_quiet_step (fail))
    refine wpQuiet_nil ?_;intro w9 uo;have lX:=gU uo hown;have hS9:ak w1 w9:=hS.trans uo;have hgb:∀o:Nat,w9.cell? ⟨w.heap.size,o,none⟩=w1.cell? ⟨w.heap.size,o,none⟩:=fun o=>hS9.av (by omega) o;clear hg hg2 hown hS8 uo
    go_wp2_with (first
     | (at_builtin;refine wpList_append_own _ rfl _ _ 62 rfl w1.heap.size 95 i0 (.agg #[.int .i64 0,.int .i64 0,.int .i64 0,.bool false,.string ByteArray.empty]) 5 48 underlying62 hi hz0 hz1 hz2 rfl (by decide) _ _ _ rfl hown3 ⟨b,off+k*5,none⟩ (ms.length - k) (cap - k) (flat (ms.drop k)) rfl (by rw[dA,List.length_drop]) (fun j u hj=>by rw[tO,dO.av (by omega),hS1.av hb,Nat.add_assoc];exact hcell _ _ (kE hkl hj)) (fun u hu=>dN u _ hu) (by unfold maxLen;omega) (by omega) dO.size ?_;intro v4 w13 uh Bv _;have uj:ak w1 w13:=dO.grown Bv (bP hown3))
     | (at_builtin;refine wpList_append_own _ rfl _ _ 62 rfl w1.heap.size 95 i0 (.agg #[.int .i64 0,.int .i64 0,.int .i64 0,.bool false,.string ByteArray.empty]) 5 48 underlying62 hi hz0 hz1 hz2 rfl (by decide) _ _ _ rfl (lX.alloc _) ⟨w9.heap.size,0,none⟩ 1 1 m.cells rfl rfl (iX _ _ _) (fun u hu=>dN u [m] (by simpa[flat] using hu)) (by unfold maxLen;omega) (by omega) (by have:=hS9.size;simp;omega) ?_;intro v3 w12 hown3 lu _;have dO:ak w1 w12:=(hS9.alloc _).grown lu (bP lX)))
    obtain⟨a',len',cap',rfl,hMs,hcs⟩:=jr hS1.size HV.out HP.out (by omega) uh (by have:=HPL.out;omega) (by simp)
    go_ret2
    exact⟨a',len',cap',by rw[HV.out];rfl,hMs,hcs,hS1.trans uj⟩
set_option maxRecDepth 8000 in
theorem Hu(a:Option Addr)(cap:Nat)(m:Mg)(w:World) :
  Calls prog 115 #[.slice a 0 cap,.agg #[.int .i64 m.fr,.int .i64 m.gr,.int .i64 m.st,.bool m.nul,.string m.body]] w fun e w'=>∃a' len' cap',e=.returned (.tuple #[.slice a' len' cap',.int .i64 (dV m [])])/\gD w' a' len' (gK m [])/\EN w w' a' len' cap' m []/\ak w w':=by
 obtain⟨i0,hi,hz0,hz1,hz2⟩:=info_parts Tryz.uS;obtain⟨w1,hw1⟩:∃w1,w.alloc (.cells #[.int .i64 m.fr,.int .i64 m.gr,.int .i64 m.st,.bool m.nul,.string m.body] 95)=w1:=⟨_,rfl⟩;have hS1:=aF hw1;have hsz:w1.heap.size=w.heap.size+1:=by rw[<-hw1];simp
 have hB:cO w1 w.heap.size 0 m:=by rw[<-hw1];constructor <;> simp[go_sem]
 obtain⟨g0,g1,g2,g3,g4⟩:=hB;simp only[Nat.zero_add]at g0 g1 g2 g3 g4
 cases a with
 | none =>
  go_enter func115,ntmps115
  go_wp2_with fail
  refine(iF _ _ _ [] _ gJ).mono ?_;rw[show bC []=true from rfl];rintro e w2 ⟨rfl,hS2⟩;clear hw1
  go_wp2_with fail
  go_loopw [6,7] (fun v i wr=>(v=.slice none 0 0/\i=.int .i64 0)/\ak w1 wr) (fun _ _ _=>0)
  case atStart=>exact⟨⟨rfl,rfl⟩,hS2⟩
  case round =>
   obtain⟨⟨rfl,rfl⟩,hS⟩:=hrel;have hne:Nonempty (Later w1):=⟨⟨w1,ak.refl w1⟩⟩;clear hS2
   go_wp2_with fail
   refine aH (by kernel_rfl) (by kernel_rfl) hS ?_
   repeat (go_big_quiet_step (fail))
   refine wpQuiet_nil ?_;intro w8 hS8
   go_wp2_with fail
   refine aH (by kernel_rfl) (by kernel_rfl) hS8 ?_
   repeat (go_big_quiet_step (fail))
   refine wpQuiet_nil ?_;intro w9 hS9;have hown:w9.ownsRow w1.heap.size 95 5 (.slice none 0 0) 0 []:=World.ownsRow_nil _ _ _ _;have hgb:∀o:Nat,w9.cell? ⟨w.heap.size,o,none⟩=w1.cell? ⟨w.heap.size,o,none⟩:=fun o=>hS9.av (by omega) o;clear hS8 hS
   go_wp2_with (at_builtin;refine wpList_append_own _ rfl _ _ 62 rfl w1.heap.size 95 i0 (.agg #[.int .i64 0,.int .i64 0,.int .i64 0,.bool false,.string ByteArray.empty]) 5 48 underlying62 hi hz0 hz1 hz2 rfl (by decide) _ _ _ rfl (hown.alloc _) ⟨w9.heap.size,0,none⟩ 1 1 m.cells rfl rfl (iX _ _ _) (fun u hu=>dN u [m] (by simpa[flat] using hu)) (by unfold maxLen;omega) (by omega) (by have:=hS9.size;simp;omega) ?_;intro v3 w12 hown3 lu _;have dO:ak w1 w12:=(hS9.alloc _).grown lu (bP hown);obtain⟨g',cap',rfl⟩:=ownsRow_succ hown3;have hcp:1<=cap':=kW hown3)
   obtain⟨a',len',um,e1,hMs,hcs⟩:=jr hS1.size (m:=m) (ms:=[]) (p:=0) rfl rfl (by simp) hown3 (by simp) (by simp[flat])
   go_ret2
   exact⟨a',len',um,by rw[<-e1];rfl,hMs,hcs,hS1.trans dO⟩
 | some x =>
  by_cases hc0:cap=0
  ·subst hc0
   go_enter func115,ntmps115
   go_wp2_with fail
   refine(iF _ _ _ [] _ gJ).mono ?_;rw[show bC []=true from rfl];rintro e w2 ⟨rfl,hS2⟩;clear hw1
   go_wp2_with fail
   go_loopw [6,7] (fun v i wr=>(v=.slice none 0 0/\i=.int .i64 0)/\ak w1 wr) (fun _ _ _=>0)
   case atStart=>exact⟨⟨rfl,rfl⟩,hS2⟩
   case round =>
    obtain⟨⟨rfl,rfl⟩,hS⟩:=hrel;have hne:Nonempty (Later w1):=⟨⟨w1,ak.refl w1⟩⟩;clear hS2
    go_wp2_with fail
    refine aH (by kernel_rfl) (by kernel_rfl) hS ?_
    repeat (go_big_quiet_step (fail))
    refine wpQuiet_nil ?_;intro w8 hS8
    go_wp2_with fail
    refine aH (by kernel_rfl) (by kernel_rfl) hS8 ?_
    repeat (go_big_quiet_step (fail))
    refine wpQuiet_nil ?_;intro w9 hS9;have hown:w9.ownsRow w1.heap.size 95 5 (.slice none 0 0) 0 []:=World.ownsRow_nil _ _ _ _;have hgb:∀o:Nat,w9.cell? ⟨w.heap.size,o,none⟩=w1.cell? ⟨w.heap.size,o,none⟩:=fun o=>hS9.av (by omega) o;clear hS8 hS
    go_wp2_with (at_builtin;refine wpList_append_own _ rfl _ _ 62 rfl w1.heap.size 95 i0 (.agg #[.int .i64 0,.int .i64 0,.int .i64 0,.bool false,.string ByteArray.empty]) 5 48 underlying62 hi hz0 hz1 hz2 rfl (by decide) _ _ _ rfl (hown.alloc _) ⟨w9.heap.size,0,none⟩ 1 1 m.cells rfl rfl (iX _ _ _) (fun u hu=>dN u [m] (by simpa[flat] using hu)) (by unfold maxLen;omega) (by omega) (by have:=hS9.size;simp;omega) ?_;intro v3 w12 hown3 lu _;have dO:ak w1 w12:=(hS9.alloc _).grown lu (bP hown);obtain⟨g',cap',rfl⟩:=ownsRow_succ hown3;have hcp:1<=cap':=kW hown3)
    obtain⟨a',len',um,e1,hMs,hcs⟩:=jr hS1.size (m:=m) (ms:=[]) (p:=0) rfl rfl (by simp) hown3 (by simp) (by simp[flat])
    go_ret2
    exact⟨a',len',um,by rw[<-e1];rfl,hMs,hcs,hS1.trans dO⟩
  ·have hc1:0 < cap:=by omega
   go_enter func115,ntmps115
   go_wp2_with fail
   refine(iF _ _ _ [] _ gJ).mono ?_;rw[show bC []=true from rfl];rintro e w2 ⟨rfl,hS2⟩;clear hw1
   go_wp2_with fail
   go_loopw [6,7] (fun v i wr=>(v=.slice none 0 0/\i=.int .i64 0)/\ak w1 wr) (fun _ _ _=>0)
   case atStart=>exact⟨⟨rfl,rfl⟩,hS2⟩
   case round =>
    obtain⟨⟨rfl,rfl⟩,hS⟩:=hrel;have hne:Nonempty (Later w1):=⟨⟨w1,ak.refl w1⟩⟩;clear hS2
    go_wp2_with fail
    refine aH (by kernel_rfl) (by kernel_rfl) hS ?_
    repeat (go_big_quiet_step (fail))
    refine wpQuiet_nil ?_;intro w8 hS8
    go_wp2_with fail
    refine aH (by kernel_rfl) (by kernel_rfl) hS8 ?_
    repeat (go_big_quiet_step (fail))
    refine wpQuiet_nil ?_;intro w9 hS9;have hown:w9.ownsRow w1.heap.size 95 5 (.slice none 0 0) 0 []:=World.ownsRow_nil _ _ _ _;have hgb:∀o:Nat,w9.cell? ⟨w.heap.size,o,none⟩=w1.cell? ⟨w.heap.size,o,none⟩:=fun o=>hS9.av (by omega) o;clear hS8 hS
    go_wp2_with (at_builtin;refine wpList_append_own _ rfl _ _ 62 rfl w1.heap.size 95 i0 (.agg #[.int .i64 0,.int .i64 0,.int .i64 0,.bool false,.string ByteArray.empty]) 5 48 underlying62 hi hz0 hz1 hz2 rfl (by decide) _ _ _ rfl (hown.alloc _) ⟨w9.heap.size,0,none⟩ 1 1 m.cells rfl rfl (iX _ _ _) (fun u hu=>dN u [m] (by simpa[flat] using hu)) (by unfold maxLen;omega) (by omega) (by have:=hS9.size;simp;omega) ?_;intro v3 w12 hown3 lu _;have dO:ak w1 w12:=(hS9.alloc _).grown lu (bP hown);obtain⟨g',cap',rfl⟩:=ownsRow_succ hown3;have hcp:1<=cap':=kW hown3)
    obtain⟨a',len',um,e1,hMs,hcs⟩:=jr hS1.size (m:=m) (ms:=[]) (p:=0) rfl rfl (by simp) hown3 (by simp) (by simp[flat])
    go_ret2
    exact⟨a',len',um,by rw[<-e1];rfl,hMs,hcs,hS1.trans dO⟩
theorem JL(a:Option Addr)(len cap:Nat)(ms:List Mg)(m:Mg)(w:World)(hM:gD w a len ms)(hcap:len<=cap) :
  Calls prog 115 #[.slice a len cap,.agg #[.int .i64 m.fr,.int .i64 m.gr,.int .i64 m.st,.bool m.nul,.string m.body]] w fun e w'=>∃a' len' cap',e=.returned (.tuple #[.slice a' len' cap',.int .i64 (dV m ms)])/\gD w' a' len' (gK m ms)/\EN w w' a' len' cap' m ms/\ak w w':=by
 by_cases h0:0 < len
 ·exact Ht a len cap ms m w hM hcap h0
 ·have hl:=hM.bq;obtain rfl:len=0:=by omega
  obtain rfl:ms=[]:=zQ6 hl;exact Hu a cap m w
end Go.Proofs.YtediempflagfkaaGreatDoor
