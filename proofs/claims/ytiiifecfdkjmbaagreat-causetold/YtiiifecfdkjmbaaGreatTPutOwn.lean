/- Lemmas. -/
import Derived.Test.YtiiifecfdkjmbaaGreatTWorld1
set_option maxHeartbeats 2000000
namespace Go.Proofs.YtiiifecfdkjmbaaGreat
open _root_.Go.Proofs.Tryz hiding checked
set_option maxRecDepth 8000
open Go.RowKit Go.Shelf
def GJ (w w':World) (a':Option Addr) (len' cap':Nat) (m:Mg) (ms:List Mg):Prop:=len'<=cap'/\w'.ownsRow w.heap.size 42 5 (.slice a' len' cap') len' (flat (iJ m ms))
theorem x9 {w w':World} {m:Mg} {ms:List Mg} (h:iJ m ms=[]):GJ w w' none 0 0 m ms:=⟨Nat.le_refl _,by rw [h];exact World.ownsRow_nil _ _ _ _⟩
theorem ny {w W:World} {base:Nat} {v:Value} {m:Mg} {ms:List Mg} {p n:Nat} {l:List Value} (hb:w.heap.size<=base) (hE:fA m ms=0) (hp:bT m ms=p) (hmax:ms.length < 40) (h:W.ownsRow base 42 5 v n l) (hn:n=ms.length+1) (hl:l=flat (ms.take p)++m.cells++flat (ms.drop p)) :
  ∃ a' len' cap',v=.slice a' len' cap'/\eY W a' len' (iJ m ms)/\GJ w W a' len' cap' m ms:=by
 have e:flat (iJ m ms)=l:=by unfold iJ;rw [if_pos hE,hp,gH,gH,hl];simp [flat]
 have hn':n=(iJ m ms).length:=by rw [mW m ms hE];exact hn
 rw [<-e,hn'] at h
 obtain ⟨a,cap,rfl,hM⟩:=CF h (by rw [mW m ms hE];omega)
 refine ⟨_,_,_,rfl,hM, ?_,kM hb h⟩
 rcases h.2 with ⟨h1,h2⟩ | ⟨g,cap',cur,h1,h2,h3,h4,_⟩
 ·rw [mW m ms hE] at h2;omega
 ·simp only [Value.slice.injEq] at h1;rw [h1.2.2];exact h4
theorem GX (a:Option Addr) (len cap:Nat) (ms:List Mg) (m:Mg) (w:World) (hM:eY w a len ms) (hcap:len<=cap) (h0:0 < len) :
  Calls prog 185 #[.slice a len cap,.agg #[.int .i64 m.fr,.int .i64 m.gr,.int .i64 m.st,.bool m.nul,.string m.body]] w fun e w'=>∃ a' len' cap',e=.returned (.tuple #[.slice a' len' cap',.int .i64 (fA m ms)])/\eY w' a' len' (iJ m ms)/\GJ w w' a' len' cap' m ms/\Since w w':=by
 obtain ⟨i0,hi,hz0,hz1,hz2⟩:=info_parts Tryz.Ak
 obtain ⟨w1,hw1⟩:∃ w1,w.alloc (.cells #[.int .i64 m.fr,.int .i64 m.gr,.int .i64 m.st,.bool m.nul,.string m.body] 42)=w1:=⟨_,rfl⟩
 have hS1:=ay hw1
 have hsz:w1.heap.size=w.heap.size+1:=by rw [<-hw1];simp
 have hB:aZ w1 w.heap.size 0 m:=by rw [<-hw1];constructor <;> simp [go_sem]
 have hlen:=hM.hlen
 have hmax:=hM.hmax
 subst hlen
 cases hr:aN ms
 ·have HE:Hid (fA m ms=1):=by unfold Hid fA;rw [if_pos hr]
  have HL:Hid (iJ m ms=[]):=uN m ms (by rw [HE.out];decide)
  have HR:Hid (aN ms=false):=hr
  clear hr
  go_enter func185,ntmps185
  go_wp2_with fail
  refine (kU _ _ _ ms _ (hM.since hS1)).mono ?_
  rw [HR.out]
  rintro e w2 ⟨rfl,hS2⟩
  go_wp2_with fail
  go_ret2
  exact ⟨none,0,0,by rw [HE.out];rfl,by rw [HL.out];exact gQ,x9 HL.out,hS1.trans hS2⟩
 have HR:Hid (aN ms=true):=hr
 have hEr:¬ aN ms=false:=by rw [hr];decide
 clear hr
 by_cases hl:40<=ms.length
 ·have HE:Hid (fA m ms=2):=by unfold Hid fA;rw [if_neg hEr,if_pos hl]
  have HL:Hid (iJ m ms=[]):=uN m ms (by rw [HE.out];decide)
  clear hEr
  go_enter func185,ntmps185
  go_wp2_with fail
  refine (kU _ _ _ ms _ (hM.since hS1)).mono ?_
  rw [HR.out]
  rintro e w2 ⟨rfl,hS2⟩
  go_wp2_with fail
  go_ret2
  exact ⟨none,0,0,by rw [HE.out];rfl,by rw [HL.out];exact gQ,x9 HL.out,hS1.trans hS2⟩
 have HE0:Hid (fA m ms=match ms[bT m ms]? with | some x=>if lessM m x then 0 else 1 | none=>0):=by unfold Hid fA;rw [if_neg hEr,if_neg hl];rfl
 clear hEr
 go_enter func185,ntmps185
 go_wp2_with fail
 refine (kU _ _ _ ms _ (hM.since hS1)).mono ?_
 rw [HR.out]
 rintro e w2 ⟨rfl,hS2⟩
 have hg:∀ o:Nat,w2.cell? ⟨w.heap.size,o,none⟩=w1.cell? ⟨w.heap.size,o,none⟩:=fun o=>hS2.cellAt (by omega) o
 obtain ⟨f0,f1,f2,f3,f4⟩:=hB
 simp only [Nat.zero_add] at f0 f1 f2 f3 f4
 have g0:=f0;have g1:=f1;have g2:=f2;have g3:=f3;have g4:=f4
 rw [<-hg] at f0 f1 f2 f3 f4
 clear hg hw1
 go_wp2_with fail
 refine (p8 _ _ _ ms m _ (hM.since (hS1.trans hS2))).mono ?_
 rintro e w3 ⟨rfl,hS3⟩
 have nI:=hS2.trans hS3
 have GY:=mV m ms
 obtain ⟨p,hpe⟩:∃ p,bT m ms=p:=⟨_,rfl⟩
 have HE:Hid (fA m ms=match ms[p]? with | some x=>if lessM m x then 0 else 1 | none=>0):=by rw [<-hpe];exact HE0.out
 rw [hpe] at GY ⊢
 have HP:Hid (bT m ms=p):=hpe
 clear hpe f0 f1 f2 f3 f4 hS2 hS3 HE0
 have hne:Nonempty (Later w1):=⟨⟨w1,Since.refl w1⟩⟩
 have hg2:∀ (x:Later w1) (o:Nat),x.w.cell? ⟨w.heap.size,o,none⟩=w1.cell? ⟨w.heap.size,o,none⟩:=fun x o=>x.cell (by omega)
 by_cases hp:p < ms.length
 ·obtain ⟨b,off,rfl,hb,hcell⟩:=hM.cells (by omega)
  obtain ⟨x,hx⟩:∃ x,ms[p]? = some x:=⟨_,zQ1 hp⟩
  obtain ⟨d0,d1,d2,d3,d4⟩:=bJ hcell p x hx
  have hg:∀ (x:Later w1) (o:Nat),x.w.cell? ⟨b,o,none⟩=w.cell? ⟨b,o,none⟩:=fun x o=>(x.cell (by omega)).trans (hS1.below.cell (p:=⟨b,o,none⟩) hb)
  have HE2:Hid (fA m ms=if lessM m x then 0 else 1):=by unfold Hid;rw [HE.out,hx]
  clear HE hx
  cases hlx:lessM m x
  ·have HV:Hid (fA m ms=1):=by unfold Hid;rw [HE2.out,hlx];rfl
   have HL:Hid (iJ m ms=[]):=uN m ms (by rw [HV.out];decide)
   clear HE2
   go_wp2_with fail
   refine av (by kernel_rfl) (by kernel_rfl) nI ?_
   repeat (go_big_quiet_step ((go_at_call 170;exact Later.call (nP w1 m x _ hlx))))
   refine wpQuiet_nil ?_
   intro w9 hS9
   go_wp2_with fail
   go_ret2
   exact ⟨none,0,0,by rw [HV.out];rfl,by rw [HL.out];exact gQ,x9 HL.out,hS1.trans hS9⟩
  ·have HV:Hid (fA m ms=0):=by unfold Hid;rw [HE2.out,hlx];rfl
   clear HE2
   go_wp2_with fail
   refine av (by kernel_rfl) (by kernel_rfl) nI ?_
   repeat (go_big_quiet_step ((go_at_call 170;exact Later.call (nP w1 m x _ hlx))))
   refine wpQuiet_nil ?_
   intro w9 hS9
   clear hg hg2 d0 d1 d2 d3 d4
   go_wp2_with (first
    | (at_make;refine wpList_make_own _ rfl _ _ 39 rfl w1.heap.size 42 i0 (.agg #[.int .i64 0,.int .i64 0,.int .i64 0,.bool false,.string ByteArray.empty]) 5 underlying39 hi hz0 hz1 .i64 .i64 _ (ms.length+1) rfl rfl (by simp) (by rw [hz2];omega) (by unfold maxLen;omega) hS9.size ?_;intro w10 hown hgr;have lF:Since w1 w10:=hS9.grown hgr (fun k e=>by cases e))
    | (at_builtin;refine wpList_append_own _ rfl _ _ 39 rfl w1.heap.size 42 i0 (.agg #[.int .i64 0,.int .i64 0,.int .i64 0,.bool false,.string ByteArray.empty]) 5 48 underlying39 hi hz0 hz1 hz2 rfl (by decide) _ _ _ rfl hown3 ⟨b,off+p*5,none⟩ (ms.length - p) (cap - p) (flat (ms.drop p)) rfl (by rw [cB,List.length_drop]) (fun j u hj=>by rw [ou,gJ.cellAt (by omega),hS1.cellAt hb,Nat.add_assoc];exact hcell _ _ (qG GY hj)) (fun u hu=>fC u _ hu) (by unfold maxLen;omega) (by omega) gJ.size ?_;intro v4 w13 Df JG _;have Dg:Since w1 w13:=gJ.grown JG (dh hown3))
    | (at_builtin;refine wpList_append_own _ rfl _ _ 39 rfl w1.heap.size 42 i0 (.agg #[.int .i64 0,.int .i64 0,.int .i64 0,.bool false,.string ByteArray.empty]) 5 48 underlying39 hi hz0 hz1 hz2 rfl (by decide) _ _ _ rfl (hown2.alloc _) ⟨w11.heap.size,0,none⟩ 1 1 m.cells rfl rfl (nG _ _ _) (fun u hu=>fC u [m] (by simpa [flat] using hu)) (by unfold maxLen;omega) (by omega) (by have:=rz.size;simp;omega) ?_;intro v3 w12 hown3 uF _;have gJ:Since w1 w12:=(rz.alloc _).grown uF (dh hown2))
    | (at_builtin;refine wpList_append_own _ rfl _ _ 39 rfl w1.heap.size 42 i0 (.agg #[.int .i64 0,.int .i64 0,.int .i64 0,.bool false,.string ByteArray.empty]) 5 48 underlying39 hi hz0 hz1 hz2 rfl (by decide) _ _ _ rfl hown ⟨b,off,none⟩ p cap (flat (ms.take p)) rfl (by rw [cB,List.length_take,Nat.min_eq_left GY]) (fun j u hj=>by rw [ou,lF.cellAt (by omega),hS1.cellAt hb];exact hcell _ _ (mG hj)) (fun u hu=>fC u _ hu) (by unfold maxLen;omega) (by omega) lF.size ?_;intro v2 w11 hown2 JH _;have rz:Since w1 w11:=lF.grown JH (dh hown);have hgb:∀ o:Nat,w11.cell? ⟨w.heap.size,o,none⟩=w1.cell? ⟨w.heap.size,o,none⟩:=fun o=>rz.cellAt (by omega) o))
   obtain ⟨a',len',cap',rfl,hMs,hcs⟩:=ny hS1.size HV.out HP.out (by omega) Df (by omega) (by simp)
   go_ret2
   exact ⟨a',len',cap',by rw [HV.out];rfl,hMs,hcs,hS1.trans Dg⟩
 ·have hpl:p=ms.length:=by omega
  have HV:Hid (fA m ms=0):=by unfold Hid;rw [HE.out,hpl,List.getElem?_eq_none (Nat.le_refl _)]
  have HPL:Hid (p=ms.length):=hpl
  have hd:decide ((p:Int) < (ms.length:Int))=false:=by simpa using hp
  have hd':decide (p < ms.length)=false:=by simpa using hp
  clear HE hpl
  go_wp2_with fail
  refine av (by kernel_rfl) (by kernel_rfl) nI ?_
  repeat (go_big_quiet_step (fail))
  refine wpQuiet_nil ?_
  intro w9 hS9
  clear hg2
  by_cases hcp:cap=p
  ·obtain rfl:p=cap:=hcp.symm
   obtain ⟨b,off,rfl,hb,hcell⟩:=hM.cells h0
   go_wp2_with (first
    | (at_make;refine wpList_make_own _ rfl _ _ 39 rfl w1.heap.size 42 i0 (.agg #[.int .i64 0,.int .i64 0,.int .i64 0,.bool false,.string ByteArray.empty]) 5 underlying39 hi hz0 hz1 .i64 .i64 _ (ms.length+1) rfl rfl (by simp) (by rw [hz2];omega) (by unfold maxLen;omega) hS9.size ?_;intro w10 hown hgr;have lF:Since w1 w10:=hS9.grown hgr (fun k e=>by cases e))
    | (at_builtin;refine wpList_append_own _ rfl _ _ 39 rfl w1.heap.size 42 i0 (.agg #[.int .i64 0,.int .i64 0,.int .i64 0,.bool false,.string ByteArray.empty]) 5 48 underlying39 hi hz0 hz1 hz2 rfl (by decide) _ _ _ rfl hown3 ⟨b,off,none⟩ 0 0 [] rfl rfl (fun j u hj=>by simp at hj) (fun u hu=>by cases hu) (by unfold maxLen;omega) (by omega) gJ.size ?_;intro v4 w13 Df JG _;have Dg:Since w1 w13:=gJ.grown JG (dh hown3))
    | (at_builtin;refine wpList_append_own _ rfl _ _ 39 rfl w1.heap.size 42 i0 (.agg #[.int .i64 0,.int .i64 0,.int .i64 0,.bool false,.string ByteArray.empty]) 5 48 underlying39 hi hz0 hz1 hz2 rfl (by decide) _ _ _ rfl (hown2.alloc _) ⟨w11.heap.size,0,none⟩ 1 1 m.cells rfl rfl (nG _ _ _) (fun u hu=>fC u [m] (by simpa [flat] using hu)) (by unfold maxLen;omega) (by omega) (by have:=rz.size;simp;omega) ?_;intro v3 w12 hown3 uF _;have gJ:Since w1 w12:=(rz.alloc _).grown uF (dh hown2))
    | (at_builtin;refine wpList_append_own _ rfl _ _ 39 rfl w1.heap.size 42 i0 (.agg #[.int .i64 0,.int .i64 0,.int .i64 0,.bool false,.string ByteArray.empty]) 5 48 underlying39 hi hz0 hz1 hz2 rfl (by decide) _ _ _ rfl hown ⟨b,off,none⟩ p p (flat (ms.take p)) rfl (by rw [cB,List.length_take,Nat.min_eq_left GY]) (fun j u hj=>by rw [ou,lF.cellAt (by omega),hS1.cellAt hb];exact hcell _ _ (mG hj)) (fun u hu=>fC u _ hu) (by unfold maxLen;omega) (by omega) lF.size ?_;intro v2 w11 hown2 JH _;have rz:Since w1 w11:=lF.grown JH (dh hown);have hgb:∀ o:Nat,w11.cell? ⟨w.heap.size,o,none⟩=w1.cell? ⟨w.heap.size,o,none⟩:=fun o=>rz.cellAt (by omega) o))
   obtain ⟨a',len',cap',rfl,hMs,hcs⟩:=ny hS1.size HV.out HP.out (by omega) Df (by have:=HPL.out;omega) (by rw [List.drop_eq_nil_of_le (Nat.le_of_eq HPL.out.symm)];simp [flat])
   go_ret2
   exact ⟨a',len',cap',by rw [HV.out];rfl,hMs,hcs,hS1.trans Dg⟩
  ·have hcp2:p < cap:=by have:=HPL.out;omega
   obtain ⟨b,off,rfl,hb,hcell⟩:=hM.cells h0
   go_wp2_with (first
    | (at_make;refine wpList_make_own _ rfl _ _ 39 rfl w1.heap.size 42 i0 (.agg #[.int .i64 0,.int .i64 0,.int .i64 0,.bool false,.string ByteArray.empty]) 5 underlying39 hi hz0 hz1 .i64 .i64 _ (ms.length+1) rfl rfl (by simp) (by rw [hz2];omega) (by unfold maxLen;omega) hS9.size ?_;intro w10 hown hgr;have lF:Since w1 w10:=hS9.grown hgr (fun k e=>by cases e))
    | (at_builtin;refine wpList_append_own _ rfl _ _ 39 rfl w1.heap.size 42 i0 (.agg #[.int .i64 0,.int .i64 0,.int .i64 0,.bool false,.string ByteArray.empty]) 5 48 underlying39 hi hz0 hz1 hz2 rfl (by decide) _ _ _ rfl hown3 ⟨b,off+p*5,none⟩ (ms.length - p) (cap - p) (flat (ms.drop p)) rfl (by rw [cB,List.length_drop]) (fun j u hj=>by rw [ou,gJ.cellAt (by omega),hS1.cellAt hb,Nat.add_assoc];exact hcell _ _ (qG GY hj)) (fun u hu=>fC u _ hu) (by unfold maxLen;omega) (by omega) gJ.size ?_;intro v4 w13 Df JG _;have Dg:Since w1 w13:=gJ.grown JG (dh hown3))
    | (at_builtin;refine wpList_append_own _ rfl _ _ 39 rfl w1.heap.size 42 i0 (.agg #[.int .i64 0,.int .i64 0,.int .i64 0,.bool false,.string ByteArray.empty]) 5 48 underlying39 hi hz0 hz1 hz2 rfl (by decide) _ _ _ rfl (hown2.alloc _) ⟨w11.heap.size,0,none⟩ 1 1 m.cells rfl rfl (nG _ _ _) (fun u hu=>fC u [m] (by simpa [flat] using hu)) (by unfold maxLen;omega) (by omega) (by have:=rz.size;simp;omega) ?_;intro v3 w12 hown3 uF _;have gJ:Since w1 w12:=(rz.alloc _).grown uF (dh hown2))
    | (at_builtin;refine wpList_append_own _ rfl _ _ 39 rfl w1.heap.size 42 i0 (.agg #[.int .i64 0,.int .i64 0,.int .i64 0,.bool false,.string ByteArray.empty]) 5 48 underlying39 hi hz0 hz1 hz2 rfl (by decide) _ _ _ rfl hown ⟨b,off,none⟩ p cap (flat (ms.take p)) rfl (by rw [cB,List.length_take,Nat.min_eq_left GY]) (fun j u hj=>by rw [ou,lF.cellAt (by omega),hS1.cellAt hb];exact hcell _ _ (mG hj)) (fun u hu=>fC u _ hu) (by unfold maxLen;omega) (by omega) lF.size ?_;intro v2 w11 hown2 JH _;have rz:Since w1 w11:=lF.grown JH (dh hown);have hgb:∀ o:Nat,w11.cell? ⟨w.heap.size,o,none⟩=w1.cell? ⟨w.heap.size,o,none⟩:=fun o=>rz.cellAt (by omega) o))
   obtain ⟨a',len',cap',rfl,hMs,hcs⟩:=ny hS1.size HV.out HP.out (by omega) Df (by omega) (by simp)
   go_ret2
   exact ⟨a',len',cap',by rw [HV.out];rfl,hMs,hcs,hS1.trans Dg⟩
theorem GZ (a:Option Addr) (cap:Nat) (m:Mg) (w:World) :
  Calls prog 185 #[.slice a 0 cap,.agg #[.int .i64 m.fr,.int .i64 m.gr,.int .i64 m.st,.bool m.nul,.string m.body]] w fun e w'=>∃ a' len' cap',e=.returned (.tuple #[.slice a' len' cap',.int .i64 (fA m [])])/\eY w' a' len' (iJ m [])/\GJ w w' a' len' cap' m []/\Since w w':=by
 obtain ⟨i0,hi,hz0,hz1,hz2⟩:=info_parts Tryz.Ak
 obtain ⟨w1,hw1⟩:∃ w1,w.alloc (.cells #[.int .i64 m.fr,.int .i64 m.gr,.int .i64 m.st,.bool m.nul,.string m.body] 42)=w1:=⟨_,rfl⟩
 have hS1:=ay hw1
 have hsz:w1.heap.size=w.heap.size+1:=by rw [<-hw1];simp
 have hB:aZ w1 w.heap.size 0 m:=by rw [<-hw1];constructor <;> simp [go_sem]
 obtain ⟨g0,g1,g2,g3,g4⟩:=hB
 simp only [Nat.zero_add] at g0 g1 g2 g3 g4
 cases a with
 | none =>
  go_enter func185,ntmps185
  go_wp2_with fail
  refine (kU _ _ _ [] _ gQ).mono ?_
  rw [show aN []=true from rfl]
  rintro e w2 ⟨rfl,hS2⟩
  have hg:∀ o:Nat,w2.cell? ⟨w.heap.size,o,none⟩=w1.cell? ⟨w.heap.size,o,none⟩:=fun o=>hS2.cellAt (by omega) o
  have f0:=(hg 0).trans g0;have f1:=(hg 1).trans g1;have f2:=(hg 2).trans g2;have f3:=(hg 3).trans g3;have f4:=(hg 4).trans g4
  clear hg hw1
  go_wp2_with fail
  refine (p8 _ _ _ [] m _ gQ).mono ?_
  rw [show bT m []=0 from rfl]
  rintro e w3 ⟨rfl,hS3⟩
  have nI:=hS2.trans hS3
  clear f0 f1 f2 f3 f4 hS2 hS3
  have hne:Nonempty (Later w1):=⟨⟨w1,Since.refl w1⟩⟩
  go_wp2_with fail
  refine av (by kernel_rfl) (by kernel_rfl) nI ?_
  repeat (go_big_quiet_step (fail))
  refine wpQuiet_nil ?_
  intro w9 hS9
  clear nI
  go_wp2_with (first
   | (at_make;refine wpList_make_own _ rfl _ _ 39 rfl w1.heap.size 42 i0 (.agg #[.int .i64 0,.int .i64 0,.int .i64 0,.bool false,.string ByteArray.empty]) 5 underlying39 hi hz0 hz1 .i64 .i64 _ 1 rfl rfl (by simp) (by rw [hz2];omega) (by unfold maxLen;omega) hS9.size ?_;intro w10 hown hgr;have lF:Since w1 w10:=hS9.grown hgr (fun k e=>by cases e);have hgb:∀ o:Nat,w10.cell? ⟨w.heap.size,o,none⟩=w1.cell? ⟨w.heap.size,o,none⟩:=fun o=>lF.cellAt (by omega) o)
   | (at_builtin;refine wpList_append_own _ rfl _ _ 39 rfl w1.heap.size 42 i0 (.agg #[.int .i64 0,.int .i64 0,.int .i64 0,.bool false,.string ByteArray.empty]) 5 48 underlying39 hi hz0 hz1 hz2 rfl (by decide) _ _ _ rfl (hown.alloc _) ⟨w10.heap.size,0,none⟩ 1 1 m.cells rfl rfl (nG _ _ _) (fun u hu=>fC u [m] (by simpa [flat] using hu)) (by unfold maxLen;omega) (by omega) (by have:=lF.size;simp;omega) ?_;intro v3 w12 hown3 uF _;have gJ:Since w1 w12:=(lF.alloc _).grown uF (dh hown);obtain ⟨g',cap',rfl⟩:=ownsRow_succ hown3;have hcp:1<=cap':=oV hown3))
  obtain ⟨a',len',Dh,e1,hMs,hcs⟩:=ny hS1.size (m:=m) (ms:=[]) (p:=0) rfl rfl (by simp) hown3 (by simp) (by simp [flat])
  go_ret2
  exact ⟨a',len',Dh,by rw [<-e1];rfl,hMs,hcs,hS1.trans gJ⟩
 | some x =>
  by_cases hc0:cap=0
  ·subst hc0
   go_enter func185,ntmps185
   go_wp2_with fail
   refine (kU _ _ _ [] _ gQ).mono ?_
   rw [show aN []=true from rfl]
   rintro e w2 ⟨rfl,hS2⟩
   have hg:∀ o:Nat,w2.cell? ⟨w.heap.size,o,none⟩=w1.cell? ⟨w.heap.size,o,none⟩:=fun o=>hS2.cellAt (by omega) o
   have f0:=(hg 0).trans g0;have f1:=(hg 1).trans g1;have f2:=(hg 2).trans g2;have f3:=(hg 3).trans g3;have f4:=(hg 4).trans g4
   clear hg hw1
   go_wp2_with fail
   refine (p8 _ _ _ [] m _ gQ).mono ?_
   rw [show bT m []=0 from rfl]
   rintro e w3 ⟨rfl,hS3⟩
   have nI:=hS2.trans hS3
   clear f0 f1 f2 f3 f4 hS2 hS3
   have hne:Nonempty (Later w1):=⟨⟨w1,Since.refl w1⟩⟩
   go_wp2_with fail
   refine av (by kernel_rfl) (by kernel_rfl) nI ?_
   repeat (go_big_quiet_step (fail))
   refine wpQuiet_nil ?_
   intro w9 hS9
   clear nI
   go_wp2_with (first
    | (at_make;refine wpList_make_own _ rfl _ _ 39 rfl w1.heap.size 42 i0 (.agg #[.int .i64 0,.int .i64 0,.int .i64 0,.bool false,.string ByteArray.empty]) 5 underlying39 hi hz0 hz1 .i64 .i64 _ 1 rfl rfl (by simp) (by rw [hz2];omega) (by unfold maxLen;omega) hS9.size ?_;intro w10 hown hgr;have lF:Since w1 w10:=hS9.grown hgr (fun k e=>by cases e);have hgb:∀ o:Nat,w10.cell? ⟨w.heap.size,o,none⟩=w1.cell? ⟨w.heap.size,o,none⟩:=fun o=>lF.cellAt (by omega) o)
    | (at_builtin;refine wpList_append_own _ rfl _ _ 39 rfl w1.heap.size 42 i0 (.agg #[.int .i64 0,.int .i64 0,.int .i64 0,.bool false,.string ByteArray.empty]) 5 48 underlying39 hi hz0 hz1 hz2 rfl (by decide) _ _ _ rfl (hown.alloc _) ⟨w10.heap.size,0,none⟩ 1 1 m.cells rfl rfl (nG _ _ _) (fun u hu=>fC u [m] (by simpa [flat] using hu)) (by unfold maxLen;omega) (by omega) (by have:=lF.size;simp;omega) ?_;intro v3 w12 hown3 uF _;have gJ:Since w1 w12:=(lF.alloc _).grown uF (dh hown);obtain ⟨g',cap',rfl⟩:=ownsRow_succ hown3;have hcp:1<=cap':=oV hown3))
   obtain ⟨a',len',Dh,e1,hMs,hcs⟩:=ny hS1.size (m:=m) (ms:=[]) (p:=0) rfl rfl (by simp) hown3 (by simp) (by simp [flat])
   go_ret2
   exact ⟨a',len',Dh,by rw [<-e1];rfl,hMs,hcs,hS1.trans gJ⟩
  ·have hc1:0 < cap:=by omega
   go_enter func185,ntmps185
   go_wp2_with fail
   refine (kU _ _ _ [] _ gQ).mono ?_
   rw [show aN []=true from rfl]
   rintro e w2 ⟨rfl,hS2⟩
   have hg:∀ o:Nat,w2.cell? ⟨w.heap.size,o,none⟩=w1.cell? ⟨w.heap.size,o,none⟩:=fun o=>hS2.cellAt (by omega) o
   have f0:=(hg 0).trans g0;have f1:=(hg 1).trans g1;have f2:=(hg 2).trans g2;have f3:=(hg 3).trans g3;have f4:=(hg 4).trans g4
   clear hg hw1
   go_wp2_with fail
   refine (p8 _ _ _ [] m _ gQ).mono ?_
   rw [show bT m []=0 from rfl]
   rintro e w3 ⟨rfl,hS3⟩
   have nI:=hS2.trans hS3
   clear f0 f1 f2 f3 f4 hS2 hS3
   have hne:Nonempty (Later w1):=⟨⟨w1,Since.refl w1⟩⟩
   go_wp2_with fail
   refine av (by kernel_rfl) (by kernel_rfl) nI ?_
   repeat (go_big_quiet_step (fail))
   refine wpQuiet_nil ?_
   intro w9 hS9
   clear nI
   go_wp2_with (first
    | (at_make;refine wpList_make_own _ rfl _ _ 39 rfl w1.heap.size 42 i0 (.agg #[.int .i64 0,.int .i64 0,.int .i64 0,.bool false,.string ByteArray.empty]) 5 underlying39 hi hz0 hz1 .i64 .i64 _ 1 rfl rfl (by simp) (by rw [hz2];omega) (by unfold maxLen;omega) hS9.size ?_;intro w10 hown hgr;have lF:Since w1 w10:=hS9.grown hgr (fun k e=>by cases e);have hgb:∀ o:Nat,w10.cell? ⟨w.heap.size,o,none⟩=w1.cell? ⟨w.heap.size,o,none⟩:=fun o=>lF.cellAt (by omega) o)
    | (at_builtin;refine wpList_append_own _ rfl _ _ 39 rfl w1.heap.size 42 i0 (.agg #[.int .i64 0,.int .i64 0,.int .i64 0,.bool false,.string ByteArray.empty]) 5 48 underlying39 hi hz0 hz1 hz2 rfl (by decide) _ _ _ rfl (hown.alloc _) ⟨w10.heap.size,0,none⟩ 1 1 m.cells rfl rfl (nG _ _ _) (fun u hu=>fC u [m] (by simpa [flat] using hu)) (by unfold maxLen;omega) (by omega) (by have:=lF.size;simp;omega) ?_;intro v3 w12 hown3 uF _;have gJ:Since w1 w12:=(lF.alloc _).grown uF (dh hown);obtain ⟨g',cap',rfl⟩:=ownsRow_succ hown3;have hcp:1<=cap':=oV hown3))
   obtain ⟨a',len',Dh,e1,hMs,hcs⟩:=ny hS1.size (m:=m) (ms:=[]) (p:=0) rfl rfl (by simp) hown3 (by simp) (by simp [flat])
   go_ret2
   exact ⟨a',len',Dh,by rw [<-e1];rfl,hMs,hcs,hS1.trans gJ⟩
theorem JI (a:Option Addr) (len cap:Nat) (ms:List Mg) (m:Mg) (w:World) (hM:eY w a len ms) (hcap:len<=cap) :
  Calls prog 185 #[.slice a len cap,.agg #[.int .i64 m.fr,.int .i64 m.gr,.int .i64 m.st,.bool m.nul,.string m.body]] w fun e w'=>∃ a' len' cap',e=.returned (.tuple #[.slice a' len' cap',.int .i64 (fA m ms)])/\eY w' a' len' (iJ m ms)/\GJ w w' a' len' cap' m ms/\Since w w':=by
 by_cases h0:0 < len
 ·exact GX a len cap ms m w hM hcap h0
 ·have hl:=hM.hlen
  obtain rfl:len=0:=by omega
  obtain rfl:ms=[]:=zQ6 hl
  exact GZ a cap m w
end Go.Proofs.YtiiifecfdkjmbaaGreat
