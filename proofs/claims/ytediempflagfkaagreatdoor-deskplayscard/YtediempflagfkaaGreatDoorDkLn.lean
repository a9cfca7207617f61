/- Lemmas. Lemmas. -/
import Derived.Lib.AppendIntMem
import Derived.Test.YtediempflagfkaaGreatDoorDkLib
import Derived.Test.YtediempflagfkaaGreatDoorDkC1
import Derived.Test.YtediempflagfkaaGreatDoorDkNums
import Derived.Test.YtediempflagfkaaGreatDoorRangeL
import Derived.Test.YtediempflagfkaaGreatDoorRegM
set_option linter.unusedVariables false
set_option linter.unusedSimpArgs false
set_option linter.unnecessarySimpa false
set_option maxHeartbeats 1000000
namespace Go.Proofs.YtediempflagfkaaGreatDoor
open _root_.Go.Proofs.Tryz hiding checked
set_option maxRecDepth 8000
open Go.RowKit Go.Shelf
open Pu
structure Tb (w:World):Prop where
 tab : Lib.TabIs prog w "internal/strconv.uint64pow10" .u64 Lib.pow10Tab
 syn : ∃ tp p, w.var? prog "strconv.ErrSyntax" = some #[.iface tp p]
 rng : ∃ tp p, w.var? prog "strconv.ErrRange" = some #[.iface tp p]
theorem var_stays{P:Program}{w w':World}{n:String}{cs:Array Value}{g:Nat}(hg:P.globalNamed n=some g)(h:w.var? P n=some cs)(hb:g < w.heap.size->w'.heap[g]? = w.heap[g]?):w'.var? P n=some cs:=by
 unfold World.var? at h ⊢;rw[hg]at h ⊢;simp only[Option.bind_some]at h ⊢
 have hlt:g < w.heap.size:=by
  rcases Nat.lt_or_ge g w.heap.size with h1 | h1
  ·exact h1
  ·rw[Array.getElem?_eq_none h1]at h;cases h
 rw[hb hlt];exact h
theorem Qj : prog.globalNamed "internal/strconv.uint64pow10" = some 1 := by kernel_rfl
theorem Qi : prog.globalNamed "strconv.ErrSyntax" = some 2 := by kernel_rfl
theorem Kw : prog.globalNamed "strconv.ErrRange" = some 3 := by kernel_rfl
theorem Tb.fr{X:Nat->Prop}{w w':World}(h:Tb w)(k:Fr X w w')(hX:∀i,i < 4->¬ X i):Tb w':=by
 obtain⟨h1,⟨a,b,h2⟩,⟨c,d,h3⟩⟩:=h;exact⟨var_stays Qj h1 (fun hl=>k.block _ hl (hX _ (by omega))),⟨a,b,var_stays Qi h2 (fun hl=>k.block _ hl (hX _ (by omega)))⟩,⟨c,d,var_stays Kw h3 (fun hl=>k.block _ hl (hX _ (by omega)))⟩⟩
theorem Tb.ay{w w':World}(h:Tb w)(k:ak w w'):Tb w':=h.fr (k.fr fun _=>False) (fun _ _ x=>x)
theorem qK(n:Nat)(hn:n<=9223372036854775807)(w:World)(hT:Tb w):Calls prog 29 #[.int .i64 n] w fun e w'=>e=.returned (.string (bs (dn n)))/\ak w w':=by
 refine(Any.strconv_Itoa Tryz.Sb n (by omega) (by omega) w hT.tab).mono ?_;rintro e w' ⟨rfl,k,os,rfl⟩;exact⟨by rw[sQ];rfl,⟨Lib.below_grow _ _ (Nat.le_refl _) _ _⟩⟩
theorem Cv(s:List UInt8)(w:World):Calls prog 51 #[.string (bs s),.int .u8 32] w fun e w'=>e=.returned (.int .i64 (Lib.indexByte s 32))/\w'=w:=by
 refine(Any.stringslite_IndexByte (ρ:=Tryz.Ag_ren) { Tryz.Ag with } (bs s) 32 w).mono ?_
 rintro e w' ⟨rfl,rfl⟩;rw[kK];exact⟨rfl,rfl⟩
set_option maxRecDepth 8000 in
theorem Je(s:List UInt8)(w:World):Calls prog 70 #[.string (bs s),.string ⟨#[32]⟩] w fun e w'=>e=.returned (.int .i64 (Lib.indexByte s 32))/\w'=w:=by
 cases hc:([32] == (bs s).toList)
 ·obtain⟨N,hN⟩:∃y,Lib.indexByte s 32=y:=⟨_,rfl⟩;have hi:=fun y=>Cv s y;rw[hN]at hi ⊢;clear hN
  go_enter func70,ntmps70
  go_wp2_with (go_at_call 51;refine(hi _).mono ?_;rintro e w' ⟨rfl,hw⟩;obtain rfl:=hw.symm)
  go_ret
  exact⟨rfl,rfl⟩
 ·have h0:Lib.indexByte s 32=0:=by
   have:([32]:List UInt8)=s:=by rw[jc]at hc;simpa using hc
   rw[<-this];rfl
  rw[h0];clear h0
  go_enter func70,ntmps70
  go_wp2_with fail
  go_ret
  exact⟨rfl,rfl⟩
set_option maxRecDepth 8000 in
theorem LD(s:List UInt8)(hs:s.length<=1000000)(w:World):Calls prog 54 #[.string (bs s),.string ⟨#[32]⟩] w fun e w'=>e=.returned (.tuple #[.string (bs (wA s)),.string (bs (wB s)),.bool (wM s)])/\ak w w':=by
 have hsz:=bX s;have hix:=fun y=>Je s y;rcases Ab 32 s with hno | ⟨i,hbe,hi⟩
 ·obtain⟨e1,e2,e3⟩:=yK hno;rw[FM s hno]at hix;rw[e1,e2,e3];clear hno e1 e2 e3
  go_enter func54,ntmps54
  go_wp2_with (go_at_call 70;refine(hix _).mono ?_;rintro e w' ⟨rfl,hw⟩;obtain rfl:=hw.symm)
  refine bodyPost_ret (v:=.tuple #[.string (bs s),.string ⟨#[]⟩,.bool false]) ?_ rfl ⟨rfl,ak.refl _⟩;simp[results,results54,go_sem]
 ·obtain⟨e1,e2,e3⟩:=KI hbe hi;have hil:i < s.length:=(zQ2.1 hi).1;rw[IZ s i hbe hi]at hix;have x1:(bs s).extract 0 i=bs (wA s):=by rw[Eo,e1]
  have x2:(bs s).extract (i+1) s.length=bs (wB s):=by rw[zU _ _ _ rfl,e2]
  have HM:Hid (wM s=true):=e3;have hk1:i<=(bs s).size:=by omega
  have hk2:i+1<=(bs s).size:=by omega
  have hne:Nonempty (Later w):=⟨⟨w,ak.refl w⟩⟩;clear e1 e2 e3 hbe hi
  go_enter func54,ntmps54
  go_wp2_with (go_at_call 70;refine(hix _).mono ?_;rintro e w' ⟨rfl,hw⟩;obtain rfl:=hw.symm)
  refine aH (by kernel_rfl) (by kernel_rfl) (ak.refl _) ?_
  repeat (go_big_quiet_step (fail))
  refine wpQuiet_nil ?_;intro w9 hS9
  go_wp2
  refine bodyPost_ret (v:=.tuple #[.string (bs (wA s)),.string (bs (wB s)),.bool true]) ?_ rfl ⟨by rw[HM.out],hS9⟩;simp[results,results54,go_sem]
theorem Eh(s:List UInt8)(hs:s.length<=1000000)(w:World):Calls prog 30 #[.string (bs s),.string ⟨#[32]⟩] w fun e w'=>e=.returned (.tuple #[.string (bs (wA s)),.string (bs (wB s)),.bool (wM s)])/\ak w w':=by
 have hc:=fun y=>LD s hs y;obtain⟨a,ha⟩:∃y,bs (wA s)=y:=⟨_,rfl⟩;obtain⟨b,hb⟩:∃y,bs (wB s)=y:=⟨_,rfl⟩;obtain⟨m,hm⟩:∃y,wM s=y:=⟨_,rfl⟩;rw[ha,hb,hm]at hc ⊢;clear ha hb hm
 go_enter func30,ntmps30
 go_wp2_with (go_at_call 54;refine(hc _).mono ?_;rintro e w' ⟨rfl,hS⟩)
 refine bodyPost_ret (v:=.tuple #[.string a,.string b,.bool m]) ?_ rfl ⟨rfl,hS⟩;simp[results,results30,go_sem]
theorem l9(e:Int)(w:World):Calls prog 32 #[.bool true,.int .i64 e] w fun r w'=>r=.returned (.tuple #[])/\w'=w:=by
 go_enter func32,ntmps32
 go_wp2
 go_end0
 exact⟨rfl,rfl⟩
theorem iZ(e:Int)(w:World):Calls prog 32 #[.bool false,.int .i64 e] w fun r w'=>r=.panicked (pan e)/\w'=w:=by
 go_enter func32,ntmps32
 go_wp2
 exact⟨rfl,rfl,rfl⟩
end Go.Proofs.YtediempflagfkaaGreatDoor
set_option maxHeartbeats 4000000
namespace Go.Proofs.YtediempflagfkaaGreatDoor
open _root_.Go.Proofs.Tryz hiding checked
set_option maxRecDepth 8000
open Go.RowKit Go.Shelf
open Pu
def gX(ls:List (List UInt8)):List UInt8:=ls.flatMap (·++[10])
def Ji(l:List UInt8):Prop:=∀b∈l,b≠10
theorem F3:∀(n:Nat) (t:List UInt8),t.length<=n->(t≠[]->t.getLast? = some 10)->∃ls,t=gX ls/\∀l∈ls,Ji l
 | 0,t,h,_=>⟨[],by cases t with | nil=>rfl | cons b r=>simp at h,by simp⟩
 | n+1,t,h,he=>by
  rcases Ab 10 t with hno | ⟨i,hb,hi⟩
  ·by_cases ht:t=[]
   ·exact⟨[],ht,by simp⟩
   ·have:=he ht;exact absurd rfl (hno 10 (List.mem_of_getLast? this))
  ·have hil:i < t.length:=(zQ2.1 hi).1
   have hs:t=t.take i++[10]++t.drop (i+1):=by
    have h1:t.take (i+1)=t.take i++[10]:=by rw[List.take_add_one,hi];rfl
    rw[<-h1,List.take_append_drop]
   obtain⟨ls,e1,e2⟩:=F3 n (t.drop (i+1)) (by rw[List.length_drop];omega) (fun hne=>by
    have:=he (by rintro rfl;simp at hil);rw[List.getLast?_drop];have hl:¬ t.length<=i+1:=fun hle=>hne (List.drop_eq_nil_of_le hle);rw[if_neg hl];exact this)
   refine⟨t.take i::ls, ?_, ?_⟩
   ·show t=(t.take i++[10])++gX ls;rw[<-e1];exact hs
   ·intro l hl;rcases List.mem_cons.1 hl with rfl | hl
    ·intro b hbm;obtain⟨j,hj⟩:=List.getElem?_of_mem hbm
     have hji:j < i:=by
      have:=(zQ2.1 hj).1;rw[List.length_take]at this;omega
     exact hb j b hji (by rw[List.getElem?_take_of_lt hji]at hj;exact hj)
    ·exact e2 l hl
theorem mR(l:List UInt8)(ls:List (List UInt8)):gX (l::ls)=l++[10]++gX ls:=rfl
theorem zq(ls:List (List UInt8)):∀i,(gX (ls.drop i)).length<=(gX ls).length:=by
 induction ls with
 | nil=>intro i;simp
 | cons l r ih =>
  intro i
  cases i with
  | zero=>simp
  | succ i=>rw[List.drop_succ_cons,mR];have:=ih i;simp;omega
theorem LJ(t:ByteArray)(w:World) :
  Calls prog 9 #[.string t] w fun e w'=>e=.returned (.func (.func 25) #[] #[.pointer (some ⟨w.heap.size,0,none⟩)])/\w'=w.alloc (.cells #[.string t] 9):=by
 go_enter func9,ntmps9
 go_wp2
 go_ret
 exact⟨rfl,rfl⟩
theorem F4(s:List UInt8)(w:World):Calls prog 26 #[.string (bs s),.int .u8 10] w fun e w'=>e=.returned (.int .i64 (Lib.indexByte s 10))/\w'=w:=by
 refine(Any.strings_IndexByte Tryz.Ag (bs s) 10 w).mono ?_;rintro e w' ⟨rfl,rfl⟩;rw[kK];exact⟨rfl,rfl⟩
theorem Sg{l:List UInt8}(h:Ji l)(r:List UInt8):Lib.indexByte (l++[10]++r) 10=l.length:=by
 refine IZ _ _ (fun j b hj hb=>?_) ?_
 ·rw[List.append_assoc,List.getElem?_append_left hj]at hb;exact h b (List.mem_of_getElem? hb)
 ·rw[List.append_assoc,List.getElem?_append_right (Nat.le_refl _)];simp
def NI:Option Value->Nat | some (.string s)=>s.size | _=>0
attribute [local go_sem] Oper.semAt_some
set_option maxRecDepth 100000 in
theorem LK(m:Nat)(bj:Nat)(w:World)(hbj:bj < w.heap.size)(ls:List (List UInt8))(hls:∀l∈ls,Ji l)(ht:(gX ls).length<=4096)(c0:w.cell? ⟨bj,0,none⟩=some (.string (bs (gX ls))))(z0:w.frozen? ⟨bj,0,none⟩=false) :
  Si prog m 25 #[.pointer (some ⟨bj,0,none⟩)] (fun x:List UInt8=>#[.string (bs x)]) bj (fun i x=>∃l,ls[i]? = some l/\x=l++[10]) ls.length w:=by
 intro l J W hW hJ hY h0;refine callsIn_of_wp func25 rfl trivial ?_ rfl;simp only[ntmps25,List.size_toArray,List.length_cons,List.length_nil,Nat.reduceAdd,Nat.reduceSub,Array.replicate_succ,Array.replicate_zero,List.push_toArray,List.append_toArray,List.nil_append,List.cons_append];have d0:W.cell? ⟨bj,0,none⟩=some (.string (bs (gX ls))):=(hW.av hbj _).trans c0;have d1:W.frozen? ⟨bj,0,none⟩=false:=(hW.below.frozen (p:=⟨bj,0,none⟩) hbj).trans z0;have hbW:bj < W.heap.size:=zQ4 hbj hW.size
 gi_wp2
 gi_loopw [3,4] (fun _ _ wr=>∃k:Nat,k<=ls.length/\J k wr/\bj < wr.heap.size/\wr.cell? ⟨bj,0,none⟩=some (.string (bs (gX (ls.drop k))))/\wr.frozen? ⟨bj,0,none⟩=false) (fun _ _ wr=>NI (wr.cell? ⟨bj,0,none⟩))
 case atStart=>exact⟨0,Nat.zero_le _,h0,hbW,by simpa using d0,d1⟩
 case round =>
  obtain⟨k,hk,hJs,hbr,f0,f1⟩:=hrel;obtain⟨T,hT⟩:∃y,gX (ls.drop k)=y:=⟨_,rfl⟩;have hTl:T.length<=4096:=by rw[<-hT];have:=zq ls k;omega
  rw[hT]at f0;have hsz:=bX T;have HY:Hid _:=hY;clear hY d0 d1 c0 z0 h0;by_cases hlt:k < ls.length
  ·obtain⟨l0,hl0⟩:∃y,ls[k]? = some y:=⟨_,zQ1 hlt⟩
   have hdr:ls.drop k=l0::ls.drop (k+1):=by
    rw[List.drop_eq_getElem_cons hlt];congr 1;exact(zQ2.1 hl0).2
   obtain⟨R,hR0⟩:∃y,gX (ls.drop (k+1))=y:=⟨_,rfl⟩;have hTe:T=l0++[10]++R:=by rw[<-hT,hdr,mR,hR0]
   have hix:=fun y=>F4 T y;have hi1:Lib.indexByte T 10=(l0.length:Int):=by rw[hTe];exact Sg (hls l0 (List.mem_of_getElem? hl0)) R
   rw[hi1]at hix;have bq:T.length=l0.length+1+R.length:=by rw[hTe];simp;omega
   have hpos:(0:Int) < ((bs T).size:Int):=by omega
   have x1:(bs T).extract 0 (l0.length+1)=bs (l0++[10]):=by rw[Eo,hTe];congr 1;rw[List.take_left' (by simp)]
   have x2:(bs T).extract (l0.length+1) T.length=bs R:=by rw[zU _ _ _ rfl,hTe];congr 1;rw[List.drop_left' (by simp)]
   have hk1:l0.length+1<=(bs T).size:=by omega
   have HL:Hid (ls[k]? = some l0):=hl0;have HR:Hid (gX (ls.drop (k+1))=R):=hR0;have HLN:Hid (T.length=l0.length+1+R.length):=bq;have hl4:l0.length<=4096:=by omega
   clear hi1 hdr hl0 hT hTe hR0 bq
   gi_wp2_with (refine⟨trivial,fun h=>(by cases h), ?_⟩;gi_at_call 26;refine(callsIn_wide.2 (hix _)).mono ?_;rintro e W1 ⟨rfl,hw⟩;obtain rfl:=hw.symm)
   obtain⟨S0,hS0⟩:∃S0:World->Prop,∀w',S0 w'↔ak wr w':=⟨_,fun _=>Iff.rfl⟩;have c0:∀y:aA S0,y.w.cell? ⟨bj,0,none⟩=some (.string (bs T)):=fun y=>(((hS0 _).1 y.h).av hbr _).trans f0;obtain⟨W0,hW0⟩:∃y,wr.drew=y:=⟨_,rfl⟩;have hs0:=aY hW0;have aC:=(hS0 W0).2 hs0;have hne:Nonempty (aA S0):=⟨⟨_,aC⟩⟩;have cB:=aO W0;have g0:=c0 ⟨_,aC⟩;have g1:W0.frozen? ⟨bj,0,none⟩=false:=(hs0.below.frozen (p:=⟨bj,0,none⟩) hbr).trans f1;dsimp only at g0;obtain⟨V,hV⟩:∃y,W0.setCell ⟨bj,0,none⟩ (.string (bs R))=y:=⟨_,rfl⟩;have hFV:Fr (fun i=>i=bj) wr V:=by rw[<-hV];exact(hs0.fr _).setCell _ _ (fun _=>rfl)
   have v0:V.cell? ⟨bj,0,none⟩=some (.string (bs R)):=by rw[<-hV];exact gN _ _ _ _ g0
   have v1:V.frozen? ⟨bj,0,none⟩=false:=by rw[<-hV,World.frozen?_setCell];exact g1
   refine wpIn_wide.2 ?_;refine aW (fun w'=>∃x:aA S0,w'=x.w) (by kernel_rfl) ?_;rw[hW0];clear hW0;refine tM 0 rfl (aj aC) ?_;go_big_quiet_op;refine tW 1 rfl ?_;go_big_quiet_op;refine tW 2 rfl ?_;go_big_quiet_op;refine tM 3 rfl (aj aC) ?_;go_big_quiet_op;refine tM 4 rfl (aj aC) ?_;go_big_quiet_op;refine tW 5 rfl ?_;go_big_quiet_op;refine tW 6 rfl ?_;go_big_quiet_op;refine tM 7 rfl (aj aC) ?_;go_big_quiet_op;refine tW 8 rfl ?_;go_big_quiet_op;refine aV 9 rfl (by kernel_rfl) ?_;intro K hK;go_simp;refine hK _ _ (fun h=>absurd h (by decide +kernel)) ?_;clear hK K;refine bE (by kernel_rfl) ?_;have F0:Hid (wr.cell? ⟨bj,0,none⟩=some (.string (bs T))):=f0;clear c0 hne cB aC hS0 g0 g1 hV x1 x2 hk1 f0 f1;obtain⟨fnn,tmps,assign,body,hy,hR⟩:=HY.out k (l0++[10]) V (hJ _ _ _ hJs hFV) hlt ⟨l0,HL.out,rfl⟩
   gi_wp2
   refine⟨fun h=>(by cases h), ?_⟩;refine hR.mono ?_;rintro e W3 ⟨rfl,hJ3,hk3⟩;have y0:=(hk3.cell 0).trans v0;have y1:W3.frozen? ⟨bj,0,none⟩=false:=(World.frozen?_of_block hk3.same).trans v1;have hbz:bj < W3.heap.size:=zQ4 hbr (zQ5 hFV.size hk3.below.size);clear hy hR
   gi_wp2
   go_roundw
   case rel=>exact⟨k+1,hlt,hJ3,hbz,by rw[HR.out];exact y0,y1⟩
   case measure=>rw[y0,F0.out];simp[NI,bX];have:=HLN.out;omega
  ·have hkn:k=ls.length:=by omega
   have hT0:T=[]:=by rw[<-hT,hkn];simp[gX]
   subst hT0;clear hT hsz
   gi_wp2
   go_end0
   exact⟨_,rfl,by rw[<-hkn];exact hJs⟩
end Go.Proofs.YtediempflagfkaaGreatDoor
