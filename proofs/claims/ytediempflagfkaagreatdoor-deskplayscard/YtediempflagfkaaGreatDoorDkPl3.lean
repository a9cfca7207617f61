/- Lemmas. Lemmas. Lemmas. Lemmas. -/
import Derived.Test.YtediempflagfkaaGreatDoorDkLn
import Derived.Test.YtediempflagfkaaGreatDoorDkP11
import Derived.Lib.Strings
import Derived.Test.YtediempflagfkaaGreatDoorDkB1
import Derived.Test.YtediempflagfkaaGreatDoorRDo4X
set_option linter.unusedVariables false
set_option linter.unusedSimpArgs false
set_option linter.unnecessarySimpa false
namespace Go.Proofs.YtediempflagfkaaGreatDoor
set_option maxRecDepth 8000
open Pu
theorem jH{n:Nat}(h:n<=9999999):(dn n).length<=7:=mQ 6 n (by omega)
theorem xO{d d':Wd}{s t:List UInt8}(R:aL d)(h:dW d s=.ok (d',t)):aL d'/\t.length<=400:=by
 by_cases h1:wA s=qG
 ·rw[zO h1]at h;unfold xB at h;split at h
  ·obtain⟨d1,hd,e⟩:=mM h;cases e;obtain⟨R',_,hl⟩:=nN (fun h=>by cases h) hd;obtain⟨_,ck,_,_,hc,e2⟩:=qH R' hl;rw[e2];exact⟨R',by have:=jH (n:=ck) (by omega);omega⟩
  ·cases h
 by_cases h2:wA s=r9
 ·rw[zP h2]at h;unfold xC Mv at h;split at h
  ·obtain⟨d1,hd,e⟩:=mM h;cases e;obtain⟨R',_,hl⟩:=nN (fun _=>rfl) hd;obtain⟨_,ck,_,_,hc,e2⟩:=qH R' hl;rw[e2];exact⟨R',by have:=jH (n:=ck) (by omega);omega⟩
  ·cases h
 by_cases h3:wA s=sj
 ·rw[zQ h3]at h;unfold mvD Mv at h;split at h
  ·obtain⟨d1,hd,e⟩:=mM h;cases e;obtain⟨_,R',_,_,_,_,h40⟩:=yI hd;refine⟨R',zQ5 (jH (zQ5 (Nat.sub_le _ _) (by omega))) (by decide)⟩
  ·cases h
 by_cases h4:wA s=iO
 ·cases hm:wM s
  ·rw[zR h4 hm]at h;obtain⟨d1,hd,e⟩:=mM h;cases e;exact⟨Mx hd,by decide⟩
  ·rw[yJ h4 (by rw[hm];decide)]at h;cases h
 by_cases h5:wA s=su
 ·rw[zS h5]at h;unfold xD Mw at h;split at h
  ·rename_i a _;dsimp only at h;split at h
   ·cases h;exact⟨R,by have:=Dq (fun m hm=>Ej R (k:=a.toNat) hm);have:=R.vH a.toNat;omega⟩
   ·cases h
  ·cases h
 by_cases h6:wA s=sw
 ·rw[zT h6]at h;unfold xE Mw at h;split at h
  ·rename_i a _;dsimp only at h;split at h
   ·cases h;refine⟨R, ?_⟩;have hh:=R.nW a.toNat;have hk:=jH (n:=(aQ d a.toNat).length) (by omega)
    have hf:(dQ d a.toNat).toNat<=1048576:=by
     by_cases hl:a.toNat < d.ah.length
     ·have:=rz (d:=d) hl;have:=(R.clk a.toNat).2;omega
     ·have:dQ d a.toNat=0:=by unfold dQ;rw[List.getElem?_eq_none (by omega)]
      rw[this];decide
    have hg:=jH (n:=(dQ d a.toNat).toNat) (by omega);rw[List.length_append,List.length_cons];omega
   ·cases h
  ·cases h
 rw[Af h4 h1 h2 h3 h5 h6]at h;cases h
theorem A9{d:Wd}(R:aL d)(a:Int)(h:aM d a≠0):1<=aM d a/\aM d a<=7:=by
 unfold aM at h ⊢;rw[if_pos ((cZ d).2 R)]at h ⊢;split
 ·rename_i k;rw[if_pos k]at h;exact absurd rfl h
 ·decide
theorem yM{d:Wd}(R:aL d)(s:List UInt8):Er (dW d s):=by
 have e1:Er (.error 1:Except Int (Wd × List UInt8)):=Er.err (by decide);by_cases h1:wA s=qG
 ·rw[zO h1];unfold xB;split
  ·exact mP (gV R (nH _ _ _ _ _))
  ·exact e1
 by_cases h2:wA s=r9
 ·rw[zP h2];unfold xC Mv;split
  ·exact mP (gV R (nH _ _ _ _ _))
  ·exact e1
 by_cases h3:wA s=sj
 ·rw[zQ h3];unfold mvD Mv;split
  ·exact mP (uV R _ _)
  ·exact e1
 by_cases h4:wA s=iO
 ·cases hm:wM s
  ·rw[zR h4 hm];exact mP (gV R (En _))
  ·rw[yJ h4 (by rw[hm];decide)];exact e1
 by_cases h5:wA s=su
 ·rw[zS h5];unfold xD Mw;split
  ·dsimp only;split
   ·exact Er.ok _
   ·exact Er.err (A9 R _ (by assumption))
  ·exact e1
 by_cases h6:wA s=sw
 ·rw[zT h6];unfold xE Mw;split
  ·dsimp only;split
   ·exact Er.ok _
   ·exact Er.err (A9 R _ (by assumption))
  ·exact e1
 rw[Af h4 h1 h2 h3 h5 h6];exact e1
theorem uX{d:Wd}(R:aL d)(s:List UInt8):aL (qj d s)/\(oP d s).length<=400:=by
 unfold qj oP
 cases h:dW d s with
 | error e =>
  have:=yM R s e h;refine⟨R, ?_⟩;have hk:=jH (n:=e.toNat) (by omega);dsimp only;rw[List.length_append];have:kP.length=6:=rfl;omega
 | ok p=>exact xO R h
def oQ(d:Wd)(ls:List (List UInt8)):Wd × List UInt8:=ls.foldl (fun p s=>(qj p.1 s,p.2++oP p.1 s++[10])) (d,[])
theorem MB(d:Wd)(ls:List (List UInt8))(s:List UInt8):oQ d (ls++[s])=(qj (oQ d ls).1 s,(oQ d ls).2++oP (oQ d ls).1 s++[10]):=by
 unfold oQ;rw[List.foldl_append];rfl
theorem Dz{d:Wd}{ls:List (List UInt8)}{i:Nat}{s:List UInt8}(h:ls[i]? = some s):oQ d (ls.take (i+1))=(qj (oQ d (ls.take i)).1 s,(oQ d (ls.take i)).2++oP (oQ d (ls.take i)).1 s++[10]):=by
 rw[List.take_add_one,h];exact MB _ _ _
theorem Av{d:Wd}(R:aL d)(ls:List (List UInt8)):∀i,i<=ls.length->aL (oQ d (ls.take i)).1/\(oQ d (ls.take i)).2.length<=401*i
 | 0,_=>⟨R,by simp[oQ]⟩
 | i+1,h=>by
  obtain⟨s,hs⟩:∃s,ls[i]? = some s:=⟨_,zQ1 (by omega)⟩;obtain⟨R1,h1⟩:=Av R ls i (by omega);obtain⟨R2,h2⟩:=uX R1 s;rw[Dz hs];refine⟨R2, ?_⟩;dsimp only;rw[List.length_append,List.length_append,List.length_singleton];omega
theorem GY(d:Wd)(ls:List (List UInt8))(h:∀l∈ls,Ji l):∀(d:Wd) (o:List UInt8),(gX ls).foldl qh ⟨d,o,[]⟩=⟨(ls.foldl (fun p s=>(qj p.1 s,p.2++oP p.1 s++[10])) (d,o)).1,(ls.foldl (fun p s=>(qj p.1 s,p.2++oP p.1 s++[10])) (d,o)).2,[]⟩:=by
 induction ls with
 | nil=>intro d o;rfl
 | cons l r ih =>
  intro d o;rw[mR,List.foldl_append,Q9 l d o (h l (by simp)),ih (fun x hx=>h x (by simp[hx]))];rfl
theorem LX(d:Wd)(ls:List (List UInt8))(h:∀l∈ls,Ji l):(Ar d (gX ls)).out=(oQ d ls).2:=by
 unfold Ar;rw[GY d ls h];rfl
theorem NP(t:List UInt8):t.count 10=nlN t:=by
 unfold nlN;rw[List.count,List.countP_eq_length_filter]
 congr 1
theorem LW(ls:List (List UInt8))(h:∀l∈ls,Ji l):nlN (gX ls)=ls.length:=by
 induction ls with
 | nil=>rfl
 | cons l r ih =>
  have h1:nlN l=0:=by
   unfold nlN;rw[List.length_eq_zero_iff,List.filter_eq_nil_iff];intro b hb;simpa using h l (by simp) b hb
  have h2:=ih (fun x hx=>h x (by simp[hx]));rw[mR];unfold nlN at h1 h2 ⊢;rw[List.filter_append,List.filter_append,List.length_append,List.length_append,h1,h2];simp;omega
theorem Dx(t:List UInt8):Lib.hasSuffix t [10]=decide (t.getLast? = some 10):=by
 unfold Lib.hasSuffix;rw[Bool.eq_iff_iff,List.isSuffixOf_iff_suffix,decide_eq_true_eq];constructor
 ·rintro⟨r,rfl⟩;simp
 ·intro h;obtain⟨r,hr⟩:=List.getLast?_eq_some_iff.1 h;exact⟨r,hr.symm⟩
theorem Pt(l:List UInt8):Lib.trimSuffix (l++[10]) [10]=l:=by
 unfold Lib.trimSuffix;rw[Dx];simp
def jR(t:List UInt8):Int:=if 4096 < t.length\/80 < nlN t then 2 else if t≠[]/\t.getLast?≠some 10 then 1 else 0
end Go.Proofs.YtediempflagfkaaGreatDoor
set_option maxHeartbeats 1000000
namespace Go.Proofs.YtediempflagfkaaGreatDoor
open _root_.Go.Proofs.Tryz hiding checked
set_option maxRecDepth 8000
open Go.RowKit Go.Shelf
open Pu
theorem LU(t:List UInt8)(w:World):Calls prog 23 #[.string (bs t),.string ⟨#[10]⟩] w fun e w'=>e=.returned (.int .i64 (nlN t))/\w'=w:=by
 refine(Any.strings_Count_one Tryz.QM (bs t) 10 w).mono ?_;rintro e w' ⟨rfl,rfl⟩;rw[kK];exact⟨by unfold Lib.countByte;rw[NP],rfl⟩
theorem Jr(t:List UInt8)(ht:t.length<=9223372036854775807)(w:World):Calls prog 24 #[.string (bs t),.string ⟨#[10]⟩] w fun e w'=>e=.returned (.bool (decide (t.getLast? = some 10)))/\w'=w:=by
 refine(Any.strings_HasSuffix Tryz.Jh (bs t) ⟨#[10]⟩ w (by rw[bX];exact ht)).mono ?_;rintro e w' ⟨rfl,rfl⟩;rw[kK];exact⟨by rw[<-Dx],rfl⟩
theorem NQ(l:List UInt8)(hl:l.length<=1000000)(w:World):Calls prog 12 #[.string (bs (l++[10])),.string ⟨#[10]⟩] w fun e w'=>e=.returned (.string (bs l))/\w'=w:=by
 refine(Any.strings_TrimSuffix Tryz.FZ (bs (l++[10])) ⟨#[10]⟩ w (by rw[bX];simp;omega)).mono ?_;rintro e w' ⟨rfl,rfl⟩;rw[kK];refine⟨?_,rfl⟩;have:Lib.trimSuffix (l++[10]) (⟨#[10]⟩:ByteArray).data.toList=l:=Pt l;rw[this];rfl
set_option maxRecDepth 8000 in
theorem Au(t:List UInt8)(ht:t.length<=9223372036854775807)(w:World):Calls prog 8 #[.string (bs t)] w fun e w'=>e=.returned (.int .i64 (jR t))/\w'=w:=by
 have hsz:=bX t;by_cases h1:4096 < t.length
 ·have HE:Hid (jR t=2):=by unfold Hid jR;rw[if_pos (.inl h1)]
  have d1:decide (4096 < ((bs t).size:Int))=true:=by rw[hsz];simp;omega
  clear hsz h1
  go_enter func8,ntmps8
  go_wp2_with fail
  go_ret
  exact⟨by rw[HE.out];rfl,rfl⟩
 have d1:decide (4096 < ((bs t).size:Int))=false:=by rw[hsz];simp;omega
 have hco:=fun y=>LU t y;by_cases h2:80 < nlN t
 ·have HE:Hid (jR t=2):=by unfold Hid jR;rw[if_pos (.inr h2)]
  have d2:decide (80 < (nlN t:Int))=true:=by simp;omega
  obtain⟨c,hc⟩:∃c,nlN t=c:=⟨_,rfl⟩;rw[hc]at hco d2;clear hsz h1 h2 hc
  go_enter func8,ntmps8
  go_wp2_with (go_at_call 23;refine(hco _).mono ?_;rintro e w' ⟨rfl,hw⟩;obtain rfl:=hw.symm)
  go_ret
  exact⟨by rw[HE.out];rfl,rfl⟩
 have d2:decide (80 < (nlN t:Int))=false:=by simp;omega
 have HA:Hid (¬ (4096 < t.length\/80 < nlN t)):=by unfold Hid;omega
 obtain⟨c,hc⟩:∃c,nlN t=c:=⟨_,rfl⟩;rw[hc]at hco d2;clear hsz h1 h2 hc;by_cases h3:t=[]
 ·have HE:Hid (jR t=0):=by unfold Hid jR;rw[if_neg HA.out,if_neg (fun k=>k.1 h3)]
  have d3:((bs t).toList == [])=true:=by rw[jc,h3];rfl
  clear h3
  go_enter func8,ntmps8
  go_wp2_with (go_at_call 23;refine(hco _).mono ?_;rintro e w' ⟨rfl,hw⟩;obtain rfl:=hw.symm)
  go_ret
  exact⟨by rw[HE.out];rfl,rfl⟩
 have d3:((bs t).toList == [])=false:=by rw[jc];simpa using h3
 have hsu:=fun y=>Jr t ht y;by_cases h4:t.getLast? = some 10
 ·have HE:Hid (jR t=0):=by unfold Hid jR;rw[if_neg HA.out,if_neg (fun k=>k.2 h4)]
  rw[decide_eq_true h4]at hsu;clear h3 h4
  go_enter func8,ntmps8
  go_wp2_with (first
   | (go_at_call 23;refine(hco _).mono ?_;rintro e w' ⟨rfl,hw⟩;obtain rfl:=hw.symm)
   | (go_at_call 24;refine(hsu _).mono ?_;rintro e w' ⟨rfl,hw⟩;obtain rfl:=hw.symm))
  go_ret
  exact⟨by rw[HE.out];rfl,rfl⟩
 ·have HE:Hid (jR t=1):=by unfold Hid jR;rw[if_neg HA.out,if_pos ⟨h3,h4⟩]
  rw[decide_eq_false h4]at hsu;clear h3 h4
  go_enter func8,ntmps8
  go_wp2_with (first
   | (go_at_call 23;refine(hco _).mono ?_;rintro e w' ⟨rfl,hw⟩;obtain rfl:=hw.symm)
   | (go_at_call 24;refine(hsu _).mono ?_;rintro e w' ⟨rfl,hw⟩;obtain rfl:=hw.symm))
  go_ret
  exact⟨by rw[HE.out];rfl,rfl⟩
end Go.Proofs.YtediempflagfkaaGreatDoor
set_option maxHeartbeats 1000000
namespace Go.Proofs.YtediempflagfkaaGreatDoor
open _root_.Go.Proofs.Tryz hiding checked
set_option maxRecDepth 8000
open Go.RowKit Go.Shelf
open Pu
set_option maxRecDepth 8000 in
theorem NR(ah:Int)(a:Option Addr)(len cap:Nat)(l:List Int)(t:List UInt8)(w:World)(hI:Ints w a len l)(hE:dS ah l≠0) :
  Calls prog 4 #[.int .i64 ah,.slice a len cap,.string (bs t)] w fun e w'=>e=.returned (.tuple #[.string ⟨#[]⟩,.int .i64 (dS ah l)])/\ak w w':=by
 have hbg:=nZ ah a len cap l w hI;unfold tF at hbg;rw[if_neg hE]at hbg;obtain⟨er,her⟩:∃y,dS ah l=y:=⟨_,rfl⟩;rw[her]at hbg hE ⊢;have h0:(er == 0)=false:=by simpa using hE
 clear her hE hI
 go_enter func4,ntmps4
 go_wp2_with (go_at_call 7;refine hbg.mono ?_;rintro e W1 hR;obtain⟨rfl,hS1⟩:=hR.out.1 er rfl;clear hR;dsimp only;obtain⟨W2,hW2⟩:∃y,W1.alloc (.cells #[.slice none 0 0,.slice none 0 0,.slice none 0 0] 31)=y:=⟨_,rfl⟩;have hS2:ak W1 W2:=(by rw[<-hW2];exact(ak.refl W1).alloc _);have hBa:Bx3 W2 W1.heap.size (.slice none 0 0) (.slice none 0 0) (.slice none 0 0):=(by rw[<-hW2];exact Bx3.fresh W1 _);have hpf:=aS W2 W1.heap.size (.slice none 0 0) (.slice none 0 0) (.slice none 0 0);unfold iB at hpf;obtain⟨W3,hW3⟩:∃y,(((W2.setCell ⟨W1.heap.size,0,none⟩ (.slice none 0 0)).setCell ⟨W1.heap.size,1,none⟩ (.slice none 0 0)).setCell ⟨W1.heap.size,2,none⟩ (.slice none 0 0))=y:=⟨_,rfl⟩;rw[hW3]at hpf;have hS3:ak W1 W3:=hpf.aI hS2 (fun i hi e=>(by omega));obtain⟨_,m0,m1,m2,k0,k1,k2⟩:=hBa)
 refine bodyPost_ret (v:=.tuple #[.string ⟨#[]⟩,.int .i64 er]) ?_ rfl ⟨rfl,hS1.trans hS3⟩;simp[results,results4,go_sem]
set_option maxRecDepth 8000 in
theorem NS(ah:Int)(a:Option Addr)(len cap:Nat)(l:List Int)(t:List UInt8)(ht:t.length<=9223372036854775807)(w:World)(hI:Ints w a len l)(hE:dS ah l=0)(hs:jR t≠0) :
  Calls prog 4 #[.int .i64 ah,.slice a len cap,.string (bs t)] w fun e w'=>e=.returned (.tuple #[.string ⟨#[]⟩,.int .i64 (jR t)])/\ak w w':=by
 have hbg:=nZ ah a len cap l w hI;unfold tF at hbg;rw[if_pos hE]at hbg;obtain⟨d,hd⟩:∃y,eG ah.toNat l=y:=⟨_,rfl⟩;rw[hd]at hbg;have hsc:=fun y=>Au t ht y;obtain⟨er,her⟩:∃y,jR t=y:=⟨_,rfl⟩;rw[her]at hsc hs ⊢;have h0:(er == 0)=false:=by simpa using hs
 clear her hE hI hs hd
 go_enter func4,ntmps4
 go_wp2_with (first
  | (go_at_call 7;refine hbg.mono ?_;rintro e W1 hR;obtain⟨L,rfl,hO,hS1⟩:=hR.out.2 d rfl;clear hR;simp only[bF];obtain⟨W2,hW2⟩:∃y,W1.alloc (.cells #[.slice none 0 0,.slice none 0 0,.slice none 0 0] 31)=y:=⟨_,rfl⟩;have hS2:ak W1 W2:=(by rw[<-hW2];exact(ak.refl W1).alloc _);have hBa:Bx3 W2 W1.heap.size (.slice none 0 0) (.slice none 0 0) (.slice none 0 0):=(by rw[<-hW2];exact Bx3.fresh W1 _);have hpf:=aS W2 W1.heap.size (.slice (L (0,0,0)).a d.au.length (L (0,0,0)).cap) (.slice (L (1,0,0)).a d.ah.length (L (1,0,0)).cap) (.slice (L (2,0,0)).a d.aB.length (L (2,0,0)).cap);unfold iB at hpf;obtain⟨W3,hW3⟩:∃y,(((W2.setCell ⟨W1.heap.size,0,none⟩ (.slice (L (0,0,0)).a d.au.length (L (0,0,0)).cap)).setCell ⟨W1.heap.size,1,none⟩ (.slice (L (1,0,0)).a d.ah.length (L (1,0,0)).cap)).setCell ⟨W1.heap.size,2,none⟩ (.slice (L (2,0,0)).a d.aB.length (L (2,0,0)).cap))=y:=⟨_,rfl⟩;rw[hW3]at hpf;have hS3:ak W1 W3:=hpf.aI hS2 (fun i hi e=>(by omega));obtain⟨_,m0,m1,m2,k0,k1,k2⟩:=hBa)
  | (go_at_call 8;refine(hsc _).mono ?_;rintro e w' ⟨rfl,hw⟩;obtain rfl:=hw.symm))
 refine bodyPost_ret (v:=.tuple #[.string ⟨#[]⟩,.int .i64 er]) ?_ rfl ⟨rfl,hS1.trans hS3⟩;simp[results,results4,go_sem]
structure Pls where
 w0:World
 B:Nat
 cb:Nat
 b:Nat
 lb:Nat
 lp:Nat
structure Pls.Ok (q:Pls):Prop where
 z:4<=q.w0.heap.size
 h0:q.w0.heap.size<=q.B
 h1:q.B < q.cb
 h2:q.cb < q.b
 h3:q.b < q.lb
 h4:q.lb < q.lp
def Pls.S(q:Pls)(v:Value)(k:Nat):Prop:=k=q.B\/k=q.b\/v.ownBlock=some k\/k=q.lb\/k=q.lp
structure PiV (q:Pls) (d:Wd) (o:List UInt8) (W:World) (x:WV) (p v:Value):Prop where
 ay:ak q.w0 W
 ck:Ck W q.B x
 cl:q.cb < W.heap.size
 c:W.cell? ⟨q.cb,0,none⟩=some (.pointer (some ⟨q.B,0,none⟩))
 bld:Bld q.b W q.b p v o
 kw:∀w',Fr (q.S v) W w'->WAt w' x d
 tb:Tb W
 off:∀g,v.ownBlock=some g->g≠q.lb/\g≠q.lp
def Pi(q:Pls)(d:Wd)(o:List UInt8)(W:World):Prop:=∃x p v,PiV q d o W x p v
theorem PiV.fr{q:Pls}(k:q.Ok){d:Wd}{o:List UInt8}{A B:World}{x:WV}{p v:Value}(h:PiV q d o A x p v)(hF:Fr (fun k=>k=q.lb\/k=q.lp) A B):PiV q d o B x p v:=by
 obtain⟨z,h0,h1,h2,h3,h4⟩:=k;have e:∀i,i<=q.b->¬ (i=q.lb\/i=q.lp):=fun i hi=>by omega
 refine⟨hF.aI h.ay (fun i hi=>e i (by omega)),h.ck.fr hF (e _ (by omega)),zQ4 h.cl hF.size,(hF.cell (p:=⟨q.cb,0,none⟩) h.cl (e q.cb (by omega))).trans h.c,h.bld.fr hF (e _ (by omega)) (fun g hg x=>?_),fun w' hw=>h.kw w' (hF.trans hw (fun i _ x=>?_) (fun _ _ x=>x)),h.tb.fr hF (fun i hi=>e i (by omega)),h.off⟩
 ·have:=h.off g hg;omega
 ·rcases x with x | x
  ·exact .inr (.inr (.inr (.inl x)))
  ·exact .inr (.inr (.inr (.inr x)))
theorem Pi.fr{q:Pls}(k:q.Ok){d:Wd}{o:List UInt8}{A B:World}(h:Pi q d o A)(hF:Fr (fun k=>k=q.lb\/k=q.lp) A B):Pi q d o B:=by
 obtain⟨x,p,v,h⟩:=h;exact⟨x,p,v,h.fr k hF⟩
def Kpt(q:Pls)(A B:World):Prop:=NC A B/\KB 0 q.lb A B
theorem Kpt.trans{q:Pls}{A B C:World}(h:Kpt q A B)(k:Kpt q B C):Kpt q A C:=⟨fun i o hi ho=>k.1 i o (h.1 i o hi ho) ho,h.2.trans k.2⟩
theorem Kpt.ay{q:Pls}{A B:World}(h:ak A B)(hl:q.lb < A.heap.size):Kpt q A B:=⟨NC.iD h,KB.iD h (Nat.zero_le _) hl⟩
theorem Kpt.Qn{q:Pls}{A B:World}{X:Nat->Prop}(h:Fr X A B)(hl:q.lb < A.heap.size)(hb:¬ X q.lb)(hc:∀i o,X i->A.heap[i]? = some o->o.isCells=true):Kpt q A B :=
 ⟨fun i o hi ho=>(h.block i (zQ3.1 hi).1 (fun x=>by rw[hc i o x hi]at ho;cases ho)).trans hi,⟨⟨h.os,h.tape,h.output,h.size,fun i hi=>by omega⟩,h.block _ hl hb⟩⟩
theorem cells_of_cell{w:World}{p:Addr}{v:Value}(h:w.cell? p=some v):∀o,w.heap[p.block]? = some o->o.isCells=true:=by
 intro o ho;unfold World.cell? at h;rw[ho]at h;split at h
 ·rename_i c t z hb;cases hb;rfl
 ·cases h
theorem LV{q:Pls}(k:q.Ok){d:Wd}(R:aL d){o:List UInt8}{W:World}(h:Pi q d o W)(hl:q.lp < W.heap.size)(s:List UInt8)(hs:s.length<=100000) :
  Calls prog 11 #[.pointer (some ⟨q.B,0,none⟩),.string (bs s)] W fun e W'=>e=.returned (.string (bs (oP d s)))/\Pi q (qj d s) o W'/\Kpt q W W'/\W.heap.size<=W'.heap.size:=by
 obtain⟨x,p,v,h⟩:=h;obtain⟨z,h0,h1,h2,h3,h4⟩:=id k;refine(I7 q.B x d s hs W h.ck (fun w' hw=>h.kw w' (hw.mono (fun _ _ x=>.inl x))) h.tb (by omega) R).mono ?_;rintro e W' hA;have same:ak W W'->Pi q d o W'/\Kpt q W W'/\W.heap.size<=W'.heap.size:=fun hS=>⟨⟨x,p,v,h.fr k (hS.fr _)⟩,Kpt.ay hS (by omega),hS.size⟩;unfold oP qj
 cases hr:dW d s with
 | error er =>
  obtain⟨rfl,hS⟩:=hA.out.1 er hr;exact⟨rfl,same hS⟩
 | ok pr =>
  obtain⟨d',t⟩:=pr;obtain⟨rfl,hst⟩:=hA.out.2 d' t hr;refine⟨rfl, ?_⟩;dsimp only;rcases hst with ⟨hS,rfl⟩ | ⟨L,hC,hO,hF⟩
  ·exact same hS
  ·have hbl:=h.bld.lt;have hgl:∀g,v.ownBlock=some g->g < W.heap.size:=fun g hg=>(zM h.bld.row hg).2;have hgb:∀g,v.ownBlock=some g->q.b<=g:=fun g hg=>(zM h.bld.row hg).1;refine⟨⟨fE L d',p,v,hF.aI h.ay (fun i hi e=>by have e:i=q.B:=e;omega),hC,zQ4 h.cl hF.size,(hF.cell (p:=⟨q.cb,0,none⟩) h.cl (by show ¬ q.cb=q.B;omega)).trans h.c,h.bld.fr hF (by show ¬ q.b=q.B;omega) (fun g hg e=>by have:=hgb g hg;omega), ?_,h.tb.fr hF (fun i hi e=>by have e:i=q.B:=e;omega),h.off⟩,Kpt.Qn hF (by omega) (by show ¬ q.lb=q.B;omega) (fun i o' e ho=>?_),hF.size⟩
   ·intro w' hw;refine(hO.fr hw (fun i hi e=>?_)).wat;have:=(hO.blk hi).1;rcases e with e | e | e | e | e
    ·omega
    ·omega
    ·have:=hgl i e;omega
    ·omega
    ·omega
   ·have e:i=q.B:=e;subst e;exact cells_of_cell h.ck.c0 o' ho
theorem Dy{q:Pls}(k:q.Ok){d:Wd}{o o':List UInt8}{W W':World}{x:WV}{p p' v v':Value}(h:PiV q d o W x p v)(hl:q.lp < W.heap.size)(hb:Bld q.b W' q.b p' v' o')(hF:Fr (BX q.b v) W W')(hN:Nl W.heap.size v v'):Pi q d o' W'/\Kpt q W W'/\W.heap.size<=W'.heap.size:=by
 obtain⟨z,h0,h1,h2,h3,h4⟩:=id k;have hgl:∀g,v.ownBlock=some g->g < W.heap.size:=fun g hg=>(zM h.bld.row hg).2;have hgb:∀g,v.ownBlock=some g->q.b<=g:=fun g hg=>(zM h.bld.row hg).1
 have nb:∀i,i < q.b->¬ BX q.b v i:=fun i hi e=>by
  rcases e with e | e
  ·omega
  ·have:=hgb i e;omega
 refine⟨⟨x,p',v',hF.aI h.ay (fun i hi=>nb i (by omega)),h.ck.fr hF (nb _ (by omega)),zQ4 h.cl hF.size,(hF.cell (p:=⟨q.cb,0,none⟩) h.cl (nb q.cb (by omega))).trans h.c,hb, ?_,h.tb.fr hF (fun i hi=>nb i (by omega)), ?_⟩,Kpt.Qn hF (by omega) (fun e=>?_) (fun i o1 e ho=>?_),hF.size⟩
 ·intro w' hw;refine h.kw w' (hF.trans hw (fun i _ e=>?_) (fun i hi e=>?_))
  ·rcases e with e | e
   ·exact .inr (.inl e)
   ·exact .inr (.inr (.inl e))
  ·rcases e with e | e | e | e | e
   ·exact .inl e
   ·exact .inr (.inl e)
   ·rcases hN with en | ⟨g,en,hg⟩
    ·exact .inr (.inr (.inl (en ▸ e)))
    ·rw[en]at e;cases e;omega
   ·exact .inr (.inr (.inr (.inl e)))
   ·exact .inr (.inr (.inr (.inr e)))
 ·intro g hg;rcases hN with en | ⟨g',en,hg'⟩
  ·exact h.off g (en ▸ hg)
  ·rw[en]at hg;cases hg;omega
 ·rcases e with e | e
  ·omega
  ·exact(h.off _ e).1 rfl
 ·rcases e with e | e
  ·subst e;rw[h.bld.blk]at ho;cases ho;rfl
  ·rcases h.bld.row.2 with ⟨rfl,_⟩ | ⟨g,cap,cur,rfl,_,hg,_⟩
   ·simp[Value.ownBlock]at e
   ·simp[Value.ownBlock]at e;subst e;rw[hg]at ho;cases ho;rfl
theorem NT{q:Pls}(k:q.Ok){d:Wd}{o:List UInt8}{W:World}(h:Pi q d o W)(hl:q.lp < W.heap.size)(t:List UInt8)(hn:o.length+t.length<=1000000) :
  Calls prog 10 #[.pointer (some ⟨q.b,0,none⟩),.string (bs t)] W fun e W'=>(∃y,e=.returned y)/\Pi q d (o++t) W'/\Kpt q W W'/\W.heap.size<=W'.heap.size:=by
 obtain⟨x,p,v,h⟩:=h;refine(zF q.b q.b p v o t hn W h.bld (Nat.le_of_lt h.bld.lt)).mono ?_;rintro e W' ⟨he,v',hb,hF,hN⟩;exact⟨he,Dy k h hl hb hF hN⟩
theorem Pv{q:Pls}(k:q.Ok){d:Wd}{o:List UInt8}{W:World}(h:Pi q d o W)(hl:q.lp < W.heap.size)(c:UInt8)(hn:o.length+1<=1000000) :
  Calls prog 13 #[.pointer (some ⟨q.b,0,none⟩),.int .u8 (c.toNat:Int)] W fun e W'=>(∃y,e=.returned y)/\Pi q d (o++[c]) W'/\Kpt q W W'/\W.heap.size<=W'.heap.size:=by
 obtain⟨x,p,v,h⟩:=h;refine(Cr q.b q.b p v o c hn W h.bld (Nat.le_of_lt h.bld.lt)).mono ?_;rintro e W' ⟨he,v',hb,hF,hN⟩;exact⟨he,Dy k h hl hb hF hN⟩
end Go.Proofs.YtediempflagfkaaGreatDoor
