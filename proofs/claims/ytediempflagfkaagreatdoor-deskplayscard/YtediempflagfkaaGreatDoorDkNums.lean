/- Lemmas. Lemmas. Lemmas. -/
import Derived.Laws.IdiomStrings
import Derived.Test.YtediempflagfkaaGreatDoorPureZ
import Derived.Test.YtediempflagfkaaGreatDoorSSea
import Derived.Laws.Strings
import Derived.Test.YtediempflagfkaaGreatDoorPureDD
set_option linter.unusedVariables false
set_option linter.unusedSimpArgs false
set_option linter.unnecessarySimpa false
namespace Go.Proofs.YtediempflagfkaaGreatDoor
set_option maxRecDepth 8000
open Go.RowKit Go.Shelf
open Pu
def bs(l:List UInt8):ByteArray:=⟨l.toArray⟩
theorem KE(s:ByteArray):bs s.data.toList=s:=by unfold bs;simp
theorem bX(l:List UInt8):(bs l).size=l.length:=by unfold bs;show l.toArray.size=_;simp
theorem kK(l:List UInt8):(bs l).data.toList=l:=by unfold bs;simp
theorem Eo(l:List UInt8)(n:Nat):(bs l).extract 0 n=bs (l.take n):=by
 apply ByteArray.ext;rw[ByteArray.data_extract];unfold bs;simp
theorem zU(l:List UInt8)(n m:Nat)(h:m=l.length):(bs l).extract n m=bs (l.drop n):=by
 subst h;apply ByteArray.ext;rw[ByteArray.data_extract];unfold bs;simp[List.take_of_length_le]
end Go.Proofs.YtediempflagfkaaGreatDoor
set_option maxHeartbeats 2000000
namespace Go.Proofs.YtediempflagfkaaGreatDoor
open _root_.Go.Proofs.Tryz hiding checked
set_option maxRecDepth 8000
open Go.RowKit Go.Shelf
open Pu
theorem iP(a b:List UInt8):bs a++bs b=bs (a++b):=by
 apply ByteArray.ext;rw[ByteArray.data_append];unfold bs;simp
theorem jc(l:List UInt8):(bs l).toList=l:=by rw[ByteArray.toList_eq,kK]
theorem mQ:∀(k n:Nat),n < 10 ^ (k+1)->(dn n).length<=k+1
 | 0,n,h=>by rw[xw (by omega)];simp
 | k+1,n,h=>by
  by_cases hn:n < 10
  ·rw[xw hn];simp
  ·rw[zN hn,List.length_append];have:=mQ k (n / 10) (by rw[Nat.pow_succ]at h;omega);simp;omega
theorem je:∀(k n:Nat) (hk:n < k) (hn:n<=1000000000) (w:World),Calls prog 18 #[.int .i64 n] w fun e w'=>e=.returned (.string (bs (dn n)))/\ak w w'
 | 0,n,hk,_,_=>by omega
 | k+1,n,hk,hn,w=>by
  obtain⟨c,hc⟩:∃c:UInt8,c=UInt8.ofNat (48+n % 10):=⟨_,rfl⟩;have hcv:(48:Int)+(n:Int) % 10=(c.toNat:Int):=by rw[hc];simp;omega
  obtain⟨w1,hw1⟩:∃y,w.alloc (.cells #[.int .u8 (48+(n:Int) % 10)] 5)=y:=⟨_,rfl⟩;have hS1:=aF hw1
  have hb:(convert 39 9 (.slice (some ⟨w.heap.size,0,none⟩) 1 1)).run prog w1=.ok (.string (bs [c])) w1 :=
   run_convert_bytes_back (P:=prog) w1 39 9 5 ⟨w.heap.size,0,none⟩ 1 [c] (by kernel_rfl) (by kernel_rfl) (by kernel_rfl) (fun j hj=>by
    obtain rfl:j=0:=by simpa using hj
    rw[<-hw1,Addr.add_lit];simp[go_sem];exact hcv)
  have HC:Hid (c=UInt8.ofNat (48+n % 10)):=hc;clear hcv hc;by_cases h10:n < 10
  ·have hd:decide ((n:Int) < 10)=true:=by simp;omega
   have HD:Hid (dn n=[c]):=by unfold Hid;rw[xw h10,HC.out];congr 3;omega
   go_enter func18,ntmps18
   go_wp2_with fail
   go_ret
   exact⟨by rw[HD.out];rfl,hS1⟩
  ·have hd:decide ((n:Int) < 10)=false:=by simp;omega
   have HD:Hid (dn n=dn (n / 10)++[c]):=by unfold Hid;rw[zN h10,HC.out]
   have hrec:Calls prog 18 #[.int .i64 ((n:Int) / 10)] w1 fun e w'=>e=.returned (.string (bs (dn (n / 10))))/\ak w1 w':=by
    have h:=je k (n / 10) (by omega) (by omega) w1
    rwa[show((n / 10:Nat):Int)=(n:Int) / 10 from by omega]at h
   have hl:=mQ 9 (n / 10) (by omega);have hsz:¬ 9223372036854775807 < (bs (dn (n / 10))).size+(bs [c]).size:=by rw[bX,bX,List.length_singleton];omega
   obtain⟨dl,hdl⟩:∃y,dn (n / 10)=y:=⟨_,rfl⟩;rw[hdl]at hrec hsz;have HSZ:=hsz;have HDL:Hid (dn (n / 10)=dl):=hdl;clear hdl hl
   go_enter func18,ntmps18
   go_wp2_with (go_at_call 18;refine hrec.mono ?_;rintro e w2 ⟨rfl,hS2⟩)
   go_ret
   exact⟨by rw[HD.out,HDL.out,<-iP];rfl,hS1.trans hS2⟩
set_option maxRecDepth 8000 in
theorem bQ(s:List UInt8)(hs:s.length<=1000000)(w:World):Calls prog 38 #[.string (bs s)] w fun e w'=>e=.returned (.tuple #[.string (bs (wA s)),.string (bs (wB s)),.bool (wM s)])/\ak w w':=by
 have hsz:=bX s
 go_enter func38,ntmps38
 go_wp2_with fail
 go_loopw [5] (fun i wr=>∃k:Nat,k<=s.length/\i=.int .i64 k/\(∀(j:Nat) (b:UInt8),j < k->s[j]? = some b->b≠32)/\ak w wr) (fun i _=>s.length - (intOf i).toNat)
 case atStart=>exact⟨0,Nat.zero_le _,rfl,fun j b h=>by omega,ak.refl _⟩
 case round =>
  obtain⟨k,hk,rfl,hno,hS⟩:=hrel;have HNO:Hid (∀(j:Nat) (b:UInt8),j < k->s[j]? = some b->b≠32):=hno;clear hno;by_cases hlt:k < s.length
  ·obtain⟨b,hb⟩:∃b,s[k]? = some b:=⟨_,zQ1 hlt⟩;have hkb:k < (bs s).size:=by rw[hsz];exact hlt
   have hbk:(bs s)[k]=b:=by
    have h1:=(zQ2.1 hb).2;show s.toArray[k]'(by simpa using hlt)=b;rw[List.getElem_toArray];exact h1
   have HB:Hid (s[k]? = some b):=hb;clear hb;cases h32:((b.toNat:Int) == 32)
   ·have Pz:Hid (b≠32):=fun e=>by subst e;simp at h32
    go_wp2_with fail
    refine⟨⟨k+1,by omega,by go_num,fun j c hj hc=>?_,hS⟩,by simp[intOf];omega⟩;by_cases hjk:j < k
    ·exact HNO.out j c hjk hc
    ·obtain rfl:j=k:=by omega
     have:=HB.out.symm.trans hc;cases this;exact Pz.out
   ·have Pz:b=32:=by
     have h1:(b.toNat:Int)=32:=by simpa using h32
     have h2:b.toNat=32:=by omega
     exact UInt8.toNat_inj.1 (by rw[h2];rfl)
    rw[Pz]at HB;obtain⟨e1,e2,e3⟩:=KI HNO.out HB.out;have x1:(bs s).extract 0 k=bs (wA s):=by rw[Eo,e1]
    have x2:(bs s).extract (k+1) s.length=bs (wB s):=by rw[zU _ _ _ rfl,e2]
    have HM:Hid (wM s=true):=e3;have hk1:k<=(bs s).size:=by omega
    have hk2:k+1<=(bs s).size:=by omega
    have hne:Nonempty (Later w):=⟨⟨w,ak.refl w⟩⟩;clear e1 e2 e3 Pz
    go_wp2_with fail
    refine aH (by kernel_rfl) (by kernel_rfl) hS ?_
    repeat (go_big_quiet_step (fail))
    refine wpQuiet_nil ?_;intro w9 hS9
    go_wp2
    refine bodyPost_ret (v:=.tuple #[.string (bs (wA s)),.string (bs (wB s)),.bool true]) ?_ rfl ⟨by rw[HM.out],hS9⟩;simp[results,results38,go_sem]
  ·obtain rfl:k=s.length:=by omega
   obtain⟨e1,e2,e3⟩:=yK (s:=s) (fun b hb=>by obtain⟨j,hj⟩:=List.getElem?_of_mem hb;exact HNO.out j b (zQ2.1 hj).1 hj);have HW:Hid (wA s=s/\wB s=[]/\wM s=false):=⟨e1,e2,e3⟩;clear e1 e2 e3
   go_wp2
   refine bodyPost_ret (v:=.tuple #[.string (bs s),.string ⟨#[]⟩,.bool false]) ?_ rfl ⟨by rw[HW.out.1,HW.out.2.1,HW.out.2.2];rfl,hS⟩;simp[results,results38,go_sem]
theorem Gg{b:UInt8}:qg b=true↔48<=b.toNat/\b.toNat<=57:=by unfold qg;simp
theorem Ey{s:List UInt8}{k:Nat}{b:UInt8}(h:(s.take k).all qg=true)(hb:s[k]? = some b)(hd:qg b=true):(s.take (k+1)).all qg=true:=by
 rw[List.take_add_one,hb,List.all_append,h];simp[hd]
theorem LY{s:List UInt8}{k:Nat}{b:UInt8}(hb:s[k]? = some b):vD (s.take (k+1))=10*vD (s.take k)+(b.toNat - 48):=by
 rw[List.take_add_one,hb];exact DC _ _
theorem NV{s:List UInt8}(h:s.all qg=true)(hl:s.length<=6):vD s < 1000000:=by
 have:=Ez s 0 0 (by omega) h;refine zQ4 this ?_;rw[Nat.zero_add];exact zQ5 (Nat.pow_le_pow_right (by omega) hl) (by decide)
set_option maxRecDepth 8000 in
theorem kQ(s:List UInt8)(hs:s.length<=1000000)(w:World):Calls prog 39 #[.string (bs s)] w fun e w'=>e=.returned (.int .i64 (bZ s))/\ak w w':=by
 have hsz:=bX s;obtain⟨N,hN⟩:∃y,bZ s=y:=⟨_,rfl⟩;have HN:Hid (bZ s=N):=hN;rw[hN];clear hN;cases hin:inB s.length 1 6
 ·have HNO:Hid (N=-1):=by
   unfold Hid;rw[<-HN.out];unfold bZ
   rw[if_neg (fun h=>by
    have:inB s.length 1 6=true:=by unfold inB;simp;omega
    rw[hin]at this;cases this)]
  go_enter func39,ntmps39
  go_wp2_with (go_at_call 35;refine(bJ _ _ _ _).mono ?_;rintro e w' ⟨rfl,hw⟩;obtain rfl:=hw.symm)
  go_ret
  exact⟨by rw[HNO.out];rfl,ak.refl _⟩
 have hl6:1<=s.length/\s.length<=6:=by unfold inB at hin;simp at hin;omega
 have HBAD:Hid (∀(k:Nat) (b:UInt8),s[k]? = some b->qg b=false->N=-1):=by
  intro k b hb hd;rw[<-HN.out];unfold bZ
  rw[if_neg (fun h=>by
   have:=List.all_eq_true.1 h.2.1 b (List.mem_of_getElem? hb);rw[hd]at this;cases this)]
 go_enter func39,ntmps39
 go_wp2_with (go_at_call 35;refine(bJ _ _ _ _).mono ?_;rintro e w' ⟨rfl,hw⟩;obtain rfl:=hw.symm)
 go_loopw [3,4] (fun v i wr=>∃k:Nat,k<=s.length/\i=.int .i64 k/\v=.int .i64 (vD (s.take k))/\(s.take k).all qg=true/\wr=w) (fun _ i _=>s.length - (intOf i).toNat)
 case atStart=>exact⟨0,Nat.zero_le _,rfl,rfl,rfl,rfl⟩
 case round =>
  obtain⟨k,hk,rfl,rfl,had,hwr⟩:=hrel;obtain rfl:=hwr.symm;have HAD:Hid ((s.take k).all qg=true):=had;have hv6:=NV had (by rw[List.length_take];omega);clear had;obtain⟨v,hv⟩:∃v,vD (s.take k)=v:=⟨_,rfl⟩;have HV:Hid (vD (s.take k)=v):=hv;rw[hv]at hv6 ⊢;clear hv;by_cases hlt:k < s.length
  ·obtain⟨b,hb⟩:∃b,s[k]? = some b:=⟨_,zQ1 hlt⟩;have hkb:k < (bs s).size:=by rw[hsz];exact hlt
   have hbk:(bs s)[k]=b:=by
    have h1:=(zQ2.1 hb).2;show s.toArray[k]'(by simpa using hlt)=b;rw[List.getElem_toArray];exact h1
   have hb8:=b.toNat_lt;have HB:Hid (s[k]? = some b):=hb;clear hb;by_cases hd:48<=b.toNat/\b.toNat<=57
   ·have q1:decide ((b.toNat:Int) < 48)=false:=by simp;omega
    have q2:decide (57 < (b.toNat:Int))=false:=by simp;omega
    have HD:Hid (qg b=true):=Gg.2 hd;obtain⟨hd1,hd2⟩:=hd
    go_wp2_with fail
    refine⟨⟨k+1,by omega,by go_num, ?_,Ey HAD.out HB.out HD.out,trivial⟩,by simp[intOf];omega⟩;rw[LY HB.out,HV.out];congr 1;omega
   ·have HF:Hid (N=-1):=HBAD.out k b HB.out (by rw[<-Bool.not_eq_true,Gg];exact hd);by_cases h48:b.toNat < 48
    ·have q1:decide ((b.toNat:Int) < 48)=true:=by simp;omega
     clear hd
     go_wp2_with fail
     go_ret
     exact⟨by rw[HF.out];rfl,ak.refl _⟩
    ·have q1:decide ((b.toNat:Int) < 48)=false:=by simp;omega
     have q2:decide (57 < (b.toNat:Int))=true:=by simp;omega
     clear hd
     go_wp2_with fail
     go_ret
     exact⟨by rw[HF.out];rfl,ak.refl _⟩
  ·obtain rfl:k=s.length:=by omega
   rw[List.take_length]at HAD HV;have hdg:=je (v+1) v (by omega) (by omega) w
   go_wp2_with (go_at_call 18;refine hdg.mono ?_;rintro e w2 ⟨rfl,hS2⟩)
   ·rename_i hne;clear hdg;have hne':¬ dn v=s:=by rw[jc,jc]at hne;simpa using hne
    have HF:Hid (N=-1):=by
     unfold Hid;rw[<-HN.out];unfold bZ;rw[if_neg (fun h=>hne' (by have:=h.2.2;rwa[HV.out]at this))]
    go_ret
    exact⟨by rw[HF.out];rfl,hS2⟩
   ·rename_i hne;have hne':dn v=s:=by rw[jc,jc]at hne;simpa using hne
    have HF:Hid (N=(v:Int)):=by
     unfold Hid;rw[<-HN.out];unfold bZ;rw[if_pos ⟨hl6,HAD.out,by rw[HV.out];exact hne'⟩,HV.out]
    go_ret
    exact⟨by rw[HF.out];rfl,hS2⟩
end Go.Proofs.YtediempflagfkaaGreatDoor
set_option maxHeartbeats 2000000
namespace Go.Proofs.YtediempflagfkaaGreatDoor
open _root_.Go.Proofs.Tryz hiding checked
set_option maxRecDepth 8000
open Go.RowKit Go.Shelf
open Pu
theorem jA(s:List UInt8):(wB s).length<=s.length:=by
 unfold wB;rw[List.length_drop];have:(s.dropWhile (·≠32)).length<=s.length:=(List.dropWhile_sublist _).length_le;omega
theorem sZ(s:List UInt8):(wA s).length<=s.length:=(List.takeWhile_sublist _).length_le
theorem qL{n k:Nat}{s sk:List UInt8}{acc:List Int}(h:numsL n s=(numsL (n - k) sk).map (acc++·))(hk:k < n)(hb:¬ (0<=bZ (wA sk)/\wM sk=decide (k+1 < n))):numsL n s=none:=by
 rw[h];obtain⟨r,hr⟩:∃r,n - k=r+1:=⟨n - k - 1,by omega⟩;rw[hr];unfold numsL;rw[if_neg (fun h=>hb ⟨h.1,by rw[h.2,decide_eq_decide];omega⟩)];rfl
theorem Dt{n k:Nat}{s sk:List UInt8}{acc:List Int}(h:numsL n s=(numsL (n - k) sk).map (acc++·))(hk:k < n)(hb:0<=bZ (wA sk)/\wM sk=decide (k+1 < n)):numsL n s=(numsL (n - (k+1)) (wB sk)).map ((acc++[bZ (wA sk)])++·):=by
 rw[h];obtain⟨r,hr⟩:∃r,n - k=r+1:=⟨n - k - 1,by omega⟩;rw[hr,show n - (k+1)=r from by omega]
 have e:numsL (r+1) sk=(numsL r (wB sk)).map (bZ (wA sk)::·):=by
  show(if _ then _ else _)=_;rw[if_pos ⟨hb.1,by rw[hb.2,decide_eq_decide];omega⟩]
 rw[e,Option.map_map]
 congr 1
 funext l
 simp
theorem Jj{w:World}{lo:Nat}{sa:Option Addr}{sc:Nat}{xs:List Int}(h:Row w lo 1 ⟨sa,sc⟩ xs.length (xs.map j6))(hl:xs.length<=1000):Ints w sa xs.length xs:=by
 refine⟨rfl,by omega,fun hp=>?_⟩;obtain⟨b,off,e,_,hb,_,hc⟩:=h.body (by have:=h.cap;dsimp only at this ⊢;omega);refine⟨b,off,e,hb,fun i hi=>hc i _ ?_⟩;rw[List.getElem?_map];simp[hi,j6]
set_option maxRecDepth 8000 in
theorem o9(n:Nat)(hn:n<=2)(s:List UInt8)(hs:s.length<=100000)(w:World):Calls prog 41 #[.string (bs s),.int .i64 n] w fun e w'=>ak w w'/\((numsL n s=none/\e=.returned (.tuple #[.slice none 0 0,.bool false]))\/∃l a c,numsL n s=some l/\l.length=n/\e=.returned (.tuple #[.slice a l.length c,.bool true])/\Ints w' a l.length l):=by
 obtain⟨P,hP⟩:∃y,numsL n s=y:=⟨_,rfl⟩;have HP:Hid (numsL n s=P):=hP
 have HP0:Hid (P=(numsL (n - 0) s).map (([]:List Int)++·)):=by
  unfold Hid;rw[<-hP,Nat.sub_zero];cases numsL n s <;> simp
 rw[hP];clear hP
 go_enter func41,ntmps41
 go_wp2_with fail
 go_loopw [0,6,7] (fun v0 v6 i wr=>∃(k:Nat) (acc:List Int) (sk:List UInt8) (sa:Option Addr) (sc:Nat),k<=n/\i=.int .i64 k/\v0=.string (bs sk)/\v6=.slice sa k sc/\acc.length=k/\Row wr w.heap.size 1 ⟨sa,sc⟩ k (acc.map j6)/\ak w wr/\sk.length<=100000/\Hid (P=(numsL (n - k) sk).map (acc++·))) (fun _ _ i _=>n - (intOf i).toNat)
 case atStart=>exact⟨0,[],s,none,0,Nat.zero_le _,rfl,rfl,rfl,rfl,Row.nil _ _ _,ak.refl _,hs,HP0⟩
 case round =>
  obtain⟨wo,rfl⟩:∃wo,wo=wr:=⟨_,rfl⟩;obtain⟨k,acc,sk,sa,sc,hk,rfl,rfl,rfl,hal,hR,hS,Wj,HC⟩:=hrel;have HAL:Hid (acc.length=k):=hal;clear hal;by_cases hlt:k < n
  ·have hwd:=bQ sk (by omega) wo;have hnm:=fun y=>kQ (wA sk) (by have:=sZ sk;omega) y;obtain⟨A,hA⟩:∃y,wA sk=y:=⟨_,rfl⟩;obtain⟨B,hB⟩:∃y,wB sk=y:=⟨_,rfl⟩;obtain⟨m,hm⟩:∃y,wM sk=y:=⟨_,rfl⟩;obtain⟨x,hx⟩:∃y,bZ A=y:=⟨_,rfl⟩;have HA:Hid (wA sk=A/\wB sk=B/\wM sk=m/\bZ A=x):=⟨hA,hB,hm,hx⟩;have hBl:B.length<=100000:=by rw[<-hB];have:=jA sk;omega
   rw[hA,hB,hm]at hwd;rw[hA,hx]at hnm;clear hA hB hm hx;have q3:decide ((k:Int)+1 < (n:Int))=decide (k+1 < n):=by rw[decide_eq_decide];omega
   cases ht:decide (k+1 < n)
   ·have HT:Hid (decide (k+1 < n)=false):=ht;rw[ht]at q3;cases m
    ·by_cases hx0:0<=x
     ·have q1:decide (x < 0)=false:=by simp;omega
      have HY:Hid (P=(numsL (n - (k+1)) B).map ((acc++[x])++·)):=by
       have h:=Dt (HP.out.trans HC.out) hlt (by rw[HA.out.1,HA.out.2.2.1,HA.out.2.2.2,HT.out];exact⟨hx0,rfl⟩);rw[HA.out.2.1,HA.out.1,HA.out.2.2.2,HP.out]at h;exact h
      go_wp2_with (first
     | (go_at_call 38;refine hwd.mono ?_;rintro e w1 ⟨rfl,hS1⟩)
     | (go_at_call 39;refine(hnm w1).mono ?_;rintro e w2 ⟨rfl,hS2⟩)
     | (go_at_call 39;refine(hnm w2).mono ?_;rintro e w3 ⟨rfl,hS3⟩;have NJ:=hS1.trans (hS2.trans hS3);have hsrc:=iy (size:=1) (T:=3) (w:=w3) xJ.und [.int .i64 x] rfl (fun u hu=>by simp at hu;subst hu;rfl) 1;have hRa:=(hR.ay NJ).ay ((ak.refl w3).alloc (.cells #[.int .i64 x] 3));have hSa:ak w (w3.alloc (.cells #[.int .i64 x] 3)):=(hS.trans NJ).alloc _)
     | (at_builtin;refine iK xJ rfl _ _ 22 rfl rfl hRa rfl hsrc (by omega) hSa.size ?_;intro sa' sc' W3 hR4 hF4 hB4))
      refine⟨⟨k+1,acc++[x],B,sa',sc',by omega,by go_num,rfl,rfl, ?_, ?_,hF4.aI hSa (fun i hi e=>by have:=(hRa.gW e).2.1;omega),hBl,HY⟩,by simp[intOf];omega⟩
      ·have:=HAL.out;simp;exact this
      ·rw[List.map_append];exact hR4
     ·have q1:decide (x < 0)=true:=by simp;omega
      have HX:Hid (P=none):=HP.out.symm.trans (qL (HP.out.trans HC.out) hlt (by rw[HA.out.1,HA.out.2.2.1,HA.out.2.2.2,HT.out];exact fun h=>hx0 h.1))
      go_wp2_with (first
     | (go_at_call 38;refine hwd.mono ?_;rintro e w1 ⟨rfl,hS1⟩)
     | (go_at_call 39;refine(hnm w1).mono ?_;rintro e w2 ⟨rfl,hS2⟩))
      refine bodyPost_ret (v:=.tuple #[.slice none 0 0,.bool false]) ?_ rfl ⟨hS.trans (hS1.trans hS2),.inl ⟨HX.out,rfl⟩⟩;simp[results,results41,go_sem]
    ·by_cases hx0:0<=x
     ·have q1:decide (x < 0)=false:=by simp;omega
      have HX:Hid (P=none):=HP.out.symm.trans (qL (HP.out.trans HC.out) hlt (by rw[HA.out.1,HA.out.2.2.1,HA.out.2.2.2,HT.out];simp))
      go_wp2_with (first
     | (go_at_call 38;refine hwd.mono ?_;rintro e w1 ⟨rfl,hS1⟩)
     | (go_at_call 39;refine(hnm w1).mono ?_;rintro e w2 ⟨rfl,hS2⟩))
      refine bodyPost_ret (v:=.tuple #[.slice none 0 0,.bool false]) ?_ rfl ⟨hS.trans (hS1.trans hS2),.inl ⟨HX.out,rfl⟩⟩;simp[results,results41,go_sem]
     ·have q1:decide (x < 0)=true:=by simp;omega
      have HX:Hid (P=none):=HP.out.symm.trans (qL (HP.out.trans HC.out) hlt (by rw[HA.out.1,HA.out.2.2.1,HA.out.2.2.2,HT.out];exact fun h=>hx0 h.1))
      go_wp2_with (first
     | (go_at_call 38;refine hwd.mono ?_;rintro e w1 ⟨rfl,hS1⟩)
     | (go_at_call 39;refine(hnm w1).mono ?_;rintro e w2 ⟨rfl,hS2⟩))
      refine bodyPost_ret (v:=.tuple #[.slice none 0 0,.bool false]) ?_ rfl ⟨hS.trans (hS1.trans hS2),.inl ⟨HX.out,rfl⟩⟩;simp[results,results41,go_sem]
   ·have HT:Hid (decide (k+1 < n)=true):=ht;rw[ht]at q3;cases m
    ·by_cases hx0:0<=x
     ·have q1:decide (x < 0)=false:=by simp;omega
      have HX:Hid (P=none):=HP.out.symm.trans (qL (HP.out.trans HC.out) hlt (by rw[HA.out.1,HA.out.2.2.1,HA.out.2.2.2,HT.out];simp))
      go_wp2_with (first
     | (go_at_call 38;refine hwd.mono ?_;rintro e w1 ⟨rfl,hS1⟩)
     | (go_at_call 39;refine(hnm w1).mono ?_;rintro e w2 ⟨rfl,hS2⟩))
      refine bodyPost_ret (v:=.tuple #[.slice none 0 0,.bool false]) ?_ rfl ⟨hS.trans (hS1.trans hS2),.inl ⟨HX.out,rfl⟩⟩;simp[results,results41,go_sem]
     ·have q1:decide (x < 0)=true:=by simp;omega
      have HX:Hid (P=none):=HP.out.symm.trans (qL (HP.out.trans HC.out) hlt (by rw[HA.out.1,HA.out.2.2.1,HA.out.2.2.2,HT.out];exact fun h=>hx0 h.1))
      go_wp2_with (first
     | (go_at_call 38;refine hwd.mono ?_;rintro e w1 ⟨rfl,hS1⟩)
     | (go_at_call 39;refine(hnm w1).mono ?_;rintro e w2 ⟨rfl,hS2⟩))
      refine bodyPost_ret (v:=.tuple #[.slice none 0 0,.bool false]) ?_ rfl ⟨hS.trans (hS1.trans hS2),.inl ⟨HX.out,rfl⟩⟩;simp[results,results41,go_sem]
    ·by_cases hx0:0<=x
     ·have q1:decide (x < 0)=false:=by simp;omega
      have HY:Hid (P=(numsL (n - (k+1)) B).map ((acc++[x])++·)):=by
       have h:=Dt (HP.out.trans HC.out) hlt (by rw[HA.out.1,HA.out.2.2.1,HA.out.2.2.2,HT.out];exact⟨hx0,rfl⟩);rw[HA.out.2.1,HA.out.1,HA.out.2.2.2,HP.out]at h;exact h
      go_wp2_with (first
     | (go_at_call 38;refine hwd.mono ?_;rintro e w1 ⟨rfl,hS1⟩)
     | (go_at_call 39;refine(hnm w1).mono ?_;rintro e w2 ⟨rfl,hS2⟩)
     | (go_at_call 39;refine(hnm w2).mono ?_;rintro e w3 ⟨rfl,hS3⟩;have NJ:=hS1.trans (hS2.trans hS3);have hsrc:=iy (size:=1) (T:=3) (w:=w3) xJ.und [.int .i64 x] rfl (fun u hu=>by simp at hu;subst hu;rfl) 1;have hRa:=(hR.ay NJ).ay ((ak.refl w3).alloc (.cells #[.int .i64 x] 3));have hSa:ak w (w3.alloc (.cells #[.int .i64 x] 3)):=(hS.trans NJ).alloc _)
     | (at_builtin;refine iK xJ rfl _ _ 22 rfl rfl hRa rfl hsrc (by omega) hSa.size ?_;intro sa' sc' W3 hR4 hF4 hB4))
      refine⟨⟨k+1,acc++[x],B,sa',sc',by omega,by go_num,rfl,rfl, ?_, ?_,hF4.aI hSa (fun i hi e=>by have:=(hRa.gW e).2.1;omega),hBl,HY⟩,by simp[intOf];omega⟩
      ·have:=HAL.out;simp;exact this
      ·rw[List.map_append];exact hR4
     ·have q1:decide (x < 0)=true:=by simp;omega
      have HX:Hid (P=none):=HP.out.symm.trans (qL (HP.out.trans HC.out) hlt (by rw[HA.out.1,HA.out.2.2.1,HA.out.2.2.2,HT.out];exact fun h=>hx0 h.1))
      go_wp2_with (first
     | (go_at_call 38;refine hwd.mono ?_;rintro e w1 ⟨rfl,hS1⟩)
     | (go_at_call 39;refine(hnm w1).mono ?_;rintro e w2 ⟨rfl,hS2⟩))
      refine bodyPost_ret (v:=.tuple #[.slice none 0 0,.bool false]) ?_ rfl ⟨hS.trans (hS1.trans hS2),.inl ⟨HX.out,rfl⟩⟩;simp[results,results41,go_sem]
  ·obtain rfl:k=n:=by omega
   have HE:Hid (P=some acc):=by
    unfold Hid;rw[HC.out,Nat.sub_self];show some (acc++[])=_;rw[List.append_nil]
   go_wp2
   have hal:=HAL.out;subst hal;refine bodyPost_ret (v:=.tuple #[.slice sa acc.length sc,.bool true]) ?_ rfl ⟨hS,.inr ⟨acc,sa,sc,HE.out,rfl,rfl,Jj hR (by omega)⟩⟩;simp[results,results41,go_sem]
end Go.Proofs.YtediempflagfkaaGreatDoor
