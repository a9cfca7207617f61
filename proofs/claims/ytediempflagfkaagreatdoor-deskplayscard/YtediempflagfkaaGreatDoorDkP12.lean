/- Lemmas. -/
import Derived.Test.YtediempflagfkaaGreatDoorDkP11
import Derived.Test.YtediempflagfkaaGreatDoorDkPl3
set_option linter.unusedVariables false
set_option linter.unusedSimpArgs false
set_option linter.unnecessarySimpa false
set_option maxHeartbeats 8000000
namespace Go.Proofs.YtediempflagfkaaGreatDoor
open _root_.Go.Proofs.Tryz hiding checked
set_option maxRecDepth 8000
open Go.RowKit Go.Shelf
open Pu
def PlX(w:World)(x:WV)(d:Wd)(r:Except Int (Wd × List UInt8))(e:Ending)(w':World):Prop :=
 ak w w'/\∃(v:WV) (T:ByteArray) (er:Int),e=.returned (.tuple #[.agg #[.slice v.ga v.gl v.gc,.slice v.na v.nl v.nc,.slice v.wa v.wl v.wc],.string T,.int .i64 er]) /\
  ((er≠0/\r=.error er)\/(er=0/\∃d' t,r=.ok (d',t)/\T=bs t/\((v=x/\d'=d)\/Et w w' v d')))
def kC(d:Wd)(t:List UInt8)(k:Nat):Pl:=(t.take k).foldl qh ⟨d,[],[]⟩
theorem Du{d:Wd}{t:List UInt8}{k:Nat}{b:UInt8}(h:t[k]? = some b):kC d t (k+1)=qh (kC d t k) b:=by
 unfold kC;rw[List.take_add_one,h,List.foldl_append];rfl
theorem Ev{t:List UInt8}{k:Nat}{b:UInt8}(h:t[k]? = some b):nlN (t.take (k+1))=nlN (t.take k)+(if b=10 then 1 else 0):=by
 unfold nlN;rw[List.take_add_one,h,List.filter_append,List.length_append]
 congr 1
 by_cases hb:b=10
 ·subst hb;rfl
 ·rw[if_neg hb];simp[hb]
theorem Qm(t:List UInt8)(k:Nat):nlN (t.take k)<=nlN t:=by
 unfold nlN;have h:=List.take_append_drop k t
 calc ((t.take k).filter (·=10)).length<=((t.take k).filter (·=10)).length+((t.drop k).filter (·=10)).length:=Nat.le_add_right _ _
  _=((t.take k++t.drop k).filter (·=10)).length:=by rw[List.filter_append,List.length_append]
  _=(t.filter (·=10)).length:=by rw[h]
structure KL (d:Wd) (t:List UInt8) (k:Nat):Prop where
 cl:(kC d t k).cur.length<=k
 cur:(t.take k).drop (k - (kC d t k).cur.length)=(kC d t k).cur
 right:aL (kC d t k).d
 out:(kC d t k).out.length<=401*nlN (t.take k)
theorem Jk{d:Wd}(R:aL d)(t:List UInt8):KL d t 0:=⟨Nat.le_refl _,by simp[kC],R,by simp[kC]⟩
theorem Jl{d:Wd}{t:List UInt8}{k:Nat}{b:UInt8}(I:KL d t k)(hk:k < t.length)(h:t[k]? = some b):KL d t (k+1):=by
 obtain⟨h1,h2,h3,h4⟩:=I;have e:=Du (d:=d) h;by_cases hb:b=10
 ·have e2:kC d t (k+1)=⟨qj (kC d t k).d (kC d t k).cur,(kC d t k).out++oP (kC d t k).d (kC d t k).cur++[10],[]⟩:=by rw[e];unfold qh;rw[if_pos hb]
  obtain⟨r1,r2⟩:=uX h3 (kC d t k).cur;refine⟨by rw[e2];simp,by rw[e2];simp,by rw[e2];exact r1, ?_⟩;rw[e2,Ev h,if_pos hb];dsimp only;rw[List.length_append,List.length_append,List.length_singleton];omega
 ·have e2:kC d t (k+1)=⟨(kC d t k).d,(kC d t k).out,(kC d t k).cur++[b]⟩:=by rw[e];unfold qh;rw[if_neg hb]
  refine⟨by rw[e2];simp;omega, ?_,by rw[e2];exact h3,by rw[e2,Ev h,if_neg hb];exact h4⟩;rw[e2];dsimp only;rw[List.length_append,List.length_singleton,List.take_add_one,h];have hl:(t.take k).length=k:=by rw[List.length_take];omega
  rw[show k+1 - ((kC d t k).cur.length+1)=k - (kC d t k).cur.length from by omega,List.drop_append_of_le_length (by omega),h2];rfl
theorem NK(d:Wd)(t:List UInt8):kC d t t.length=Ar d t:=by unfold kC Ar;rw[List.take_length]
theorem NM{t:List UInt8}{a k:Nat}(ha:a<=k)(hk:k<=t.length):(bs t).extract a k=bs ((t.take k).drop a):=by
 apply ByteArray.ext;rw[ByteArray.data_extract];unfold bs;simp[List.drop_take]
theorem Sr{w:World}{x:WV}{d:Wd}{r:Except Int (Wd × List UInt8)}{e:Ending}{w':World}(hE:Er r)(h:PlY w x d r e w'):PlX w x d r e w':=by
 rcases h with h | ⟨t,rfl,h⟩
 ·cases r with
  | error er =>
   obtain⟨v,T,rfl⟩:=h.2.1 er rfl;exact⟨h.1,v,T,er,rfl,.inl ⟨by have:=hE er rfl;omega,rfl⟩⟩
  | ok p =>
   obtain⟨d',t⟩:=p;obtain⟨v,rfl,hk⟩:=h.2.2 d' t rfl;exact⟨h.1,v,bs t,0,rfl,.inr ⟨rfl,d',t,rfl,rfl,.inr hk⟩⟩
 ·exact⟨h.1,x,bs t,0,h.2,.inr ⟨rfl,d,t,rfl,rfl,.inl ⟨rfl,rfl⟩⟩⟩
theorem F7(x:WV)(d:Wd)(s:List UInt8)(hs:s.length<=100000)(w:World)(hW:WAt w x d)(R:aL d) :
  Calls prog 17 #[.agg #[.slice x.ga x.gl x.gc,.slice x.na x.nl x.nc,.slice x.wa x.wl x.wc],.string (bs s)] w fun e w'=>Hid (PlX w x d (dW d s) e w') :=
 (CB x d s hs w hW R).mono fun e w' h=>Sr (yM R s) h
theorem F8(ah:Int)(l:List Int)(t:List UInt8):pq ah l t=if dS ah l=0 then jR t else dS ah l:=rfl
set_option maxRecDepth 8000 in
theorem F9(ah:Int)(a:Option Addr)(len cap:Nat)(l:List Int)(t:List UInt8)(ht:t.length<=140737488355328)(w:World)(hI:Ints w a len l) :
  Calls prog 5 #[.int .i64 ah,.slice a len cap,.string (bs t)] w fun e w'=>e=.returned (.tuple #[.string (bs (sG ah l t)),.int .i64 (pq ah l t)])/\ak w w':=by
 have hge:=xM w w ah a len cap l hI (ak.refl w);have hsz:=bX t;obtain⟨OT,hOT⟩:∃y,sG ah l t=y:=⟨_,rfl⟩;obtain⟨OE,hOE⟩:∃y,pq ah l t=y:=⟨_,rfl⟩;rw[hOT,hOE];have HE:Hid (pq ah l t=OE):=hOE;have HT:Hid (sG ah l t=OT):=hOT;clear hOT hOE;by_cases hE:dS ah l=0
 ·rw[hE]at hge
  have HS:Hid (OE=jR t/\(jR t≠0->OT=[])/\(jR t=0->OT=(Ar (eG ah.toNat l) t).out)):=by
   have e:pq ah l t=jR t:=by rw[F8,if_pos hE]
   refine⟨HE.out.symm.trans e,fun h=>?_,fun h=>?_⟩
   ·rw[<-HT.out];unfold sG;rw[e,if_neg h]
   ·rw[<-HT.out];unfold sG;rw[e,if_pos h]
  go_enter func5,ntmps5
  go_wp2_with (go_at_call 15;refine hge.mono ?_;rintro e w1 ⟨rfl,hS1⟩)
  go_loopw [9,10] (fun c i wr=>∃k:Nat,k<=t.length/\i=.int .i64 k/\c=.int .i64 (nlN (t.take k))/\wr=w1) (fun _ i _=>t.length - (intOf i).toNat)
  case atStart=>exact⟨0,Nat.zero_le _,rfl,rfl,rfl⟩
  case round =>
   obtain⟨k,hk,rfl,rfl,hwr⟩:=hrel;obtain rfl:=hwr.symm;obtain⟨c,hc⟩:∃c,nlN (t.take k)=c:=⟨_,rfl⟩
   have Wm:c<=t.length:=by
    rw[<-hc];unfold nlN;exact zQ5 (List.length_filter_le _ _) (by rw[List.length_take];omega)
   have HC:Hid (nlN (t.take k)=c):=hc;rw[hc];clear hc;by_cases hlt:k < t.length
   ·have d1:decide ((k:Int) < ((bs t).size:Int))=true:=by rw[hsz];simp;omega
    by_cases h80:c<=80
    ·have d2:decide ((c:Int)<=80)=true:=by simp;omega
     obtain⟨b,hb⟩:∃b,t[k]? = some b:=⟨_,zQ1 hlt⟩;have hkb:k < (bs t).size:=by rw[hsz];exact hlt
     have hbk:(bs t)[k]=b:=by
      have h1:=(zQ2.1 hb).2;show t.toArray[k]'(by simpa using hlt)=b;rw[List.getElem_toArray];exact h1
     have HN:=(show Hid _ from Ev hb);have Wn:c<=80:=h80;cases tu:((b.toNat:Int) == 10)
     ·have hbn:b≠10:=fun e=>by subst e;simp at tu
      rw[if_neg hbn]at HN;clear HS HT HE hge hbn
      go_wp2_with fail
      exact⟨⟨k+1,by omega,by go_num,by rw[HN.out,HC.out];rfl,trivial⟩,by simp[intOf];omega⟩
     ·have hbn:b=10:=by
       have h1:(b.toNat:Int)=10:=by simpa using tu
       have h2:b.toNat=10:=by omega
       exact UInt8.toNat_inj.1 (by rw[h2];rfl)
      rw[if_pos hbn]at HN;clear HS HT HE hge hbn
      go_wp2_with fail
      exact⟨⟨k+1,by omega,by go_num,by rw[HN.out,HC.out];rfl,trivial⟩,by simp[intOf];omega⟩
    ·have d2:decide ((c:Int)<=80)=false:=by simp;omega
     have d3:decide (80 < (c:Int))=true:=by simp;omega
     have h2:jR t=2:=by
      unfold jR;rw[if_pos (.inr (by have:=Qm t k;have:=HC.out;omega))]
     have HO:Hid (OE=2/\OT=[]):=⟨HS.out.1.trans h2,HS.out.2.1 (by rw[h2];decide)⟩;clear HS HT HE hge h2;by_cases hm:4096 < t.length
     ·have d4:decide (4096 < ((bs t).size:Int))=true:=by rw[hsz];simp;omega
      clear hsz
      go_wp2_with fail
      refine bodyPost_ret (v:=.tuple #[.string ⟨#[]⟩,.int .i64 2]) ?_ rfl ⟨by rw[HO.out.1,HO.out.2];rfl,hS1⟩;simp[results,results5,go_sem]
     ·have d4:decide (4096 < ((bs t).size:Int))=false:=by rw[hsz];simp;omega
      clear hsz
      go_wp2_with fail
      refine bodyPost_ret (v:=.tuple #[.string ⟨#[]⟩,.int .i64 2]) ?_ rfl ⟨by rw[HO.out.1,HO.out.2];rfl,hS1⟩;simp[results,results5,go_sem]
   ·obtain rfl:k=t.length:=by omega
    rw[List.take_length]at HC;have d1:decide (((t.length:Nat):Int) < ((bs t).size:Int))=false:=by rw[hsz];simp
    by_cases hm:4096 < t.length
    ·have d4:decide (4096 < ((bs t).size:Int))=true:=by rw[hsz];simp;omega
     have h2:jR t=2:=by unfold jR;rw[if_pos (.inl hm)]
     have HO:Hid (OE=2/\OT=[]):=⟨HS.out.1.trans h2,HS.out.2.1 (by rw[h2];decide)⟩;clear HS HT HE hge h2 hsz
     go_wp2_with fail
     refine bodyPost_ret (v:=.tuple #[.string ⟨#[]⟩,.int .i64 2]) ?_ rfl ⟨by rw[HO.out.1,HO.out.2];rfl,hS1⟩;simp[results,results5,go_sem]
    have d4:decide (4096 < ((bs t).size:Int))=false:=by rw[hsz];simp;omega
    by_cases h80:80 < c
    ·have d3:decide (80 < (c:Int))=true:=by simp;omega
     have h2:jR t=2:=by unfold jR;rw[if_pos (.inr (by have:=HC.out;omega))]
     have HO:Hid (OE=2/\OT=[]):=⟨HS.out.1.trans h2,HS.out.2.1 (by rw[h2];decide)⟩;clear HS HT HE hge h2 hsz
     go_wp2_with fail
     refine bodyPost_ret (v:=.tuple #[.string ⟨#[]⟩,.int .i64 2]) ?_ rfl ⟨by rw[HO.out.1,HO.out.2];rfl,hS1⟩;simp[results,results5,go_sem]
    have d3:decide (80 < (c:Int))=false:=by simp;omega
    have HA:Hid (¬ (4096 < t.length\/80 < nlN t)):=by unfold Hid;have:=HC.out;omega
    have hch:=jQ hE;have bq:=hI.bq;subst bq;have hbg:=fun y (hy:ak w y)=>Ga ah.toNat (by omega) l (by omega) a cap y (hI.ay hy);rw[show((ah.toNat:Nat):Int)=ah by omega]at hbg;obtain⟨d,hd⟩:∃y,eG ah.toNat l=y:=⟨_,rfl⟩
    have R:aL d:=by
     rw[<-hd];exact(Dv (n:=ah.toNat) (l:=l) (by rw[show((ah.toNat:Nat):Int)=ah by omega];exact hE)).1.right
    rw[hd]at hbg HS
    have hlast:t=[]\/∃b,t.getLast? = some b:=by
     cases h:t.getLast? with
     | none=>exact .inl (List.getLast?_eq_none_iff.1 h)
     | some b=>exact .inr ⟨b,rfl⟩
    by_cases hform:t≠[]/\t.getLast?≠some 10
    ·have h2:jR t=1:=by unfold jR;rw[if_neg HA.out,if_pos hform]
     have HO:Hid (OE=1/\OT=[]):=⟨HS.out.1.trans h2,HS.out.2.1 (by rw[h2];decide)⟩;obtain⟨b,hb⟩:=hlast.resolve_left hform.1;obtain⟨m,hmm⟩:∃m,t.length=m+1:=⟨t.length - 1,by have:=List.length_pos_iff.2 hform.1;omega⟩;have hbi:t[m]? = some b:=by rw[List.getLast?_eq_getElem?,hmm]at hb;simpa using hb
     have hlt2:t.length - 1 < (bs t).size:=by omega
     have hbk2:(bs t)[t.length - 1]'hlt2=b:=by
      have h1:=(zQ2.1 hbi).2
      have h3:(bs t)[m]'(by omega)=b:=by
       show t.toArray[m]'(by simp;omega)=b;rw[List.getElem_toArray];exact h1
      rw[<-h3];congr 1;omega
     have tu:((b.toNat:Int) != 10)=true:=by
      rw[bne_iff_ne];intro e;have h3:b.toNat=10:=by omega
      exact hform.2 (by rw[hb,UInt8.toNat_inj.1 (show b.toNat=(10:UInt8).toNat by rw[h3];rfl)])
     have hp1:0 < t.length:=by omega
     have hp2:(1:Int)<=(t.length:Int):=by omega
     have hp3:(t.length:Int) - 1 < (t.length:Int):=by omega
     have HMM:Hid (t.length=m+1):=hmm;clear HS HT HE hge h2 hbg hform hb hbi hlast d1 d4 hmm
     go_wp2_with fail
     refine bodyPost_ret (v:=.tuple #[.string ⟨#[]⟩,.int .i64 1]) ?_ rfl ⟨by rw[HO.out.1,HO.out.2];rfl,hS1⟩;simp[results,results5,go_sem]
    have h2:jR t=0:=by unfold jR;rw[if_neg HA.out,if_neg hform]
    have HO:Hid (OE=0/\OT=(Ar d t).out):=⟨HS.out.1.trans h2,HS.out.2.2 h2⟩;have ht4:t.length<=4096:=by omega
    have Wo:nlN t<=80:=by have:=HC.out;omega
    have hcs:t=[]\/∃m,t.length=m+1/\t[m]? = some 10:=by
     rcases hlast with h | ⟨b,hb⟩
     ·exact .inl h
     ·right
      have hne:t≠[]:=by rintro rfl;simp at hb
      refine⟨t.length - 1,by have:=List.length_pos_iff.2 hne;omega, ?_⟩;rw[<-List.getLast?_eq_getElem?];exact Classical.byContradiction fun k=>hform ⟨hne,k⟩
    clear HS HT HE hge h2 hlast hform HA HC;rcases hcs with hnil | ⟨m,hmm,hbi⟩
    case' inl =>
     have hp1:¬ 0 < t.length:=by rw[hnil];decide
     have Wp:Hid (t=[]):=hnil;clear hnil d1 d4
     go_wp2_with (go_at_call 16;refine(hbg w1 hS1).mono ?_;rintro e W1 ⟨L,rfl,hO,hS2⟩;simp only[bF];obtain⟨W2,hW2⟩:∃y,W1.alloc (.cells #[.slice none 0 0,.slice none 0 0,.slice none 0 0] 31)=y:=⟨_,rfl⟩;have hSa:ak W1 W2:=(by rw[<-hW2];exact(ak.refl W1).alloc _);have hBa:Bx3 W2 W1.heap.size (.slice none 0 0) (.slice none 0 0) (.slice none 0 0):=(by rw[<-hW2];exact Bx3.fresh W1 _);have hBb:=hBa.all (.slice (L (0,0,0)).a d.au.length (L (0,0,0)).cap) (.slice (L (1,0,0)).a d.ah.length (L (1,0,0)).cap) (.slice (L (2,0,0)).a d.aB.length (L (2,0,0)).cap);have hpf:=aS W2 W1.heap.size (.slice (L (0,0,0)).a d.au.length (L (0,0,0)).cap) (.slice (L (1,0,0)).a d.ah.length (L (1,0,0)).cap) (.slice (L (2,0,0)).a d.aB.length (L (2,0,0)).cap);unfold iB at hpf;obtain⟨W3,hW3⟩:∃y,(((W2.setCell ⟨W1.heap.size,0,none⟩ (.slice (L (0,0,0)).a d.au.length (L (0,0,0)).cap)).setCell ⟨W1.heap.size,1,none⟩ (.slice (L (1,0,0)).a d.ah.length (L (1,0,0)).cap)).setCell ⟨W1.heap.size,2,none⟩ (.slice (L (2,0,0)).a d.aB.length (L (2,0,0)).cap))=y:=⟨_,rfl⟩;rw[hW3]at hpf hBb;have hS3:ak W1 W3:=hpf.aI hSa (fun i hi e=>(by omega));obtain⟨_,m0,m1,m2,k0,k1,k2⟩:=hBa)
    case' inr =>
     have hlt2:t.length - 1 < (bs t).size:=by omega
     have hbk2:(bs t)[t.length - 1]'hlt2=10:=by
      have h1:=(zQ2.1 hbi).2
      have h3:(bs t)[m]'(by omega)=10:=by
       show t.toArray[m]'(by simp;omega)=10;rw[List.getElem_toArray];exact h1
      rw[<-h3];congr 1;omega
     have hp1:0 < t.length:=by omega
     have hp2:(1:Int)<=(t.length:Int):=by omega
     have hp3:(t.length:Int) - 1 < (t.length:Int):=by omega
     have HMM:Hid (t.length=m+1):=hmm;clear hmm hbi d1 d4
     go_wp2_with (go_at_call 16;refine(hbg w1 hS1).mono ?_;rintro e W1 ⟨L,rfl,hO,hS2⟩;simp only[bF];obtain⟨W2,hW2⟩:∃y,W1.alloc (.cells #[.slice none 0 0,.slice none 0 0,.slice none 0 0] 31)=y:=⟨_,rfl⟩;have hSa:ak W1 W2:=(by rw[<-hW2];exact(ak.refl W1).alloc _);have hBa:Bx3 W2 W1.heap.size (.slice none 0 0) (.slice none 0 0) (.slice none 0 0):=(by rw[<-hW2];exact Bx3.fresh W1 _);have hBb:=hBa.all (.slice (L (0,0,0)).a d.au.length (L (0,0,0)).cap) (.slice (L (1,0,0)).a d.ah.length (L (1,0,0)).cap) (.slice (L (2,0,0)).a d.aB.length (L (2,0,0)).cap);have hpf:=aS W2 W1.heap.size (.slice (L (0,0,0)).a d.au.length (L (0,0,0)).cap) (.slice (L (1,0,0)).a d.ah.length (L (1,0,0)).cap) (.slice (L (2,0,0)).a d.aB.length (L (2,0,0)).cap);unfold iB at hpf;obtain⟨W3,hW3⟩:∃y,(((W2.setCell ⟨W1.heap.size,0,none⟩ (.slice (L (0,0,0)).a d.au.length (L (0,0,0)).cap)).setCell ⟨W1.heap.size,1,none⟩ (.slice (L (1,0,0)).a d.ah.length (L (1,0,0)).cap)).setCell ⟨W1.heap.size,2,none⟩ (.slice (L (2,0,0)).a d.aB.length (L (2,0,0)).cap))=y:=⟨_,rfl⟩;rw[hW3]at hpf hBb;have hS3:ak W1 W3:=hpf.aI hSa (fun i hi e=>(by omega));obtain⟨_,m0,m1,m2,k0,k1,k2⟩:=hBa)
    all_goals
     have UM:W1.heap.size < W3.heap.size:=hBb.lt;have Sv:ak w W3:=hS1.trans (hS2.trans hS3);have hO3:=hO.ay hS3;have hwl:w.heap.size<=W1.heap.size:=(hS1.trans hS2).size;have Sw:∀w',Fr (fun i=>i=W1.heap.size) W3 w'->WAt w' (fE L d) d:=fun w' hw=>(hO3.fr hw (fun i hi e=>by have:=(hO.blk hi).2;omega)).wat;obtain⟨pb,hpb⟩:∃y,W1.heap.size=y:=⟨_,rfl⟩;rw[hpb]at UM hwl Sw hBb ⊢;clear m0 m1 m2 k0 k1 k2 hW2 hW3 hpf hO hO3 hbg hSa hS3 hS2 hpb
     try clear hp1
     try clear hp2 hp3
     try clear hbk2
     try clear hlt2
     have HSW:Hid (ak w W3):=Sv;clear Sv
     go_loopw [12,13,14,15,16,17] (fun ov fv iv _ _ _ wr=>∃(k:Nat) (x:WV),k<=t.length/\iv=.int .i64 k/\fv=.int .i64 ((k - (kC d t k).cur.length:Nat):Int)/\ov=.string (bs (kC d t k).out)/\Bx3 wr pb (.slice x.ga x.gl x.gc) (.slice x.na x.nl x.nc) (.slice x.wa x.wl x.wc)/\(∀w',Fr (fun i=>i=pb) wr w'->WAt w' x (kC d t k).d)/\Fr (fun i=>i=pb) W3 wr) (fun _ _ iv _ _ _ _=>t.length - (intOf iv).toNat)
     case atStart=>exact⟨0,fE L d,Nat.zero_le _,rfl,rfl,rfl,hBb,Sw,Fr.refl _ _⟩
     case round =>
      obtain⟨wo,rfl⟩:∃wo,wo=wr:=⟨_,rfl⟩;obtain⟨k,⟨ga,gl,gc,na,nl,nc,wa,wl,wc⟩,hk,rfl,rfl,rfl,hBx,hKW,hFr⟩:=hrel;dsimp only at hBx
      have hInv:∀j,j<=t.length->KL d t j:=fun j=>by
       induction j with
       | zero=>exact fun _=>Jk R t
       | succ j ih=>exact fun hj=>Jl (ih (by omega)) (by omega) (zQ1 (by omega))
      obtain⟨i1,i2,i3,i4⟩:=hInv k hk;have hnl:=Qm t k;clear hInv;obtain⟨pd,hpd⟩:∃y,(kC d t k).d=y:=⟨_,rfl⟩;obtain⟨po,hpo⟩:∃y,(kC d t k).out=y:=⟨_,rfl⟩;obtain⟨pc,hpc⟩:∃y,(kC d t k).cur=y:=⟨_,rfl⟩;have HPA:Hid (kC d t k=⟨pd,po,pc⟩):=by unfold Hid;rw[<-hpd,<-hpo,<-hpc]
      rw[hpd]at i3 hKW;rw[hpo]at i4 ⊢;rw[hpc]at i1 i2 ⊢;obtain⟨f,hf⟩:∃y,k - pc.length=y:=⟨_,rfl⟩;have HF:Hid (k - pc.length=f):=hf;rw[hf]at i2 ⊢;have hfk:f<=k:=by omega
      have Wq:po.length<=40000:=by omega
      have Ws:pc.length<=4096:=by omega
      clear hpd hpo hpc hf;by_cases hlt:k < t.length
      ·obtain⟨b,hb⟩:∃b,t[k]? = some b:=⟨_,zQ1 hlt⟩;have hkb:k < (bs t).size:=by rw[hsz];exact hlt
       have hbk:(bs t)[k]=b:=by
        have h1:=(zQ2.1 hb).2;show t.toArray[k]'(by simpa using hlt)=b;rw[List.getElem_toArray];exact h1
       have HSU:=(show Hid _ from Du (d:=d) hb);rw[HPA.out]at HSU;unfold qh at HSU;cases tu:((b.toNat:Int) == 10)
       ·have hbn:b≠10:=fun e=>by subst e;simp at tu
        rw[if_neg hbn]at HSU;clear hbn hb HO HSW
        go_wp2_with fail
        refine⟨⟨k+1,⟨ga,gl,gc,na,nl,nc,wa,wl,wc⟩,by omega,by go_num, ?_,by rw[HSU.out],hBx,by rw[HSU.out];exact hKW,hFr⟩,by simp[intOf];omega⟩;rw[HSU.out];dsimp only;rw[List.length_append,List.length_singleton,show k+1 - (pc.length+1)=f from by have:=HF.out;omega]
       ·have hbn:b=10:=by
         have h1:(b.toNat:Int)=10:=by simpa using tu
         have h2:b.toNat=10:=by omega
         exact UInt8.toNat_inj.1 (by rw[h2];rfl)
        rw[if_pos hbn]at HSU;have hx1:(bs t).extract f k=bs pc:=by rw[NM hfk hk,i2]
        have hpl:=fun y (hy:ak wo y)=>F7 ⟨ga,gl,gc,na,nl,nc,wa,wl,wc⟩ pd pc (by omega) y (hKW y (hy.fr _)) i3;dsimp only at hpl;obtain⟨iR,iT⟩:=uX i3 pc;have hpr:=fun e' (he:dW pd pc=.error e')=>yM i3 pc e' he;have hrt:=fun d' t' (he:dW pd pc=.ok (d',t'))=>xO i3 he;have hks:k<=(bs t).size:=by omega
        have HPR:Hid _:=hpr;have HRT:Hid _:=hrt;clear hpr hrt hbn hb HO i1 i2
        go_wp2_with fail
        obtain⟨S0,hT0⟩:∃S0:World->Prop,∀w',S0 w'↔ak wo w':=⟨_,fun _=>Iff.rfl⟩;have c0:∀y:aA S0,y.w.cell? ⟨pb,0,none⟩=some (.slice ga gl gc):=fun y=>(((hT0 _).1 y.h).av hBx.lt _).trans hBx.c0;have c1:∀y:aA S0,y.w.cell? ⟨pb,1,none⟩=some (.slice na nl nc):=fun y=>(((hT0 _).1 y.h).av hBx.lt _).trans hBx.c1;have c2:∀y:aA S0,y.w.cell? ⟨pb,2,none⟩=some (.slice wa wl wc):=fun y=>(((hT0 _).1 y.h).av hBx.lt _).trans hBx.c2;obtain⟨W0,hW0⟩:∃y,wo.drew=y:=⟨_,rfl⟩;have hs0:=aY hW0;have aC:=(hT0 W0).2 hs0;have hne:Nonempty (aA S0):=⟨⟨_,aC⟩⟩;have cB:=aO W0;refine aW (fun w'=>∃x:aA S0,w'=x.w) (by kernel_rfl) ?_;rw[hW0];clear hW0;refine tM 0 rfl (aj aC) ?_;go_big_quiet_op;refine tW 1 rfl ?_;go_big_quiet_op;refine tW 2 rfl ?_;go_big_quiet_op;refine tW 3 rfl ?_;go_big_quiet_op;refine tM 4 rfl (aj aC) ?_;go_big_quiet_op;refine qM 5 10 rfl rfl (by kernel_rfl) ?_ ?_
        ·intro K hK;go_simp;refine(hpl W0 (hs0)).mono ?_;rintro e W4 ⟨hSc,⟨vga,vgl,vgc,vna,vnl,vnc,vwa,vwl,vwc⟩,T,er,rfl,hcase⟩;dsimp only;refine hK _ _ (fun _ _=>aj ((hT0 _).2 (hs0.trans hSc))) ?_;clear hK K;refine tW 6 rfl ?_;go_big_quiet_op;refine tW 7 rfl ?_;go_big_quiet_op;refine tW 8 rfl ?_;go_big_quiet_op;refine tW 9 rfl ?_;go_big_quiet_op;refine aV 10 rfl (by kernel_rfl) ?_;obtain⟨W6,hW6⟩:∃y,W4.alloc (.cells #[.slice none 0 0,.slice none 0 0,.slice none 0 0] 31)=y:=⟨_,rfl⟩;have hSn:=aF hW6;have hBn:Bx3 W6 W4.heap.size (.slice none 0 0) (.slice none 0 0) (.slice none 0 0):=by rw[<-hW6];exact Bx3.fresh W4 _
         intro K hK;go_simp;refine hK _ _ (fun _ _=>aj ((hT0 _).2 (hs0.trans (hSc.trans hSn)))) ?_;clear hK K;have hBV:=hBn.all (.slice vga vgl vgc) (.slice vna vnl vnc) (.slice vwa vwl vwc);obtain⟨W5,hW5⟩:∃y,(((W6.setCell ⟨W4.heap.size,0,none⟩ (.slice vga vgl vgc)).setCell ⟨W4.heap.size,1,none⟩ (.slice vna vnl vnc)).setCell ⟨W4.heap.size,2,none⟩ (.slice vwa vwl vwc))=y:=⟨_,rfl⟩;have hpv:=aS W6 W4.heap.size (.slice vga vgl vgc) (.slice vna vnl vnc) (.slice vwa vwl vwc);unfold iB at hpv;rw[hW5]at hBV hpv;obtain⟨_,b0,b1,b2,z0,z1,z2⟩:=hBn;refine aV 11 rfl (by kernel_rfl) ?_;intro K hK;go_simp;refine hK _ _ (fun h=>absurd h (by decide +kernel)) ?_;clear hK K;refine tW 12 rfl ?_;go_big_quiet_op;refine tW 13 rfl ?_;go_big_quiet_op;refine bE (by kernel_rfl) ?_;have hSY:ak wo W5:=hpv.aI (hs0.trans (hSc.trans hSn)) (fun i hi e=>by have:=(hs0.trans hSc).size;omega);have hNV:∀d',Et W0 W4 ⟨vga,vgl,vgc,vna,vnl,vnc,vwa,vwl,vwc⟩ d'->∀w',Fr (fun i=>i=pb) W5 w'->WAt w' ⟨vga,vgl,vgc,vna,vnl,vnc,vwa,vwl,vwc⟩ d':=fun d' hk2 w' hw=>hk2 (fun i=>i=pb) w' (fun i e=>by have:=hs0.size;have:=hBx.lt;have e:i=pb:=e;omega) (((hSn.fr (fun i=>i=pb)).trans hpv (D:=fun i=>i=pb) (fun _ _ x=>x) (fun i hi e=>by have e:i=W4.heap.size:=e;omega)).trans hw (fun _ _ x=>x) (fun _ _ x=>x));obtain⟨bx,hbx⟩:∃y,W4.heap.size=y:=⟨_,rfl⟩;have UN:wo.heap.size<=bx:=by rw[<-hbx];exact(hs0.trans hSc).size
         rw[hbx]at hBV ⊢;clear hbx hpv hW5 b0 b1 b2 z0 z1 z2 hSc hSn c0 c1 c2 hne cB aC hT0 hpl hs0 hx1
         try clear hW4
         try clear hW6
         have hBo:=hBx.fr (hSY.fr fun _=>False) (fun x=>x);have UO:pb < wo.heap.size:=hBx.lt;rcases hcase with ⟨her,hpe⟩ | ⟨her,d',tt,hpe,hTT,hst⟩
         ·have QN:=HPR.out er hpe;obtain⟨n,hn⟩:∃n:Nat,er=n:=⟨er.toNat,by omega⟩;subst hn;have HAW:Hid (qj pd pc=pd/\oP pd pc=kP++dn n):=by unfold Hid qj oP;rw[hpe];exact⟨rfl,by simp⟩
          have h17:((n:Int) == 0)=false:=by rw[beq_eq_false_iff_ne];omega
          have hdg:=je (n+1) n (by omega) (by omega) W5;have hdl:=jH (n:=n) (by omega);have hz0:¬ 9223372036854775807 < 6+(bs (dn n)).size:=by rw[bX];omega
          have hE6:(⟨#[101,114,114,111,114,32]⟩:ByteArray)++bs (dn n)=bs (kP++dn n):=by rw[show(⟨#[101,114,114,111,114,32]⟩:ByteArray)=bs kP from rfl,iP]
          have hz1:¬ 9223372036854775807 < (bs po).size+(bs (kP++dn n)).size:=by rw[bX,bX,List.length_append];have:kP.length=6:=rfl;omega
          have hz2:¬ 9223372036854775807 < (bs po).size+(bs (kP++dn n)).size+1:=by rw[bX,bX,List.length_append];have:kP.length=6:=rfl;omega
          have HTX:Hid (bs po++bs (kP++dn n)++⟨#[10]⟩=bs (po++(kP++dn n)++[10])):=by unfold Hid;rw[show(⟨#[10]⟩:ByteArray)=bs [10] from rfl,iP,iP]
          obtain⟨TE,hTE⟩:∃y,bs (kP++dn n)=y:=⟨_,rfl⟩;rw[hTE]at hE6 hz1 hz2 HTX;clear her hpe QN hNV hTE hdl HPR HRT
          go_wp2_with (go_at_call 18;refine hdg.mono ?_;rintro e W7 ⟨rfl,hS7⟩)
          refine⟨⟨k+1,⟨ga,gl,gc,na,nl,nc,wa,wl,wc⟩,by omega,by go_num, ?_, ?_,hBo.fr (hS7.fr fun _=>False) (fun x=>x), ?_,(hFr.trans ((hSY.trans hS7).fr _) (fun _ _ x=>x) (fun _ _ x=>x))⟩,by simp[intOf];omega⟩
          ·rw[HSU.out];go_num
          ·rw[HSU.out,HAW.out.2];dsimp only;rw[<-HTX.out]
          ·intro w' hw;rw[HSU.out,HAW.out.1];exact hKW w' (((hSY.trans hS7).fr _).trans hw (fun _ _ x=>x) (fun _ _ x=>x))
         ·have hT4:=(HRT.out d' tt hpe).2;have HAW:Hid (qj pd pc=d'/\oP pd pc=tt):=by unfold Hid qj oP;rw[hpe];exact⟨rfl,rfl⟩
          have hKN:∀w',Fr (fun i=>i=pb) W5 w'->WAt w' ⟨vga,vgl,vgc,vna,vnl,vnc,vwa,vwl,vwc⟩ d':=by
           rcases hst with ⟨hv,hdd⟩ | hk2
           ·intro w' hw;rw[hv,hdd];exact hKW w' ((hSY.fr _).trans hw (fun _ _ x=>x) (fun _ _ x=>x))
           ·exact hNV d' hk2
          subst her;subst hTT;have hz1:¬ 9223372036854775807 < (bs po).size+(bs tt).size:=by rw[bX,bX];omega
          have hz2:¬ 9223372036854775807 < (bs po).size+(bs tt).size+1:=by rw[bX,bX];omega
          have HTX:Hid (bs po++bs tt++⟨#[10]⟩=bs (po++tt++[10])):=by unfold Hid;rw[show(⟨#[10]⟩:ByteArray)=bs [10] from rfl,iP,iP]
          have hBN:=hBo.all (.slice vga vgl vgc) (.slice vna vnl vnc) (.slice vwa vwl vwc);obtain⟨V,hV⟩:∃y,(((W5.setCell ⟨pb,0,none⟩ (.slice vga vgl vgc)).setCell ⟨pb,1,none⟩ (.slice vna vnl vnc)).setCell ⟨pb,2,none⟩ (.slice vwa vwl vwc))=y:=⟨_,rfl⟩;have hpw:=aS W5 pb (.slice vga vgl vgc) (.slice vna vnl vnc) (.slice vwa vwl vwc);unfold iB at hpw;rw[hV]at hBN hpw;obtain⟨_,q0,q1,q2,_,_,_⟩:=hBV;obtain⟨_,o0,o1,o2,p0,p1,p2⟩:=hBo;clear hpe hNV hst hT4 HPR HRT hKW
          go_wp2_with fail
          refine⟨⟨k+1,⟨vga,vgl,vgc,vna,vnl,vnc,vwa,vwl,vwc⟩,by omega,by go_num, ?_, ?_,hBN, ?_,(hFr.trans ((hSY.fr (fun i=>i=pb)).trans hpw (D:=fun i=>i=pb) (fun _ _ x=>x) (fun _ _ x=>x)) (fun _ _ x=>x) (fun _ _ x=>x))⟩,by simp[intOf];omega⟩
          ·rw[HSU.out];go_num
          ·rw[HSU.out,HAW.out.2];dsimp only;rw[<-HTX.out]
          ·intro w' hw;rw[HSU.out,HAW.out.1];exact hKN w' (hpw.trans hw (fun _ _ x=>x) (fun _ _ x=>x))
        ·obtain⟨W4,hW4⟩:∃y,W0.alloc (.cells #[.slice none 0 0,.slice none 0 0,.slice none 0 0] 31)=y:=⟨_,rfl⟩;have hSn:=aF hW4;have hBn:Bx3 W4 W0.heap.size (.slice none 0 0) (.slice none 0 0) (.slice none 0 0):=by rw[<-hW4];exact Bx3.fresh W0 _
         intro K hK;go_simp;refine hK _ _ (fun _ _=>aj ((hT0 _).2 (hs0.trans hSn))) ?_;clear hK K;refine aV 5 rfl (by kernel_rfl) ?_;intro K hK;go_simp;refine(hpl W4 (hs0.trans hSn)).mono ?_;rintro e W6 ⟨hSc,⟨vga,vgl,vgc,vna,vnl,vnc,vwa,vwl,vwc⟩,T,er,rfl,hcase⟩;dsimp only;refine hK _ _ (fun _ _=>aj ((hT0 _).2 (hs0.trans (hSn.trans hSc)))) ?_;clear hK K;refine tW 6 rfl ?_;go_big_quiet_op;refine tW 7 rfl ?_;go_big_quiet_op;refine tW 8 rfl ?_;go_big_quiet_op;refine tW 9 rfl ?_;go_big_quiet_op;have Wt:=hBn.lt
         replace hBn:=hBn.fr (hSc.fr fun _=>False) (fun x=>x)
         have hBV:=hBn.all (.slice vga vgl vgc) (.slice vna vnl vnc) (.slice vwa vwl vwc);obtain⟨W5,hW5⟩:∃y,(((W6.setCell ⟨W0.heap.size,0,none⟩ (.slice vga vgl vgc)).setCell ⟨W0.heap.size,1,none⟩ (.slice vna vnl vnc)).setCell ⟨W0.heap.size,2,none⟩ (.slice vwa vwl vwc))=y:=⟨_,rfl⟩;have hpv:=aS W6 W0.heap.size (.slice vga vgl vgc) (.slice vna vnl vnc) (.slice vwa vwl vwc);unfold iB at hpv;rw[hW5]at hBV hpv;obtain⟨_,b0,b1,b2,z0,z1,z2⟩:=hBn;refine aV 11 rfl (by kernel_rfl) ?_;intro K hK;go_simp;refine hK _ _ (fun h=>absurd h (by decide +kernel)) ?_;clear hK K;refine tW 12 rfl ?_;go_big_quiet_op;refine tW 13 rfl ?_;go_big_quiet_op;refine bE (by kernel_rfl) ?_;have hSY:ak wo W5:=hpv.aI (hs0.trans (hSn.trans hSc)) (fun i hi e=>by have:=hs0.size;omega);have hNV:∀d',Et W4 W6 ⟨vga,vgl,vgc,vna,vnl,vnc,vwa,vwl,vwc⟩ d'->∀w',Fr (fun i=>i=pb) W5 w'->WAt w' ⟨vga,vgl,vgc,vna,vnl,vnc,vwa,vwl,vwc⟩ d':=fun d' hk2 w' hw=>hk2 (fun i=>i=pb\/i=W0.heap.size) w' (fun i e=>by have:=(hs0.trans hSn).size;have:=hBx.lt;omega) (hpv.trans hw (fun _ _ x=>.inr x) (fun _ _ x=>.inl x));obtain⟨bx,hbx⟩:∃y,W0.heap.size=y:=⟨_,rfl⟩;have UN:wo.heap.size<=bx:=by rw[<-hbx];exact hs0.size
         rw[hbx]at hBV ⊢;clear hbx hpv hW5 b0 b1 b2 z0 z1 z2 hSc hSn c0 c1 c2 hne cB aC hT0 hpl hs0 hx1
         try clear hW4
         try clear hW6
         have hBo:=hBx.fr (hSY.fr fun _=>False) (fun x=>x);have UO:pb < wo.heap.size:=hBx.lt;rcases hcase with ⟨her,hpe⟩ | ⟨her,d',tt,hpe,hTT,hst⟩
         ·have QN:=HPR.out er hpe;obtain⟨n,hn⟩:∃n:Nat,er=n:=⟨er.toNat,by omega⟩;subst hn;have HAW:Hid (qj pd pc=pd/\oP pd pc=kP++dn n):=by unfold Hid qj oP;rw[hpe];exact⟨rfl,by simp⟩
          have h17:((n:Int) == 0)=false:=by rw[beq_eq_false_iff_ne];omega
          have hdg:=je (n+1) n (by omega) (by omega) W5;have hdl:=jH (n:=n) (by omega);have hz0:¬ 9223372036854775807 < 6+(bs (dn n)).size:=by rw[bX];omega
          have hE6:(⟨#[101,114,114,111,114,32]⟩:ByteArray)++bs (dn n)=bs (kP++dn n):=by rw[show(⟨#[101,114,114,111,114,32]⟩:ByteArray)=bs kP from rfl,iP]
          have hz1:¬ 9223372036854775807 < (bs po).size+(bs (kP++dn n)).size:=by rw[bX,bX,List.length_append];have:kP.length=6:=rfl;omega
          have hz2:¬ 9223372036854775807 < (bs po).size+(bs (kP++dn n)).size+1:=by rw[bX,bX,List.length_append];have:kP.length=6:=rfl;omega
          have HTX:Hid (bs po++bs (kP++dn n)++⟨#[10]⟩=bs (po++(kP++dn n)++[10])):=by unfold Hid;rw[show(⟨#[10]⟩:ByteArray)=bs [10] from rfl,iP,iP]
          obtain⟨TE,hTE⟩:∃y,bs (kP++dn n)=y:=⟨_,rfl⟩;rw[hTE]at hE6 hz1 hz2 HTX;clear her hpe QN hNV hTE hdl HPR HRT
          go_wp2_with (go_at_call 18;refine hdg.mono ?_;rintro e W7 ⟨rfl,hS7⟩)
          refine⟨⟨k+1,⟨ga,gl,gc,na,nl,nc,wa,wl,wc⟩,by omega,by go_num, ?_, ?_,hBo.fr (hS7.fr fun _=>False) (fun x=>x), ?_,(hFr.trans ((hSY.trans hS7).fr _) (fun _ _ x=>x) (fun _ _ x=>x))⟩,by simp[intOf];omega⟩
          ·rw[HSU.out];go_num
          ·rw[HSU.out,HAW.out.2];dsimp only;rw[<-HTX.out]
          ·intro w' hw;rw[HSU.out,HAW.out.1];exact hKW w' (((hSY.trans hS7).fr _).trans hw (fun _ _ x=>x) (fun _ _ x=>x))
         ·have hT4:=(HRT.out d' tt hpe).2;have HAW:Hid (qj pd pc=d'/\oP pd pc=tt):=by unfold Hid qj oP;rw[hpe];exact⟨rfl,rfl⟩
          have hKN:∀w',Fr (fun i=>i=pb) W5 w'->WAt w' ⟨vga,vgl,vgc,vna,vnl,vnc,vwa,vwl,vwc⟩ d':=by
           rcases hst with ⟨hv,hdd⟩ | hk2
           ·intro w' hw;rw[hv,hdd];exact hKW w' ((hSY.fr _).trans hw (fun _ _ x=>x) (fun _ _ x=>x))
           ·exact hNV d' hk2
          subst her;subst hTT;have hz1:¬ 9223372036854775807 < (bs po).size+(bs tt).size:=by rw[bX,bX];omega
          have hz2:¬ 9223372036854775807 < (bs po).size+(bs tt).size+1:=by rw[bX,bX];omega
          have HTX:Hid (bs po++bs tt++⟨#[10]⟩=bs (po++tt++[10])):=by unfold Hid;rw[show(⟨#[10]⟩:ByteArray)=bs [10] from rfl,iP,iP]
          have hBN:=hBo.all (.slice vga vgl vgc) (.slice vna vnl vnc) (.slice vwa vwl vwc);obtain⟨V,hV⟩:∃y,(((W5.setCell ⟨pb,0,none⟩ (.slice vga vgl vgc)).setCell ⟨pb,1,none⟩ (.slice vna vnl vnc)).setCell ⟨pb,2,none⟩ (.slice vwa vwl vwc))=y:=⟨_,rfl⟩;have hpw:=aS W5 pb (.slice vga vgl vgc) (.slice vna vnl vnc) (.slice vwa vwl vwc);unfold iB at hpw;rw[hV]at hBN hpw;obtain⟨_,q0,q1,q2,_,_,_⟩:=hBV;obtain⟨_,o0,o1,o2,p0,p1,p2⟩:=hBo;clear hpe hNV hst hT4 HPR HRT hKW
          go_wp2_with fail
          refine⟨⟨k+1,⟨vga,vgl,vgc,vna,vnl,vnc,vwa,vwl,vwc⟩,by omega,by go_num, ?_, ?_,hBN, ?_,(hFr.trans ((hSY.fr (fun i=>i=pb)).trans hpw (D:=fun i=>i=pb) (fun _ _ x=>x) (fun _ _ x=>x)) (fun _ _ x=>x) (fun _ _ x=>x))⟩,by simp[intOf];omega⟩
          ·rw[HSU.out];go_num
          ·rw[HSU.out,HAW.out.2];dsimp only;rw[<-HTX.out]
          ·intro w' hw;rw[HSU.out,HAW.out.1];exact hKN w' (hpw.trans hw (fun _ _ x=>x) (fun _ _ x=>x))
      ·obtain rfl:k=t.length:=by omega
       have LP:Hid (OT=po):=by unfold Hid;rw[HO.out.2,<-NK,HPA.out]
       have hSo:ak w wo:=hFr.aI HSW.out (fun i hi e=>by omega);clear HPA hKW
       go_wp2_with fail
       refine bodyPost_ret (v:=.tuple #[.string (bs po),.int .i64 0]) ?_ rfl ⟨by rw[HO.out.1,LP.out],hSo⟩;simp[results,results5,go_sem]
 ·have HO:Hid (OE=dS ah l/\OT=[]):=by
   have e:pq ah l t=dS ah l:=by rw[F8,if_neg hE]
   refine⟨HE.out.symm.trans e, ?_⟩;rw[<-HT.out];unfold sG;rw[e,if_neg hE]
  obtain⟨er,her⟩:∃y,dS ah l=y:=⟨_,rfl⟩;rw[her]at hge hE HO;have h0:(er == 0)=false:=by simpa using hE
  clear HE HT her hE
  go_enter func5,ntmps5
  go_wp2_with (go_at_call 15;refine hge.mono ?_;rintro e w1 ⟨rfl,hS1⟩)
  refine bodyPost_ret (v:=.tuple #[.string ⟨#[]⟩,.int .i64 er]) ?_ rfl ⟨by rw[HO.out.1,HO.out.2];rfl,hS1⟩;simp[results,results5,go_sem]
end Go.Proofs.YtediempflagfkaaGreatDoor
