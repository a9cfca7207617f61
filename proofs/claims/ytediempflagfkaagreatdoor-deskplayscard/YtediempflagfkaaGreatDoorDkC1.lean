/- Lemmas. -/
import Derived.Lib.AtoiTie
import Derived.Lib.ItoaMem
import Derived.Lib.Bytealg
import Derived.Test.YtediempflagfkaaGreatDoorPureDD
set_option linter.unusedVariables false
set_option linter.unusedSimpArgs false
set_option linter.unnecessarySimpa false
namespace Go.Proofs.YtediempflagfkaaGreatDoor
set_option maxRecDepth 8000
open Pu
theorem KC:∀(k n:Nat),n < k->Lib.decDigits n=dn n
 | 0,_,h=>by omega
 | k+1,n,h=>by
  rw[Lib.decDigits];by_cases hn:n < 10
  ·rw[dif_pos hn,xw hn]
  ·rw[dif_neg hn,zN hn,KC k (n / 10) (by omega)]
theorem sQ(n:Nat):Lib.itoa (n:Int)=dn n:=by rw[Lib.itoa_nonneg,KC (n+1) n (by omega)]
theorem Po{v:Int}(h:0<=v):Lib.itoa v=dn v.toNat:=by
 obtain⟨n,rfl⟩:=Int.eq_ofNat_of_zero_le h;rw[sQ];simp
theorem zo:∀(l:List UInt8) (a:Nat),l.all qg=true->Lib.decFrom a l=some (l.foldl (fun n b=>10*n+(b.toNat - 48)) a)
 | [],_,_=>rfl
 | b::r,a,h=>by
  rw[List.all_cons,Bool.and_eq_true]at h;have hb:48<=b.toNat/\b.toNat<=57:=by have:=h.1;unfold qg at this;simpa using this
  unfold Lib.decFrom Lib.digitVal;rw[if_pos hb];show Lib.decFrom _ r=_;rw[zo r _ h.2,List.foldl_cons,Nat.mul_comm]
theorem Nr(n:Nat)(hl:(dn n).length<=6):Lib.atoiAll (dn n)=.ok (n:Int):=by
 obtain⟨h1,h2,h3⟩:=Aa (n+1) n (by omega);rw[Lib.atoiAll_short _ (by omega)]
 cases hd:dn n with
 | nil=>rw[hd]at h3;simp at h3
 | cons b r =>
  rw[hd]at h1 h2;have hb:qg b=true:=by rw[List.all_cons,Bool.and_eq_true]at h1;exact h1.1
  have hb2:48<=b.toNat:=by unfold qg at hb;simp at hb;exact hb.1
  have n45:(b == 45)=false:=by rw[beq_eq_false_iff_ne];rintro rfl;simp at hb2
  have n43:(b == 43)=false:=by rw[beq_eq_false_iff_ne];rintro rfl;simp at hb2
  have e1:Lib.atoi (b::r)=(Lib.decNat (b::r)).map fun (m:Nat)=>(m:Int):=by simp[Lib.atoi,n45,n43]
  have e2:Lib.decNat (b::r)=some n:=by
   unfold Lib.decNat;rw[zo _ _ h1];unfold vD at h2;rw[h2];rfl
  rw[e1,e2];rfl
theorem QK{s:List UInt8}{v:Int}(h:0<=v)(hi:Lib.itoa v=s)(hl:s.length<=6):bZ s=v:=by
 rw[Po h]at hi;rw[Ns hi.symm hl];omega
theorem Ef{s:List UInt8}(h:∀v,Lib.atoiAll s=.ok v->0<=v->Lib.itoa v=s->¬ s.length<=6):¬ 0<=bZ s:=by
 intro h0;obtain⟨n,e1,e2,e3,_⟩:=Pp h0;exact h n (by rw[e2];exact Nr n (by rw[<-e2];exact e3)) (by omega) (by rw[sQ];exact e2.symm) e3
theorem FM{c:UInt8}:∀(s:List UInt8),(∀b∈s,b≠c)->Lib.indexByte s c=-1
 | [],_=>rfl
 | b::r,h=>by
  unfold Lib.indexByte;have hb:(b == c)=false:=by rw[beq_eq_false_iff_ne];exact h b (by simp)
  rw[hb,FM r (fun x hx=>h x (by simp[hx]))];rfl
theorem IZ{c:UInt8}:∀(s:List UInt8) (i:Nat),(∀(j:Nat) (b:UInt8),j < i->s[j]? = some b->b≠c)->s[i]? = some c->Lib.indexByte s c=i
 | [],i,_,h=>by simp at h
 | b::r,0,_,h=>by
  have:b=c:=by simpa using h
  subst this;unfold Lib.indexByte;simp
 | b::r,i+1,hn,h=>by
  have hb:(b == c)=false:=by rw[beq_eq_false_iff_ne];exact hn 0 b (by omega) rfl
  have:=IZ r i (fun j x hj hx=>hn (j+1) x (by omega) (by simpa using hx)) (by simpa using h);unfold Lib.indexByte;rw[hb,this];have e:((i:Int) == -1)=false:=by rw[beq_eq_false_iff_ne];omega
  simp
theorem Ab(c:UInt8):∀(s:List UInt8),(∀b∈s,b≠c)\/∃i,(∀(j:Nat) (b:UInt8),j < i->s[j]? = some b->b≠c)/\s[i]? = some c
 | []=>.inl (by simp)
 | b::r=>by
  by_cases hb:b=c
  ·exact .inr ⟨0,fun j x hj=>by omega,by simp[hb]⟩
  ·rcases Ab c r with h | ⟨i,h1,h2⟩
   ·exact .inl (fun x hx=>by
     rcases List.mem_cons.1 hx with e | hx
     ·exact e ▸ hb
     ·exact h x hx)
   ·refine .inr ⟨i+1,fun j x hj hx=>?_,by simpa using h2⟩
    cases j with
    | zero=>have:b=x:=by simpa using hx
            exact this ▸ hb
    | succ j=>exact h1 j x (by omega) (by simpa using hx)
end Go.Proofs.YtediempflagfkaaGreatDoor
