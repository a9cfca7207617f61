/- Lemmas. Lemmas. Lemmas. Lemmas. -/
import Derived.Test.YtediempflagfkaaGreatDoorPureX
import Derived.Test.YtediempflagfkaaGreatDoorPureW
set_option linter.unusedVariables false
set_option linter.unusedSimpArgs false
set_option linter.unnecessarySimpa false
namespace Go.Proofs.YtediempflagfkaaGreatDoor.Pu
set_option maxRecDepth 8000
def GU:Nat->Nat->List UInt8
 | 0,_=>[]
 | k+1,n=>if n < 10 then [UInt8.ofNat (48+n)] else GU k (n / 10)++[UInt8.ofNat (48+n % 10)]
def dn(n:Nat):List UInt8:=GU (n+1) n
theorem zy:∀(k m n:Nat),n < k->n < m->GU k n=GU m n
 | 0,_,_,h,_=>by omega
 | _+1,0,_,_,h=>by omega
 | k+1,m+1,n,h1,h2=>by
  unfold GU;by_cases hn:n < 10
  ·rw[if_pos hn,if_pos hn]
  ·rw[if_neg hn,if_neg hn,zy k m (n / 10) (by omega) (by omega)]
theorem xw{n:Nat}(h:n < 10):dn n=[UInt8.ofNat (48+n)]:=by unfold dn GU;rw[if_pos h]
theorem zN{n:Nat}(h:¬ n < 10):dn n=dn (n / 10)++[UInt8.ofNat (48+n % 10)]:=by
 show GU (n+1) n=_;unfold GU;rw[if_neg h,zy n (n / 10+1) (n / 10) (by omega) (by omega)];rfl
def wA(s:List UInt8):List UInt8:=s.takeWhile (·≠32)
def wB(s:List UInt8):List UInt8:=(s.dropWhile (·≠32)).drop 1
def wM(s:List UInt8):Bool:=s.any (·=32)
theorem KW:∀(s:List UInt8),(∀b∈s,b≠32)->s.takeWhile (·≠32)=s/\s.dropWhile (·≠32)=[]
 | [],_=>⟨rfl,rfl⟩
 | b::r,h=>by
  have hb:=h b (by simp);obtain⟨h1,h2⟩:=KW r (fun x hx=>h x (by simp[hx]));constructor
  ·rw[List.takeWhile_cons_of_pos (by simpa using hb),h1]
  ·rw[List.dropWhile_cons_of_pos (by simpa using hb),h2]
theorem Qs:∀(s:List UInt8) (i:Nat),(∀(j:Nat) (b:UInt8),j < i->s[j]? = some b->b≠32)->s[i]? = some 32->s.takeWhile (·≠32)=s.take i/\s.dropWhile (·≠32)=s.drop i
 | [],i,_,h=>by simp at h
 | b::r,0,_,h=>by
  simp at h;subst h;exact⟨rfl,rfl⟩
 | b::r,i+1,hn,h=>by
  have hb:=hn 0 b (by omega) rfl;obtain⟨h1,h2⟩:=Qs r i (fun j x hj hx=>hn (j+1) x (by omega) (by simpa using hx)) (by simpa using h);constructor
  ·rw[List.takeWhile_cons_of_pos (by simpa using hb),h1,List.take_succ_cons]
  ·rw[List.dropWhile_cons_of_pos (by simpa using hb),h2,List.drop_succ_cons]
theorem yK{s:List UInt8}(h:∀b∈s,b≠32):wA s=s/\wB s=[]/\wM s=false:=by
 obtain⟨h1,h2⟩:=KW s h;refine⟨h1,by unfold wB;rw[h2];rfl, ?_⟩;unfold wM;rw[List.any_eq_false];intro b hb;simpa using h b hb
theorem KI{s:List UInt8}{i:Nat}(h:∀(j:Nat) (b:UInt8),j < i->s[j]? = some b->b≠32)(hi:s[i]? = some 32):wA s=s.take i/\wB s=s.drop (i+1)/\wM s=true:=by
 obtain⟨h1,h2⟩:=Qs s i h hi;refine⟨h1,by unfold wB;rw[h2,List.drop_drop], ?_⟩;unfold wM;rw[List.any_eq_true];exact⟨32,List.mem_of_getElem? hi,by simp⟩
def qg(b:UInt8):Bool:=decide (48<=b.toNat) && decide (b.toNat<=57)
def vD(s:List UInt8):Nat:=s.foldl (fun n b=>10*n+(b.toNat - 48)) 0
def bZ(s:List UInt8):Int:=if (1<=s.length/\s.length<=6)/\s.all qg=true/\dn (vD s)=s then (vD s:Int) else -1
theorem DC(s:List UInt8)(b:UInt8):vD (s++[b])=10*vD s+(b.toNat - 48):=by unfold vD;rw[List.foldl_append];rfl
theorem Ez:∀(s:List UInt8) (a k:Nat),a < 10 ^ k->s.all qg=true->s.foldl (fun n b=>10*n+(b.toNat - 48)) a < 10 ^ (k+s.length)
 | [],a,k,h,_=>h
 | b::r,a,k,h,hd=>by
  rw[List.all_cons,Bool.and_eq_true]at hd
  have hb:b.toNat<=57:=by
   have:=hd.1;unfold qg at this;simp at this;exact this.2
  have:=Ez r (10*a+(b.toNat - 48)) (k+1) (by rw[Nat.pow_succ];omega) hd.2;rw[List.length_cons,show k+(r.length+1)=k+1+r.length by omega];exact this
def numsL:Nat->List UInt8->Option (List Int)
 | 0,_=>some []
 | k+1,s=>if 0<=bZ (wA s)/\wM s=decide (0 < k) then (numsL k (wB s)).map (bZ (wA s)::·) else none
theorem Aa:∀(k n:Nat),n < k->(dn n).all qg=true/\vD (dn n)=n/\1<=(dn n).length
 | 0,_,h=>by omega
 | k+1,n,h=>by
  by_cases hn:n < 10
  ·rw[xw hn];have:(UInt8.ofNat (48+n)).toNat=48+n:=by simp;omega
   refine⟨by simp[qg];omega,by simp[vD];omega,by simp⟩
  ·rw[zN hn];obtain⟨h1,h2,h3⟩:=Aa k (n / 10) (by omega);have:(UInt8.ofNat (48+n % 10)).toNat=48+n % 10:=by simp;omega
   refine⟨?_, ?_,by simp⟩
   ·rw[List.all_append,h1];simp[qg];omega
   ·rw[DC,h2,this];omega
theorem Ns{s:List UInt8}{n:Nat}(h:s=dn n)(hl:s.length<=6):bZ s=n:=by
 obtain⟨h1,h2,h3⟩:=Aa (n+1) n (by omega);subst h;unfold bZ;rw[if_pos ⟨⟨h3,hl⟩,h1,by rw[h2]⟩,h2]
theorem Pp{s:List UInt8}(h:0<=bZ s):∃n:Nat,bZ s=n/\s=dn n/\s.length<=6/\n < 1000000:=by
 unfold bZ at h ⊢;by_cases hc:(1<=s.length/\s.length<=6)/\s.all qg=true/\dn (vD s)=s
 ·rw[if_pos hc]at h ⊢;have hv:=Ez s 0 0 (by omega) hc.2.1;refine⟨vD s,rfl,hc.2.2.symm,hc.1.2,zQ4 hv ?_⟩;rw[Nat.zero_add];exact zQ5 (Nat.pow_le_pow_right (by omega) hc.1.2) (by decide)
 ·rw[if_neg hc]at h;omega
def iO:List UInt8:=[99,97,108,109]
def qG:List UInt8:=[115,101,110,100]
def r9:List UInt8:=[110,117,108,108]
def sj:List UInt8:=[109,111,118,101]
def su:List UInt8:=[116,111,108,100]
def sw:List UInt8:=[104,101,108,100]
def bOk:List UInt8:=[111,107]
def kP:List UInt8:=[101,114,114,111,114,32]
def Nw:List (List UInt8)->List UInt8
 | []=>[45]
 | x::r=>x++r.flatMap (32::·)
def mK(l:List Mg):List UInt8:=Nw (l.map fun m=>m.body.data.toList)
def after(r:Except Int Wd)(f:Wd->List UInt8):Except Int (Wd × List UInt8):=match r with | .error e=>.error e | .ok d=>.ok (d,f d)
def Mv(o:Option (List Int))(f:Int->Int->Except Int (Wd × List UInt8)):Except Int (Wd × List UInt8):=match o with | some [a,b]=>f a b | _=>.error 1
def Mw(o:Option (List Int))(f:Int->Except Int (Wd × List UInt8)):Except Int (Wd × List UInt8):=match o with | some [a]=>f a | _=>.error 1
def xB(d:Wd)(r:List UInt8):Except Int (Wd × List UInt8) :=
 if (wM r=true/\wM (wB r)=true)/\0<=bZ (wA r)/\0<=bZ (wA (wB r)) then
  after (checked d (dR d (bZ (wA r)) (bZ (wA (wB r))) false ⟨(wB (wB r)).toArray⟩)) fun d'=>dn (bB d' (bZ (wA r)).toNat).toNat
 else .error 1
def xC(d:Wd)(r:List UInt8):Except Int (Wd × List UInt8):=Mv (numsL 2 r) fun a b=>after (checked d (dR d a b true ByteArray.empty)) fun d'=>dn (bB d' a.toNat).toNat
def mvD(d:Wd)(r:List UInt8):Except Int (Wd × List UInt8):=Mv (numsL 2 r) fun a b=>after (fC d a b) fun d'=>dn ((bM d' b.toNat).length - (bM d b.toNat).length)
def xD(d:Wd)(r:List UInt8):Except Int (Wd × List UInt8):=Mw (numsL 1 r) fun a=>if aM d a=0 then .ok (d,mK (bM d a.toNat)) else .error (aM d a)
def xE(d:Wd)(r:List UInt8):Except Int (Wd × List UInt8):=Mw (numsL 1 r) fun a=>if aM d a=0 then .ok (d,dn (aQ d a.toNat).length++32::dn (dQ d a.toNat).toNat) else .error (aM d a)
def dW(d:Wd)(s:List UInt8):Except Int (Wd × List UInt8) :=
 if s=iO then after (checked d (lD d)) fun _=>bOk
 else if wM s=false then .error 1
 else if wA s=qG then xB d (wB s)
 else if wA s=r9 then xC d (wB s)
 else if wA s=sj then mvD d (wB s)
 else if wA s=su then xD d (wB s)
 else if wA s=sw then xE d (wB s)
 else .error 1
def qj(d:Wd)(s:List UInt8):Wd:=match dW d s with | .ok p=>p.1 | .error _=>d
def oP(d:Wd)(s:List UInt8):List UInt8:=match dW d s with | .ok p=>p.2 | .error e=>kP++dn e.toNat
structure Pl where
 d:Wd
 out:List UInt8
 cur:List UInt8
def qh(p:Pl)(b:UInt8):Pl:=if b=10 then ⟨qj p.d p.cur,p.out++oP p.d p.cur++[10],[]⟩ else ⟨p.d,p.out,p.cur++[b]⟩
def Ar(d:Wd)(t:List UInt8):Pl:=t.foldl qh ⟨d,[],[]⟩
def nlN(t:List UInt8):Nat:=(t.filter (·=10)).length
def pq(ah:Int)(l:List Int)(t:List UInt8):Int :=
 if dS ah l=0 then (if 4096 < t.length\/80 < nlN t then 2 else if t≠[]/\t.getLast?≠some 10 then 1 else 0) else dS ah l
def sG(ah:Int)(l:List Int)(t:List UInt8):List UInt8:=if pq ah l t=0 then (Ar (eG ah.toNat l) t).out else []
theorem KY:∀(s:List UInt8) (p:Pl),(∀b∈s,b≠10)->s.foldl qh p=⟨p.d,p.out,p.cur++s⟩
 | [],p,_=>by simp
 | b::r,p,h=>by
  have hb:=h b (by simp);rw[List.foldl_cons,KY r _ (fun x hx=>h x (by simp[hx]))];unfold qh;rw[if_neg hb];simp
theorem Q9(s:List UInt8)(d:Wd)(out:List UInt8)(h:∀b∈s,b≠10):(s++[10]).foldl qh ⟨d,out,[]⟩=⟨qj d s,out++oP d s++[10],[]⟩:=by
 rw[List.foldl_append,KY s _ h];rfl
theorem qH{d:Wd}(R:aL d){k:Nat}(hk:k < d.ah.length):∃(x:Nd) (ck:Nat),d.ah[k]? = some x/\x.aK=ck/\ck<=1048576/\(bB d k).toNat=ck:=by
 obtain⟨x,hx⟩:∃x,d.ah[k]? = some x:=⟨_,zQ1 hk⟩;have h:=R.clk k;have e:bB d k=x.aK:=by unfold bB;rw[hx]
 rw[e]at h ⊢;exact⟨x,x.aK.toNat,hx,by omega,by omega,rfl⟩
theorem CZ{α:Type}{d:Wd}{r:Except Int α}{v:α}(h:checked d r=.ok v):aL d/\r=.ok v:=by
 unfold checked at h;split at h
 ·exact⟨(cZ d).1 (by assumption),h⟩
 ·cases h
theorem nN{d d':Wd}{n g:Int}{nul:Bool}{body:ByteArray}(hb:nul=true->body.size=0)(h:checked d (dR d n g nul body)=.ok d') :
  aL d'/\0<=n/\n.toNat < d'.ah.length:=by
 obtain⟨R,h⟩:=CZ h;obtain⟨R',G⟩:=rM R hb h
 have hE:cK d n g body.size=0:=by
  unfold dR at h;split at h
  ·assumption
  ·cases h
 have hin:inB n 0 ((d.ah.length:Int) - 1)=true:=by
  unfold cK at hE;split at hE
  ·cases hE
  ·rename_i h1;cases hq:inB n 0 ((d.ah.length:Int) - 1)
   ·exact absurd (.inl hq) h1
   ·rfl
 unfold inB at hin;simp at hin;rw[G.alike.n];exact⟨R',by omega,by omega⟩
theorem yI{d d':Wd}{f t:Int}(h:fC d f t=.ok d') :
  aL d/\aL d'/\0<=t/\t.toNat < d.ah.length/\d'.ah.length=d.ah.length/\(bM d t.toNat).length<=(bM d' t.toNat).length/\(bM d' t.toNat).length<=40:=by
 unfold fC at h;split at h
 ·rename_i h0;have R:=(cZ d).1 h0;split at h
  ·rename_i h1;simp only[Bool.and_eq_true,inB,decide_eq_true_eq]at h1;have hf:f.toNat < d.ah.length:=by omega
   have ht:t.toNat < d.ah.length:=by omega
   obtain⟨R',G⟩:=wm R hf ht h;obtain⟨l,hl⟩:=G.aG t.toNat;exact⟨R,R',by omega,ht,G.alike.n,by rw[hl];simp,R'.vH _⟩
  ·cases h
 ·cases h
theorem Mx{d d':Wd}(h:checked d (lD d)=.ok d'):aL d':=by
 have h2:doD d ⟨4,0,0,ByteArray.empty⟩=.ok d':=by unfold doD;simpa using h
 exact(Tc h2).right
def Er{α:Type}(r:Except Int α):Prop:=∀e,r=.error e->1<=e/\e<=7
theorem Er.ok{α:Type}(a:α):Er (.ok a:Except Int α):=fun _ h=>by cases h
theorem Er.err{α:Type}{n:Int}(h:1<=n/\n<=7):Er (.error n:Except Int α):=fun _ e=>by cases e;exact h
theorem Er.bind{α β:Type}{r:Except Int α}{f:α->Except Int β}(h:Er r)(k:∀a,Er (f a)):Er (r.bind f):=by
 cases r with
 | error e=>intro e' he;exact h e' (by simpa[Except.bind] using he)
 | ok a=>exact k a
theorem Er.fold{α β:Type}{f:β->α->Except Int β}(h:∀b a,Er (f b a)):∀(l:List α) (b:β),Er (l.foldlM f b)
 | [],b=>Er.ok b
 | a::l,b=>by
  rw[List.foldlM_cons];exact Er.bind (h b a) (fun b'=>Er.fold h l b')
theorem PO(m:Mg)(l:List Mg)(h:dV m l≠0):1<=dV m l/\dV m l<=7:=by
 unfold dV at h ⊢
 repeat (first | (split at h <;> simp_all;done) | (split <;> simp_all))
theorem KZ(d:Wd)(n:Nat):Er (eZ d n):=by
 unfold eZ;split
 ·exact Er.err (by decide)
 ·split
  ·exact Er.err (by decide)
  ·split
   ·exact Er.err (by decide)
   ·exact Er.ok _
theorem PS(d:Wd)(n:Nat)(m:Mg):Er (sJ d n m):=by
 unfold sJ;split
 ·exact Er.err (by decide)
 ·split
  ·exact Er.ok _
  ·exact Er.err (PO _ _ (by assumption))
theorem DR(d:Wd)(n:Nat)(m:Mg):Er (eD d n m):=by
 unfold eD;split
 ·exact Er.ok _
 ·exact PS d n m
theorem Ra(m:Mg)(n:Nat)(d:Wd)(k:Nat):Er (fZ m n d k):=by
 unfold fZ;split
 ·exact Er.ok _
 ·split
  ·exact Er.err (by decide)
  ·split
   ·exact Er.err (by decide)
   ·exact Er.ok _
theorem Oj(d:Wd)(n g:Int)(k:Nat)(h:cK d n g k≠0):1<=cK d n g k/\cK d n g k<=7:=by
 unfold cK at h ⊢;split
 ·decide
 ·split
  ·decide
  ·split
   ·decide
   ·split
    ·decide
    ·rename_i h1 h2 h3 h4;rw[if_neg h1,if_neg h2,if_neg h3,if_neg h4]at h;exact absurd rfl h
theorem nH(d:Wd)(n g:Int)(nul:Bool)(b:ByteArray):Er (dR d n g nul b):=by
 unfold dR;split
 ·exact Er.bind (Er.fold (Ra _ _) _ _) (fun _=>Er.bind (DR _ _ _) (fun _=>Er.bind (KZ _ _) (fun _=>Er.ok _)))
 ·exact Er.err (Oj _ _ _ _ (by assumption))
theorem K3(d:Wd)(f t:Nat):Er (fI d f t):=by
 unfold fI;split
 ·exact Er.err (by decide)
 ·exact Er.bind (DR _ _ _) (fun _=>Er.bind (KZ _ _) (fun _=>Er.ok _))
theorem GV(f t:Nat):∀(k:Nat) (d:Wd),Er (eO f t k d)
 | 0,d=>Er.ok d
 | k+1,d=>Er.bind (K3 d f t) (fun d'=>GV f t k d')
theorem GX(d:Wd):Er (gY d):=Er.fold (fun s p=>Er.bind (Er.bind (GV _ _ _ _) (fun _=>Er.ok _)) (fun _=>Er.ok _)) _ _
theorem Ol(d:Wd):Er (yU d):=Er.fold (fun s p=>by
 unfold dH;split
 ·exact nH _ _ _ _ _
 ·exact Er.ok _) _ _
theorem Om(d:Wd):Er (fJ d):=Er.bind (Ol d) (fun d'=>GX d')
theorem DT:∀(k:Nat) (d:Wd),Er (jE k d)
 | 0,d=>Er.ok d
 | k+1,d=>Er.bind (Om d) (fun r=>DT k r.1)
theorem En(d:Wd):Er (lD d):=Er.bind (GX d) (fun r=>DT 4 r.1)
theorem gV{α:Type}{d:Wd}(R:aL d){r:Except Int α}(h:Er r):Er (checked d r):=by
 unfold checked;rw[if_pos ((cZ d).2 R)];exact h
theorem uV{d:Wd}(R:aL d)(f t:Int):Er (fC d f t):=by
 unfold fC;rw[if_pos ((cZ d).2 R)];split
 ·exact K3 _ _ _
 ·exact Er.err (by decide)
theorem mP{r:Except Int Wd}{f:Wd->List UInt8}(h:Er r):Er (after r f):=by
 unfold after
 cases r with
 | error e=>exact fun e' he=>h e' (by cases he;rfl)
 | ok d=>exact Er.ok _
theorem A8{s:List UInt8}(h:wM s=false):wA s=s/\wB s=[]:=by
 obtain⟨h1,h2,_⟩:=yK (s:=s) (fun b hb=>by
  unfold wM at h;rw[List.any_eq_false]at h;simpa using h b hb)
 exact⟨h1,h2⟩
theorem qR:¬ 0<=bZ (wA []):=by decide
theorem FQ{r:List UInt8}(h:0<=bZ (wA (wB r))):wM r=true:=by
 cases hm:wM r
 ·rw[(A8 hm).2]at h;exact absurd h qR
 ·rfl
theorem qI{r:List UInt8}(h:0<=bZ (wA r))(h2:wM r=false):numsL 1 r=some [bZ (wA r)]:=by
 unfold numsL;rw[if_pos ⟨h,by rw[h2];rfl⟩];rfl
theorem qJ{r:List UInt8}(h:¬ (0<=bZ (wA r)/\wM r=false)):numsL 1 r=none:=by
 unfold numsL;rw[if_neg (fun k=>h ⟨k.1,k.2.trans rfl⟩)]
theorem uU{r:List UInt8}(h:0<=bZ (wA r))(h2:0<=bZ (wA (wB r)))(h3:wM (wB r)=false):numsL 2 r=some [bZ (wA r),bZ (wA (wB r))]:=by
 unfold numsL;rw[if_pos ⟨h,by rw[FQ h2];rfl⟩,qI h2 h3];rfl
theorem sV{r:List UInt8}(h:¬ (0<=bZ (wA r)/\0<=bZ (wA (wB r))/\wM (wB r)=false)):numsL 2 r=none:=by
 unfold numsL;split
 ·rename_i k;rw[qJ (fun j=>h ⟨k.1,j⟩)];rfl
 ·rfl
theorem Af{d:Wd}{s:List UInt8}(h1:wA s≠iO)(h2:wA s≠qG)(h3:wA s≠r9)(h4:wA s≠sj)(h5:wA s≠su)(h6:wA s≠sw):dW d s=.error 1:=by
 unfold dW;rw[if_neg (fun e=>h1 (by rw[e];rfl)),if_neg h2,if_neg h3,if_neg h4,if_neg h5,if_neg h6]
 split <;> rfl
theorem zR{d:Wd}{s:List UInt8}(h:wA s=iO)(hm:wM s=false):dW d s=after (checked d (lD d)) fun _=>bOk:=by
 unfold dW;rw[if_pos ((A8 hm).1.symm.trans h)]
theorem yJ{d:Wd}{s:List UInt8}(h:wA s=iO)(hm:¬ wM s=false):dW d s=.error 1:=by
 unfold dW;rw[if_neg (fun e=>hm (by rw[e];rfl)),if_neg hm,h,if_neg (by decide),if_neg (by decide),if_neg (by decide),if_neg (by decide),if_neg (by decide)]
theorem yg{s:List UInt8}{b:List UInt8}(h:wA s=b)(hb:b≠iO):s≠iO:=fun e=>hb (by rw[<-h,e];rfl)
theorem zO{d:Wd}{s:List UInt8}(h:wA s=qG):dW d s=xB d (wB s):=by
 unfold dW;rw[if_neg (yg h (by decide))];split
 ·rename_i hm;rw[(A8 hm).2];unfold xB;rw[if_neg (fun k=>qR k.2.1)]
 ·first | rfl | rw[if_pos h]
theorem zP{d:Wd}{s:List UInt8}(h:wA s=r9):dW d s=xC d (wB s):=by
 unfold dW;rw[if_neg (yg h (by decide))];split
 ·rename_i hm;rw[(A8 hm).2];unfold xC;rw[sV (fun k=>qR k.1)];rfl
 ·first | rfl | rw[h,if_neg (by decide)]
theorem zQ{d:Wd}{s:List UInt8}(h:wA s=sj):dW d s=mvD d (wB s):=by
 unfold dW;rw[if_neg (yg h (by decide))];split
 ·rename_i hm;rw[(A8 hm).2];unfold mvD;rw[sV (fun k=>qR k.1)];rfl
 ·first | rfl | rw[h,if_neg (by decide),if_neg (by decide)]
theorem zS{d:Wd}{s:List UInt8}(h:wA s=su):dW d s=xD d (wB s):=by
 unfold dW;rw[if_neg (yg h (by decide))];split
 ·rename_i hm;rw[(A8 hm).2];unfold xD;rw[qJ (fun k=>qR k.1)];rfl
 ·first | rfl | rw[h,if_neg (by decide),if_neg (by decide),if_neg (by decide)]
theorem zT{d:Wd}{s:List UInt8}(h:wA s=sw):dW d s=xE d (wB s):=by
 unfold dW;rw[if_neg (yg h (by decide))];split
 ·rename_i hm;rw[(A8 hm).2];unfold xE;rw[qJ (fun k=>qR k.1)];rfl
 ·first | rfl | rw[h,if_neg (by decide),if_neg (by decide),if_neg (by decide),if_neg (by decide)]
theorem FR{d:Wd}{r:List UInt8}(h:¬ ((wM r=true/\wM (wB r)=true)/\0<=bZ (wA r)/\0<=bZ (wA (wB r)))):xB d r=.error 1:=by unfold xB;rw[if_neg h]
theorem FT{d:Wd}{r:List UInt8}(h:numsL 2 r=none):xC d r=.error 1:=by unfold xC;rw[h];rfl
theorem Ny{d:Wd}{r:List UInt8}(h:numsL 2 r=none):mvD d r=.error 1:=by unfold mvD;rw[h];rfl
theorem FU{d:Wd}{r:List UInt8}(h:numsL 1 r=none):xD d r=.error 1:=by unfold xD;rw[h];rfl
theorem FV{d:Wd}{r:List UInt8}(h:numsL 1 r=none):xE d r=.error 1:=by unfold xE;rw[h];rfl
end Go.Proofs.YtediempflagfkaaGreatDoor.Pu
