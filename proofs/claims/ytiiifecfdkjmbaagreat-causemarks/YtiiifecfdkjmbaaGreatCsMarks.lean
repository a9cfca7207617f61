/- Lemmas. Lemmas. -/
import Derived.Test.YtiiifecfdkjmbaaGreatCsMem
import Derived.Test.YtiiifecfdkjmbaaGreatCsAttend
import Derived.Test.YtiiifecfdkjmbaaGreatAOpen
namespace Go.Proofs.YtiiifecfdkjmbaaGreat
set_option maxRecDepth 8000
open Go.RowKit Go.Shelf
open Pu
set_option linter.unusedVariables false
theorem zn {s:Sc} {x:Ac} {d':Wd} (I:jf s) (h:doD s.d x=.ok d') (h12:x.kind=1\/x.kind=2) :
  ∃ n:Nat,x.one=(n:Int)/\n < s.d.nodes.length/\d'.nodes.length=s.d.nodes.length/\eB d' x∉s.sent/\bT s x=mq s d' n (eB d' x):=by
 have D:=JH h
 have key:∃ nul body,(nul=true->body.size=0)/\fH s.d x.one x.two nul body=.ok d'/\(eB d' x).nul=nul/\(eB d' x).body=body:=by
  unfold doD at h;unfold eB;rcases h12 with h1 | h2
  ·rw [if_pos h1] at h;obtain ⟨R,h⟩:=jw h;exact ⟨false,x.body,fun h=>(by cases h),h,by simp;omega,by simp;intro h;omega⟩
  ·rw [if_neg (by omega),if_pos h2] at h;obtain ⟨R,h⟩:=jw h;exact ⟨true,ByteArray.empty,fun _=>rfl,h,by simp [h2],by simp [h2]⟩
 obtain ⟨nul,body,hb,hc,e1,e2⟩:=key;have C:=Dp D.was hb hc
 have em:eB d' x=uG s.d x.one x.two nul body:=by
  have h1:=C.clk x.one.toNat;rw [if_pos rfl] at h1;unfold eB at e1 e2 ⊢;unfold uG at h1 ⊢;simp only at e1 e2 h1;rw [e1,e2,h1]
 have hone:x.one=(x.one.toNat:Int):=C.mfr;refine ⟨x.one.toNat,hone,C.lt,D.grow.alike.n, ?_, ?_⟩
 ·rw [em];intro hm;have h2:=(I.own _ hm).2;have h3:=C.mst;have h4:(uG s.d x.one x.two nul body).fr.toNat=x.one.toNat:=rfl;rw [h4] at h2;omega
 ·unfold bT;rw [if_neg (by omega),h];simp only;rw [if_neg (by omega)]
theorem zG {s:Sc} {x:Ac} {d':Wd} (I:jf s) (h:doD s.d x=.ok d') (h3:x.kind=3) :
  ∃ (f t:Nat) (m:Mg) (rest:List Mg),x.one=(f:Int)/\x.two=(t:Int)/\f < s.d.nodes.length/\t < s.d.nodes.length/\Right s.d/\d'.nodes.length=s.d.nodes.length/\aA s.d f t=m::rest/\m∈s.sent/\bT s x=rQ s d' t m:=by
 have D:=JH h;have h0:=h;unfold doD at h;rw [if_neg (by omega),if_neg (by omega),if_pos h3] at h;obtain ⟨R,hf,ht,h⟩:=xW h;obtain ⟨m,M⟩:=moved R (f:=x.one.toNat) (t:=x.two.toNat) (by omega) (by omega) h
 refine ⟨x.one.toNat,x.two.toNat,m,_,by omega,by omega,by omega,by omega,R,D.grow.alike.n,M.first,I.wired _ _ m (by rw [M.first];simp), ?_⟩
 unfold bT;rw [if_neg (by omega),h0];simp only
 rw [if_pos h3,M.first]
theorem Mr {s:Sc} {x:Ac} {e:Int} (h:doD s.d x=.error e):bT s x=s:=by
 unfold bT;split
 ·rfl
 ·rw [h]
theorem Dj {d d':Wd} {x:Ac} (h:doD d x=.ok d') (h4:¬ x.kind=4):x.kind=1\/x.kind=2\/x.kind=3:=by
 unfold doD at h;by_cases h1:x.kind=1
 ·exact .inl h1
 ·by_cases h2:x.kind=2
  ·exact .inr (.inl h2)
  ·by_cases h3:x.kind=3
   ·exact .inr (.inr h3)
   ·rw [if_neg h1,if_neg h2,if_neg h3,if_neg h4] at h;cases h
theorem zJ {M:SM} (nd:M.sets.Nodup) {m:Mg} {r:Nat} (hr:(m,r)∈M.ks) {p:Nat} (hp:p∈M.ps):r≠p :=
 (List.nodup_append.1 nd).2.2 r (List.mem_map.2 ⟨_,hr,rfl⟩) p hp
theorem MG {M:SM} (nd:M.sets.Nodup) {i j p:Nat} (hi:M.ps[i]? = some p) (hj:M.ps[j]? = some p):i=j:=by
 have h:=(List.nodup_append.1 nd).2.1;obtain ⟨a,ea⟩:=zQ2.1 hi;obtain ⟨b,eb⟩:=zQ2.1 hj;exact (List.getElem_inj h).1 (ea.trans eb.symm)
theorem EP {s:Sc} {M M':SM} {d':Wd} {n:Nat} {m:Mg} {p q:Nat} (R:wL s M) (nd:M.sets.Nodup) (hp:M.ps[n]? = some p) (hno:m∉s.sent) (h1:M'.sent=M.sent++[m]) (h2:M'.ks=M.ks++[(m,q)]) (h3:M'.ps=M.ps) (hq:q∉M.sets)
  (cq:∀ y,y∈M'.cont q↔y∈M.cont p) (cp:∀ y,y∈M'.cont p↔y∈M.cont p\/y=m) (co:∀ i,i∈M.sets->i≠p->M'.cont i=M.cont i):wL (mq s d' n m) M':=by
 refine ⟨by rw [h1,R.sent];rfl,by rw [h2,List.map_append,R.keys];rfl,fun m' r hr y=>?_,fun k p' hk y=>?_⟩
 ·show _↔(if eU m' m then s.past n y else s.ahead m' y)=true;rw [h2,List.mem_append] at hr;rcases hr with hr | hr
  ·have hm':m'∈s.sent:=by rw [<-R.keys];exact List.mem_map.2 ⟨_,hr,rfl⟩
   have hne:¬ eU m' m=true:=fun e=>hno ((dV m' m).1 e ▸ hm');rw [if_neg hne,co r (List.mem_append.2 (.inl (List.mem_map.2 ⟨_,hr,rfl⟩))) (zJ nd hr (List.mem_of_getElem? hp))];exact R.ahead m' r hr y
  ·simp only [List.mem_singleton,Prod.mk.injEq] at hr;obtain ⟨rfl,rfl⟩:=hr;rw [if_pos (qI m'),cq];exact R.past n p hp y
 ·show _↔(s.past k y || (decide (k=n) && eU y m))=true;rw [h3] at hk;by_cases hkn:k=n
  ·subst hkn;rw [hp] at hk;obtain rfl:=Option.some.inj hk;rw [cp,R.past k p hp];simp only [decide_true,Bool.true_and,Bool.or_eq_true,dV]
  ·have hne:p'≠p:=fun e=>hkn (MG nd hk (e ▸ hp));rw [co p' (List.mem_append.2 (.inr (List.mem_of_getElem? hk))) hne,R.past k p' hk];simp [hkn]
theorem Ku {s:Sc} {M:SM} {d':Wd} {t:Nat} {m:Mg} {p r:Nat} {A:List Mg} (R:wL s M) (nd:M.sets.Nodup) (hp:M.ps[t]? = some p) (hr:(m,r)∈M.ks) (hA:∀ y,y∈A↔(y∈M.cont p\/y∈M.cont r)\/y=m):wL (rQ s d' t m) { M with cont:=fun i=>if i=p then A else M.cont i }:=by
 refine ⟨R.sent,R.keys,fun m' r' hr' y=>?_,fun k p' hk y=>?_⟩
 ·show y∈(if r'=p then A else M.cont r')↔_;rw [if_neg (zJ nd hr' (List.mem_of_getElem? hp))];exact R.ahead m' r' hr' y
 ·show y∈(if p'=p then A else M.cont p')↔(s.past k y || (decide (k=t) && (s.ahead m y || eU y m)))=true;by_cases hkn:k=t
  ·subst hkn;have hk':M.ps[k]? = some p':=hk;rw [hp] at hk';obtain rfl:=Option.some.inj hk';rw [if_pos rfl,hA,R.past k p hp,R.ahead m r hr];simp only [decide_true,Bool.true_and,Bool.or_eq_true,dV,or_assoc]
  ·have hk':M.ps[k]? = some p':=hk;have hne:p'≠p:=fun e=>hkn (MG nd hk' (e ▸ hp));rw [if_neg hne,R.past k p' hk'];simp [hkn]
theorem Cm {s:Sc} {M:SM} (I:jf s) (R:wL s M):(M.ks.map Prod.fst).Nodup:=by
 rw [R.keys];refine I.rise.imp ?_;intro a b h e;subst e;have:=h rfl;omega
end Go.Proofs.YtiiifecfdkjmbaaGreat
set_option maxHeartbeats 2000000
namespace Go.Proofs.YtiiifecfdkjmbaaGreat
open _root_.Go.Proofs.Tryz hiding checked
set_option maxRecDepth 8000
open Go.RowKit Go.Shelf
open Pu
set_option linter.unusedVariables false
set_option linter.unusedSimpArgs false
def aW (bs:List Bool):List Value:=bs.map fun b=>.bool b
theorem zo:ET 83 87 1 24:=wJ (z:=.slice none 0 0) (by kernel_rfl) (by kernel_rfl) rfl
theorem xV:ET 87 4 1 1:=wJ (z:=.bool false) (by kernel_rfl) (by kernel_rfl) rfl
theorem Ky (l:List Bool) (j:Nat) (b:Bool) (h:l[j]? = some b):l.take j++b::List.replicate (l.length - (j+1)) false=l.take (j+1)++List.replicate (l.length - (j+1)) false:=by
 rw [List.take_add_one,h];simp
theorem ME {w:World} {lo:Nat} {b:Nat} {n:Nat} {bs:List Bool} (h:Row w lo 1 ⟨some ⟨b,0,none⟩,n⟩ n (aW bs)) {j:Nat} (hj:j < n) (v:Bool):Row (w.setCell ⟨b,j,none⟩ (.bool v)) lo 1 ⟨some ⟨b,0,none⟩,n⟩ n (aW (bs.set j v)):=by
 obtain ⟨b',o',e,hl,hb,hc,hx⟩:=h.body (by show 0 < n;omega);dsimp only at e;cases e;have hlen:=h.len;refine ⟨by unfold aW at hlen ⊢;simp only [List.length_map,List.length_set] at hlen ⊢;exact hlen,h.cap,h.qK,fun _=>.inr ⟨_,_,rfl⟩,fun _=>⟨b,0,rfl,hl,by simpa using hb,fun i hi=>?_,fun i u hu=>?_⟩⟩
 ·obtain ⟨q1,q2⟩:=hc i hi;rw [World.frozen?_setCell];refine ⟨?_,q2⟩;by_cases e:i=j
  ·subst e;rw [Nat.zero_add] at q1 ⊢;rw [World.cell?_setCell_same' _ _ _ q1];rfl
  ·rw [Nat.zero_add,bJ _ _ _ (Ne.symm e)];rw [Nat.zero_add] at q1;exact q1
 ·unfold aW at hu;rw [List.getElem?_map,List.getElem?_set] at hu;by_cases e:j=i
  ·subst e;have hjl:j < bs.length:=by unfold aW at hlen;simp at hlen;omega
   simp only [if_true,hjl] at hu;obtain rfl:=Option.some.inj hu;obtain ⟨q1,q2⟩:=hc j (by show j < n*1;omega);rw [Nat.zero_add] at q1 ⊢;exact World.cell?_setCell_same' _ _ _ q1
  ·rw [if_neg e] at hu;rw [Nat.zero_add,bJ _ _ _ e];have:=hx i u (by unfold aW;rw [List.getElem?_map];exact hu)
   rwa [Nat.zero_add] at this
theorem Kw (lo B:Nat) (x:WV) (s:Sc) (M:SM) (w:World) (h:fT lo w B x s.d M) (HRP:Hid (wL s M)) (HKN:Hid ((M.ks.map Prod.fst).Nodup)) (hsl:M.sent.length<=1000) :
  Calls prog 133 #[.pointer (some ⟨B,0,none⟩)] w fun e w'=>∃ (sl:Sl) (rs:Nat->Sl),e=.returned (sl.v M.sent.length)/\bC 1 aW w.heap.size w' sl rs (iU s)/\Since w w':=by
 obtain ⟨mk,hmk⟩:∃ y,iU s=y:=⟨_,rfl⟩
 have HAT:Hid (∀ (i:Nat) (m:Mg),M.sent[i]? = some m->mk[i]? = some (M.sent.map fun o=>s.ahead m o)):=fun i m hm=>by
  rw [<-hmk];unfold iU;rw [List.getElem?_map,<-HRP.out.sent,hm];rfl
 have HLM:Hid (mk.length=M.sent.length):=by unfold Hid;rw [<-hmk];unfold iU;rw [List.length_map,HRP.out.sent]
 rw [hmk];clear hmk;have HRW:Hid (∀ y,Since w y->fT lo y B x s.d M):=fun y hy=>h.since hy;have c3:=h.c3;have JE:=fun y=>run_make_row' (P:=prog) 87 4 (.bool false) 1 (by kernel_rfl) (by kernel_rfl) rfl .i64 .i64 M.sent.length (by omega) (by omega) y;have HMS:Hid (fA w M.sl.a M.sent.length M.sent):=jv h.row (by omega);clear h;obtain ⟨sa,hsa⟩:∃ y,M.sl.a=y:=⟨_,rfl⟩;obtain ⟨sc,hsc⟩:∃ y,M.sl.cap=y:=⟨_,rfl⟩;obtain ⟨sent,Cu⟩:∃ y,M.sent=y:=⟨_,rfl⟩;rw [hsa,Cu] at HMS;have HC3:Hid (∀ y,Since w y->y.cell? ⟨B,3,none⟩=some (.slice sa sent.length sc)):=fun y hy=>by have:=(HRW.out y hy).c3;rw [hsa,hsc,Cu] at this;exact this
 rw [hsa,hsc,Cu] at c3;rw [Cu] at HAT HLM JE hsl ⊢;have HSE:Hid (M.sent=sent):=Cu;clear hsa hsc Cu
 go_enter func133,ntmps133
 go_wp2
 go_loopw [3,14] (fun v i wr=>∃ (k:Nat) (sl:Sl) (rs:Nat->Sl),k<=sent.length/\i=.int .i64 k/\v=.slice sl.a (mk.take k).length sl.cap/\bC 1 aW w.heap.size wr sl rs (mk.take k)/\Since w wr) (fun _ i _=>sent.length - (intOf i).toNat)
 case atStart=>exact ⟨0,⟨none,0⟩,fun _=>⟨none,0⟩,Nat.zero_le _,rfl,by simp,by simpa using bC.nil,Since.refl w⟩
 case round =>
  obtain ⟨wo,rfl⟩:∃ wo,wo=wr:=⟨_,rfl⟩;obtain ⟨k,sl,rs,hk,rfl,rfl,hLL,hSr⟩:=hrel;obtain ⟨tk,htk⟩:∃ y,mk.take k=y:=⟨_,rfl⟩;rw [htk] at hLL ⊢;have HTE:Hid (mk.take k=tk):=htk;clear c3 htk;by_cases hlt:k < sent.length
  ·obtain ⟨m,hm⟩:∃ m,sent[k]? = some m:=⟨_,zQ1 hlt⟩;have n1:(k:Int) < (sent.length:Int):=by omega
   have hMs:=HMS.out;obtain ⟨bs,os,rfl,hbs,hcs⟩:=(hMs.since hSr).cells (by omega);obtain ⟨e0,e1,e2,e3,e4⟩:=bP hcs k m hm;have HMK:Hid (mk[k]? = some (sent.map fun o=>s.ahead m o)):=HAT.out k m hm
   obtain ⟨r,hmr⟩:∃ r,(m,r)∈M.ks:=by
    have h1:m∈M.ks.map Prod.fst:=by rw [HRP.out.keys,<-HRP.out.sent,HSE.out];exact List.mem_of_getElem? hm
    obtain ⟨⟨m',r⟩,h2,h3⟩:=List.mem_map.1 h1;exact ⟨r,by rw [<-h3];exact h2⟩
   have HRS:Hid (r∈M.sets):=List.mem_append.2 (.inl (List.mem_map.2 ⟨_,hmr,rfl⟩))
   have HAH:Hid (∀ y,(M.cont r).any (eU y)=s.ahead m y):=fun y=>by
    have:=HRP.out.ahead m r hmr y;cases hb:s.ahead m y
    ·rw [<-Bool.not_eq_true,nK];intro hc;rw [this.1 hc] at hb;cases hb
    ·rw [nK];exact this.2 hb
   have HLK:Hid (∀ y,Since w y->(Instr.lookup 156 (.map (some M.ra)) (.agg #[.int .i64 m.fr,.int .i64 m.gr,.int .i64 m.st,.bool m.nul,.string m.body]) false).run prog y=.ok (.map (some r)) y):=fun y hy=>uL Hy (HRW.out y hy).map HKN.out hmr;obtain ⟨w2,hw2⟩:∃ y,wo.alloc (.cells #[.int .i64 m.fr,.int .i64 m.gr,.int .i64 m.st,.bool m.nul,.string m.body] 42)=y:=⟨_,rfl⟩;have hS2:=ay hw2;have hM2:j5 w2 wo.heap.size m:=by rw [<-hw2];exact j5.new wo _ m
   have hs2:=hSr.trans hS2;have d3:=HC3.out w2 hs2;obtain ⟨w3,hw3⟩:∃ y,w2.alloc (.cells (madeCells #[.bool false] sent.length) 4)=y:=⟨_,rfl⟩;have hS3:=ay hw3;have hs3:=hs2.trans hS3;have d3':=HC3.out w3 hs3
   have PS:Row w3 w2.heap.size 1 ⟨some ⟨w2.heap.size,0,none⟩,sent.length⟩ sent.length (aW (List.replicate sent.length false)):=by
    have:=Row.new w2 w2.heap.size 1 (madeCells #[.bool false] sent.length) 4 sent.length (Nat.le_refl _) (by rw [size_madeCells];omega) (by unfold maxLen;omega);rw [uh,hw3] at this;unfold aW;rw [List.map_replicate];exact this
   obtain ⟨bits,JF⟩:∃ y:List Bool,sent.map (fun o=>s.ahead m o)=y:=⟨_,rfl⟩;rw [JF] at HMK;have HBL:Hid (bits.length=sent.length):=by unfold Hid;rw [<-JF,List.length_map]
   have HBA:Hid (∀ (j:Nat) (o:Mg),sent[j]? = some o->bits[j]? = some (s.ahead m o)):=fun j o ho=>by rw [<-JF,List.getElem?_map,ho];rfl
   clear hcs hm hmr JF hMs
   go_wp2
   clear e0 e1 e2 e3 e4 d3 d3' hw2 hw3
   go_loopw [29] (fun i wr=>∃ j:Nat,j<=sent.length/\i=.int .i64 j/\Row wr w2.heap.size 1 ⟨some ⟨w2.heap.size,0,none⟩,sent.length⟩ sent.length (aW (bits.take j++List.replicate (sent.length - j) false))/\Since w2 wr) (fun i _=>sent.length - (intOf i).toNat)
   case atStart=>exact ⟨0,Nat.zero_le _,rfl,by simpa using PS,hS3⟩
   case round =>
    obtain ⟨wi,rfl⟩:∃ wo,wo=wr:=⟨_,rfl⟩;obtain ⟨j,hj,rfl,hRj,hSj⟩:=hrel;clear PS;have hsj:=hs2.trans hSj;by_cases hjl:j < sent.length
    ·obtain ⟨o,ho⟩:∃ m,sent[j]? = some m:=⟨_,zQ1 hjl⟩;have n2:(j:Int) < (sent.length:Int):=by omega
     obtain ⟨bs',os',e',_,hcs⟩:=(HMS.out.since hsj).cells (by omega);cases e';obtain ⟨e0,e1,e2,e3,e4⟩:=bP hcs j o ho;have HBJ:Hid (bits[j]? = some (s.ahead m o)):=HBA.out j o ho;obtain ⟨w5,hw5⟩:∃ y,wi.alloc (.cells #[.int .i64 o.fr,.int .i64 o.gr,.int .i64 o.st,.bool o.nul,.string o.body] 42)=y:=⟨_,rfl⟩;have hS5:=ay hw5;have hM5:j5 w5 wi.heap.size o:=by rw [<-hw5];exact j5.new wi _ o
     have Kz:j5 w5 wo.heap.size m:=hM2.fr ((hSj.trans hS5).fr fun _=>False) (fun f=>f);have hs5:=hsj.trans hS5;have hR5:=HRW.out w5 hs5;clear hcs ho
     go_wp2_with fail
     clear e0 e1 e2 e3 e4 hw5;obtain ⟨W0,hW0⟩:∃ y,w5.drew=y:=⟨_,rfl⟩;have hs0:=aQ hW0;obtain ⟨S0,hS0⟩:∃ S0:World->Prop,∀ w',S0 w'↔Since w5 w':=⟨_,fun _=>Iff.rfl⟩;have c4:∀ y:ak S0,y.w.cell? ⟨B,4,none⟩=some (.map (some M.ra)):=fun y=>(hR5.since ((hS0 _).1 y.h)).c4;have m0:∀ y:ak S0,y.w.cell? ⟨wo.heap.size,0,none⟩=some (.int .i64 m.fr):=fun y=>(Kz.since ((hS0 _).1 y.h)).c0;have m1:∀ y:ak S0,y.w.cell? ⟨wo.heap.size,1,none⟩=some (.int .i64 m.gr):=fun y=>(Kz.since ((hS0 _).1 y.h)).c1;have m2:∀ y:ak S0,y.w.cell? ⟨wo.heap.size,2,none⟩=some (.int .i64 m.st):=fun y=>(Kz.since ((hS0 _).1 y.h)).c2;have m3:∀ y:ak S0,y.w.cell? ⟨wo.heap.size,3,none⟩=some (.bool m.nul):=fun y=>(Kz.since ((hS0 _).1 y.h)).c3;have m4:∀ y:ak S0,y.w.cell? ⟨wo.heap.size,4,none⟩=some (.string m.body):=fun y=>(Kz.since ((hS0 _).1 y.h)).c4;have n0:∀ y:ak S0,y.w.cell? ⟨wi.heap.size,0,none⟩=some (.int .i64 o.fr):=fun y=>(hM5.since ((hS0 _).1 y.h)).c0;have p1:∀ y:ak S0,y.w.cell? ⟨wi.heap.size,1,none⟩=some (.int .i64 o.gr):=fun y=>(hM5.since ((hS0 _).1 y.h)).c1;have p2:∀ y:ak S0,y.w.cell? ⟨wi.heap.size,2,none⟩=some (.int .i64 o.st):=fun y=>(hM5.since ((hS0 _).1 y.h)).c2;have n3:∀ y:ak S0,y.w.cell? ⟨wi.heap.size,3,none⟩=some (.bool o.nul):=fun y=>(hM5.since ((hS0 _).1 y.h)).c3;have n4:∀ y:ak S0,y.w.cell? ⟨wi.heap.size,4,none⟩=some (.string o.body):=fun y=>(hM5.since ((hS0 _).1 y.h)).c4;have au:=(hS0 W0).2 hs0;have hne:Nonempty (ak S0):=⟨⟨_,au⟩⟩;have dH:=aI w;have Vb:=HLK.out W0 (hs5.trans hs0);have hlk2:=zx 123 zB (show (zeroValue 123).run prog W0=.ok (.agg #[]) W0 from rfl) ((HRW.out W0 (hs5.trans hs0)).set r HRS.out).2 o;rw [HAH.out o] at hlk2;unfold mgV at hlk2;have hR0:=hRj.since (hS5.trans hs0);obtain ⟨b',o',e',_,hblt,hall,_⟩:=hR0.body (by show 0 < sent.length;omega);dsimp only at e';cases e';obtain ⟨q1,q2⟩:=hall j (by show j < sent.length*1;omega);rw [Nat.zero_add] at q1 q2;obtain ⟨u,hu⟩:=Option.isSome_iff_exists.1 q1
     have oo:Hid (Row (W0.setCell ⟨w2.heap.size,j,none⟩ (.bool (s.ahead m o))) w2.heap.size 1 ⟨some ⟨w2.heap.size,0,none⟩,sent.length⟩ sent.length (aW (bits.take (j+1)++List.replicate (sent.length - (j+1)) false))/\Since w2 (W0.setCell ⟨w2.heap.size,j,none⟩ (.bool (s.ahead m o)))):=by
      constructor
      ·have:=ME hR0 hjl (s.ahead m o);have hbl:(bits.take j).length=j:=by rw [List.length_take,HBL.out];omega
       rw [List.set_append_right _ _ (by omega),hbl,Nat.sub_self,show sent.length - j=sent.length - (j+1)+1 from by omega,List.replicate_succ,zQ8] at this;rw [<-HBL.out] at this ⊢;rw [Ky bits j _ HBJ.out] at this;rw [HBL.out] at this ⊢;exact this
      ·exact ⟨(hSj.trans (hS5.trans hs0)).below.setCell (p:=⟨w2.heap.size,j,none⟩) (Nat.le_refl _) _⟩
     obtain ⟨bit,hbit⟩:∃ y,s.ahead m o=y:=⟨_,rfl⟩;rw [hbit] at hlk2 oo;clear hall q1 hR0 hRj hR5 hM5 Kz hbit HBJ;refine aK (fun w'=>∃ x:ak S0,w'=x.w) (by kernel_rfl) ?_;rw [hW0];clear hW0;refine tW 0 rfl ?_;go_big_quiet_op;refine tW 1 rfl ?_;go_big_quiet_op;refine tW 2 rfl ?_;go_big_quiet_op;refine tW 3 rfl ?_;go_big_quiet_op;refine tW 4 rfl ?_;go_big_quiet_op;refine tM 5 rfl (aj au) ?_;go_big_quiet_op;refine tM 6 rfl (aj au) ?_;go_big_quiet_op;refine tM 8 rfl (aj au) ?_;go_big_quiet_op;refine aR 7 rfl (by kernel_rfl) ?_;intro K hK;go_simp;refine hK _ _ (fun _ _=>aj au) ?_;clear hK K;refine aR 9 rfl (by kernel_rfl) ?_;intro K hK;go_simp;refine hK _ _ (fun h=>absurd h (by decide +kernel)) ?_;clear hK K;refine tW 10 rfl ?_;go_big_quiet_op;refine tW 11 rfl ?_;go_big_quiet_op;refine tW 12 rfl ?_;go_big_quiet_op;refine tW 13 rfl ?_;go_big_quiet_op;refine aR 14 rfl (by kernel_rfl) ?_;intro K hK;go_simp;refine hK _ _ (fun h=>absurd h (by decide +kernel)) ?_;clear hK K;refine bH (by kernel_rfl) ?_;clear c4 m0 m1 m2 m3 m4 n0 p1 p2 n3 n4 hne au hS0 Vb hlk2 hu q2
     go_wp2
     exact ⟨⟨j+1,by omega,by go_num,oo.out.1,oo.out.2⟩,by simp [intOf];omega⟩
    ·obtain rfl:j=sent.length:=by omega
     have hRf:Row wi w2.heap.size 1 ⟨some ⟨w2.heap.size,0,none⟩,sent.length⟩ sent.length (aW bits):=by
      rw [Nat.sub_self,List.replicate_zero,List.append_nil,List.take_of_length_le (by rw [HBL.out];omega)] at hRj;exact hRj
     clear hRj;obtain ⟨w6,hw6⟩:∃ y,wi.alloc (.cells #[.slice (some ⟨w2.heap.size,0,none⟩) sent.length sent.length] 87)=y:=⟨_,rfl⟩;have hS6:=ay hw6
     have hsrc:Src prog 1 83 (.slice (some ⟨wi.heap.size,0,none⟩) 1 1) 1 [.slice (some ⟨w2.heap.size,0,none⟩) sent.length sent.length] w6:=by
      rw [<-hw6];exact fM (size:=1) zo.und [.slice (some ⟨w2.heap.size,0,none⟩) sent.length sent.length] rfl (fun u hu=>by simp at hu;subst hu;rfl) 1
     have SE:=hLL.since (hS2.trans (hSj.trans hS6));have htop:=SE.top;have EZ:w.heap.size<=w6.heap.size:=(hsj.trans hS6).size;have hkl:tk.length=k:=by rw [<-HTE.out,List.length_take,HLM.out];omega
     have HKL:=(show Hid _ from hkl);have HRF:=(show Hid _ from hRf.since hS6);have hsR:Row w6 w.heap.size 1 ⟨sl.a,sl.cap⟩ tk.length ((List.range tk.length).map fun i=>(rs i).v (tk[i]?.getD []).length):=htop;have hbd:tk.length<=1000:=by omega
     clear hkl htop hRf
     go_wp2_with (at_builtin;refine gQ zo rfl _ _ 83 rfl rfl hsR rfl hsrc (by omega) EZ ?_;intro sa' sc' w7 hR7 hF7 hB7)
     have hP:=SE.push (xs:=bits) (r:=⟨some ⟨w2.heap.size,0,none⟩,sent.length⟩) (w':=w7) (s':=⟨sa',sc'⟩) (by rw [HBL.out];exact HRF.out.mono (by have:=hs2.size;omega)) (fun b hb hc=>by
      have hge:w2.heap.size<=b:=(HRF.out.dJ hb).2.1;have:=(hLL.blk hc).2;have:=hS2.size;omega) (by rw [HBL.out];exact hR7) hF7 hB7
     have hSf:Since w w7:=hF7.aC (hsj.trans hS6) (fun i hi hc=>by have:=(hsR.dJ hc).2.1;omega);have HTK:Hid (mk.take (k+1)=tk++[bits]):=by unfold Hid;rw [List.take_add_one,HMK.out,HTE.out];rfl
     refine ⟨⟨k+1,⟨sa',sc'⟩,kQ rs tk.length ⟨some ⟨w2.heap.size,0,none⟩,sent.length⟩,by omega,by go_num,by rw [HTK.out,List.length_append];rfl,by rw [HTK.out];exact hP,hSf⟩,by simp [intOf];omega⟩
  ·obtain rfl:k=sent.length:=by omega
   have HL1:Hid (tk=mk):=by unfold Hid;rw [<-HTE.out];exact List.take_of_length_le (by rw [HLM.out];exact Nat.le_refl _)
   have HF:Hid (bC 1 aW w.heap.size wo sl rs mk/\Since w wo):=by rw [HL1.out] at hLL;exact ⟨hLL,hSr⟩
   have HLN:Hid (tk.length=sent.length):=by unfold Hid;rw [HL1.out,HLM.out]
   rw [HLN.out];clear hLL JE
   go_wp2
   go_ret
   first
    | exact ⟨sl,rfl,rs,HF.out⟩
    | exact ⟨sl,rs,rfl,HF.out⟩
end Go.Proofs.YtiiifecfdkjmbaaGreat
