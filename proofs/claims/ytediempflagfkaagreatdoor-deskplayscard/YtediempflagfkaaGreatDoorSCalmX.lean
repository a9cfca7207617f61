/- Lemmas. -/
import Derived.Test.YtediempflagfkaaGreatDoorSMoveX
set_option linter.unusedVariables false
set_option linter.unusedSimpArgs false
set_option linter.unnecessarySimpa false
set_option maxHeartbeats 2000000
namespace Go.Proofs.YtediempflagfkaaGreatDoor.Pu
open _root_.Go.Proofs.Tryz hiding checked
set_option maxRecDepth 8000
theorem fold_succ{α β:Type}(f:β->α->Except Int β)(l:List α)(b:β){k:Nat}{x:α}(h:l[k]? = some x):(l.take (k+1)).foldlM f b=((l.take k).foldlM f b).bind fun b'=>f b' x:=by
 rw[List.take_add_one,h,List.foldlM_append];show((l.take k).foldlM f b).bind _=_
 cases (l.take k).foldlM f b with
 | error e=>rfl
 | ok b' =>
  show [x].foldlM f b'=f b' x;rw[List.foldlM_cons];show(f b' x).bind _=_
  cases f b' x <;> rfl
theorem qZ{α β:Type}(f:β->α->Except Int β)(l:List α)(b:β){k:Nat}{e:Int}(h:(l.take k).foldlM f b=.error e):l.foldlM f b=.error e:=by
 conv=>lhs;rw[<-List.take_append_drop k l]
 rw[List.foldlM_append,h];rfl
theorem wK{d d':Wd}{f t q:Nat}(R:aL d)(hf:f < d.ah.length)(ht:t < d.ah.length)(h:pJ d f t=.ok (d',q)):aL d'/\d'.ah.length=d.ah.length/\q<=40:=by
 unfold pJ at h;obtain⟨d1,h1,h2⟩:=bind_ok h;cases h2;have M:=tZ _ d d' R hf ht (Nat.le_refl _) h1;exact⟨M.right,M.grow.alike.n,R.pK f t⟩
open _root_.Go.Proofs.YtediempflagfkaaGreatDoor
def jk(a:Nat)(x:Wd)(g:Nat):Except Int Wd:=dR x a g true ByteArray.empty
theorem wL{a g:Nat}{x y:Wd}(R:aL x)(h:jk a x g=.ok y):aL y/\y.au=x.au/\y.ah.length=x.ah.length:=by
 obtain⟨R',G⟩:=rM R (fun _=>rfl) h;exact⟨R',G.alike.g,G.alike.n⟩
theorem zf(gs:List Int)(a:Nat):∀(l:List Nat) (x:Wd),aL x->x.au=gs->(l.map fun g=>(a,g)).foldlM dH x=(l.filter fun g:Nat=>hasB gs (g:Int) (a:Int)).foldlM (jk a) x
 | [],x,R,hg=>rfl
 | g::l,x,R,hg=>by
  rw[List.map_cons,List.foldlM_cons];show(dH x (a,g)).bind _=_;by_cases h:hasB gs (g:Int) (a:Int)=true
  ·rw[List.filter_cons_of_pos (by exact h),List.foldlM_cons];have e:dH x (a,g)=jk a x g:=by unfold dH jk;rw[hg,if_pos h]
   rw[e];show(jk a x g).bind _=(jk a x g).bind _
   cases hn:jk a x g with
   | error er=>rfl
   | ok y =>
    obtain⟨R',G',_⟩:=wL R hn;exact zf gs a l y R' (G'.trans hg)
  ·rw[List.filter_cons_of_neg (by exact h)];have e:dH x (a,g)=.ok x:=by unfold dH;rw[hg,if_neg h]
   rw[e];exact zf gs a l x R hg
theorem MS{N G a:Nat}(ha:a < N):(pairs N G).take ((a+1)*G)=(pairs N G).take (a*G)++(List.range G).map fun g=>(a,g):=by
 apply List.ext_getElem?;intro i;rw[Nat.add_mul,Nat.one_mul];have hl:(pairs N G).length=N*G:=jg N G;have hb:a*G+G<=N*G:=by have:=Nat.mul_le_mul_right G (show a+1<=N from ha);rwa[Nat.add_mul,Nat.one_mul]at this
 by_cases h1:i < a*G
 ·rw[List.getElem?_append_left (by rw[List.length_take,hl];omega),List.getElem?_take_of_lt (by omega),List.getElem?_take_of_lt h1]
 ·rw[List.getElem?_append_right (by rw[List.length_take];omega),List.length_take,hl,Nat.min_eq_left (by omega)];by_cases h2:i < a*G+G
  ·rw[List.getElem?_take_of_lt h2];obtain⟨k,rfl⟩:∃k,i=a*G+k:=⟨i - a*G,by omega⟩;rw[lq ha (by omega),List.getElem?_map,List.getElem?_range (by omega),Nat.add_sub_cancel_left];rfl
  ·rw[List.getElem?_eq_none (by rw[List.length_take];omega),List.getElem?_eq_none (by simp;omega)]
theorem MU{N G a:Nat}{d dk:Wd}(gs:List Int)(ha:a < N)(h:((pairs N G).take (a*G)).foldlM dH d=.ok dk)(R:aL dk)(hg:dk.au=gs) :
  ((pairs N G).take ((a+1)*G)).foldlM dH d=((List.range G).filter fun g:Nat=>hasB gs (g:Int) (a:Int)).foldlM (jk a) dk:=by
 rw[MS ha,List.foldlM_append,h];exact zf gs a (List.range G) dk R hg
theorem OW(gs:List Int)(a:Int):hits gs [a] gs.length=(List.range gs.length).filter fun g:Nat=>hasB gs (g:Int) a:=by
 unfold hits;refine List.filter_congr fun g hg=>?_;have hg:=List.mem_range.1 hg;simp[hasB,lG,hg]
end Go.Proofs.YtediempflagfkaaGreatDoor.Pu
namespace Go.Proofs.YtediempflagfkaaGreatDoor
open _root_.Go.Proofs.Tryz hiding checked
set_option maxRecDepth 8000
open Go.RowKit Go.Shelf
open Pu
theorem Ik{d:Wd}{f t:Nat}(R:aL d)(hf:f < d.ah.length)(ht:t < d.ah.length):checked d (qD d (f:Int) (t:Int))=(pJ d f t).bind fun r=>.ok (r.1,(r.2:Int)):=by
 unfold checked qD;rw[if_pos ((cZ d).2 R),if_pos (by simp[inB];omega),Int.toNat_natCast,Int.toNat_natCast]
theorem Il{f t:Nat}{e:Int}:∀(k:Nat) (d:Wd),eO f t k d=.error e->e≠0
 | 0,d,h=>by cases h
 | k+1,d,h=>by
  unfold eO at h;rcases lK h with h | ⟨d1,_,h⟩
  ·exact Bz h
  ·exact Il k d1 h
theorem BA{d:Wd}{f t:Nat}{e:Int}(h:pJ d f t=.error e):e≠0:=by
 unfold pJ at h;rcases lK h with h | ⟨_,_,h⟩
 ·exact Il _ _ h
 ·cases h
theorem J9(lo p:Nat)(d:Wd)(L:Lay)(w:World)(hB:dG lo w p d L 0)(R:aL d)(hlo:lo<=w.heap.size)(N:Nat)(hN:d.ah.length=N)(Post:Ending->World->Prop)
  (jv:∀er,(pairs N N).foldlM dB (d,0)=.error er->∀w',Fr (Up lo fun _=>False) w w'->Post (.panicked (pan er)) w')
  (hOk:∀d' (m:Nat) L' w',(pairs N N).foldlM dB (d,0)=.ok (d',m)->dG lo w' p d' L' (m:Int)->Fr (Up lo fun _=>False) w w'->Post (.returned (.tuple #[])) w') :
  Calls prog 136 #[.pointer (some ⟨p,0,none⟩)] w fun e w'=>Hid (Post e w'):=by
 have jB:=(show Hid _ from jv);have HOK:=(show Hid _ from hOk);have HN4:Hid (N<=4):=by unfold Hid;rw[<-hN];exact(small R).1
 have zh:=hB.lop;have b1:=hB.made.box.c1;rw[hN]at b1;have HR0:Hid (aL d/\d.ah.length=N):=⟨R,hN⟩;clear jv hOk hN R
 go_enter func136,ntmps136
 go_wp2_with fail
 clear b1
 go_loopw [10] (fun i wr=>∃(a:Nat) (dk:Wd) (m:Nat) (Lk:Lay),a<=N/\i=.int .i64 a/\((pairs N N).take (a*N)).foldlM dB (d,0)=.ok (dk,m)/\Hid (aL dk/\dk.ah.length=N)/\m<=40*(a*N)/\dG lo wr p dk Lk (m:Int)/\Fr (Up lo fun _=>False) w wr) (fun i _=>N - (intOf i).toNat)
 case atStart=>exact⟨0,d,0,L,Nat.zero_le _,rfl,by simp;rfl,HR0,by simp,hB,Fr.refl _ _⟩
 case round =>
  clear hB HR0;obtain⟨wo,rfl⟩:∃wo,wo=wr:=⟨_,rfl⟩;obtain⟨a,dk,m,Lk,ha,rfl,hfo,HRK,hm,hSB,hUp⟩:=hrel;have HF:Hid (((pairs N N).take (a*N)).foldlM dB (d,0)=.ok (dk,m)):=hfo;have HM:Hid (m<=40*(a*N)):=hm;have HA:Hid (a<=N):=ha;clear hfo hm;by_cases hlt:a < N
  ·have b1:=hSB.made.box.c1;rw[HRK.out.2]at b1;have h1:(a:Int) < (N:Int):=by omega
   go_wp2_with fail
   clear b1
   go_loopw [19] (fun i wr=>∃(b:Nat) (dk:Wd) (m:Nat) (Lk:Lay),b<=N/\i=.int .i64 b/\((pairs N N).take (a*N+b)).foldlM dB (d,0)=.ok (dk,m)/\Hid (aL dk/\dk.ah.length=N)/\m<=40*(a*N+b)/\dG lo wr p dk Lk (m:Int)/\Fr (Up lo fun _=>False) w wr) (fun i _=>N - (intOf i).toNat)
   case atStart=>exact⟨0,dk,m,Lk,Nat.zero_le _,rfl,HF.out,HRK,HM.out,hSB,hUp⟩
   case round =>
    clear hSB hUp HF HM HRK;obtain⟨wu,rfl⟩:∃wo,wo=wr:=⟨_,rfl⟩;obtain⟨b,dj,mj,Lj,hb,rfl,hfo,HRK,hm,hSB,hUp⟩:=hrel;have HF:Hid (((pairs N N).take (a*N+b)).foldlM dB (d,0)=.ok (dj,mj)):=hfo;have HM:Hid (mj<=40*(a*N+b)):=hm;have HB:Hid (b<=N):=hb;clear hfo hm;by_cases hlb:b < N
    ·have h2:(b:Int) < (N:Int):=by omega
     have HLB:Hid (b < N):=hlb;have hak:a < dj.ah.length:=by rw[HRK.out.2];exact hlt
     have hbk:b < dj.ah.length:=by rw[HRK.out.2];exact hlb
     have c0:=hSB.made.box.c0;have c1:=hSB.made.box.c1;have c2:=hSB.made.box.c2;have hpl:=hSB.made.box.lt;have hWr:=Fp (fE Lj dj) dj a b wu hSB.made.own.wat;unfold fE at hWr;rw[Ik HRK.out.1 hak hbk]at hWr;dsimp only at hWr
     have HS:Hid (((pairs N N).take (a*N+(b+1))).foldlM dB (d,0)=(pJ dj a b).bind fun r=>.ok (r.1,mj+r.2)):=by
      unfold Hid;have:=fold_succ dB (pairs N N) (d,0) (lq hlt hlb);rw[HF.out]at this;exact this
     obtain⟨r,hr⟩:∃r,pJ dj a b=r:=⟨_,rfl⟩;have HNZ:Hid (∀e,r=.error e->(e == 0)=false):=fun e h=>by rw[h]at hr;have:=BA hr;simpa using this
     have JM:Hid (∀d' q,r=.ok (d',q)->aL d'/\d'.ah.length=N/\q<=40):=fun d' q h=>by rw[h]at hr;have:=wK HRK.out.1 hak hbk hr;exact⟨this.1,this.2.1.trans HRK.out.2,this.2.2⟩
     rw[hr]at hWr;have HS2:Hid (((pairs N N).take (a*N+(b+1))).foldlM dB (d,0)=r.bind fun r=>.ok (r.1,mj+r.2)):=by unfold Hid;rw[HS.out,hr]
     have HLT:Hid (a < N):=hlt;clear hr HS hlb
     cases r with
     | error er =>
      have her:=HNZ.out er rfl
      go_wp2_with fail
      refine hWr.mono ?_;rintro e wT hR;obtain⟨rfl,hFT⟩:=hR.out.1 er rfl;have hST:=hFT.none;clear hR hWr c0 c1 c2
      go_wp2_with fail
      refine(mq p ⟨none,0,0,none,0,0,none,0,0⟩ 0 er her wT).mono ?_;rintro e w' ⟨rfl,hS9⟩;exact⟨rfl,jB.out er (qZ dB (pairs N N) (d,0) HS2.out) _ (hUp.aT ((hST.trans hS9).up _ _))⟩
     | ok dq =>
      obtain⟨d2,q⟩:=dq;obtain⟨R2,n2,q40⟩:=JM.out d2 q rfl;have HQ:Hid (aL d2/\d2.ah.length=N):=⟨R2,n2⟩;clear R2 n2;have Rk:mj<=640:=by have h1:=HM.out;have h2:=HN4.out;have h3:=HLT.out;have h4:=HB.out;have:a*N<=3*4:=Nat.mul_le_mul (by omega) h2;omega
      go_wp2_with fail
      refine hWr.mono ?_;rintro e wT hR;obtain⟨L6,rfl,hO6,hFT⟩:=hR.out.2 d2 q rfl;have hST:=hFT.none;simp only[bF];clear hR hWr c0 c1 c2
      go_wp2_with fail
      have hCt:=oJ (L':=L6) (d':=d2) (q:Int) (by omega) (by omega) (hSB.ay hST) (hO6.mono (by omega));unfold bF at hCt;refine hCt.mono ?_;rintro e w9 ⟨rfl,hB9,hF9⟩;have hU9:Fr (Up lo fun _=>False) w w9:=hUp.aT ((hST.up _ _).aT (hF9.mono (fun i _ e=>.inl (by have e:i=p:=e;omega))));have Vy:dG lo w9 p d2 L6 ((mj+q:Nat):Int):=by rw[Int.natCast_add];exact hB9
      have HMQ:Hid (mj+q<=40*(a*N+(b+1))):=by have:=HM.out;show _<=_;omega
      clear hB9 Rk q40;have hb4:b < 4:=by have:=HN4.out;have:=HLB.out;omega
      go_wp2
      go_roundw
      case rel=>exact⟨b+1,d2,mj+q,L6,HLB.out,by go_num,HS2.out,HQ,HMQ.out,Vy,hU9⟩
      case measure=>have:=HLB.out;simp[intOf];omega
    ·have HE:Hid (b=N):=by unfold Hid;have:=HB.out;omega
     have h2:¬ (b:Int) < (N:Int):=by omega
     have HLT:Hid (a < N):=hlt;have e1:a*N+b=(a+1)*N:=by rw[HE.out,Nat.add_mul,Nat.one_mul]
     have HF2:Hid (((pairs N N).take ((a+1)*N)).foldlM dB (d,0)=.ok (dj,mj)):=by unfold Hid;rw[<-e1];exact HF.out
     have HM2:Hid (mj<=40*((a+1)*N)):=by unfold Hid;rw[<-e1];exact HM.out
     clear hlb e1;have ha4:a < 4:=by have:=HN4.out;have:=HLT.out;omega
     go_wp2
     go_roundw
     case rel=>exact⟨a+1,dj,mj,Lj,HLT.out,by go_num,HF2.out,HRK,HM2.out,hSB,hUp⟩
     case measure=>have:=HLT.out;simp[intOf];omega
  ·have HE:Hid (a=N):=by unfold Hid;have:=HA.out;omega
   have h1:¬ (a:Int) < (N:Int):=by omega
   clear hlt
   go_wp2
   go_end0
   exact HOK.out dk m Lk _ (by have h:=HF.out;rwa[HE.out,<-jg,List.take_length]at h) hSB hUp
def fq(d:Wd):Except Int (Wd × Int):=(gY d).bind fun r=>.ok (r.1,(r.2:Int))
theorem Dc(lo p:Nat)(d:Wd)(L:Lay)(w:World)(hB:dG lo w p d L 0)(R:aL d)(hlo:lo<=w.heap.size) :
  Calls prog 136 #[.pointer (some ⟨p,0,none⟩)] w fun e w'=>Hid (vE lo (fun _=>False) p w (fq d) e w') :=
 J9 lo p d L w hB R hlo _ rfl (fun e w'=>vE lo (fun _=>False) p w (fq d) e w')
  (fun er h w' hF=>by unfold fq gY;rw[h];exact gu hF) (fun d' m L' w' h hB' hF=>by unfold fq gY;rw[h];exact pX hF hB')
theorem vR(x:WV)(d:Wd)(w:World)(hW:WAt w x d) :
  Calls prog 104 #[.agg #[.slice x.ga x.gl x.gc,.slice x.na x.nl x.nc,.slice x.wa x.wl x.wc]] w fun e w'=>Hid (y8 w (checked d (fq d)) e w'):=by
 obtain⟨ga,gl,gc,na,nl,nc,wa,wl,wc⟩:=x;dsimp only;obtain⟨wp,hwp⟩:∃wp,w.alloc (.cells #[.slice ga gl gc,.slice na nl nc,.slice wa wl wc] 31)=wp:=⟨_,rfl⟩;have hPp:aP wp w.heap.size ⟨ga,gl,gc,na,nl,nc,wa,wl,wc⟩:=by rw[<-hwp];exact aP.new w ⟨ga,gl,gc,na,nl,nc,wa,wl,wc⟩ _
 have hSp:=aF hwp;obtain⟨w1,hw1⟩:∃w1,wp.alloc (.cells #[.slice none 0 0,.slice none 0 0,.slice none 0 0] 31)=w1:=⟨_,rfl⟩;have hNB:aU w1 wp.heap.size:=by rw[<-hw1];exact aU.new wp _
 have dZ:=aF hw1;have hP1:=hPp.ay dZ;have hS1:=hSp.trans dZ;have hW1:=hW.ay hS1;have p0:=hP1.c0;have p1:=hP1.c1;have p2:=hP1.c2;dsimp only at p0 p1 p2
 have hmf:∀(fn:Fn) (first cap:Array Value) (w:World),(Instr.makeFunc fn first cap).run prog w=.ok (.func fn first cap) w:=fun _ _ _ _=>rfl
 have hDo:=mD ⟨ga,gl,gc,na,nl,nc,wa,wl,wc⟩ d 136 #[] (fun _=>False) w1 hW1 (fun _ h=>h.elim) (fq d) (enters_of func136 (by kernel_rfl) rfl)
  (fun hE lo p L y hlo hy hB=>Dc lo p d L y hB ((cZ d).1 hE) (by have:=hB.made.box.lt;have:=hB.lop;omega))
 dsimp only at hDo;obtain⟨r,hr⟩:∃r,checked d (fq d)=r:=⟨_,rfl⟩;rw[hr]at hDo ⊢;clear hr hW;have hle:=hSp.size
 cases r with
 | error er =>
  go_enter func104,ntmps104
  go_wp2_with (go_at_call 96;refine hDo.mono ?_;rintro e w2 hR;obtain⟨rfl,hF2⟩:=hR.out.1 er rfl;have hS2:=hF2.none;obtain⟨lt,r0,r1,r2,r3,r4,r5⟩:=hNB.ay hS2)
  refine bodyPost_ret (v:=.tuple #[.agg #[.slice none 0 0,.slice none 0 0,.slice none 0 0],.int .i64 0,.int .i64 er]) ?_ rfl (show Hid _ from lQ (cu hle (hS1.trans hS2)));simp[results,results104,go_sem,r0,r1,r2]
 | ok dm =>
  obtain⟨d',m⟩:=dm
  go_enter func104,ntmps104
  go_wp2_with (go_at_call 96;refine hDo.mono ?_;rintro e w2 hR;obtain⟨L,rfl,hO,hF2⟩:=hR.out.2 d' m rfl;have hS2:=hF2.none;simp only[bF];obtain⟨lt,r0,r1,r2,r3,r4,r5⟩:=hNB.ay hS2)
  obtain⟨hO2,hSf⟩:=hO.result (w0:=w) (p:=wp.heap.size) hNB.lt hle (hS1.trans hS2) hS1.size;refine bodyPost_ret (v:=.tuple #[bF L d',.int .i64 m,.int .i64 0]) ?_ rfl (show Hid _ from pV hO2 hSf);simp[results,results104,go_sem,r0,r1,r2,bF]
theorem BP{d:Wd}(R:aL d):∀(k:Nat) (s:Wd × Nat),((pairs d.ah.length d.ah.length).take k).foldlM dB (d,0)=.ok s->aL s.1/\s.1.ah.length=d.ah.length/\s.2<=40*k
 | 0,s,h=>by
  cases h;exact⟨R,rfl,Nat.zero_le _⟩
 | k+1,s,h=>by
  cases hx:(pairs d.ah.length d.ah.length)[k]? with
  | none =>
   have hl:=List.getElem?_eq_none_iff.1 hx;rw[List.take_of_length_le (by omega)]at h;have ih:=BP R k s (by rw[List.take_of_length_le hl];exact h);exact⟨ih.1,ih.2.1,by have:=ih.2.2;omega⟩
  | some x =>
   rw[fold_succ dB _ _ hx]at h;obtain⟨s1,h1,h2⟩:=bind_ok h;obtain⟨R1,n1,b1⟩:=BP R k s1 h1;obtain⟨p1,p2⟩:=Hf x (List.mem_of_getElem? hx);unfold dB at h2;obtain⟨⟨d2,q⟩,h3,h4⟩:=bind_ok h2;cases h4;obtain⟨R2,n2,q2⟩:=wK R1 (by omega) (by omega) h3;exact⟨R2,n2.trans n1,by show s1.2+q<=_;omega⟩
theorem mW{d d':Wd}{m:Nat}(R:aL d)(h:gY d=.ok (d',m)):aL d'/\d'.ah.length=d.ah.length/\m<=640:=by
 have h2:((pairs d.ah.length d.ah.length).take (d.ah.length*d.ah.length)).foldlM dB (d,0)=.ok (d',m):=by rw[<-jg,List.take_length];exact h
 obtain⟨a,b,c⟩:=BP R _ _ h2;refine⟨a,b,zQ5 c ?_⟩;have h4:=(small R).1;have:=Nat.mul_le_mul h4 h4;omega
theorem vv{d:Wd}{e:Int}(h:gY d=.error e):e≠0:=by
 obtain⟨_,a,b',_,_,h3⟩:=wH dB (fun _ _=>True) (fun _ _ _ _ _ _=>trivial) _ [] (d,0) e trivial h;unfold dB at h3;rcases lK h3 with h | ⟨_,_,h⟩
 ·exact BA h
 ·cases h
theorem Ka{W:World}{base:Nat}{T:TypeId}{sz b o n k cap:Nat}{xs:List Value}(h:W.ownsRow base T sz (.slice (some ⟨b,o,none⟩) k cap) n xs):base<=b:=by
 rcases h.2 with ⟨h1,_⟩ | ⟨g,c,cur,h1,h2,_⟩
 ·cases h1
 ·cases h1;exact h2
theorem Ry(a:Option Addr)(len cap:Nat)(xs:List Int)(n:Int)(w:World)(hI:Ints w a len xs) :
  Calls prog 139 #[.slice a len cap,.int .i64 n] w fun e w'=>∃a' len' cap',e=.returned (.slice a' len' cap')/\Ints w' a' len' (L8 xs [n])/\ak w w'/\∀b o,0 < (L8 xs [n]).length->a'=some ⟨b,o,none⟩->w.heap.size<=b :=
 (Oa a len cap xs n w hI).mono fun e w' ⟨v,he,ho,hb⟩=>by
  obtain⟨a',cap',rfl,hr⟩:=zu ho (NW hI _);refine⟨a',_,cap',he,by unfold L8;rw[hI.bq];exact hr,⟨hb⟩,fun b o hp e=>?_⟩;subst e;exact Ka ho
theorem Kc(lo p:Nat)(d:Wd)(L:Lay)(w:World)(hB:dG lo w p d L 0)(R:aL d)(hlo:lo<=w.heap.size)(N G:Nat)(hN:d.ah.length=N)(hG:d.au.length=G)(Post:Ending->World->Prop)
  (jv:∀er,fJ d=.error er->∀w',Fr (Up lo fun _=>False) w w'->Post (.panicked (pan er)) w')
  (hOk:∀d' (m:Nat) L' w',fJ d=.ok (d',m)->dG lo w' p d' L' (m:Int)->Fr (Up lo fun _=>False) w w'->Post (.returned (.tuple #[])) w') :
  Calls prog 138 #[.pointer (some ⟨p,0,none⟩)] w fun e w'=>Hid (Post e w'):=by
 have jB:=(show Hid _ from jv);have HOK:=(show Hid _ from hOk);have HN4:Hid (N<=4/\G<=3):=by unfold Hid;rw[<-hN,<-hG];exact⟨(small R).1,(small R).2.2.1⟩
 have zh:=hB.lop;have b1:=hB.made.box.c1;rw[hN]at b1;have HRD:Hid (fJ d=((pairs N G).foldlM dH d).bind gY):=by unfold Hid fJ yU;rw[hN,hG]
 have HR0:Hid (aL d/\d.ah.length=N/\d.au=d.au):=⟨R,hN,rfl⟩;have HG:Hid (d.au.length=G):=hG;clear jv hOk hN hG R
 go_enter func138,ntmps138
 go_wp2_with fail
 clear b1
 go_loopw [11] (fun i wr=>∃(a:Nat) (dk:Wd) (Lk:Lay),a<=N/\i=.int .i64 a/\((pairs N G).take (a*G)).foldlM dH d=.ok dk/\Hid (aL dk/\dk.ah.length=N/\dk.au=d.au)/\dG lo wr p dk Lk 0/\Fr (Up lo fun _=>False) w wr) (fun i _=>N - (intOf i).toNat)
 case atStart=>exact⟨0,d,L,Nat.zero_le _,rfl,by simp;rfl,(show Hid _ from⟨HR0.out.1,HR0.out.2.1,rfl⟩),hB,Fr.refl _ _⟩
 case round =>
  clear hB HR0;obtain⟨wo,rfl⟩:∃wo,wo=wr:=⟨_,rfl⟩;obtain⟨a,dk,Lk,ha,rfl,hfo,HRK,hSB,hUp⟩:=hrel;have HF:Hid (((pairs N G).take (a*G)).foldlM dH d=.ok dk):=hfo;have HA:Hid (a<=N):=ha;clear hfo;by_cases hlt:a < N
  ·have b0:=hSB.made.box.c0;have h1:(a:Int) < (N:Int):=by omega
   have hI:Ints wo (Lk (0,0,0)).a dk.au.length dk.au:=hSB.made.own.wat.g;have nT:Hid (((pairs N G).take ((a+1)*G)).foldlM dH d=((List.range G).filter fun g:Nat=>hasB d.au (g:Int) (a:Int)).foldlM (jk a) dk):=MU d.au hlt HF.out HRK.out.1 HRK.out.2.2;obtain⟨hs,hhs⟩:∃hs,((List.range G).filter fun g:Nat=>hasB d.au (g:Int) (a:Int))=hs:=⟨_,rfl⟩
   have HHS:Hid (L8 dk.au [(a:Int)]=hs.map fun g:Nat=>(g:Int)):=by
    unfold Hid L8;rw[HRK.out.2.2,OW,HG.out,hhs]
   have HLEN:Hid (hs.length<=3):=by
    unfold Hid;rw[<-hhs];have h1:=List.length_filter_le (fun g:Nat=>hasB d.au (g:Int) (a:Int)) (List.range G);rw[List.length_range]at h1;exact zQ5 h1 HN4.out.2
   have QB:Hid (((pairs N G).take ((a+1)*G)).foldlM dH d=hs.foldlM (jk a) dk):=by unfold Hid;rw[nT.out,hhs]
   clear hhs nT
   go_wp2_with fail
   refine(Ry (Lk (0,0,0)).a dk.au.length (Lk (0,0,0)).cap dk.au (a:Int) wo hI).mono ?_;rintro e w2 ⟨a',len',cap',rfl,hI2,hS2,hnew⟩;have hpw:=hSB.made.box.lt;have Vz:Hid (∀b o,0 < (L8 dk.au [(a:Int)]).length->a'=some ⟨b,o,none⟩->¬ b=p):=fun b o h e hb=>by have:=hnew b o h e;omega
   rw[HHS.out]at hI2;have bq:hs.length=len':=by have:=hI2.bq;simpa using this
   subst bq;clear b0
   go_wp2_with fail
   have VA:=HRK
   go_loopw [22] (fun i wr=>∃(j:Nat) (dj:Wd) (Lj:Lay),j<=hs.length/\i=.int .i64 j/\(hs.take j).foldlM (jk a) dk=.ok dj/\Hid (aL dj/\dj.ah.length=N/\dj.au=d.au)/\dG lo wr p dj Lj 0/\Fr (Up lo fun _=>False) w wr/\Fr (fun i=>i=p) w2 wr) (fun i _=>hs.length - (intOf i).toNat)
   case atStart=>exact⟨0,dk,Lk,Nat.zero_le _,rfl,rfl,VA,hSB.ay hS2,hUp.aT (hS2.up _ _),Fr.refl _ _⟩
   case round =>
    clear HF HRK;obtain⟨wu,rfl⟩:∃wo,wo=wr:=⟨_,rfl⟩;obtain⟨j,dj,Lj,hj,rfl,hfo,HRJ,hSJ,hUJ,hF2⟩:=hrel;have HFJ:Hid ((hs.take j).foldlM (jk a) dk=.ok dj):=hfo;have HJ:Hid (j<=hs.length):=hj;clear hfo;by_cases hlj:j < hs.length
    ·have h2:(j:Int) < (hs.length:Int):=by omega
     have HLJ:Hid (j < hs.length):=hlj;obtain⟨g,hg⟩:∃g,hs[j]? = some g:=⟨_,zQ1 hlj⟩;obtain⟨bI,oI,rfl,hbI,hcI⟩:=hI2.cells (by omega)
     have hcell:w2.cell? ⟨bI,oI+j,none⟩=some (.int .i64 (g:Int)):=by
      have:=hcI j (by omega);rw[List.getElem?_map,hg]at this;exact this
     have hpo:¬ bI=p:=Vz.out bI oI (by rw[HHS.out,List.length_map];have:=HLJ.out;omega) rfl;have hcj:=(hF2.cell (p:=⟨bI,oI+j,none⟩) hbI hpo).trans hcell;have hak:a < dj.ah.length:=by rw[HRJ.out.2.1];exact hlt
     have c0:=hSJ.made.box.c0;have c1:=hSJ.made.box.c1;have c2:=hSJ.made.box.c2;have hpl:=hSJ.made.box.lt;have hNu:=rA (fE Lj dj) dj (a:Int) (g:Int) wu hSJ.made.own.wat;unfold fE at hNu;rw[show checked dj (dR dj (a:Int) (g:Int) true ByteArray.empty)=jk a dj g from by unfold checked;rw[if_pos ((cZ dj).2 HRJ.out.1)];rfl]at hNu;dsimp only at hNu
     have HS:Hid ((hs.take (j+1)).foldlM (jk a) dk=jk a dj g):=by
      unfold Hid;rw[fold_succ (jk a) hs dk hg,HFJ.out];rfl
     obtain⟨r,hr⟩:∃r,jk a dj g=r:=⟨_,rfl⟩;have HNZ:Hid (∀e,r=.error e->(e == 0)=false):=fun e h=>by rw[h]at hr;have:=BD hr;simpa using this
     have JM:Hid (∀d',r=.ok d'->aL d'/\d'.ah.length=N/\d'.au=d.au):=fun d' h=>by rw[h]at hr;obtain⟨x1,x2,x3⟩:=wL HRJ.out.1 hr;exact⟨x1,x3.trans HRJ.out.2.1,x2.trans HRJ.out.2.2⟩
     rw[hr]at hNu;have HS2:Hid ((hs.take (j+1)).foldlM (jk a) dk=r):=by unfold Hid;rw[HS.out,hr]
     clear hr HS hlj hg
     cases r with
     | error er =>
      have her:=HNZ.out er rfl
      go_wp2_with fail
      refine hNu.mono ?_;rintro e wT hR;obtain⟨rfl,hST⟩:=hR.out.1 er rfl;clear hR hNu c0 c1 c2 hcj
      go_wp2_with fail
      refine(wP p ⟨none,0,0,none,0,0,none,0,0⟩ er her wT).mono ?_;rintro e w' ⟨rfl,hS9⟩
      exact⟨rfl,jB.out er (by
       have h:=qZ (jk a) hs dk HS2.out;have h2:=QB.out;rw[h]at h2;rw[HRD.out,qZ dH (pairs N G) d h2];rfl) _ (hUJ.aT ((hST.trans hS9).up _ _))⟩
     | ok d2 =>
      have HQ:Hid (aL d2/\d2.ah.length=N/\d2.au=d.au):=JM.out d2 rfl
      go_wp2_with fail
      refine hNu.mono ?_;rintro e wT hR;obtain⟨L6,rfl,hO6,hST⟩:=hR.out.2 d2 rfl;simp only[bF];clear hR hNu c0 c1 c2 hcj
      go_wp2_with fail
      have hCt:=zi (L':=L6) (d':=d2) (hSJ.ay hST) (hO6.mono (by omega));unfold bF at hCt;refine hCt.mono ?_;rintro e w9 ⟨rfl,hB9,hF9⟩;have hU9:Fr (Up lo fun _=>False) w w9:=hUJ.aT ((hST.up _ _).aT (hF9.mono (fun i _ e=>.inl (by have e:i=p:=e;omega))));have VB:Fr (fun i=>i=p) w2 w9:=(hF2.trans (hST.fr _) (fun _ _ e=>e) (fun _ _ e=>e)).trans hF9 (fun _ _ e=>e) (fun _ _ e=>e);have hj3:j < 3:=by have:=HLEN.out;have:=HLJ.out;omega
      go_wp2
      go_roundw
      case rel=>exact⟨j+1,d2,L6,HLJ.out,by go_num,HS2.out,HQ,hB9,hU9,VB⟩
      case measure=>have:=HLJ.out;simp[intOf];omega
    ·have HE:Hid (j=hs.length):=by unfold Hid;have:=HJ.out;omega
     have h2:¬ (j:Int) < (hs.length:Int):=by omega
     have HLT:Hid (a < N):=hlt;have HF2:Hid (((pairs N G).take ((a+1)*G)).foldlM dH d=.ok dj):=by unfold Hid;rw[QB.out];have h:=HFJ.out;rwa[HE.out,List.take_length]at h
     clear hlj;have ha4:a < 4:=by have:=HN4.out.1;have:=HLT.out;omega
     go_wp2
     go_roundw
     case rel=>exact⟨a+1,dj,Lj,HLT.out,by go_num,HF2.out,HRJ,hSJ,hUJ⟩
     case measure=>have:=HLT.out;simp[intOf];omega
  ·have HE:Hid (a=N):=by unfold Hid;have:=HA.out;omega
   have h1:¬ (a:Int) < (N:Int):=by omega
   clear hlt;have HF2:Hid (fJ d=gY dk):=by unfold Hid;rw[HRD.out];have h:=HF.out;rw[HE.out,<-jg,List.take_length]at h;rw[h];rfl
   have c0:=hSB.made.box.c0;have c1:=hSB.made.box.c1;have c2:=hSB.made.box.c2;have hpl:=hSB.made.box.lt;have hDr:=vR (fE Lk dk) dk wo hSB.made.own.wat;unfold fE at hDr;rw[show checked dk (fq dk)=fq dk from by unfold checked;rw[if_pos ((cZ dk).2 HRK.out.1)]]at hDr;unfold fq at hDr;dsimp only at hDr;obtain⟨r,hr⟩:∃r,gY dk=r:=⟨_,rfl⟩;have HNZ:Hid (∀e,r=.error e->(e == 0)=false):=fun e h=>by rw[h]at hr;have:=vv hr;simpa using this
   have HSM:Hid (∀d' m,r=.ok (d',m)->m<=640):=fun d' m h=>by rw[h]at hr;exact(mW HRK.out.1 hr).2.2
   have HRR:Hid (fJ d=r):=by unfold Hid;rw[HF2.out,hr]
   rw[hr]at hDr;clear hr
   cases r with
   | error er =>
    have her:=HNZ.out er rfl
    go_wp2_with fail
    refine hDr.mono ?_;rintro e wT hR;obtain⟨rfl,hFT⟩:=hR.out.1 er rfl;have hST:=hFT.none;clear hR hDr c0 c1 c2
    go_wp2_with fail
    refine(mq p ⟨none,0,0,none,0,0,none,0,0⟩ 0 er her wT).mono ?_;rintro e w' ⟨rfl,hS9⟩;exact⟨rfl,jB.out er HRR.out _ (hUp.aT ((hST.trans hS9).up _ _))⟩
   | ok dm =>
    obtain⟨d2,m⟩:=dm;have hm:=HSM.out d2 m rfl
    go_wp2_with fail
    refine hDr.mono ?_;rintro e wT hR;obtain⟨L6,rfl,hO6,hFT⟩:=hR.out.2 d2 m rfl;have hST:=hFT.none;simp only[bF];clear hR hDr c0 c1 c2
    go_wp2_with fail
    have hCt:=oJ (L':=L6) (d':=d2) (m:Int) (by omega) (by omega) (hSB.ay hST) (hO6.mono (by omega));unfold bF at hCt;refine hCt.mono ?_;rintro e w9 ⟨rfl,hB9,hF9⟩;have hU9:Fr (Up lo fun _=>False) w w9:=hUp.aT ((hST.up _ _).aT (hF9.mono (fun i _ e=>.inl (by have e:i=p:=e;omega))));rw[Int.zero_add]at hB9
    go_wp2
    go_end0
    exact HOK.out d2 m L6 _ HRR.out hB9 hU9
def ji(d:Wd):Except Int (Wd × Int):=(fJ d).bind fun r=>.ok (r.1,(r.2:Int))
theorem Df(lo p:Nat)(d:Wd)(L:Lay)(w:World)(hB:dG lo w p d L 0)(R:aL d)(hlo:lo<=w.heap.size) :
  Calls prog 138 #[.pointer (some ⟨p,0,none⟩)] w fun e w'=>Hid (vE lo (fun _=>False) p w (ji d) e w') :=
 Kc lo p d L w hB R hlo _ _ rfl rfl (fun e w'=>vE lo (fun _=>False) p w (ji d) e w')
  (fun er h w' hF=>by unfold ji;rw[h];exact gu hF) (fun d' m L' w' h hB' hF=>by unfold ji;rw[h];exact pX hF hB')
theorem Dg(x:WV)(d:Wd)(w:World)(hW:WAt w x d) :
  Calls prog 105 #[.agg #[.slice x.ga x.gl x.gc,.slice x.na x.nl x.nc,.slice x.wa x.wl x.wc]] w fun e w'=>Hid (y8 w (checked d (ji d)) e w'):=by
 obtain⟨ga,gl,gc,na,nl,nc,wa,wl,wc⟩:=x;dsimp only;obtain⟨wp,hwp⟩:∃wp,w.alloc (.cells #[.slice ga gl gc,.slice na nl nc,.slice wa wl wc] 31)=wp:=⟨_,rfl⟩;have hPp:aP wp w.heap.size ⟨ga,gl,gc,na,nl,nc,wa,wl,wc⟩:=by rw[<-hwp];exact aP.new w ⟨ga,gl,gc,na,nl,nc,wa,wl,wc⟩ _
 have hSp:=aF hwp;obtain⟨w1,hw1⟩:∃w1,wp.alloc (.cells #[.slice none 0 0,.slice none 0 0,.slice none 0 0] 31)=w1:=⟨_,rfl⟩;have hNB:aU w1 wp.heap.size:=by rw[<-hw1];exact aU.new wp _
 have dZ:=aF hw1;have hP1:=hPp.ay dZ;have hS1:=hSp.trans dZ;have hW1:=hW.ay hS1;have p0:=hP1.c0;have p1:=hP1.c1;have p2:=hP1.c2;dsimp only at p0 p1 p2
 have hmf:∀(fn:Fn) (first cap:Array Value) (w:World),(Instr.makeFunc fn first cap).run prog w=.ok (.func fn first cap) w:=fun _ _ _ _=>rfl
 have hDo:=mD ⟨ga,gl,gc,na,nl,nc,wa,wl,wc⟩ d 138 #[] (fun _=>False) w1 hW1 (fun _ h=>h.elim) (ji d) (enters_of func138 (by kernel_rfl) rfl)
  (fun hE lo p L y hlo hy hB=>Df lo p d L y hB ((cZ d).1 hE) (by have:=hB.made.box.lt;have:=hB.lop;omega))
 dsimp only at hDo;obtain⟨r,hr⟩:∃r,checked d (ji d)=r:=⟨_,rfl⟩;rw[hr]at hDo ⊢;clear hr hW;have hle:=hSp.size
 cases r with
 | error er =>
  go_enter func105,ntmps105
  go_wp2_with (go_at_call 96;refine hDo.mono ?_;rintro e w2 hR;obtain⟨rfl,hF2⟩:=hR.out.1 er rfl;have hS2:=hF2.none;obtain⟨lt,r0,r1,r2,r3,r4,r5⟩:=hNB.ay hS2)
  refine bodyPost_ret (v:=.tuple #[.agg #[.slice none 0 0,.slice none 0 0,.slice none 0 0],.int .i64 0,.int .i64 er]) ?_ rfl (show Hid _ from lQ (cu hle (hS1.trans hS2)));simp[results,results105,go_sem,r0,r1,r2]
 | ok dm =>
  obtain⟨d',m⟩:=dm
  go_enter func105,ntmps105
  go_wp2_with (go_at_call 96;refine hDo.mono ?_;rintro e w2 hR;obtain⟨L,rfl,hO,hF2⟩:=hR.out.2 d' m rfl;have hS2:=hF2.none;simp only[bF];obtain⟨lt,r0,r1,r2,r3,r4,r5⟩:=hNB.ay hS2)
  obtain⟨hO2,hSf⟩:=hO.result (w0:=w) (p:=wp.heap.size) hNB.lt hle (hS1.trans hS2) hS1.size;refine bodyPost_ret (v:=.tuple #[bF L d',.int .i64 m,.int .i64 0]) ?_ rfl (show Hid _ from pV hO2 hSf);simp[results,results105,go_sem,r0,r1,r2,bF]
def pY:Nat->Wd->Nat->Except Int (Wd × Int)
 | 0,d,c=>.ok (d,(c:Int))
 | k+1,d,c=>(fJ d).bind fun r=>pY k r.1 (c+r.2)
theorem zC:∀(k:Nat) (d:Wd) (c:Nat),jE k d=(pY k d c).bind fun p=>.ok p.1
 | 0,d,c=>rfl
 | k+1,d,c=>by
  show(fJ d).bind _=((fJ d).bind _).bind _
  cases fJ d with
  | error e=>rfl
  | ok r=>exact zC k r.1 (c+r.2)
def lU(d:Wd):Except Int (Wd × Int):=(gY d).bind fun r=>pY 4 r.1 r.2
theorem MV(d:Wd):lD d=(lU d).bind fun p=>.ok p.1:=by
 unfold lD lU
 cases gY d with
 | error e=>rfl
 | ok r=>exact zC 4 r.1 r.2
theorem uI{d d':Wd}{m:Nat}(R:aL d)(h:fJ d=.ok (d',m)):aL d'/\d'.ah.length=d.ah.length/\m<=640:=by
 unfold fJ at h;obtain⟨d1,h1,h2⟩:=bind_ok h;have Nn:=Hl R h1;obtain⟨a,b,c⟩:=mW Nn.right h2;exact⟨a,b.trans Nn.grow.alike.n,c⟩
theorem MW{d:Wd}{e:Int}(h:yU d=.error e):e≠0:=by
 obtain⟨_,a,b',_,_,h3⟩:=wH dH (fun _ _=>True) (fun _ _ _ _ _ _=>trivial) _ [] d e trivial h;unfold dH at h3;split at h3
 ·exact BD h3
 ·cases h3
theorem D6{d:Wd}{e:Int}(h:fJ d=.error e):e≠0:=by
 unfold fJ at h;rcases lK h with h | ⟨_,_,h⟩
 ·exact MW h
 ·exact vv h
theorem MX(lo p:Nat)(d:Wd)(L:Lay)(w:World)(hB:dG lo w p d L 0)(R:aL d)(hlo:lo<=w.heap.size)(Post:Ending->World->Prop)
  (jv:∀er,lU d=.error er->∀w',Fr (Up lo fun _=>False) w w'->Post (.panicked (pan er)) w')
  (hOk:∀d' m L' w',lU d=.ok (d',m)->dG lo w' p d' L' m->Fr (Up lo fun _=>False) w w'->Post (.returned (.tuple #[])) w') :
  Calls prog 103 #[.pointer (some ⟨p,0,none⟩)] w fun e w'=>Hid (Post e w'):=by
 have jB:=(show Hid _ from jv);have HOK:=(show Hid _ from hOk);have zh:=hB.lop;have HR:Hid (aL d):=R;clear jv hOk R;have c0:=hB.made.box.c0;have c1:=hB.made.box.c1;have c2:=hB.made.box.c2;have hpl:=hB.made.box.lt;have hDr:=vR (fE L d) d w hB.made.own.wat;unfold fE at hDr;rw[show checked d (fq d)=fq d from by unfold checked;rw[if_pos ((cZ d).2 HR.out)]]at hDr;unfold fq at hDr;dsimp only at hDr;obtain⟨r,hr⟩:∃r,gY d=r:=⟨_,rfl⟩;have HNZ:Hid (∀e,r=.error e->(e == 0)=false):=fun e h=>by rw[h]at hr;have:=vv hr;simpa using this
 have HSM:Hid (∀d' m,r=.ok (d',m)->aL d'/\m<=640):=fun d' m h=>by rw[h]at hr;exact⟨(mW HR.out hr).1,(mW HR.out hr).2.2⟩
 have HRR:Hid (lU d=r.bind fun r=>pY 4 r.1 r.2):=by unfold Hid lU;rw[hr]
 rw[hr]at hDr;clear hr
 cases r with
 | error er =>
  have her:=HNZ.out er rfl
  go_enter func103,ntmps103
  go_wp2_with fail
  refine hDr.mono ?_;rintro e wT hR;obtain⟨rfl,hFT⟩:=hR.out.1 er rfl;have hST:=hFT.none;clear hR hDr c0 c1 c2
  go_wp2_with fail
  refine(mq p ⟨none,0,0,none,0,0,none,0,0⟩ 0 er her wT).mono ?_;rintro e w' ⟨rfl,hS9⟩;exact⟨rfl,jB.out er HRR.out _ ((hST.trans hS9).up _ _)⟩
 | ok dm =>
  obtain⟨d2,m⟩:=dm;obtain⟨hR2,hm⟩:=HSM.out d2 m rfl;have HR2:Hid (aL d2):=hR2;clear hR2
  go_enter func103,ntmps103
  go_wp2_with fail
  refine hDr.mono ?_;rintro e wT hR;obtain⟨L6,rfl,hO6,hFT⟩:=hR.out.2 d2 m rfl;have hST:=hFT.none;simp only[bF];clear hR hDr c0 c1 c2
  go_wp2_with fail
  have hCt:=oJ (L':=L6) (d':=d2) (m:Int) (by omega) (by omega) (hB.ay hST) (hO6.mono (by omega));unfold bF at hCt;refine hCt.mono ?_;rintro e w9 ⟨rfl,hB9,hF9⟩;have hU9:Fr (Up lo fun _=>False) w w9:=(hST.up _ _).aT (hF9.mono (fun i _ e=>.inl (by have e:i=p:=e;omega)));rw[Int.zero_add]at hB9;have HC0:Hid (lU d=pY 4 d2 m):=HRR.out;clear hCt hF9 HRR HNZ HSM
  go_wp2_with fail
  go_loopw [12] (fun i wr=>∃(k:Nat) (dk:Wd) (c:Nat) (Lk:Lay),k<=4/\i=.int .i64 k/\lU d=pY (4 - k) dk c/\Hid (aL dk)/\c<=640*(k+1)/\dG lo wr p dk Lk (c:Int)/\Fr (Up lo fun _=>False) w wr) (fun i _=>4 - (intOf i).toNat)
  case atStart=>exact⟨0,d2,m,L6,Nat.zero_le _,rfl,HC0.out,HR2,by omega,hB9,hU9⟩
  case round =>
   clear hB9 hU9 HC0 HR2 hm;obtain⟨wo,rfl⟩:∃wo,wo=wr:=⟨_,rfl⟩;obtain⟨k,dk,c,Lk,hk,rfl,hc,HRK,hcb,hSB,hUp⟩:=hrel;have HC:Hid (lU d=pY (4 - k) dk c):=hc;have HK:Hid (k<=4):=hk;clear hc;by_cases hlt:k < 4
   ·have h1:(k:Int) < 4:=by omega
    have c0:=hSB.made.box.c0;have c1:=hSB.made.box.c1;have c2:=hSB.made.box.c2;have hpl:=hSB.made.box.lt;have hRd:=Dg (fE Lk dk) dk wo hSB.made.own.wat;unfold fE at hRd;rw[show checked dk (ji dk)=ji dk from by unfold checked;rw[if_pos ((cZ dk).2 HRK.out)]]at hRd;unfold ji at hRd;dsimp only at hRd;obtain⟨r,hr⟩:∃r,fJ dk=r:=⟨_,rfl⟩;have HNZ:Hid (∀e,r=.error e->(e == 0)=false):=fun e h=>by rw[h]at hr;have:=D6 hr;simpa using this
    have HSM:Hid (∀d' m,r=.ok (d',m)->aL d'/\m<=640):=fun d' m h=>by rw[h]at hr;exact⟨(uI HRK.out hr).1,(uI HRK.out hr).2.2⟩
    have HRR:Hid (lU d=r.bind fun r=>pY (4 - (k+1)) r.1 (c+r.2)):=by
     unfold Hid;rw[HC.out,show 4 - k=(4 - (k+1))+1 from by omega];show(fJ dk).bind _=_;rw[hr]
    rw[hr]at hRd;clear hr
    cases r with
    | error er =>
     have her:=HNZ.out er rfl
     go_wp2_with fail
     refine hRd.mono ?_;rintro e wT hR;obtain⟨rfl,hFT⟩:=hR.out.1 er rfl;have hST:=hFT.none;clear hR hRd c0 c1 c2
     go_wp2_with fail
     refine(mq p ⟨none,0,0,none,0,0,none,0,0⟩ 0 er her wT).mono ?_;rintro e w' ⟨rfl,hS9⟩;exact⟨rfl,jB.out er HRR.out _ (hUp.aT ((hST.trans hS9).up _ _))⟩
    | ok dm =>
     obtain⟨d3,q⟩:=dm;obtain⟨hR3,hq⟩:=HSM.out d3 q rfl;have HR3:Hid (aL d3):=hR3;clear hR3
     go_wp2_with fail
     refine hRd.mono ?_;rintro e wT hR;obtain⟨L7,rfl,hO7,hFT⟩:=hR.out.2 d3 q rfl;have hST:=hFT.none;simp only[bF];clear hR hRd c0 c1 c2
     go_wp2_with fail
     have hCt:=oJ (L':=L7) (d':=d3) (q:Int) (by omega) (by omega) (hSB.ay hST) (hO7.mono (by omega));unfold bF at hCt;refine hCt.mono ?_;rintro e w8 ⟨rfl,hB8,hF8⟩;have hU8:Fr (Up lo fun _=>False) w w8:=hUp.aT ((hST.up _ _).aT (hF8.mono (fun i _ e=>.inl (by have e:i=p:=e;omega))));have VD:dG lo w8 p d3 L7 ((c+q:Nat):Int):=by rw[Int.natCast_add];exact hB8
     have HCQ:Hid (c+q<=640*(k+1+1)):=by show _<=_;omega
     clear hB8 hCt
     go_wp2
     go_roundw
     case rel=>exact⟨k+1,d3,c+q,L7,by omega,by go_num,HRR.out,HR3,HCQ.out,VD,hU8⟩
     case measure=>simp[intOf];omega
   ·have HE:Hid (k=4):=by unfold Hid;have:=HK.out;omega
    have h1:¬ (k:Int) < 4:=by omega
    clear hlt
    go_wp2
    go_end0
    exact HOK.out dk (c:Int) Lk _ (by have h:=HC.out;rw[HE.out]at h;exact h) hSB hUp
theorem Fq(lo p:Nat)(d:Wd)(L:Lay)(w:World)(hB:dG lo w p d L 0)(R:aL d)(hlo:lo<=w.heap.size) :
  Calls prog 103 #[.pointer (some ⟨p,0,none⟩)] w fun e w'=>Hid (vE lo (fun _=>False) p w (lU d) e w') :=
 MX lo p d L w hB R hlo (fun e w'=>vE lo (fun _=>False) p w (lU d) e w')
  (fun er h w' hF=>by rw[h];exact gu hF) (fun d' m L' w' h hB' hF=>by rw[h];exact pX hF hB')
theorem xI(x:WV)(d:Wd)(w:World)(hW:WAt w x d) :
  Calls prog 78 #[.agg #[.slice x.ga x.gl x.gc,.slice x.na x.nl x.nc,.slice x.wa x.wl x.wc]] w fun e w'=>Hid (vW w (checked d (lD d)) e w'):=by
 obtain⟨ga,gl,gc,na,nl,nc,wa,wl,wc⟩:=x;dsimp only;obtain⟨wp,hwp⟩:∃wp,w.alloc (.cells #[.slice ga gl gc,.slice na nl nc,.slice wa wl wc] 31)=wp:=⟨_,rfl⟩;have hPp:aP wp w.heap.size ⟨ga,gl,gc,na,nl,nc,wa,wl,wc⟩:=by rw[<-hwp];exact aP.new w ⟨ga,gl,gc,na,nl,nc,wa,wl,wc⟩ _
 have hSp:=aF hwp;obtain⟨w1,hw1⟩:∃w1,wp.alloc (.cells #[.slice none 0 0,.slice none 0 0,.slice none 0 0] 31)=w1:=⟨_,rfl⟩;have hNB:aU w1 wp.heap.size:=by rw[<-hw1];exact aU.new wp _
 have dZ:=aF hw1;have hP1:=hPp.ay dZ;have hS1:=hSp.trans dZ;have hW1:=hW.ay hS1;have p0:=hP1.c0;have p1:=hP1.c1;have p2:=hP1.c2;dsimp only at p0 p1 p2
 have hmf:∀(fn:Fn) (first cap:Array Value) (w:World),(Instr.makeFunc fn first cap).run prog w=.ok (.func fn first cap) w:=fun _ _ _ _=>rfl
 have hDo:=mD ⟨ga,gl,gc,na,nl,nc,wa,wl,wc⟩ d 103 #[] (fun _=>False) w1 hW1 (fun _ h=>h.elim) (lU d) (enters_of func103 (by kernel_rfl) rfl)
  (fun hE lo p L y hlo hy hB=>Fq lo p d L y hB ((cZ d).1 hE) (by have:=hB.made.box.lt;have:=hB.lop;omega))
 dsimp only at hDo;rw[MV,rW];obtain⟨r,hr⟩:∃r,checked d (lU d)=r:=⟨_,rfl⟩;rw[hr]at hDo ⊢;clear hr hW;have hle:=hSp.size;have hwx:Hid (∀y,Fr (fun _=>False) w1 y->ak w y/\aU y wp.heap.size):=fun y hy=>⟨hS1.trans hy.none,hNB.ay hy.none⟩
 cases r with
 | error er =>
  go_enter func78,ntmps78
  go_wp2_with fail
  refine hDo.mono ?_;rintro e w2 hR;obtain⟨rfl,hF2⟩:=hR.out.1 er rfl;obtain⟨hS2,hN2⟩:=hwx.out _ hF2;clear hR hw1 hwp;obtain⟨w3,hw3⟩:∃y,w2.alloc (.cells #[.slice none 0 0,.slice none 0 0,.slice none 0 0] 31)=y:=⟨_,rfl⟩;have JX:=aF hw3;have hN3:aU w3 w2.heap.size:=by rw[<-hw3];exact aU.new w2 _
  obtain⟨w4,hw4⟩:∃y,((w3.setCell ⟨w2.heap.size,0,none⟩ (.slice none 0 0)).setCell ⟨w2.heap.size,1,none⟩ (.slice none 0 0)).setCell ⟨w2.heap.size,2,none⟩ (.slice none 0 0)=y:=⟨_,rfl⟩;have hF4:Fr (fun i=>i=w2.heap.size) w3 w4:=by rw[<-hw4];exact aS w3 w2.heap.size _ _ _
  have hS4:ak w2 w4:=hF4.aI JX (fun i hi e=>by omega)
  have hN4:aU w4 w2.heap.size:=by
   rw[<-hw4];exact⟨zQ4 hN3.lt (aS w3 w2.heap.size _ _ _).size,uw hN3.c0,uy hN3.c1,uD hN3.c2,(iC _ _ _ _ _ _).trans hN3.z0,(iC _ _ _ _ _ _).trans hN3.z1,(iC _ _ _ _ _ _).trans hN3.z2⟩
  obtain⟨_,a0,a1,a2,a3,a4,a5⟩:=hN3;obtain⟨_,c0,c1,c2,_,_,_⟩:=hN4;obtain⟨_,r0,r1,r2,r3,r4,r5⟩:=hN2.ay hS4
  go_wp2_with fail
  refine bodyPost_ret (v:=.tuple #[.agg #[.slice none 0 0,.slice none 0 0,.slice none 0 0],.int .i64 er]) ?_ rfl (show Hid _ from iU (cu hle (hS2.trans hS4)));simp[results,results78,go_sem,r0,r1,r2]
 | ok dm =>
  obtain⟨d',m⟩:=dm
  go_enter func78,ntmps78
  go_wp2_with fail
  refine hDo.mono ?_;rintro e w2 hR;obtain⟨L,rfl,hO,hF2⟩:=hR.out.2 d' m rfl;obtain⟨hS2,hN2⟩:=hwx.out _ hF2;clear hR hw1 hwp;simp only[bF];obtain⟨w3,hw3⟩:∃y,w2.alloc (.cells #[.slice (L (0,0,0)).a d'.au.length (L (0,0,0)).cap,.slice (L (1,0,0)).a d'.ah.length (L (1,0,0)).cap,.slice (L (2,0,0)).a d'.aB.length (L (2,0,0)).cap] 31)=y:=⟨_,rfl⟩;have hS3:=aF hw3
  have hB3:kF w3 w2.heap.size L d':=by rw[<-hw3];constructor <;> simp[go_sem]
  obtain⟨_,b0,b1,b2,_,_,_⟩:=hB3;obtain⟨_,r0,r1,r2,r3,r4,r5⟩:=hN2.ay hS3;obtain⟨hO2,hSf⟩:=(hO.ay hS3).result (w0:=w) (p:=wp.heap.size) hNB.lt hle (hS2.trans hS3) hS1.size
  go_wp2_with fail
  refine bodyPost_ret (v:=.tuple #[bF L d',.int .i64 0]) ?_ rfl (show Hid _ from mH hO2 hSf);simp[results,results78,go_sem,r0,r1,r2,bF]
end Go.Proofs.YtediempflagfkaaGreatDoor
