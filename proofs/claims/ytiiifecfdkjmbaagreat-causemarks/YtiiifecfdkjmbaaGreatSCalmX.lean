/- Lemmas. -/
import Derived.Test.YtiiifecfdkjmbaaGreatSMoveX
set_option maxHeartbeats 2000000
namespace Go.Proofs.YtiiifecfdkjmbaaGreat.Pu
open _root_.Go.Proofs.Tryz hiding checked
set_option maxRecDepth 8000
theorem fold_succ {α β:Type} (f:β->α->Except Int β) (l:List α) (b:β) {k:Nat} {x:α} (h:l[k]? = some x):(l.take (k+1)).foldlM f b=((l.take k).foldlM f b).bind fun b'=>f b' x:=by
 rw [List.take_add_one,h,List.foldlM_append];show ((l.take k).foldlM f b).bind _=_
 cases (l.take k).foldlM f b with
 | error e=>rfl
 | ok b' =>
  show [x].foldlM f b'=f b' x;rw [List.foldlM_cons];show (f b' x).bind _=_
  cases f b' x <;> rfl
theorem qD {α β:Type} (f:β->α->Except Int β) (l:List α) (b:β) {k:Nat} {e:Int} (h:(l.take k).foldlM f b=.error e):l.foldlM f b=.error e:=by
 conv=>lhs;rw [<-List.take_append_drop k l]
 rw [List.foldlM_append,h];rfl
theorem vN {d d':Wd} {f t q:Nat} (R:Right d) (hf:f < d.nodes.length) (ht:t < d.nodes.length) (h:oK d f t=.ok (d',q)):Right d'/\d'.nodes.length=d.nodes.length/\q<=40:=by
 unfold oK at h;obtain ⟨d1,h1,h2⟩:=bind_ok h;cases h2;have M:=sJ _ d d' R hf ht (Nat.le_refl _) h1;exact ⟨M.right,M.grow.alike.n,R.oM f t⟩
open _root_.Go.Proofs.YtiiifecfdkjmbaaGreat
def je (a:Nat) (x:Wd) (g:Nat):Except Int Wd:=fH x a g true ByteArray.empty
theorem vO {a g:Nat} {x y:Wd} (R:Right x) (h:je a x g=.ok y):Right y/\y.groups=x.groups/\y.nodes.length=x.nodes.length:=by
 obtain ⟨R',G⟩:=vI R (fun _=>rfl) h;exact ⟨R',G.alike.g,G.alike.n⟩
theorem yE (gs:List Int) (a:Nat):∀ (l:List Nat) (x:Wd),Right x->x.groups=gs->(l.map fun g=>(a,g)).foldlM dA x=(l.filter fun g:Nat=>hasB gs (g:Int) (a:Int)).foldlM (je a) x
 | [],x,R,hg=>rfl
 | g::l,x,R,hg=>by
  rw [List.map_cons,List.foldlM_cons];show (dA x (a,g)).bind _=_;by_cases h:hasB gs (g:Int) (a:Int)=true
  ·rw [List.filter_cons_of_pos (by exact h),List.foldlM_cons];have e:dA x (a,g)=je a x g:=by unfold dA je;rw [hg,if_pos h]
   rw [e];show (je a x g).bind _=(je a x g).bind _
   cases hn:je a x g with
   | error er=>rfl
   | ok y =>
    obtain ⟨R',G',_⟩:=vO R hn;exact yE gs a l y R' (G'.trans hg)
  ·rw [List.filter_cons_of_neg (by exact h)];have e:dA x (a,g)=.ok x:=by unfold dA;rw [hg,if_neg h]
   rw [e];exact yE gs a l x R hg
theorem Lx {N G a:Nat} (ha:a < N):(pairs N G).take ((a+1)*G)=(pairs N G).take (a*G)++(List.range G).map fun g=>(a,g):=by
 apply List.ext_getElem?;intro i;rw [Nat.add_mul,Nat.one_mul];have hl:(pairs N G).length=N*G:=iZ N G;have hb:a*G+G<=N*G:=by have:=Nat.mul_le_mul_right G (show a+1<=N from ha);rwa [Nat.add_mul,Nat.one_mul] at this
 by_cases h1:i < a*G
 ·rw [List.getElem?_append_left (by rw [List.length_take,hl];omega),List.getElem?_take_of_lt (by omega),List.getElem?_take_of_lt h1]
 ·rw [List.getElem?_append_right (by rw [List.length_take];omega),List.length_take,hl,Nat.min_eq_left (by omega)];by_cases h2:i < a*G+G
  ·rw [List.getElem?_take_of_lt h2];obtain ⟨k,rfl⟩:∃ k,i=a*G+k:=⟨i - a*G,by omega⟩;rw [kX ha (by omega),List.getElem?_map,List.getElem?_range (by omega),Nat.add_sub_cancel_left];rfl
  ·rw [List.getElem?_eq_none (by rw [List.length_take];omega),List.getElem?_eq_none (by simp;omega)]
theorem LA {N G a:Nat} {d dk:Wd} (gs:List Int) (ha:a < N) (h:((pairs N G).take (a*G)).foldlM dA d=.ok dk) (R:Right dk) (hg:dk.groups=gs) :
  ((pairs N G).take ((a+1)*G)).foldlM dA d=((List.range G).filter fun g:Nat=>hasB gs (g:Int) (a:Int)).foldlM (je a) dk:=by
 rw [Lx ha,List.foldlM_append,h];exact yE gs a (List.range G) dk R hg
theorem Ob (gs:List Int) (a:Int):hits gs [a] gs.length=(List.range gs.length).filter fun g:Nat=>hasB gs (g:Int) a:=by
 unfold hits;refine List.filter_congr fun g hg=>?_;have hg:=List.mem_range.1 hg;simp [hasB,lq,hg]
end Go.Proofs.YtiiifecfdkjmbaaGreat.Pu
namespace Go.Proofs.YtiiifecfdkjmbaaGreat
open _root_.Go.Proofs.Tryz hiding checked
set_option maxRecDepth 8000
open Go.RowKit Go.Shelf
open Pu
set_option linter.unusedVariables false
set_option linter.unusedSimpArgs false
theorem GL {d:Wd} {f t:Nat} (R:Right d) (hf:f < d.nodes.length) (ht:t < d.nodes.length):checked d (p8 d (f:Int) (t:Int))=(oK d f t).bind fun r=>.ok (r.1,(r.2:Int)):=by
 unfold checked p8;rw [if_pos ((dK d).2 R),if_pos (by simp [inB];omega),Int.toNat_natCast,Int.toNat_natCast]
theorem GN {f t:Nat} {e:Int}:∀ (k:Nat) (d:Wd),dY f t k d=.error e->e≠0
 | 0,d,h=>by cases h
 | k+1,d,h=>by
  unfold dY at h;rcases jC h with h | ⟨d1,_,h⟩
  ·exact xD h
  ·exact GN k d1 h
theorem AA {d:Wd} {f t:Nat} {e:Int} (h:oK d f t=.error e):e≠0:=by
 unfold oK at h;rcases jC h with h | ⟨_,_,h⟩
 ·exact GN _ _ h
 ·cases h
theorem Jh (lo p:Nat) (d:Wd) (L:Lay) (w:World) (hB:cB lo w p d L 0) (R:Right d) (hlo:lo<=w.heap.size) (N:Nat) (hN:d.nodes.length=N) (Post:Ending->World->Prop)
  (jl:∀ er,(pairs N N).foldlM bW (d,0)=.error er->∀ w',Fr (Up lo fun _=>False) w w'->Post (.panicked (pan er)) w')
  (hOk:∀ d' (m:Nat) L' w',(pairs N N).foldlM bW (d,0)=.ok (d',m)->cB lo w' p d' L' (m:Int)->Fr (Up lo fun _=>False) w w'->Post (.returned (.tuple #[])) w') :
  Calls prog 101 #[.pointer (some ⟨p,0,none⟩)] w fun e w'=>Hid (Post e w'):=by
 have jo:=(show Hid _ from jl);have HOK:=(show Hid _ from hOk);have HN4:Hid (N<=4):=by unfold Hid;rw [<-hN];exact (small R).1
 have yF:=hB.lop;have b1:=hB.made.box.c1;rw [hN] at b1;have HR0:Hid (Right d/\d.nodes.length=N):=⟨R,hN⟩;clear jl hOk hN R
 go_enter func101,ntmps101
 go_wp2_with fail
 clear b1
 go_loopw [10] (fun i wr=>∃ (a:Nat) (dk:Wd) (m:Nat) (Lk:Lay),a<=N/\i=.int .i64 a/\((pairs N N).take (a*N)).foldlM bW (d,0)=.ok (dk,m)/\Hid (Right dk/\dk.nodes.length=N)/\m<=40*(a*N)/\cB lo wr p dk Lk (m:Int)/\Fr (Up lo fun _=>False) w wr) (fun i _=>N - (intOf i).toNat)
 case atStart=>exact ⟨0,d,0,L,Nat.zero_le _,rfl,by simp;rfl,HR0,by simp,hB,Fr.refl _ _⟩
 case round =>
  clear hB HR0;obtain ⟨wo,rfl⟩:∃ wo,wo=wr:=⟨_,rfl⟩;obtain ⟨a,dk,m,Lk,ha,rfl,hfo,HRK,hm,hSB,hUp⟩:=hrel;have HF:Hid (((pairs N N).take (a*N)).foldlM bW (d,0)=.ok (dk,m)):=hfo;have HM:Hid (m<=40*(a*N)):=hm;have HA:Hid (a<=N):=ha;clear hfo hm;by_cases hlt:a < N
  ·have b1:=hSB.made.box.c1;rw [HRK.out.2] at b1;have h1:(a:Int) < (N:Int):=by omega
   go_wp2_with fail
   clear b1
   go_loopw [19] (fun i wr=>∃ (b:Nat) (dk:Wd) (m:Nat) (Lk:Lay),b<=N/\i=.int .i64 b/\((pairs N N).take (a*N+b)).foldlM bW (d,0)=.ok (dk,m)/\Hid (Right dk/\dk.nodes.length=N)/\m<=40*(a*N+b)/\cB lo wr p dk Lk (m:Int)/\Fr (Up lo fun _=>False) w wr) (fun i _=>N - (intOf i).toNat)
   case atStart=>exact ⟨0,dk,m,Lk,Nat.zero_le _,rfl,HF.out,HRK,HM.out,hSB,hUp⟩
   case round =>
    clear hSB hUp HF HM HRK;obtain ⟨wu,rfl⟩:∃ wo,wo=wr:=⟨_,rfl⟩;obtain ⟨b,dj,mj,Lj,hb,rfl,hfo,HRK,hm,hSB,hUp⟩:=hrel;have HF:Hid (((pairs N N).take (a*N+b)).foldlM bW (d,0)=.ok (dj,mj)):=hfo;have HM:Hid (mj<=40*(a*N+b)):=hm;have HB:Hid (b<=N):=hb;clear hfo hm;by_cases hlb:b < N
    ·have h2:(b:Int) < (N:Int):=by omega
     have HLB:Hid (b < N):=hlb;have hak:a < dj.nodes.length:=by rw [HRK.out.2];exact hlt
     have hbk:b < dj.nodes.length:=by rw [HRK.out.2];exact hlb
     have c0:=hSB.made.box.c0;have c1:=hSB.made.box.c1;have c2:=hSB.made.box.c2;have hpl:=hSB.made.box.lt;have hWr:=En (fV Lj dj) dj a b wu hSB.made.own.wat;unfold fV at hWr;rw [GL HRK.out.1 hak hbk] at hWr;dsimp only at hWr
     have HS:Hid (((pairs N N).take (a*N+(b+1))).foldlM bW (d,0)=(oK dj a b).bind fun r=>.ok (r.1,mj+r.2)):=by
      unfold Hid;have:=fold_succ bW (pairs N N) (d,0) (kX hlt hlb);rw [HF.out] at this;exact this
     obtain ⟨r,hr⟩:∃ r,oK dj a b=r:=⟨_,rfl⟩;have HNZ:Hid (∀ e,r=.error e->(e == 0)=false):=fun e h=>by rw [h] at hr;have:=AA hr;simpa using this
     have IU:Hid (∀ d' q,r=.ok (d',q)->Right d'/\d'.nodes.length=N/\q<=40):=fun d' q h=>by rw [h] at hr;have:=vN HRK.out.1 hak hbk hr;exact ⟨this.1,this.2.1.trans HRK.out.2,this.2.2⟩
     rw [hr] at hWr;have HS2:Hid (((pairs N N).take (a*N+(b+1))).foldlM bW (d,0)=r.bind fun r=>.ok (r.1,mj+r.2)):=by unfold Hid;rw [HS.out,hr]
     have HLT:Hid (a < N):=hlt;clear hr HS hlb
     cases r with
     | error er =>
      have her:=HNZ.out er rfl
      go_wp2_with fail
      refine hWr.mono ?_;rintro e wT hR;obtain ⟨rfl,hFT⟩:=hR.out.1 er rfl;have hST:=hFT.none;clear hR hWr c0 c1 c2
      go_wp2_with fail
      refine (lX p ⟨none,0,0,none,0,0,none,0,0⟩ 0 er her wT).mono ?_;rintro e w' ⟨rfl,hS9⟩;exact ⟨rfl,jo.out er (qD bW (pairs N N) (d,0) HS2.out) _ (hUp.aF ((hST.trans hS9).up _ _))⟩
     | ok dq =>
      obtain ⟨d2,q⟩:=dq;obtain ⟨R2,n2,q40⟩:=IU.out d2 q rfl;have HQ:Hid (Right d2/\d2.nodes.length=N):=⟨R2,n2⟩;clear R2 n2;have Rm:mj<=640:=by have h1:=HM.out;have h2:=HN4.out;have h3:=HLT.out;have h4:=HB.out;have:a*N<=3*4:=Nat.mul_le_mul (by omega) h2;omega
      go_wp2_with fail
      refine hWr.mono ?_;rintro e wT hR;obtain ⟨L6,rfl,hO6,hFT⟩:=hR.out.2 d2 q rfl;have hST:=hFT.none;simp only [aS];clear hR hWr c0 c1 c2
      go_wp2_with fail
      have hCt:=nW (L':=L6) (d':=d2) (q:Int) (by omega) (by omega) (hSB.since hST) (hO6.mono (by omega));unfold aS at hCt;refine hCt.mono ?_;rintro e w9 ⟨rfl,hB9,hF9⟩;have hU9:Fr (Up lo fun _=>False) w w9:=hUp.aF ((hST.up _ _).aF (hF9.mono (fun i _ e=>.inl (by have e:i=p:=e;omega))));have V4:cB lo w9 p d2 L6 ((mj+q:Nat):Int):=by rw [Int.natCast_add];exact hB9
      have HMQ:Hid (mj+q<=40*(a*N+(b+1))):=by have:=HM.out;show _<=_;omega
      clear hB9 Rm q40;have hb4:b < 4:=by have:=HN4.out;have:=HLB.out;omega
      go_wp2
      go_roundw
      case rel=>exact ⟨b+1,d2,mj+q,L6,HLB.out,by go_num,HS2.out,HQ,HMQ.out,V4,hU9⟩
      case measure=>have:=HLB.out;simp [intOf];omega
    ·have HE:Hid (b=N):=by unfold Hid;have:=HB.out;omega
     have h2:¬ (b:Int) < (N:Int):=by omega
     have HLT:Hid (a < N):=hlt;have e1:a*N+b=(a+1)*N:=by rw [HE.out,Nat.add_mul,Nat.one_mul]
     have HF2:Hid (((pairs N N).take ((a+1)*N)).foldlM bW (d,0)=.ok (dj,mj)):=by unfold Hid;rw [<-e1];exact HF.out
     have HM2:Hid (mj<=40*((a+1)*N)):=by unfold Hid;rw [<-e1];exact HM.out
     clear hlb e1;have ha4:a < 4:=by have:=HN4.out;have:=HLT.out;omega
     go_wp2
     go_roundw
     case rel=>exact ⟨a+1,dj,mj,Lj,HLT.out,by go_num,HF2.out,HRK,HM2.out,hSB,hUp⟩
     case measure=>have:=HLT.out;simp [intOf];omega
  ·have HE:Hid (a=N):=by unfold Hid;have:=HA.out;omega
   have h1:¬ (a:Int) < (N:Int):=by omega
   clear hlt
   go_wp2
   go_end0
   exact HOK.out dk m Lk _ (by have h:=HF.out;rwa [HE.out,<-iZ,List.take_length] at h) hSB hUp
def d9 (d:Wd):Except Int (Wd × Int):=(iC d).bind fun r=>.ok (r.1,(r.2:Int))
theorem BZ (lo p:Nat) (d:Wd) (L:Lay) (w:World) (hB:cB lo w p d L 0) (R:Right d) (hlo:lo<=w.heap.size) :
  Calls prog 101 #[.pointer (some ⟨p,0,none⟩)] w fun e w'=>Hid (uH lo (fun _=>False) p w (d9 d) e w') :=
 Jh lo p d L w hB R hlo _ rfl (fun e w'=>uH lo (fun _=>False) p w (d9 d) e w')
  (fun er h w' hF=>by unfold d9 iC;rw [h];exact gu hF) (fun d' m L' w' h hB' hF=>by unfold d9 iC;rw [h];exact oW hF hB')
theorem u7 (x:WV) (d:Wd) (w:World) (hW:WAt w x d) :
  Calls prog 41 #[.agg #[.slice x.ga x.gl x.gc,.slice x.na x.nl x.nc,.slice x.wa x.wl x.wc]] w fun e w'=>Hid (yA w (checked d (d9 d)) e w'):=by
 obtain ⟨ga,gl,gc,na,nl,nc,wa,wl,wc⟩:=x;dsimp only;obtain ⟨wp,hwp⟩:∃ wp,w.alloc (.cells #[.slice ga gl gc,.slice na nl nc,.slice wa wl wc] 26)=wp:=⟨_,rfl⟩;have hPp:aO wp w.heap.size ⟨ga,gl,gc,na,nl,nc,wa,wl,wc⟩:=by rw [<-hwp];exact aO.new w ⟨ga,gl,gc,na,nl,nc,wa,wl,wc⟩ _
 have hSp:=ay hwp;obtain ⟨w1,hw1⟩:∃ w1,wp.alloc (.cells #[.slice none 0 0,.slice none 0 0,.slice none 0 0] 26)=w1:=⟨_,rfl⟩;have hNB:aD w1 wp.heap.size:=by rw [<-hw1];exact aD.new wp _
 have cO:=ay hw1;have hP1:=hPp.since cO;have hS1:=hSp.trans cO;have hW1:=hW.since hS1;have p0:=hP1.c0;have p1:=hP1.c1;have p2:=hP1.c2;dsimp only at p0 p1 p2
 have hmf:∀ (fn:Fn) (first cap:Array Value) (w:World),(Instr.makeFunc fn first cap).run prog w=.ok (.func fn first cap) w:=fun _ _ _ _=>rfl
 have hDo:=lY ⟨ga,gl,gc,na,nl,nc,wa,wl,wc⟩ d 101 #[] (fun _=>False) w1 hW1 (fun _ h=>h.elim) (d9 d) (enters_of func101 (by kernel_rfl) rfl)
  (fun hE lo p L y hlo hy hB=>BZ lo p d L y hB ((dK d).1 hE) (by have:=hB.made.box.lt;have:=hB.lop;omega))
 dsimp only at hDo;obtain ⟨r,hr⟩:∃ r,checked d (d9 d)=r:=⟨_,rfl⟩;rw [hr] at hDo ⊢;clear hr hW;have hle:=hSp.size
 cases r with
 | error er =>
  go_enter func41,ntmps41
  go_wp2_with (go_at_call 85;refine hDo.mono ?_;rintro e w2 hR;obtain ⟨rfl,hF2⟩:=hR.out.1 er rfl;have hS2:=hF2.none;obtain ⟨lt,r0,r1,r2,r3,r4,r5⟩:=hNB.since hS2)
  refine bodyPost_ret (v:=.tuple #[.agg #[.slice none 0 0,.slice none 0 0,.slice none 0 0],.int .i64 0,.int .i64 er]) ?_ rfl (show Hid _ from lG (aM hle (hS1.trans hS2)));simp [results,results41,go_sem,r0,r1,r2]
 | ok dm =>
  obtain ⟨d',m⟩:=dm
  go_enter func41,ntmps41
  go_wp2_with (go_at_call 85;refine hDo.mono ?_;rintro e w2 hR;obtain ⟨L,rfl,hO,hF2⟩:=hR.out.2 d' m rfl;have hS2:=hF2.none;simp only [aS];obtain ⟨lt,r0,r1,r2,r3,r4,r5⟩:=hNB.since hS2)
  obtain ⟨hO2,hSf⟩:=hO.result (w0:=w) (p:=wp.heap.size) hNB.lt hle (hS1.trans hS2) hS1.size;refine bodyPost_ret (v:=.tuple #[aS L d',.int .i64 m,.int .i64 0]) ?_ rfl (show Hid _ from oU hO2 hSf);simp [results,results41,go_sem,r0,r1,r2,aS]
theorem Bc {d:Wd} (R:Right d):∀ (k:Nat) (s:Wd × Nat),((pairs d.nodes.length d.nodes.length).take k).foldlM bW (d,0)=.ok s->Right s.1/\s.1.nodes.length=d.nodes.length/\s.2<=40*k
 | 0,s,h=>by
  cases h;exact ⟨R,rfl,Nat.zero_le _⟩
 | k+1,s,h=>by
  cases hx:(pairs d.nodes.length d.nodes.length)[k]? with
  | none =>
   have hl:=List.getElem?_eq_none_iff.1 hx;rw [List.take_of_length_le (by omega)] at h;have ih:=Bc R k s (by rw [List.take_of_length_le hl];exact h);exact ⟨ih.1,ih.2.1,by have:=ih.2.2;omega⟩
  | some x =>
   rw [fold_succ bW _ _ hx] at h;obtain ⟨s1,h1,h2⟩:=bind_ok h;obtain ⟨R1,n1,b1⟩:=Bc R k s1 h1;obtain ⟨p1,p2⟩:=F7 x (List.mem_of_getElem? hx);unfold bW at h2;obtain ⟨⟨d2,q⟩,h3,h4⟩:=bind_ok h2;cases h4;obtain ⟨R2,n2,q2⟩:=vN R1 (by omega) (by omega) h3;exact ⟨R2,n2.trans n1,by show s1.2+q<=_;omega⟩
theorem mF {d d':Wd} {m:Nat} (R:Right d) (h:iC d=.ok (d',m)):Right d'/\d'.nodes.length=d.nodes.length/\m<=640:=by
 have h2:((pairs d.nodes.length d.nodes.length).take (d.nodes.length*d.nodes.length)).foldlM bW (d,0)=.ok (d',m):=by rw [<-iZ,List.take_length];exact h
 obtain ⟨a,b,c⟩:=Bc R _ _ h2;refine ⟨a,b,zQ5 c ?_⟩;have h4:=(small R).1;have:=Nat.mul_le_mul h4 h4;omega
theorem qp {d:Wd} {e:Int} (h:iC d=.error e):e≠0:=by
 obtain ⟨_,a,b',_,_,h3⟩:=vK bW (fun _ _=>True) (fun _ _ _ _ _ _=>trivial) _ [] (d,0) e trivial h;unfold bW at h3;rcases jC h3 with h | ⟨_,_,h⟩
 ·exact AA h
 ·cases h
theorem Ji {W:World} {base:Nat} {T:TypeId} {sz b o n k cap:Nat} {xs:List Value} (h:W.ownsRow base T sz (.slice (some ⟨b,o,none⟩) k cap) n xs):base<=b:=by
 rcases h.2 with ⟨h1,_⟩ | ⟨g,c,cur,h1,h2,_⟩
 ·cases h1
 ·cases h1;exact h2
theorem RS (a:Option Addr) (len cap:Nat) (xs:List Int) (n:Int) (w:World) (hI:Ints w a len xs) :
  Calls prog 103 #[.slice a len cap,.int .i64 n] w fun e w'=>∃ a' len' cap',e=.returned (.slice a' len' cap')/\Ints w' a' len' (KE xs [n])/\Since w w'/\∀ b o,0 < (KE xs [n]).length->a'=some ⟨b,o,none⟩->w.heap.size<=b :=
 (MR a len cap xs n w hI).mono fun e w' ⟨v,he,ho,hb⟩=>by
  obtain ⟨a',cap',rfl,hr⟩:=yP ho (MK hI _);refine ⟨a',_,cap',he,by unfold KE;rw [hI.hlen];exact hr,⟨hb⟩,fun b o hp e=>?_⟩;subst e;exact Ji ho
theorem Jj (lo p:Nat) (d:Wd) (L:Lay) (w:World) (hB:cB lo w p d L 0) (R:Right d) (hlo:lo<=w.heap.size) (N G:Nat) (hN:d.nodes.length=N) (hG:d.groups.length=G) (Post:Ending->World->Prop)
  (jl:∀ er,fK d=.error er->∀ w',Fr (Up lo fun _=>False) w w'->Post (.panicked (pan er)) w')
  (hOk:∀ d' (m:Nat) L' w',fK d=.ok (d',m)->cB lo w' p d' L' (m:Int)->Fr (Up lo fun _=>False) w w'->Post (.returned (.tuple #[])) w') :
  Calls prog 102 #[.pointer (some ⟨p,0,none⟩)] w fun e w'=>Hid (Post e w'):=by
 have jo:=(show Hid _ from jl);have HOK:=(show Hid _ from hOk);have HN4:Hid (N<=4/\G<=3):=by unfold Hid;rw [<-hN,<-hG];exact ⟨(small R).1,(small R).2.2.1⟩
 have yF:=hB.lop;have b1:=hB.made.box.c1;rw [hN] at b1;have HRD:Hid (fK d=((pairs N G).foldlM dA d).bind iC):=by unfold Hid fK Ao;rw [hN,hG]
 have HR0:Hid (Right d/\d.nodes.length=N/\d.groups=d.groups):=⟨R,hN,rfl⟩;have HG:Hid (d.groups.length=G):=hG;clear jl hOk hN hG R
 go_enter func102,ntmps102
 go_wp2_with fail
 clear b1
 go_loopw [11] (fun i wr=>∃ (a:Nat) (dk:Wd) (Lk:Lay),a<=N/\i=.int .i64 a/\((pairs N G).take (a*G)).foldlM dA d=.ok dk/\Hid (Right dk/\dk.nodes.length=N/\dk.groups=d.groups)/\cB lo wr p dk Lk 0/\Fr (Up lo fun _=>False) w wr) (fun i _=>N - (intOf i).toNat)
 case atStart=>exact ⟨0,d,L,Nat.zero_le _,rfl,by simp;rfl,(show Hid _ from ⟨HR0.out.1,HR0.out.2.1,rfl⟩),hB,Fr.refl _ _⟩
 case round =>
  clear hB HR0;obtain ⟨wo,rfl⟩:∃ wo,wo=wr:=⟨_,rfl⟩;obtain ⟨a,dk,Lk,ha,rfl,hfo,HRK,hSB,hUp⟩:=hrel;have HF:Hid (((pairs N G).take (a*G)).foldlM dA d=.ok dk):=hfo;have HA:Hid (a<=N):=ha;clear hfo;by_cases hlt:a < N
  ·have b0:=hSB.made.box.c0;have h1:(a:Int) < (N:Int):=by omega
   have hI:Ints wo (Lk (0,0,0)).a dk.groups.length dk.groups:=hSB.made.own.wat.g;have mK:Hid (((pairs N G).take ((a+1)*G)).foldlM dA d=((List.range G).filter fun g:Nat=>hasB d.groups (g:Int) (a:Int)).foldlM (je a) dk):=LA d.groups hlt HF.out HRK.out.1 HRK.out.2.2;obtain ⟨hs,hhs⟩:∃ hs,((List.range G).filter fun g:Nat=>hasB d.groups (g:Int) (a:Int))=hs:=⟨_,rfl⟩
   have HHS:Hid (KE dk.groups [(a:Int)]=hs.map fun g:Nat=>(g:Int)):=by
    unfold Hid KE;rw [HRK.out.2.2,Ob,HG.out,hhs]
   have HLEN:Hid (hs.length<=3):=by
    unfold Hid;rw [<-hhs];have h1:=List.length_filter_le (fun g:Nat=>hasB d.groups (g:Int) (a:Int)) (List.range G);rw [List.length_range] at h1;exact zQ5 h1 HN4.out.2
   have Qs:Hid (((pairs N G).take ((a+1)*G)).foldlM dA d=hs.foldlM (je a) dk):=by unfold Hid;rw [mK.out,hhs]
   clear hhs mK
   go_wp2_with fail
   refine (RS (Lk (0,0,0)).a dk.groups.length (Lk (0,0,0)).cap dk.groups (a:Int) wo hI).mono ?_;rintro e w2 ⟨a',len',cap',rfl,hI2,hS2,hnew⟩;have hpw:=hSB.made.box.lt;have V5:Hid (∀ b o,0 < (KE dk.groups [(a:Int)]).length->a'=some ⟨b,o,none⟩->¬ b=p):=fun b o h e hb=>by have:=hnew b o h e;omega
   rw [HHS.out] at hI2;have hlen:hs.length=len':=by have:=hI2.hlen;simpa using this
   subst hlen;clear b0
   go_wp2_with fail
   have V6:=HRK
   go_loopw [22] (fun i wr=>∃ (j:Nat) (dj:Wd) (Lj:Lay),j<=hs.length/\i=.int .i64 j/\(hs.take j).foldlM (je a) dk=.ok dj/\Hid (Right dj/\dj.nodes.length=N/\dj.groups=d.groups)/\cB lo wr p dj Lj 0/\Fr (Up lo fun _=>False) w wr/\Fr (fun i=>i=p) w2 wr) (fun i _=>hs.length - (intOf i).toNat)
   case atStart=>exact ⟨0,dk,Lk,Nat.zero_le _,rfl,rfl,V6,hSB.since hS2,hUp.aF (hS2.up _ _),Fr.refl _ _⟩
   case round =>
    clear HF HRK;obtain ⟨wu,rfl⟩:∃ wo,wo=wr:=⟨_,rfl⟩;obtain ⟨j,dj,Lj,hj,rfl,hfo,HRJ,hSJ,hUJ,hF2⟩:=hrel;have HFJ:Hid ((hs.take j).foldlM (je a) dk=.ok dj):=hfo;have HJ:Hid (j<=hs.length):=hj;clear hfo;by_cases hlj:j < hs.length
    ·have h2:(j:Int) < (hs.length:Int):=by omega
     have HLJ:Hid (j < hs.length):=hlj;obtain ⟨g,hg⟩:∃ g,hs[j]? = some g:=⟨_,zQ1 hlj⟩;obtain ⟨bI,oI,rfl,hbI,hcI⟩:=hI2.cells (by omega)
     have hcell:w2.cell? ⟨bI,oI+j,none⟩=some (.int .i64 (g:Int)):=by
      have:=hcI j (by omega);rw [List.getElem?_map,hg] at this;exact this
     have hpo:¬ bI=p:=V5.out bI oI (by rw [HHS.out,List.length_map];have:=HLJ.out;omega) rfl;have hcj:=(hF2.cell (p:=⟨bI,oI+j,none⟩) hbI hpo).trans hcell;have hak:a < dj.nodes.length:=by rw [HRJ.out.2.1];exact hlt
     have c0:=hSJ.made.box.c0;have c1:=hSJ.made.box.c1;have c2:=hSJ.made.box.c2;have hpl:=hSJ.made.box.lt;have hNu:=qO (fV Lj dj) dj (a:Int) (g:Int) wu hSJ.made.own.wat;unfold fV at hNu;rw [show checked dj (fH dj (a:Int) (g:Int) true ByteArray.empty)=je a dj g from by unfold checked;rw [if_pos ((dK dj).2 HRJ.out.1)];rfl] at hNu;dsimp only at hNu
     have HS:Hid ((hs.take (j+1)).foldlM (je a) dk=je a dj g):=by
      unfold Hid;rw [fold_succ (je a) hs dk hg,HFJ.out];rfl
     obtain ⟨r,hr⟩:∃ r,je a dj g=r:=⟨_,rfl⟩;have HNZ:Hid (∀ e,r=.error e->(e == 0)=false):=fun e h=>by rw [h] at hr;have:=tq hr;simpa using this
     have IU:Hid (∀ d',r=.ok d'->Right d'/\d'.nodes.length=N/\d'.groups=d.groups):=fun d' h=>by rw [h] at hr;obtain ⟨x1,x2,x3⟩:=vO HRJ.out.1 hr;exact ⟨x1,x3.trans HRJ.out.2.1,x2.trans HRJ.out.2.2⟩
     rw [hr] at hNu;have HS2:Hid ((hs.take (j+1)).foldlM (je a) dk=r):=by unfold Hid;rw [HS.out,hr]
     clear hr HS hlj hg
     cases r with
     | error er =>
      have her:=HNZ.out er rfl
      go_wp2_with fail
      refine hNu.mono ?_;rintro e wT hR;obtain ⟨rfl,hST⟩:=hR.out.1 er rfl;clear hR hNu c0 c1 c2 hcj
      go_wp2_with fail
      refine (vS p ⟨none,0,0,none,0,0,none,0,0⟩ er her wT).mono ?_;rintro e w' ⟨rfl,hS9⟩
      exact ⟨rfl,jo.out er (by
       have h:=qD (je a) hs dk HS2.out;have h2:=Qs.out;rw [h] at h2;rw [HRD.out,qD dA (pairs N G) d h2];rfl) _ (hUJ.aF ((hST.trans hS9).up _ _))⟩
     | ok d2 =>
      have HQ:Hid (Right d2/\d2.nodes.length=N/\d2.groups=d.groups):=IU.out d2 rfl
      go_wp2_with fail
      refine hNu.mono ?_;rintro e wT hR;obtain ⟨L6,rfl,hO6,hST⟩:=hR.out.2 d2 rfl;simp only [aS];clear hR hNu c0 c1 c2 hcj
      go_wp2_with fail
      have hCt:=yG (L':=L6) (d':=d2) (hSJ.since hST) (hO6.mono (by omega));unfold aS at hCt;refine hCt.mono ?_;rintro e w9 ⟨rfl,hB9,hF9⟩;have hU9:Fr (Up lo fun _=>False) w w9:=hUJ.aF ((hST.up _ _).aF (hF9.mono (fun i _ e=>.inl (by have e:i=p:=e;omega))));have V7:Fr (fun i=>i=p) w2 w9:=(hF2.trans (hST.fr _) (fun _ _ e=>e) (fun _ _ e=>e)).trans hF9 (fun _ _ e=>e) (fun _ _ e=>e);have hj3:j < 3:=by have:=HLEN.out;have:=HLJ.out;omega
      go_wp2
      go_roundw
      case rel=>exact ⟨j+1,d2,L6,HLJ.out,by go_num,HS2.out,HQ,hB9,hU9,V7⟩
      case measure=>have:=HLJ.out;simp [intOf];omega
    ·have HE:Hid (j=hs.length):=by unfold Hid;have:=HJ.out;omega
     have h2:¬ (j:Int) < (hs.length:Int):=by omega
     have HLT:Hid (a < N):=hlt;have HF2:Hid (((pairs N G).take ((a+1)*G)).foldlM dA d=.ok dj):=by unfold Hid;rw [Qs.out];have h:=HFJ.out;rwa [HE.out,List.take_length] at h
     clear hlj;have ha4:a < 4:=by have:=HN4.out.1;have:=HLT.out;omega
     go_wp2
     go_roundw
     case rel=>exact ⟨a+1,dj,Lj,HLT.out,by go_num,HF2.out,HRJ,hSJ,hUJ⟩
     case measure=>have:=HLT.out;simp [intOf];omega
  ·have HE:Hid (a=N):=by unfold Hid;have:=HA.out;omega
   have h1:¬ (a:Int) < (N:Int):=by omega
   clear hlt;have HF2:Hid (fK d=iC dk):=by unfold Hid;rw [HRD.out];have h:=HF.out;rw [HE.out,<-iZ,List.take_length] at h;rw [h];rfl
   have c0:=hSB.made.box.c0;have c1:=hSB.made.box.c1;have c2:=hSB.made.box.c2;have hpl:=hSB.made.box.lt;have hDr:=u7 (fV Lk dk) dk wo hSB.made.own.wat;unfold fV at hDr;rw [show checked dk (d9 dk)=d9 dk from by unfold checked;rw [if_pos ((dK dk).2 HRK.out.1)]] at hDr;unfold d9 at hDr;dsimp only at hDr;obtain ⟨r,hr⟩:∃ r,iC dk=r:=⟨_,rfl⟩;have HNZ:Hid (∀ e,r=.error e->(e == 0)=false):=fun e h=>by rw [h] at hr;have:=qp hr;simpa using this
   have HSM:Hid (∀ d' m,r=.ok (d',m)->m<=640):=fun d' m h=>by rw [h] at hr;exact (mF HRK.out.1 hr).2.2
   have HRR:Hid (fK d=r):=by unfold Hid;rw [HF2.out,hr]
   rw [hr] at hDr;clear hr
   cases r with
   | error er =>
    have her:=HNZ.out er rfl
    go_wp2_with fail
    refine hDr.mono ?_;rintro e wT hR;obtain ⟨rfl,hFT⟩:=hR.out.1 er rfl;have hST:=hFT.none;clear hR hDr c0 c1 c2
    go_wp2_with fail
    refine (lX p ⟨none,0,0,none,0,0,none,0,0⟩ 0 er her wT).mono ?_;rintro e w' ⟨rfl,hS9⟩;exact ⟨rfl,jo.out er HRR.out _ (hUp.aF ((hST.trans hS9).up _ _))⟩
   | ok dm =>
    obtain ⟨d2,m⟩:=dm;have hm:=HSM.out d2 m rfl
    go_wp2_with fail
    refine hDr.mono ?_;rintro e wT hR;obtain ⟨L6,rfl,hO6,hFT⟩:=hR.out.2 d2 m rfl;have hST:=hFT.none;simp only [aS];clear hR hDr c0 c1 c2
    go_wp2_with fail
    have hCt:=nW (L':=L6) (d':=d2) (m:Int) (by omega) (by omega) (hSB.since hST) (hO6.mono (by omega));unfold aS at hCt;refine hCt.mono ?_;rintro e w9 ⟨rfl,hB9,hF9⟩;have hU9:Fr (Up lo fun _=>False) w w9:=hUp.aF ((hST.up _ _).aF (hF9.mono (fun i _ e=>.inl (by have e:i=p:=e;omega))));rw [Int.zero_add] at hB9
    go_wp2
    go_end0
    exact HOK.out d2 m L6 _ HRR.out hB9 hU9
def jd (d:Wd):Except Int (Wd × Int):=(fK d).bind fun r=>.ok (r.1,(r.2:Int))
theorem Ca (lo p:Nat) (d:Wd) (L:Lay) (w:World) (hB:cB lo w p d L 0) (R:Right d) (hlo:lo<=w.heap.size) :
  Calls prog 102 #[.pointer (some ⟨p,0,none⟩)] w fun e w'=>Hid (uH lo (fun _=>False) p w (jd d) e w') :=
 Jj lo p d L w hB R hlo _ _ rfl rfl (fun e w'=>uH lo (fun _=>False) p w (jd d) e w')
  (fun er h w' hF=>by unfold jd;rw [h];exact gu hF) (fun d' m L' w' h hB' hF=>by unfold jd;rw [h];exact oW hF hB')
theorem Cb (x:WV) (d:Wd) (w:World) (hW:WAt w x d) :
  Calls prog 42 #[.agg #[.slice x.ga x.gl x.gc,.slice x.na x.nl x.nc,.slice x.wa x.wl x.wc]] w fun e w'=>Hid (yA w (checked d (jd d)) e w'):=by
 obtain ⟨ga,gl,gc,na,nl,nc,wa,wl,wc⟩:=x;dsimp only;obtain ⟨wp,hwp⟩:∃ wp,w.alloc (.cells #[.slice ga gl gc,.slice na nl nc,.slice wa wl wc] 26)=wp:=⟨_,rfl⟩;have hPp:aO wp w.heap.size ⟨ga,gl,gc,na,nl,nc,wa,wl,wc⟩:=by rw [<-hwp];exact aO.new w ⟨ga,gl,gc,na,nl,nc,wa,wl,wc⟩ _
 have hSp:=ay hwp;obtain ⟨w1,hw1⟩:∃ w1,wp.alloc (.cells #[.slice none 0 0,.slice none 0 0,.slice none 0 0] 26)=w1:=⟨_,rfl⟩;have hNB:aD w1 wp.heap.size:=by rw [<-hw1];exact aD.new wp _
 have cO:=ay hw1;have hP1:=hPp.since cO;have hS1:=hSp.trans cO;have hW1:=hW.since hS1;have p0:=hP1.c0;have p1:=hP1.c1;have p2:=hP1.c2;dsimp only at p0 p1 p2
 have hmf:∀ (fn:Fn) (first cap:Array Value) (w:World),(Instr.makeFunc fn first cap).run prog w=.ok (.func fn first cap) w:=fun _ _ _ _=>rfl
 have hDo:=lY ⟨ga,gl,gc,na,nl,nc,wa,wl,wc⟩ d 102 #[] (fun _=>False) w1 hW1 (fun _ h=>h.elim) (jd d) (enters_of func102 (by kernel_rfl) rfl)
  (fun hE lo p L y hlo hy hB=>Ca lo p d L y hB ((dK d).1 hE) (by have:=hB.made.box.lt;have:=hB.lop;omega))
 dsimp only at hDo;obtain ⟨r,hr⟩:∃ r,checked d (jd d)=r:=⟨_,rfl⟩;rw [hr] at hDo ⊢;clear hr hW;have hle:=hSp.size
 cases r with
 | error er =>
  go_enter func42,ntmps42
  go_wp2_with (go_at_call 85;refine hDo.mono ?_;rintro e w2 hR;obtain ⟨rfl,hF2⟩:=hR.out.1 er rfl;have hS2:=hF2.none;obtain ⟨lt,r0,r1,r2,r3,r4,r5⟩:=hNB.since hS2)
  refine bodyPost_ret (v:=.tuple #[.agg #[.slice none 0 0,.slice none 0 0,.slice none 0 0],.int .i64 0,.int .i64 er]) ?_ rfl (show Hid _ from lG (aM hle (hS1.trans hS2)));simp [results,results42,go_sem,r0,r1,r2]
 | ok dm =>
  obtain ⟨d',m⟩:=dm
  go_enter func42,ntmps42
  go_wp2_with (go_at_call 85;refine hDo.mono ?_;rintro e w2 hR;obtain ⟨L,rfl,hO,hF2⟩:=hR.out.2 d' m rfl;have hS2:=hF2.none;simp only [aS];obtain ⟨lt,r0,r1,r2,r3,r4,r5⟩:=hNB.since hS2)
  obtain ⟨hO2,hSf⟩:=hO.result (w0:=w) (p:=wp.heap.size) hNB.lt hle (hS1.trans hS2) hS1.size;refine bodyPost_ret (v:=.tuple #[aS L d',.int .i64 m,.int .i64 0]) ?_ rfl (show Hid _ from oU hO2 hSf);simp [results,results42,go_sem,r0,r1,r2,aS]
def oZ:Nat->Wd->Nat->Except Int (Wd × Int)
 | 0,d,c=>.ok (d,(c:Int))
 | k+1,d,c=>(fK d).bind fun r=>oZ k r.1 (c+r.2)
theorem yY:∀ (k:Nat) (d:Wd) (c:Nat),iW k d=(oZ k d c).bind fun p=>.ok p.1
 | 0,d,c=>rfl
 | k+1,d,c=>by
  show (fK d).bind _=((fK d).bind _).bind _
  cases fK d with
  | error e=>rfl
  | ok r=>exact yY k r.1 (c+r.2)
def lJ (d:Wd):Except Int (Wd × Int):=(iC d).bind fun r=>oZ 4 r.1 r.2
theorem LB (d:Wd):qo d=(lJ d).bind fun p=>.ok p.1:=by
 unfold qo lJ
 cases iC d with
 | error e=>rfl
 | ok r=>exact yY 4 r.1 r.2
theorem tH {d d':Wd} {m:Nat} (R:Right d) (h:fK d=.ok (d',m)):Right d'/\d'.nodes.length=d.nodes.length/\m<=640:=by
 unfold fK at h;obtain ⟨d1,h1,h2⟩:=bind_ok h;have Nn:=F9 R h1;obtain ⟨a,b,c⟩:=mF Nn.right h2;exact ⟨a,b.trans Nn.grow.alike.n,c⟩
theorem LC {d:Wd} {e:Int} (h:Ao d=.error e):e≠0:=by
 obtain ⟨_,a,b',_,_,h3⟩:=vK dA (fun _ _=>True) (fun _ _ _ _ _ _=>trivial) _ [] d e trivial h;unfold dA at h3;split at h3
 ·exact tq h3
 ·cases h3
theorem x9 {d:Wd} {e:Int} (h:fK d=.error e):e≠0:=by
 unfold fK at h;rcases jC h with h | ⟨_,_,h⟩
 ·exact LC h
 ·exact qp h
theorem LD (lo p:Nat) (d:Wd) (L:Lay) (w:World) (hB:cB lo w p d L 0) (R:Right d) (hlo:lo<=w.heap.size) (Post:Ending->World->Prop)
  (jl:∀ er,lJ d=.error er->∀ w',Fr (Up lo fun _=>False) w w'->Post (.panicked (pan er)) w')
  (hOk:∀ d' m L' w',lJ d=.ok (d',m)->cB lo w' p d' L' m->Fr (Up lo fun _=>False) w w'->Post (.returned (.tuple #[])) w') :
  Calls prog 107 #[.pointer (some ⟨p,0,none⟩)] w fun e w'=>Hid (Post e w'):=by
 have jo:=(show Hid _ from jl);have HOK:=(show Hid _ from hOk);have yF:=hB.lop;have HR:Hid (Right d):=R;clear jl hOk R;have c0:=hB.made.box.c0;have c1:=hB.made.box.c1;have c2:=hB.made.box.c2;have hpl:=hB.made.box.lt;have hDr:=u7 (fV L d) d w hB.made.own.wat;unfold fV at hDr;rw [show checked d (d9 d)=d9 d from by unfold checked;rw [if_pos ((dK d).2 HR.out)]] at hDr;unfold d9 at hDr;dsimp only at hDr;obtain ⟨r,hr⟩:∃ r,iC d=r:=⟨_,rfl⟩;have HNZ:Hid (∀ e,r=.error e->(e == 0)=false):=fun e h=>by rw [h] at hr;have:=qp hr;simpa using this
 have HSM:Hid (∀ d' m,r=.ok (d',m)->Right d'/\m<=640):=fun d' m h=>by rw [h] at hr;exact ⟨(mF HR.out hr).1,(mF HR.out hr).2.2⟩
 have HRR:Hid (lJ d=r.bind fun r=>oZ 4 r.1 r.2):=by unfold Hid lJ;rw [hr]
 rw [hr] at hDr;clear hr
 cases r with
 | error er =>
  have her:=HNZ.out er rfl
  go_enter func107,ntmps107
  go_wp2_with fail
  refine hDr.mono ?_;rintro e wT hR;obtain ⟨rfl,hFT⟩:=hR.out.1 er rfl;have hST:=hFT.none;clear hR hDr c0 c1 c2
  go_wp2_with fail
  refine (lX p ⟨none,0,0,none,0,0,none,0,0⟩ 0 er her wT).mono ?_;rintro e w' ⟨rfl,hS9⟩;exact ⟨rfl,jo.out er HRR.out _ ((hST.trans hS9).up _ _)⟩
 | ok dm =>
  obtain ⟨d2,m⟩:=dm;obtain ⟨hR2,hm⟩:=HSM.out d2 m rfl;have HR2:Hid (Right d2):=hR2;clear hR2
  go_enter func107,ntmps107
  go_wp2_with fail
  refine hDr.mono ?_;rintro e wT hR;obtain ⟨L6,rfl,hO6,hFT⟩:=hR.out.2 d2 m rfl;have hST:=hFT.none;simp only [aS];clear hR hDr c0 c1 c2
  go_wp2_with fail
  have hCt:=nW (L':=L6) (d':=d2) (m:Int) (by omega) (by omega) (hB.since hST) (hO6.mono (by omega));unfold aS at hCt;refine hCt.mono ?_;rintro e w9 ⟨rfl,hB9,hF9⟩;have hU9:Fr (Up lo fun _=>False) w w9:=(hST.up _ _).aF (hF9.mono (fun i _ e=>.inl (by have e:i=p:=e;omega)));rw [Int.zero_add] at hB9;have HC0:Hid (lJ d=oZ 4 d2 m):=HRR.out;clear hCt hF9 HRR HNZ HSM
  go_wp2_with fail
  go_loopw [12] (fun i wr=>∃ (k:Nat) (dk:Wd) (c:Nat) (Lk:Lay),k<=4/\i=.int .i64 k/\lJ d=oZ (4 - k) dk c/\Hid (Right dk)/\c<=640*(k+1)/\cB lo wr p dk Lk (c:Int)/\Fr (Up lo fun _=>False) w wr) (fun i _=>4 - (intOf i).toNat)
  case atStart=>exact ⟨0,d2,m,L6,Nat.zero_le _,rfl,HC0.out,HR2,by omega,hB9,hU9⟩
  case round =>
   clear hB9 hU9 HC0 HR2 hm;obtain ⟨wo,rfl⟩:∃ wo,wo=wr:=⟨_,rfl⟩;obtain ⟨k,dk,c,Lk,hk,rfl,hc,HRK,hcb,hSB,hUp⟩:=hrel;have HC:Hid (lJ d=oZ (4 - k) dk c):=hc;have HK:Hid (k<=4):=hk;clear hc;by_cases hlt:k < 4
   ·have h1:(k:Int) < 4:=by omega
    have c0:=hSB.made.box.c0;have c1:=hSB.made.box.c1;have c2:=hSB.made.box.c2;have hpl:=hSB.made.box.lt;have hRd:=Cb (fV Lk dk) dk wo hSB.made.own.wat;unfold fV at hRd;rw [show checked dk (jd dk)=jd dk from by unfold checked;rw [if_pos ((dK dk).2 HRK.out)]] at hRd;unfold jd at hRd;dsimp only at hRd;obtain ⟨r,hr⟩:∃ r,fK dk=r:=⟨_,rfl⟩;have HNZ:Hid (∀ e,r=.error e->(e == 0)=false):=fun e h=>by rw [h] at hr;have:=x9 hr;simpa using this
    have HSM:Hid (∀ d' m,r=.ok (d',m)->Right d'/\m<=640):=fun d' m h=>by rw [h] at hr;exact ⟨(tH HRK.out hr).1,(tH HRK.out hr).2.2⟩
    have HRR:Hid (lJ d=r.bind fun r=>oZ (4 - (k+1)) r.1 (c+r.2)):=by
     unfold Hid;rw [HC.out,show 4 - k=(4 - (k+1))+1 from by omega];show (fK dk).bind _=_;rw [hr]
    rw [hr] at hRd;clear hr
    cases r with
    | error er =>
     have her:=HNZ.out er rfl
     go_wp2_with fail
     refine hRd.mono ?_;rintro e wT hR;obtain ⟨rfl,hFT⟩:=hR.out.1 er rfl;have hST:=hFT.none;clear hR hRd c0 c1 c2
     go_wp2_with fail
     refine (lX p ⟨none,0,0,none,0,0,none,0,0⟩ 0 er her wT).mono ?_;rintro e w' ⟨rfl,hS9⟩;exact ⟨rfl,jo.out er HRR.out _ (hUp.aF ((hST.trans hS9).up _ _))⟩
    | ok dm =>
     obtain ⟨d3,q⟩:=dm;obtain ⟨hR3,hq⟩:=HSM.out d3 q rfl;have HR3:Hid (Right d3):=hR3;clear hR3
     go_wp2_with fail
     refine hRd.mono ?_;rintro e wT hR;obtain ⟨L7,rfl,hO7,hFT⟩:=hR.out.2 d3 q rfl;have hST:=hFT.none;simp only [aS];clear hR hRd c0 c1 c2
     go_wp2_with fail
     have hCt:=nW (L':=L7) (d':=d3) (q:Int) (by omega) (by omega) (hSB.since hST) (hO7.mono (by omega));unfold aS at hCt;refine hCt.mono ?_;rintro e w8 ⟨rfl,hB8,hF8⟩;have hU8:Fr (Up lo fun _=>False) w w8:=hUp.aF ((hST.up _ _).aF (hF8.mono (fun i _ e=>.inl (by have e:i=p:=e;omega))));have V8:cB lo w8 p d3 L7 ((c+q:Nat):Int):=by rw [Int.natCast_add];exact hB8
     have HCQ:Hid (c+q<=640*(k+1+1)):=by show _<=_;omega
     clear hB8 hCt
     go_wp2
     go_roundw
     case rel=>exact ⟨k+1,d3,c+q,L7,by omega,by go_num,HRR.out,HR3,HCQ.out,V8,hU8⟩
     case measure=>simp [intOf];omega
   ·have HE:Hid (k=4):=by unfold Hid;have:=HK.out;omega
    have h1:¬ (k:Int) < 4:=by omega
    clear hlt
    go_wp2
    go_end0
    exact HOK.out dk (c:Int) Lk _ (by have h:=HC.out;rw [HE.out] at h;exact h) hSB hUp
theorem Eo (lo p:Nat) (d:Wd) (L:Lay) (w:World) (hB:cB lo w p d L 0) (R:Right d) (hlo:lo<=w.heap.size) :
  Calls prog 107 #[.pointer (some ⟨p,0,none⟩)] w fun e w'=>Hid (uH lo (fun _=>False) p w (lJ d) e w') :=
 LD lo p d L w hB R hlo (fun e w'=>uH lo (fun _=>False) p w (lJ d) e w')
  (fun er h w' hF=>by rw [h];exact gu hF) (fun d' m L' w' h hB' hF=>by rw [h];exact oW hF hB')
theorem wW (x:WV) (d:Wd) (w:World) (hW:WAt w x d) :
  Calls prog 46 #[.agg #[.slice x.ga x.gl x.gc,.slice x.na x.nl x.nc,.slice x.wa x.wl x.wc]] w fun e w'=>Hid (rX w (checked d (qo d)) e w'):=by
 obtain ⟨ga,gl,gc,na,nl,nc,wa,wl,wc⟩:=x;dsimp only;obtain ⟨wp,hwp⟩:∃ wp,w.alloc (.cells #[.slice ga gl gc,.slice na nl nc,.slice wa wl wc] 26)=wp:=⟨_,rfl⟩;have hPp:aO wp w.heap.size ⟨ga,gl,gc,na,nl,nc,wa,wl,wc⟩:=by rw [<-hwp];exact aO.new w ⟨ga,gl,gc,na,nl,nc,wa,wl,wc⟩ _
 have hSp:=ay hwp;obtain ⟨w1,hw1⟩:∃ w1,wp.alloc (.cells #[.slice none 0 0,.slice none 0 0,.slice none 0 0] 26)=w1:=⟨_,rfl⟩;have hNB:aD w1 wp.heap.size:=by rw [<-hw1];exact aD.new wp _
 have cO:=ay hw1;have hP1:=hPp.since cO;have hS1:=hSp.trans cO;have hW1:=hW.since hS1;have p0:=hP1.c0;have p1:=hP1.c1;have p2:=hP1.c2;dsimp only at p0 p1 p2
 have hmf:∀ (fn:Fn) (first cap:Array Value) (w:World),(Instr.makeFunc fn first cap).run prog w=.ok (.func fn first cap) w:=fun _ _ _ _=>rfl
 have hDo:=lY ⟨ga,gl,gc,na,nl,nc,wa,wl,wc⟩ d 107 #[] (fun _=>False) w1 hW1 (fun _ h=>h.elim) (lJ d) (enters_of func107 (by kernel_rfl) rfl)
  (fun hE lo p L y hlo hy hB=>Eo lo p d L y hB ((dK d).1 hE) (by have:=hB.made.box.lt;have:=hB.lop;omega))
 dsimp only at hDo;rw [LB,q9];obtain ⟨r,hr⟩:∃ r,checked d (lJ d)=r:=⟨_,rfl⟩;rw [hr] at hDo ⊢;clear hr hW;have hle:=hSp.size;have hwx:Hid (∀ y,Fr (fun _=>False) w1 y->Since w y/\aD y wp.heap.size):=fun y hy=>⟨hS1.trans hy.none,hNB.since hy.none⟩
 cases r with
 | error er =>
  go_enter func46,ntmps46
  go_wp2_with fail
  refine hDo.mono ?_;rintro e w2 hR;obtain ⟨rfl,hF2⟩:=hR.out.1 er rfl;obtain ⟨hS2,hN2⟩:=hwx.out _ hF2;clear hR hw1 hwp;obtain ⟨w3,hw3⟩:∃ y,w2.alloc (.cells #[.slice none 0 0,.slice none 0 0,.slice none 0 0] 26)=y:=⟨_,rfl⟩;have I6:=ay hw3;have hN3:aD w3 w2.heap.size:=by rw [<-hw3];exact aD.new w2 _
  obtain ⟨w4,hw4⟩:∃ y,((w3.setCell ⟨w2.heap.size,0,none⟩ (.slice none 0 0)).setCell ⟨w2.heap.size,1,none⟩ (.slice none 0 0)).setCell ⟨w2.heap.size,2,none⟩ (.slice none 0 0)=y:=⟨_,rfl⟩;have hF4:Fr (fun i=>i=w2.heap.size) w3 w4:=by rw [<-hw4];exact dN w3 w2.heap.size _ _ _
  have hS4:Since w2 w4:=hF4.aC I6 (fun i hi e=>by omega)
  have hN4:aD w4 w2.heap.size:=by
   rw [<-hw4];exact ⟨zQ4 hN3.lt (dN w3 w2.heap.size _ _ _).size,pI hN3.c0,pJ hN3.c1,pK hN3.c2,(gT _ _ _ _ _ _).trans hN3.z0,(gT _ _ _ _ _ _).trans hN3.z1,(gT _ _ _ _ _ _).trans hN3.z2⟩
  obtain ⟨_,a0,a1,a2,a3,a4,a5⟩:=hN3;obtain ⟨_,c0,c1,c2,_,_,_⟩:=hN4;obtain ⟨_,r0,r1,r2,r3,r4,r5⟩:=hN2.since hS4
  go_wp2_with fail
  refine bodyPost_ret (v:=.tuple #[.agg #[.slice none 0 0,.slice none 0 0,.slice none 0 0],.int .i64 er]) ?_ rfl (show Hid _ from dS (aM hle (hS2.trans hS4)));simp [results,results46,go_sem,r0,r1,r2]
 | ok dm =>
  obtain ⟨d',m⟩:=dm
  go_enter func46,ntmps46
  go_wp2_with fail
  refine hDo.mono ?_;rintro e w2 hR;obtain ⟨L,rfl,hO,hF2⟩:=hR.out.2 d' m rfl;obtain ⟨hS2,hN2⟩:=hwx.out _ hF2;clear hR hw1 hwp;simp only [aS];obtain ⟨w3,hw3⟩:∃ y,w2.alloc (.cells #[.slice (L (0,0,0)).a d'.groups.length (L (0,0,0)).cap,.slice (L (1,0,0)).a d'.nodes.length (L (1,0,0)).cap,.slice (L (2,0,0)).a d'.wires.length (L (2,0,0)).cap] 26)=y:=⟨_,rfl⟩;have hS3:=ay hw3
  have hB3:jV w3 w2.heap.size L d':=by rw [<-hw3];constructor <;> simp [go_sem]
  obtain ⟨_,b0,b1,b2,_,_,_⟩:=hB3;obtain ⟨_,r0,r1,r2,r3,r4,r5⟩:=hN2.since hS3;obtain ⟨hO2,hSf⟩:=(hO.since hS3).result (w0:=w) (p:=wp.heap.size) hNB.lt hle (hS2.trans hS3) hS1.size
  go_wp2_with fail
  refine bodyPost_ret (v:=.tuple #[aS L d',.int .i64 0]) ?_ rfl (show Hid _ from iB hO2 hSf);simp [results,results46,go_sem,r0,r1,r2,aS]
end Go.Proofs.YtiiifecfdkjmbaaGreat
