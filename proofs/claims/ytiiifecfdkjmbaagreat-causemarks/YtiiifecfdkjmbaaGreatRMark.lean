/- Lemmas. -/
import Derived.Test.YtiiifecfdkjmbaaGreatMkMem2
import Derived.Test.YtiiifecfdkjmbaaGreatRDo4X
import Derived.Test.YtiiifecfdkjmbaaGreatCsMark
import Derived.Test.YtiiifecfdkjmbaaGreatAgX
set_option maxHeartbeats 4000000
namespace Go.Proofs.YtiiifecfdkjmbaaGreat
open _root_.Go.Proofs.Tryz hiding checked
set_option maxRecDepth 8000
open Go.RowKit Go.Shelf
open Pu
set_option linter.unusedVariables false
set_option linter.unusedSimpArgs false
def TD:Option Value->Nat
 | some (.slice _ n _)=>n
 | _=>0
def RcM (r:Rc) (SK:Sl) (M:MM):Prop:=M.all=r.all/\M.ah=r.ahead/\M.kn=r.known/\M.sk=SK
theorem J2 {r:Rc} {x:Ac} (h:x.kind=4\/∃ e,doD r.d x=.error e):jX r x=r:=by
 unfold jX;by_cases h4:x.kind=4
 ·rw [if_pos h4]
 ·rw [if_neg h4];obtain ⟨e,he⟩:=h.resolve_left h4;rw [he]
theorem Ro (r:Rc) (x:Ac):(jX r x).all.length<=r.all.length+1:=by
 unfold jX;split
 ·omega
 ·split
  ·omega
  ·split
   ·split
    ·show r.all.length<=_;omega
    ·omega
   ·show (r.all++[_]).length<=_;simp
theorem Pe (acts:List Ac):∀ r:Rc,(acts.foldl jX r).all.length<=r.all.length+acts.length:=by
 induction acts with
 | nil=>intro r;simp
 | cons x l ih=>intro r;rw [List.foldl_cons];have:=ih (jX r x);have:=Ro r x;simp;omega
def ig (all:List Mg) (m:Mg) (row:List Bool):Nat->List Bool
 | 0=>row
 | i+1=>if (match all[i]? with | some a=>eU a m | none=>false) then (ig all m row i).set i true else ig all m row i
theorem vP (all:List Mg) (m:Mg) (row:List Bool):∀ i,(ig all m row i).length=row.length
 | 0=>rfl
 | i+1=>by
  have ih:=vP all m row i;unfold ig
  by_cases h:(match all[i]? with | some a=>eU a m | none=>false)=true
  ·rw [if_pos h,List.length_set];exact ih
  ·rw [if_neg h];exact ih
theorem AO (all:List Mg) (m:Mg) (row:List Bool) (h:row.length=all.length):∀ i,i<=all.length->∀ j,(ig all m row i)[j]? = if j < i then (row[j]?).bind fun b=>(all[j]?).map fun a=>b || eU a m else row[j]?
 | 0,_,j=>by simp [ig]
 | i+1,hi,j=>by
  have ih:=AO all m row h i (by omega);obtain ⟨a,ha⟩:∃ a,all[i]? = some a:=⟨_,zQ1 (by omega)⟩;obtain ⟨b,hb⟩:∃ b,row[i]? = some b:=⟨_,zQ1 (by omega)⟩;unfold ig;simp only [ha];have hl:i < (ig all m row i).length:=by rw [vP];omega
  by_cases hj:j=i
  ·subst hj;have e2:(if j < j+1 then (row[j]?).bind fun b=>(all[j]?).map fun a=>b || eU a m else row[j]?)=some (b || eU a m):=by rw [if_pos (by omega),hb,ha];rfl
   rw [e2];cases hs:eU a m
   ·rw [if_neg (by simp),ih,if_neg (by omega),hb];simp
   ·rw [if_pos rfl,List.getElem?_set,if_pos rfl,if_pos hl];simp
  ·have e:(if eU a m=true then (ig all m row i).set i true else ig all m row i)[j]? = (ig all m row i)[j]?:=by
    split
    ·rw [List.getElem?_set,if_neg (Ne.symm hj)]
    ·rfl
   rw [e,ih];by_cases hl2:j < i
   ·rw [if_pos hl2,if_pos (by omega)]
   ·rw [if_neg hl2,if_neg (by omega)]
theorem I7 (all:List Mg) (m:Mg) (row:List Bool) (h:row.length=all.length):ig all m row all.length=iM all m row:=by
 refine List.ext_getElem? fun j=>?_;rw [AO all m row h _ (Nat.le_refl _)];unfold iM;rw [List.getElem?_zipWith];by_cases hj:j < all.length
 ·rw [if_pos hj];obtain ⟨a,ha⟩:∃ a,all[j]? = some a:=⟨_,zQ1 (by omega)⟩;obtain ⟨b,hb⟩:∃ b,row[j]? = some b:=⟨_,zQ1 (by omega)⟩;rw [ha,hb];rfl
 ·rw [if_neg hj,List.getElem?_eq_none (by omega)]
def tJ (kn:List (List Bool)) (n:Nat):Nat->List (List Bool)
 | 0=>kn
 | j+1=>(tJ kn n j).set j ((kn[j]?.getD [])++[decide (j=n)])
theorem Gv (kn:List (List Bool)) (n:Nat):∀ j,(tJ kn n j).length=kn.length
 | 0=>rfl
 | j+1=>by show ((tJ kn n j).set j _).length=_;rw [List.length_set];exact Gv kn n j
theorem AP (kn:List (List Bool)) (n:Nat):∀ j,j<=kn.length->∀ i,(tJ kn n j)[i]? = if i < j then some ((kn[i]?.getD [])++[decide (i=n)]) else kn[i]?
 | 0,_,i=>by simp [tJ]
 | j+1,hj,i=>by
  have ih:=AP kn n j (by omega) i;show ((tJ kn n j).set j _)[i]? = _;rw [List.getElem?_set];by_cases e:j=i
  ·subst e;rw [if_pos rfl,if_pos (by rw [Gv];omega),if_pos (by omega)]
  ·rw [if_neg e,ih];by_cases h:i < j
   ·rw [if_pos h,if_pos (by omega)]
   ·rw [if_neg h,if_neg (by omega)]
theorem Nz (kn:List (List Bool)) (n:Nat):tJ kn n kn.length=(List.range kn.length).map fun i=>(kn[i]?.getD [])++[decide (i=n)]:=by
 refine List.ext_getElem? fun i=>?_;rw [AP kn n _ (Nat.le_refl _),List.getElem?_map];by_cases h:i < kn.length
 ·rw [if_pos h,List.getElem?_range h];rfl
 ·rw [if_neg h,List.getElem?_eq_none (by omega),List.getElem?_eq_none (by simp;omega)];rfl
theorem Lp {w:World} {lo:Nat} {r:Sl} {xs:List Bool} (h:Row w lo 1 r xs.length (aW xs)):Src prog 1 87 (.slice r.a xs.length r.cap) xs.length (aW xs) w:=by
 refine yh xV.und (by unfold aW;simp) (fun u hu=>by unfold aW at hu;obtain ⟨b,_,rfl⟩:=List.mem_map.1 hu;rfl) (fun hp=>?_);obtain ⟨b,off,e,_,_,_,hx⟩:=h.body (by have:=h.cap;omega);exact ⟨b,off,e,hx⟩
theorem I8 (nodes:Nat) (a:Option Addr) (cap:Nat) (l:List Int) (ac:Option Addr) (iV:Nat) (acts:List Ac) (w:World) (hI:Ints w a l.length l) (hA:vk w ac acts.length acts) (hn:nodes<=4) (hl:l.length<=3) (hE:dF (nodes:Int) l=0) (hm:acts.length<=80) :
  Calls prog 72 #[.int .i64 nodes,.slice a l.length cap,.slice ac acts.length iV] w fun e w'=>∃ (sa:Option Addr) (sc:Nat) (sl:Sl) (rs:Nat->Sl),e=.returned (.tuple #[.slice sa (scD nodes l acts).sent.length sc,sl.v (scD nodes l acts).sent.length,.int .i64 0])/\fA w' sa (scD nodes l acts).sent.length (scD nodes l acts).sent/\bC 1 aW w.heap.size w' sl rs (iU (scD nodes l acts))/\Since w w':=by
 have hGE:=qL w w nodes a l.length cap l hI (Since.refl w);rw [hE] at hGE;have hm1:decide (80 < (acts.length:Int))=false:=by simp;omega
 have oo:Hid (∀ k,Rel (rcD nodes l (acts.take k)) (scD nodes l (acts.take k))/\jf (scD nodes l (acts.take k))/\(rcD nodes l (acts.take k)).all.length<=k):=fun k=>⟨Gh hE _,zI hE _,by
  have:=Pe (acts.take k) (ny nodes l);have e:(ny nodes l).all.length=0:=rfl;rw [List.length_take] at this;unfold rcD;omega⟩
 have hbn:(dw nodes l).nodes.length=nodes:=by simp [dw]
 have TF:Hid (∀ k,(rcD nodes l (acts.take k)).d.nodes.length=nodes):=fun k=>by
  obtain ⟨h1,h2,_⟩:=oo.out k;rw [h1.d];have h3:=Cr (acts.take k) (mZ nodes l) (zI hE []);unfold scD;rw [h3];exact hbn
 have Dn:Hid (closeAll (rcD nodes l acts).all.length (rcD nodes l acts).ahead=iU (scD nodes l acts)/\(rcD nodes l acts).all=(scD nodes l acts).sent):=by
  have h1:=Gh hE acts;exact ⟨Le (zI hE acts) h1,h1.all⟩
 have JE:=fun y=>run_make_row' (P:=prog) 83 87 (.slice none 0 0) 24 (by kernel_rfl) (by kernel_rfl) rfl .i64 .i64 nodes (by omega) (by omega) y;clear hE hbn
 go_enter func72,ntmps72
 go_wp2_with (go_at_call 69;refine hGE.mono ?_;rintro e w1 ⟨rfl,hS1⟩;have hBg:=Gm nodes hn l hl a cap w1 (hI.since hS1))
 refine hBg.mono ?_;rintro e w2 ⟨L0,rfl,hO2,dn⟩;simp only [aS];obtain ⟨v0,hv0⟩:∃ y,fV L0 (dw nodes l)=y:=⟨_,rfl⟩;have hX2:=hO2.wat;rw [hv0] at hX2;obtain ⟨w3,hw3⟩:∃ y,w2.alloc (.cells #[.slice (L0 (0,0,0)).a (dw nodes l).groups.length (L0 (0,0,0)).cap,.slice (L0 (1,0,0)).a (dw nodes l).nodes.length (L0 (1,0,0)).cap,.slice (L0 (2,0,0)).a (dw nodes l).wires.length (L0 (2,0,0)).cap] 26)=y:=⟨_,rfl⟩;have EY:=ay hw3;obtain ⟨w4,hw4⟩:∃ y,w3.alloc (.cells (madeCells #[.slice none 0 0] nodes) 87)=y:=⟨_,rfl⟩;have j4:=ay hw4;have hl3:w2.heap.size < w3.heap.size:=by rw [<-hw3];simp
 have ze:bC 1 aW w2.heap.size w4 ⟨some ⟨w3.heap.size,0,none⟩,nodes⟩ (fun _=>⟨none,0⟩) (List.replicate nodes ([]:List Bool)):=by
  rw [<-hw4];exact bC.made rfl w2.heap.size w3 nodes _ (by omega) (by unfold maxLen;omega)
 have hM0:MO w2.heap.size w4 w2.heap.size v0 (dw nodes l) ⟨⟨none,0⟩,[],⟨none,0⟩,fun _=>⟨none,0⟩,[],⟨some ⟨w3.heap.size,0,none⟩,nodes⟩,fun _=>⟨none,0⟩,List.replicate nodes []⟩:=by
  refine ⟨Nat.le_refl _,zQ4 hl3 j4.size, ?_, ?_, ?_,fun o ho=>?_,Row.nil _ _ _,bC.nil,ze,by simp [Sl.blk],fun hb=>?_,fun hb=>?_,fun b hb=>by simp [Sl.blk] at hb,fun b hb=>?_,fun W' hF=>hX2.since ?_⟩
  ·rw [<-hv0];exact (j4.cellAt hl3 _).trans (by rw [<-hw3];simp [go_sem,fV])
  ·rw [<-hv0];exact (j4.cellAt hl3 _).trans (by rw [<-hw3];simp [go_sem,fV])
  ·rw [<-hv0];exact (j4.cellAt hl3 _).trans (by rw [<-hw3];simp [go_sem,fV])
  ·rw [j4.below.frozen (p:=⟨w2.heap.size,o,none⟩) hl3,<-hw3];have ho':o=0\/o=1\/o=2:=by omega
   rcases ho' with rfl | rfl | rfl <;> simp [go_sem]
  ·rcases hb with hb | ⟨k,hk,_⟩
   ·simp [Sl.blk] at hb
   ·simp at hk
  ·rcases hb with hb | ⟨k,hk,hb⟩
   ·unfold Sl.blk at hb;dsimp only at hb;split at hb
    ·cases hb
    ·simp at hb;omega
   ·simp [Sl.blk] at hb
  ·rcases hb with hb | ⟨k,hk,_⟩
   ·simp [Sl.blk] at hb
   ·simp at hk
  ·refine hF.aC (EY.trans j4) (fun i hi hb=>?_);rcases hb with hb | hb | hb | hb
   ·omega
   ·simp [Sl.blk] at hb
   ·rcases hb with hb | ⟨k,hk,_⟩
    ·simp [Sl.blk] at hb
    ·simp at hk
   ·have:=(ze.blk hb).1;omega
 have h24:=EY.trans j4;have hA2:=hA.since (hS1.trans dn);obtain ⟨SK,hSK⟩:∃ y:Sl,y=⟨some ⟨w3.heap.size,0,none⟩,nodes⟩:=⟨_,rfl⟩;have HSK:Hid (SK=⟨some ⟨w3.heap.size,0,none⟩,nodes⟩):=hSK;have h02:=hS1.trans dn;clear hO2 hX2 hBg hGE ze
 go_wp2
 clear hw3 hw4 hm1 JE
 go_loopw [11,12,14] (fun s11 s12 s14 wr=>∃ (k:Nat) (v:WV) (M:MM),k<=acts.length/\s14=.int .i64 k/\s11=.slice M.al.a M.all.length M.al.cap/\s12=.slice M.sh.a M.ah.length M.sh.cap/\MO w2.heap.size wr w2.heap.size v (rcD nodes l (acts.take k)).d M/\RcM (rcD nodes l (acts.take k)) SK M/\Since w2 wr) (fun _ _ s14 _=>acts.length - (intOf s14).toNat)
 case atStart=>exact ⟨0,v0,_,Nat.zero_le _,rfl,rfl,rfl,hM0,⟨rfl,rfl,rfl,hSK.symm⟩,h24⟩
 case round =>
  obtain ⟨wo,rfl⟩:∃ wo,wo=wr:=⟨_,rfl⟩;obtain ⟨k,⟨ga,gl,gc,na,nl,nc,wa,wl,wc⟩,⟨⟨ala,alc⟩,all,⟨sha,shc⟩,rh,ah,sk,rk,kn⟩,hk,rfl,rfl,rfl,hMO,hRC,hSr⟩:=hrel;dsimp only;clear hM0;by_cases hlt:k < acts.length
  ·obtain ⟨x,hx⟩:∃ x,acts[k]? = some x:=⟨_,zQ1 hlt⟩;obtain ⟨bA,oA,rfl,hbA,hcA⟩:=hA2.cells (by omega);obtain ⟨e0,e1,e2,e3⟩:=hcA k x hx;have e0:=(hSr.cellAt hbA _).trans e0;have e1:=(hSr.cellAt hbA _).trans e1;have e2:=(hSr.cellAt hbA _).trans e2;have e3:=(hSr.cellAt hbA _).trans e3;obtain ⟨NA,Qa,hlen1⟩:=oo.out k;have ND:=TF.out k;obtain ⟨r,hr⟩:∃ y,rcD nodes l (acts.take k)=y:=⟨_,rfl⟩
   have HN0:Hid (rcD nodes l (acts.take (k+1))=jX r x):=by
    unfold Hid;rw [<-hr,List.take_add_one,hx];unfold rcD;rw [List.foldl_append];rfl
   rw [hr] at hMO hRC NA hlen1 ND;have HRL:=(show Hid _ from NA);have HIV:=(show Hid _ from Qa);have HRC:=(show Hid _ from hRC);have TG:=(show Hid _ from hlen1);have xJ:Hid (all=r.all):=hRC.1;have HAH:Hid (ah=r.ahead):=hRC.2.1;have HKN:Hid (kn=r.known):=hRC.2.2.1;have HSE:Hid (sk=SK):=hRC.2.2.2;have Rp:=(show Hid _ from ND);have n1:(k:Int) < (acts.length:Int):=by omega
   obtain ⟨w5,hw5⟩:∃ y,wo.alloc (.cells #[.int .i64 x.kind,.int .i64 x.one,.int .i64 x.two,.string x.body] 58)=y:=⟨_,rfl⟩;have hS5:=ay hw5;have hl5:wo.heap.size < w5.heap.size:=by rw [<-hw5];simp
   have hAc:OE w5 wo.heap.size 0 x:=by rw [<-hw5];constructor <;> simp [go_sem]
   have Gw:=hMO.since hS5;have k0:=hAc.c0;have k1:=hAc.c1;have k2:=hAc.c2;have k3:=hAc.c3;simp only [Nat.zero_add] at k1 k2 k3;have Rq:=hSr.trans hS5;clear hcA hx NA Qa hlen1 ND hRC hr;by_cases h4:x.kind=4
   ·have hb4:(x.kind == 4)=true:=by simpa using h4
    have HNX:Hid (rcD nodes l (acts.take (k+1))=r):=by unfold Hid;rw [HN0.out];exact J2 (.inl h4)
    clear h4
    go_wp2_with fail
    exact ⟨⟨k+1,⟨ga,gl,gc,na,nl,nc,wa,wl,wc⟩,⟨⟨ala,alc⟩,all,⟨sha,shc⟩,rh,ah,sk,rk,kn⟩,by omega,by go_num,rfl,rfl,by rw [HNX.out];exact Gw,by rw [HNX.out];exact HRC.out,Rq⟩,by simp [intOf];omega⟩
   ·have hb4:(x.kind == 4)=false:=by simpa using h4
    have c0:=Gw.c0;have c1:=Gw.c1;have c2:=Gw.c2;dsimp only at c0 c1 c2;have hDo:=Ll ⟨ga,gl,gc,na,nl,nc,wa,wl,wc⟩ r.d x w5 Gw.wAt;unfold acV at hDo;dsimp only at hDo;obtain ⟨res,hres⟩:∃ y,doD r.d x=y:=⟨_,rfl⟩;rw [hres] at hDo
    go_wp2_with fail
    refine hDo.mono ?_;rintro e w6 hR6;clear hDo e0 e1 e2 e3 hw5
    cases res with
    | error er =>
     obtain ⟨rfl,hS6⟩:=hR6.out.1 er rfl;dsimp only;have her:(er != 0)=true:=by simpa using JA hres
     have HNX:Hid (rcD nodes l (acts.take (k+1))=r):=by unfold Hid;rw [HN0.out];exact J2 (.inr ⟨er,hres⟩)
     have Ea:=(Gw.since hS6).since ((Since.refl w6).alloc (.cells #[.slice none 0 0,.slice none 0 0,.slice none 0 0] 26));have Pf:=(Rq.trans hS6).trans ((Since.refl w6).alloc (.cells #[.slice none 0 0,.slice none 0 0,.slice none 0 0] 26));clear hres h4 c0 c1 c2
     go_wp2_with fail
     exact ⟨⟨k+1,⟨ga,gl,gc,na,nl,nc,wa,wl,wc⟩,⟨⟨ala,alc⟩,all,⟨sha,shc⟩,rh,ah,sk,rk,kn⟩,by omega,by go_num,rfl,rfl,by rw [HNX.out];exact Ea,by rw [HNX.out];exact HRC.out,Pf⟩,by simp [intOf];omega⟩
    | ok d' =>
     obtain ⟨L',rfl,hO6,hS6⟩:=hR6.out.2 d' rfl;simp only [aS];obtain ⟨w7,hw7⟩:∃ y,w6.alloc (.cells #[.slice (L' (0,0,0)).a d'.groups.length (L' (0,0,0)).cap,.slice (L' (1,0,0)).a d'.nodes.length (L' (1,0,0)).cap,.slice (L' (2,0,0)).a d'.wires.length (L' (2,0,0)).cap] 26)=y:=⟨_,rfl⟩;have hS7:=ay hw7;have hl7:w6.heap.size < w7.heap.size:=by rw [<-hw7];simp
     have u0:w7.cell? ⟨w6.heap.size,0,none⟩=some (.slice (L' (0,0,0)).a d'.groups.length (L' (0,0,0)).cap):=by rw [<-hw7];simp [go_sem]
     have u1:w7.cell? ⟨w6.heap.size,1,none⟩=some (.slice (L' (1,0,0)).a d'.nodes.length (L' (1,0,0)).cap):=by rw [<-hw7];simp [go_sem]
     have u2:w7.cell? ⟨w6.heap.size,2,none⟩=some (.slice (L' (2,0,0)).a d'.wires.length (L' (2,0,0)).cap):=by rw [<-hw7];simp [go_sem]
     have h57:=hS6.trans hS7;have hO7:=hO6.since hS7;have Vv:Hid (∀ b,gF d' L' b->b < w6.heap.size):=fun b hb=>(hO6.blk hb).2;have Ea:=Gw.since h57;have Pf:=Rq.trans h57;have BS:OE w7 wo.heap.size 0 x:=⟨(h57.cellAt hl5 _).trans hAc.c0,(h57.cellAt hl5 _).trans hAc.c1,(h57.cellAt hl5 _).trans hAc.c2,(h57.cellAt hl5 _).trans hAc.c3⟩;have NG:=Dj hres h4
     have HS1:Hid (x.kind=1\/x.kind=2->∃ n:Nat,x.one=(n:Int)/\n < r.d.nodes.length/\d'.nodes.length=r.d.nodes.length):=fun hk=>by
      have e:=HRL.out.d;rw [e] at hres ⊢;obtain ⟨n,q1,q2,q3,_,_⟩:=zn HIV.out hres hk;exact ⟨n,q1,q2,q3⟩
     have HS3:Hid (x.kind=3->∃ (f t:Nat) (m:Mg) (rest:List Mg),x.one=(f:Int)/\x.two=(t:Int)/\f < r.d.nodes.length/\t < r.d.nodes.length/\Right r.d/\aA r.d f t=m::rest):=fun hk=>by
      have e:=HRL.out.d;rw [e] at hres ⊢;obtain ⟨f,t,m,rest,q1,q2,q3,q4,q5,_,q6,_,_⟩:=zG HIV.out hres hk;exact ⟨f,t,m,rest,q1,q2,q3,q4,q5,q6⟩
     have HRS:=(show Hid _ from hres);clear hres c0 c1 c2 hR6 Gw hO6;obtain ⟨kind,one,two,body⟩:=x;dsimp only at BS hb4 h4 NG HS1 HS3 HRS k0 k1 k2 k3;by_cases h3:kind=3
     ·subst h3;obtain ⟨f,t,m,rest,rfl,rfl,hf,ht,hRt,Co⟩:=HS3.out rfl;have hWo:=Ea.wAt;have hwl:=hWo.r.hlen;dsimp only at hwl;subst hwl;have hfl:f < r.d.wires.length:=by rw [hRt.uF];exact hf
      obtain ⟨row,hrow,hrl⟩:=row_of hRt.rows hf;obtain ⟨lst,Mt,hwl⟩:=JB hfl hrow (b:=t) (by omega);rw [Co] at hwl;subst hwl;obtain ⟨bw,ow,e,hbw,hcw⟩:=hWo.r.cells (by dsimp only;omega);dsimp only at e;subst e;obtain ⟨v1,x1,ra,rc,rfl,hrc,hRr⟩:=hcw f row hrow;obtain ⟨br,orr,e,hbr,hcr⟩:=hRr.cells (by omega);subst e;obtain ⟨v2,x2,la,lc,rfl,hlc,hMl⟩:=hcr t _ Mt;obtain ⟨bm,om,e,hbm,hcm⟩:=hMl.cells (by simp);subst e;have hmA:=bP hcm 0 m rfl;simp only [Nat.zero_mul,Nat.add_zero] at hmA;have i1:(f:Int) < (r.d.wires.length:Int):=by omega
      have i2:(t:Int) < (row.length:Int):=by omega
      have i3:(0:Int) < ((rest.length+1:Nat):Int):=by omega
      have c2:=Ea.c2;dsimp only at c2;have l7:wo.heap.size < w7.heap.size:=zQ4 hl5 h57.size;have hq7:=Ea.qh;have kk0:=BS.c0;have kk1:=BS.c1;have kk2:=BS.c2;simp only [Nat.zero_add] at kk1 kk2
      have J3:Hid (jX r ⟨3,f,t,body⟩={ r with d:=d',known:=r.known.set t (iM r.all m (r.known[t]?.getD [])) }):=by
       unfold Hid jX;rw [if_neg (by simp),HRS.out];simp only [if_true,Int.toNat_natCast,Co]
      obtain ⟨eu,AQ⟩:∃ y,kn[t]? = some y:=⟨_,zQ1 (by rw [HKN.out,HRL.out.IK];exact ht)⟩;have HKR:Hid (kn[t]? = some eu):=AQ;have HKL:Hid (eu.length=all.length):=by unfold Hid;rw [xJ.out];exact HRL.out.eu t eu (by rw [<-HKN.out];exact AQ)
      have HTN:Hid (t < nodes):=by unfold Hid;rw [<-Rp.out];exact ht
      clear hWo hcw hcr hcm hrow Mt hRr hMl hRt Co HS1 HS3 AQ k0 k1 k2 k3 NG h4 hb4 hlc hrc
      go_wp2_with fail
      obtain ⟨W0,hW0⟩:∃ y,w7.drew=y:=⟨_,rfl⟩;have hs0:=aQ hW0;obtain ⟨S0,hS0⟩:∃ S0:World->Prop,∀ w',S0 w'↔Since w7 w':=⟨_,fun _=>Iff.rfl⟩;have p2:∀ y:ak S0,y.w.cell? ⟨w2.heap.size,2,none⟩=some (.slice (some ⟨bw,ow,none⟩) r.d.wires.length wc):=fun y=>(((hS0 _).1 y.h).cellAt hq7 _).trans c2;have a1:∀ y:ak S0,y.w.cell? ⟨wo.heap.size,1,none⟩=some (.int .i64 f):=fun y=>(((hS0 _).1 y.h).cellAt l7 _).trans kk1;have a2:∀ y:ak S0,y.w.cell? ⟨wo.heap.size,2,none⟩=some (.int .i64 t):=fun y=>(((hS0 _).1 y.h).cellAt l7 _).trans kk2;have y4:∀ y:ak S0,y.w.cell? ⟨bw,ow+f,none⟩=some (.slice (some ⟨br,orr,none⟩) row.length rc):=fun y=>(((hS0 _).1 y.h).cellAt hbw _).trans x1;have y5:∀ y:ak S0,y.w.cell? ⟨br,orr+t,none⟩=some (.slice (some ⟨bm,om,none⟩) (rest.length+1) lc):=fun y=>(((hS0 _).1 y.h).cellAt hbr _).trans x2;have m0:∀ y:ak S0,y.w.cell? ⟨bm,om,none⟩=some (.int .i64 m.fr):=fun y=>(((hS0 _).1 y.h).cellAt hbm _).trans hmA.c0;have m1:∀ y:ak S0,y.w.cell? ⟨bm,om+1,none⟩=some (.int .i64 m.gr):=fun y=>(((hS0 _).1 y.h).cellAt hbm _).trans hmA.c1;have m2:∀ y:ak S0,y.w.cell? ⟨bm,om+2,none⟩=some (.int .i64 m.st):=fun y=>(((hS0 _).1 y.h).cellAt hbm _).trans hmA.c2;have m3:∀ y:ak S0,y.w.cell? ⟨bm,om+3,none⟩=some (.bool m.nul):=fun y=>(((hS0 _).1 y.h).cellAt hbm _).trans hmA.c3;have m4:∀ y:ak S0,y.w.cell? ⟨bm,om+4,none⟩=some (.string m.body):=fun y=>(((hS0 _).1 y.h).cellAt hbm _).trans hmA.c4;have au:=(hS0 W0).2 hs0;have hne:Nonempty (ak S0):=⟨⟨_,au⟩⟩;have dH:=aI w;obtain ⟨w8,hw8⟩:∃ y,W0.alloc (.cells #[.int .i64 m.fr,.int .i64 m.gr,.int .i64 m.st,.bool m.nul,.string m.body] 42)=y:=⟨_,rfl⟩;have Gx:=ay hw8;have hM8:j5 w8 W0.heap.size m:=by rw [<-hw8];exact j5.new W0 _ m
      refine aK (fun w'=>∃ x:ak S0,w'=x.w) (by kernel_rfl) ?_;rw [hW0];clear hW0;refine tW 0 rfl ?_;go_big_quiet_op;refine tM 1 rfl (aj au) ?_;go_big_quiet_op;refine tW 2 rfl ?_;go_big_quiet_op;refine tM 3 rfl (aj au) ?_;go_big_quiet_op;refine tW 4 rfl ?_;go_big_quiet_op;refine tM 5 rfl (aj au) ?_;go_big_quiet_op;refine tW 6 rfl ?_;go_big_quiet_op;refine tM 7 rfl (aj au) ?_;go_big_quiet_op;refine tW 8 rfl ?_;go_big_quiet_op;refine tM 9 rfl (aj au) ?_;go_big_quiet_op;refine tW 10 rfl ?_;go_big_quiet_op;refine tM 11 rfl (aj au) ?_;go_big_quiet_op;refine aR 12 rfl (by kernel_rfl) ?_;intro K hK;go_simp;refine hK _ _ (fun _ _=>aj ((hS0 _).2 (hs0.alloc _))) ?_;clear hK K;refine aR 13 rfl (by kernel_rfl) ?_;intro K hK;go_simp;refine hK _ _ (fun h=>absurd h (by decide +kernel)) ?_;clear hK K;refine bH (by kernel_rfl) ?_;clear p2 a1 a2 y4 y5 m0 m1 m2 m3 m4 hne au hS0 hw8;have h78:=hs0.trans Gx;have TH:=Ea.since h78;have Vw:w7.heap.size<=W0.heap.size:=hs0.size;have Vx:=Pf.trans h78;have h68:w6.heap.size < w8.heap.size:=zQ4 hl7 h78.size;have h56:w5.heap.size<=w6.heap.size:=hS6.size;have TI:=hM8.lt
      have HST:Hid (∀ y,Fr (fun b=>b < wo.heap.size) w8 y->bF y W0.heap.size 0 m/\y.cell? ⟨wo.heap.size,2,none⟩=some (.int .i64 t)/\(y.cell? ⟨w6.heap.size,0,none⟩=some (.slice (L' (0,0,0)).a d'.groups.length (L' (0,0,0)).cap)/\y.cell? ⟨w6.heap.size,1,none⟩=some (.slice (L' (1,0,0)).a d'.nodes.length (L' (1,0,0)).cap)/\y.cell? ⟨w6.heap.size,2,none⟩=some (.slice (L' (2,0,0)).a d'.wires.length (L' (2,0,0)).cap))/\bE w5.heap.size y d' L'):=fun y hy=>by
       have hc:∀ b o,wo.heap.size<=b->b < w8.heap.size->y.cell? ⟨b,o,none⟩=w8.cell? ⟨b,o,none⟩:=fun b o h1 h2=>hy.cell (p:=⟨b,o,none⟩) h2 (fun e=>by have e':b < wo.heap.size:=e;omega);refine ⟨(hM8.fr hy (fun e=>by have e':W0.heap.size < wo.heap.size:=e;omega)).at0,(hc _ _ (Nat.le_refl _) (by omega)).trans ((h78.cellAt l7 _).trans kk2),⟨(hc _ _ (by omega) h68).trans ((h78.cellAt hl7 _).trans u0),(hc _ _ (by omega) h68).trans ((h78.cellAt hl7 _).trans u1),(hc _ _ (by omega) h68).trans ((h78.cellAt hl7 _).trans u2)⟩,(hO7.since h78).fr hy (fun b hb e=>by have:=((hO7.since h78).blk hb).1;have e':b < wo.heap.size:=e;omega)⟩
      have HMB:Hid (∀ kn',kn'.length=kn.length->∀ i,MB w2.heap.size ⟨⟨ala,alc⟩,all,⟨sha,shc⟩,rh,ah,sk,rk,kn'⟩ i->i < wo.heap.size):=fun kn' hl i hi=>by
       refine (hMO.blk (i:=i) ?_).2;rcases hi with hi | hi | hi | hi
       ·exact .inl hi
       ·exact .inr (.inl hi)
       ·exact .inr (.inr (.inl hi))
       ·rcases hi with hi | ⟨j,hj,hi⟩
        ·exact .inr (.inr (.inr (.inl hi)))
        ·exact .inr (.inr (.inr (.inr ⟨j,by rw [<-hl];exact hj,hi⟩)))
      have Qb:kn.set t eu=kn:=by
       have h1:=HKR.out;refine List.ext_getElem? fun j=>?_;rw [List.getElem?_set];by_cases e:t=j
       ·subst e;rw [if_pos rfl,if_pos (zQ2.1 h1).1,h1]
       ·rw [if_neg e]
      have Rs:all.length<=80:=by have:=TG.out;rw [<-xJ.out] at this;omega
      clear hmA x1 x2 kk0 kk1 kk2 c2 u0 u1 u2 hO7 BS Ea
      go_wp2_with fail
      go_loopw [19] (fun s19 wr=>∃ i:Nat,i<=all.length/\s19=.int .i64 i/\MO w2.heap.size wr w2.heap.size ⟨ga,gl,gc,na,nl,nc,some ⟨bw,ow,none⟩,r.d.wires.length,wc⟩ r.d ⟨⟨ala,alc⟩,all,⟨sha,shc⟩,rh,ah,sk,rk,kn.set t (ig all m eu i)⟩/\Fr (fun b=>b < wo.heap.size) w8 wr/\Since w2 wr) (fun s19 _=>all.length - (intOf s19).toNat)
      case atStart=>exact ⟨0,Nat.zero_le _,rfl,by show MO _ _ _ _ _ ⟨⟨ala,alc⟩,all,⟨sha,shc⟩,rh,ah,sk,rk,kn.set t eu⟩;rw [Qb];exact TH,Fr.refl _ _,Vx⟩
      case round =>
       obtain ⟨wi,rfl⟩:∃ wo,wo=wr:=⟨_,rfl⟩;obtain ⟨i,hi,rfl,hMi,hFi,hSi⟩:=hrel;clear TH Qb;obtain ⟨hmB,hct,hcb,hOi⟩:=HST.out wi hFi;by_cases hil:i < all.length
       ·obtain ⟨mi,hmi⟩:∃ y,all[i]? = some y:=⟨_,zQ1 hil⟩;have j1:(i:Int) < (all.length:Int):=by omega
        have uZ:=hMi.all;dsimp only at uZ;have NH:=uZ.cap;obtain ⟨ba,oa,e,_,hba,_,hxa⟩:=uZ.body (by dsimp only at NH ⊢;omega);dsimp only at e;subst e;have BU:=bP hxa i mi hmi;have hWi:=zQ4 TI hFi.size
        have HKT:Hid (ig all m eu (i+1)=if eU mi m then (ig all m eu i).set i true else ig all m eu i):=by
         unfold Hid
         conv=>lhs;unfold ig
         rw [hmi]
        have Rt:∀ y,Since wi y->Since w2 y:=fun y hy=>hSi.trans hy;cases hsm:eU mi m
        ·have hq:=yI mi m false hsm;have HK2:Hid (ig all m eu (i+1)=ig all m eu i):=by unfold Hid;rw [HKT.out,hsm];rfl
         clear hxa hmi hsm HKT uZ NH
         go_wp2_with fail
         obtain ⟨W5,hW0⟩:∃ y,wi.drew=y:=⟨_,rfl⟩;have hs5:=aQ hW0;obtain ⟨S5,hS5⟩:∃ S0:World->Prop,∀ w',S0 w'↔Since wi w':=⟨_,fun _=>Iff.rfl⟩;have g0:∀ y:ak S5,y.w.cell? ⟨ba,oa+i*5,none⟩=some (.int .i64 mi.fr):=fun y=>(((hS5 _).1 y.h).cellAt hba _).trans BU.c0;have g1:∀ y:ak S5,y.w.cell? ⟨ba,oa+i*5+1,none⟩=some (.int .i64 mi.gr):=fun y=>(((hS5 _).1 y.h).cellAt hba _).trans BU.c1;have g2:∀ y:ak S5,y.w.cell? ⟨ba,oa+i*5+2,none⟩=some (.int .i64 mi.st):=fun y=>(((hS5 _).1 y.h).cellAt hba _).trans BU.c2;have g3:∀ y:ak S5,y.w.cell? ⟨ba,oa+i*5+3,none⟩=some (.bool mi.nul):=fun y=>(((hS5 _).1 y.h).cellAt hba _).trans BU.c3;have g4:∀ y:ak S5,y.w.cell? ⟨ba,oa+i*5+4,none⟩=some (.string mi.body):=fun y=>(((hS5 _).1 y.h).cellAt hba _).trans BU.c4;have b0:∀ y:ak S5,y.w.cell? ⟨W0.heap.size,0,none⟩=some (.int .i64 m.fr):=fun y=>(((hS5 _).1 y.h).cellAt hWi _).trans hmB.c0;have b1:∀ y:ak S5,y.w.cell? ⟨W0.heap.size,1,none⟩=some (.int .i64 m.gr):=fun y=>(((hS5 _).1 y.h).cellAt hWi _).trans hmB.c1;have b2:∀ y:ak S5,y.w.cell? ⟨W0.heap.size,2,none⟩=some (.int .i64 m.st):=fun y=>(((hS5 _).1 y.h).cellAt hWi _).trans hmB.c2;have b3:∀ y:ak S5,y.w.cell? ⟨W0.heap.size,3,none⟩=some (.bool m.nul):=fun y=>(((hS5 _).1 y.h).cellAt hWi _).trans hmB.c3;have b4:∀ y:ak S5,y.w.cell? ⟨W0.heap.size,4,none⟩=some (.string m.body):=fun y=>(((hS5 _).1 y.h).cellAt hWi _).trans hmB.c4;have j6:=(hS5 W5).2 hs5;have hne:Nonempty (ak S5):=⟨⟨_,j6⟩⟩;have dH:=aI w;refine aK (fun w'=>∃ x:ak S5,w'=x.w) (by kernel_rfl) ?_;rw [hW0];clear hW0;refine tW 0 rfl ?_;go_big_quiet_op;refine tW 1 rfl ?_;go_big_quiet_op;refine tW 2 rfl ?_;go_big_quiet_op;refine tM 3 rfl (aj j6) ?_;go_big_quiet_op;refine tM 4 rfl (aj j6) ?_;go_big_quiet_op;refine tW 5 rfl ?_;go_big_quiet_op;refine bH (by kernel_rfl) ?_;clear g0 g1 g2 g3 g4 b0 b1 b2 b3 b4 hne j6 hS5 hq
         go_wp2_with fail
         exact ⟨⟨i+1,by omega,by go_num,by rw [HK2.out];exact hMi.since hs5,hFi.trans (hs5.fr fun _=>False) (fun _ _ f=>f) (fun _ _ f=>f.elim),hSi.trans hs5⟩,by simp [intOf];omega⟩
        ·have hq:=yI mi m true hsm;have HK2:Hid (ig all m eu (i+1)=(ig all m eu i).set i true):=by unfold Hid;rw [HKT.out,hsm];rfl
         clear hxa hmi hsm HKT uZ NH
         go_wp2_with fail
         obtain ⟨W5,hW0⟩:∃ y,wi.drew=y:=⟨_,rfl⟩;have hs5:=aQ hW0;obtain ⟨S5,hS5⟩:∃ S0:World->Prop,∀ w',S0 w'↔Since wi w':=⟨_,fun _=>Iff.rfl⟩;have g0:∀ y:ak S5,y.w.cell? ⟨ba,oa+i*5,none⟩=some (.int .i64 mi.fr):=fun y=>(((hS5 _).1 y.h).cellAt hba _).trans BU.c0;have g1:∀ y:ak S5,y.w.cell? ⟨ba,oa+i*5+1,none⟩=some (.int .i64 mi.gr):=fun y=>(((hS5 _).1 y.h).cellAt hba _).trans BU.c1;have g2:∀ y:ak S5,y.w.cell? ⟨ba,oa+i*5+2,none⟩=some (.int .i64 mi.st):=fun y=>(((hS5 _).1 y.h).cellAt hba _).trans BU.c2;have g3:∀ y:ak S5,y.w.cell? ⟨ba,oa+i*5+3,none⟩=some (.bool mi.nul):=fun y=>(((hS5 _).1 y.h).cellAt hba _).trans BU.c3;have g4:∀ y:ak S5,y.w.cell? ⟨ba,oa+i*5+4,none⟩=some (.string mi.body):=fun y=>(((hS5 _).1 y.h).cellAt hba _).trans BU.c4;have b0:∀ y:ak S5,y.w.cell? ⟨W0.heap.size,0,none⟩=some (.int .i64 m.fr):=fun y=>(((hS5 _).1 y.h).cellAt hWi _).trans hmB.c0;have b1:∀ y:ak S5,y.w.cell? ⟨W0.heap.size,1,none⟩=some (.int .i64 m.gr):=fun y=>(((hS5 _).1 y.h).cellAt hWi _).trans hmB.c1;have b2:∀ y:ak S5,y.w.cell? ⟨W0.heap.size,2,none⟩=some (.int .i64 m.st):=fun y=>(((hS5 _).1 y.h).cellAt hWi _).trans hmB.c2;have b3:∀ y:ak S5,y.w.cell? ⟨W0.heap.size,3,none⟩=some (.bool m.nul):=fun y=>(((hS5 _).1 y.h).cellAt hWi _).trans hmB.c3;have b4:∀ y:ak S5,y.w.cell? ⟨W0.heap.size,4,none⟩=some (.string m.body):=fun y=>(((hS5 _).1 y.h).cellAt hWi _).trans hmB.c4;have j6:=(hS5 W5).2 hs5;have hne:Nonempty (ak S5):=⟨⟨_,j6⟩⟩;have dH:=aI w;refine aK (fun w'=>∃ x:ak S5,w'=x.w) (by kernel_rfl) ?_;rw [hW0];clear hW0;refine tW 0 rfl ?_;go_big_quiet_op;refine tW 1 rfl ?_;go_big_quiet_op;refine tW 2 rfl ?_;go_big_quiet_op;refine tM 3 rfl (aj j6) ?_;go_big_quiet_op;refine tM 4 rfl (aj j6) ?_;go_big_quiet_op;refine tW 5 rfl ?_;go_big_quiet_op;refine bH (by kernel_rfl) ?_;clear g0 g1 g2 g3 g4 b0 b1 b2 b3 b4 hne j6 hS5 hq;obtain ⟨R,hR⟩:∃ y,ig all m eu i=y:=⟨_,rfl⟩;have hRl:R.length=all.length:=by rw [<-hR,vP,HKL.out]
         have hM5:=hMi.since hs5;rw [hR] at hM5;have hk5:=hM5.kn;dsimp only at hk5;have htl:t < kn.length:=(zQ2.1 HKR.out).1;have hgt:(kn.set t R)[t]? = some R:=by rw [List.getElem?_set,if_pos rfl,if_pos htl]
         have NI:=hk5.rows t R hgt;have J4:=NI.cap;obtain ⟨bk,ok,ek,_,hbk,Qc,_⟩:=NI.body (by omega);obtain ⟨ck,hck⟩:∃ ck,rk t=⟨some ⟨bk,ok,none⟩,ck⟩:=⟨(rk t).cap,by rw [<-ek]⟩;have htop:=hk5.top;rw [HSE.out,HSK.out] at htop;obtain ⟨b',o',e',_,hb3,_,hxt⟩:=htop.body (by dsimp only;have:=HTN.out;omega);dsimp only at e';cases e'
         have qE:=hxt t (.slice (some ⟨bk,ok,none⟩) all.length ck) (by
          rw [List.getElem?_map,List.getElem?_range (by rw [List.length_set];exact htl)];simp only [Option.map_some,hgt,Option.getD_some,hck,Sl.v,hRl])
         rw [Nat.zero_add] at qE;obtain ⟨q1,q2⟩:=Qc i (by rw [hck] at J4 ⊢;dsimp only at J4 ⊢;omega);obtain ⟨uu,huu⟩:=Option.isSome_iff_exists.1 q1;have tn:(t:Int) < (nodes:Int):=by have:=HTN.out;omega
         have Pg:=(hs5.cellAt (zQ4 (zQ4 l7 (Nat.le_of_lt (Nat.lt_of_le_of_lt Vw TI))) hFi.size) _).trans hct;have hbit:=hk5.bit hgt hck (j:=i) (by omega) true;have hFb:Fr (fun b=>b=bk) W5 (W5.setCell ⟨bk,ok+i,none⟩ (.bool true)):=(Fr.refl _ _).setCell ⟨bk,ok+i,none⟩ _ (fun _=>rfl);have hblk:(rk t).blk=some bk:=by rw [hck];unfold Sl.blk;rw [if_neg (by dsimp only;rw [hck] at J4;dsimp only at J4;omega)];rfl
         have Ru:gK sk rk (kn.set t R) bk:=.inr ⟨t,by rw [List.length_set];exact htl,hblk⟩
         have hMn:=hM5.known hFb (fun i' _ e'=>e' ▸ Ru) hbit (fun b'' NJ=>.inl (by
          rcases NJ with NJ | ⟨j',hj',NJ⟩
          ·exact .inl NJ
          ·exact .inr ⟨j',by simpa using hj',NJ⟩))
         have AJ:bk < wo.heap.size:=by
          have h1:=HMB.out (kn.set t R) (by simp) bk (.inr (.inr (.inr Ru)));exact h1
         have hFn:Fr (fun b=>b < wo.heap.size) w8 (W5.setCell ⟨bk,ok+i,none⟩ (.bool true)):=(hFi.trans (hs5.fr fun _=>False) (fun _ _ f=>f) (fun _ _ f=>f.elim)).trans hFb (fun _ _ f=>f) (fun _ _ f=>by have e':_=bk:=f;rw [e'];exact AJ);have hSn:Since w2 (W5.setCell ⟨bk,ok+i,none⟩ (.bool true)):=hFb.aC (hSi.trans hs5) (fun i' hi' e'=>by have e2:i'=bk:=e';have:=(hk5.blk Ru).1;omega)
         have HMN:Hid (MO w2.heap.size (W5.setCell ⟨bk,ok+i,none⟩ (.bool true)) w2.heap.size ⟨ga,gl,gc,na,nl,nc,some ⟨bw,ow,none⟩,r.d.wires.length,wc⟩ r.d ⟨⟨some ⟨ba,oa,none⟩,alc⟩,all,⟨sha,shc⟩,rh,ah,sk,rk,kn.set t (ig all m eu (i+1))⟩):=by
          unfold Hid;rw [HK2.out,hR];have e2:(kn.set t R).set t (R.set i true)=kn.set t (R.set i true):=by simp
          rw [e2] at hMn;exact hMn
         clear hk5 NI Qc htop hxt q1 hbit hMn hgt hck hR hRl hM5 hmB hcb hOi
         go_wp2_with fail
         exact ⟨⟨i+1,by omega,by go_num,HMN.out,hFn,hSn⟩,by simp [intOf];omega⟩
       ·obtain rfl:i=all.length:=by omega
        obtain ⟨g0,g1,g2⟩:=hcb;have d0:=hMi.c0;have d1:=hMi.c1;have d2:=hMi.c2;dsimp only at d0 d1 d2;have z0:=hMi.z 0 (by decide);have z1:=hMi.z 1 (by decide);have z2:=hMi.z 2 (by decide);obtain ⟨wP,hwP⟩:∃ y,y8 wi w2.heap.size (.slice (L' (0,0,0)).a d'.groups.length (L' (0,0,0)).cap) (.slice (L' (1,0,0)).a d'.nodes.length (L' (1,0,0)).cap) (.slice (L' (2,0,0)).a d'.wires.length (L' (2,0,0)).cap)=y:=⟨_,rfl⟩;have Vy:((wi.setCell ⟨w2.heap.size,0,none⟩ (.slice (L' (0,0,0)).a d'.groups.length (L' (0,0,0)).cap)).setCell ⟨w2.heap.size,1,none⟩ (.slice (L' (1,0,0)).a d'.nodes.length (L' (1,0,0)).cap)).setCell ⟨w2.heap.size,2,none⟩ (.slice (L' (2,0,0)).a d'.wires.length (L' (2,0,0)).cap)=wP:=hwP
        have hMP:=hMi.world (u:=fV L' d') (d':=d') (fun W'' hF=>(hOi.fr hF (fun b hb hm=>by
         have h1:=(hOi.blk hb).1;have h2:=HMB.out _ (by simp) b hm;omega)).wat) hwP
        have hSP:Since w2 wP:=by
         rw [<-hwP];exact (dN _ _ _ _ _).aC hSi (fun i' hi' e'=>by have e2:i'=w2.heap.size:=e';omega)
        have HNX:Hid (rcD nodes l (acts.take (k+1))={ r with d:=d',known:=r.known.set t (iM r.all m (r.known[t]?.getD [])) }):=by unfold Hid;rw [HN0.out,J3.out]
        have HMP:Hid (MO w2.heap.size wP w2.heap.size (fV L' d') (rcD nodes l (acts.take (k+1))).d ⟨⟨ala,alc⟩,all,⟨sha,shc⟩,rh,ah,sk,rk,kn.set t (iM all m eu)⟩/\RcM (rcD nodes l (acts.take (k+1))) SK ⟨⟨ala,alc⟩,all,⟨sha,shc⟩,rh,ah,sk,rk,kn.set t (iM all m eu)⟩):=by
         unfold Hid;rw [HNX.out];rw [I7 all m eu HKL.out] at hMP;refine ⟨hMP,xJ.out,HAH.out, ?_,HSE.out⟩;show kn.set t (iM all m eu)=r.known.set t (iM r.all m (r.known[t]?.getD []));rw [<-HKN.out,HKR.out,<-xJ.out];rfl
        clear hMi hMP hwP hOi hmB HST HMB
        go_wp2_with fail
        exact ⟨⟨k+1,fV L' d',⟨⟨ala,alc⟩,all,⟨sha,shc⟩,rh,ah,sk,rk,kn.set t (iM all m eu)⟩,by omega,by go_num,rfl,rfl,HMP.out.1,HMP.out.2,hSP⟩,by simp [intOf];omega⟩
     ·have Lr:kind=1\/kind=2:=by omega
      have hb3:(kind == 3)=false:=by simpa using h3
      obtain ⟨n,rfl,hn1,hdl⟩:=HS1.out Lr;obtain ⟨nd,hnd⟩:∃ y,d'.nodes[n]? = some y:=⟨_,zQ1 (by omega)⟩;have hWd:=hO7.wat;obtain ⟨bn,on,e,hbn,hcn⟩:=hWd.n.cells (by show 0 < d'.nodes.length;omega);have e2:(L' (1,0,0)).a=some ⟨bn,on,none⟩:=e;have DX:=(hcn n nd hnd).clk;have u1':=u1;rw [e2] at u1';have i1:(n:Int) < (d'.nodes.length:Int):=by omega
      have l7:wo.heap.size < w7.heap.size:=zQ4 hl5 h57.size;have kk0:=BS.c0;have kk1:=BS.c1;have kk2:=BS.c2;have kk3:=BS.c3;simp only [Nat.zero_add] at kk1 kk2 kk3;dsimp only at kk0
      have J3:Hid (jX r ⟨kind,n,two,body⟩=⟨d',r.all++[⟨n,two,nd.clock,decide (kind=2),if kind=2 then ByteArray.empty else body⟩],r.ahead++[r.known[n]?.getD []],(List.range r.known.length).map fun i=>(r.known[i]?.getD [])++[decide (i=n)]⟩):=by
       unfold Hid jX;rw [if_neg (by exact h4),HRS.out];simp only [h3,if_false,Int.toNat_natCast];unfold eB;simp only [Int.toNat_natCast];have:aJ d' n=nd.clock:=by unfold aJ;rw [hnd]
       rw [this]
      have HNN:Hid (n < nodes):=by unfold Hid;rw [<-Rp.out];exact hn1
      clear HS1 HS3 NG hWd hcn hnd e h3 h4 hb4 k0 k1 k2 k3 e2 hdl;obtain ⟨mm,hmm⟩:∃ y:Mg,y=⟨n,two,nd.clock,decide (kind=2),if kind=2 then ByteArray.empty else body⟩:=⟨_,rfl⟩;rw [<-hmm] at J3;have HMM:Hid (mm=⟨n,two,nd.clock,decide (kind=2),if kind=2 then ByteArray.empty else body⟩):=hmm;clear hmm;rcases Lr with rfl | rfl
      case' inl =>
       go_wp2_with fail
       obtain ⟨W0,hW0⟩:∃ y,w7.drew=y:=⟨_,rfl⟩;have hs0:=aQ hW0;obtain ⟨S0,hS0⟩:∃ S0:World->Prop,∀ w',S0 w'↔Since w7 w':=⟨_,fun _=>Iff.rfl⟩;have a0:∀ y:ak S0,y.w.cell? ⟨wo.heap.size,0,none⟩=some (.int .i64 1):=fun y=>(((hS0 _).1 y.h).cellAt l7 _).trans kk0;have a1:∀ y:ak S0,y.w.cell? ⟨wo.heap.size,1,none⟩=some (.int .i64 n):=fun y=>(((hS0 _).1 y.h).cellAt l7 _).trans kk1;have a2:∀ y:ak S0,y.w.cell? ⟨wo.heap.size,2,none⟩=some (.int .i64 two):=fun y=>(((hS0 _).1 y.h).cellAt l7 _).trans kk2;have p1:∀ y:ak S0,y.w.cell? ⟨w6.heap.size,1,none⟩=some (.slice (some ⟨bn,on,none⟩) d'.nodes.length (L' (1,0,0)).cap):=fun y=>(((hS0 _).1 y.h).cellAt hl7 _).trans u1';have p2:∀ y:ak S0,y.w.cell? ⟨bn,on+n*4,none⟩=some (.int .i64 nd.clock):=fun y=>(((hS0 _).1 y.h).cellAt hbn _).trans DX;have au:=(hS0 W0).2 hs0;have hne:Nonempty (ak S0):=⟨⟨_,au⟩⟩;have dH:=aI w;refine aK (fun w'=>∃ x:ak S0,w'=x.w) (by kernel_rfl) ?_;rw [hW0];clear hW0;refine tW 0 rfl ?_;go_big_quiet_op;refine tM 1 rfl (aj au) ?_;go_big_quiet_op;refine tW 2 rfl ?_;go_big_quiet_op;refine tM 3 rfl (aj au) ?_;go_big_quiet_op;refine tW 4 rfl ?_;go_big_quiet_op;refine tM 5 rfl (aj au) ?_;go_big_quiet_op;refine tW 6 rfl ?_;go_big_quiet_op;refine tM 7 rfl (aj au) ?_;go_big_quiet_op;refine tW 8 rfl ?_;go_big_quiet_op;refine tW 9 rfl ?_;go_big_quiet_op;refine tM 10 rfl (aj au) ?_;go_big_quiet_op;refine tW 11 rfl ?_;go_big_quiet_op;refine tM 12 rfl (aj au) ?_;go_big_quiet_op;refine tW 13 rfl ?_;go_big_quiet_op;refine tW 14 rfl ?_;go_big_quiet_op;refine aR 15 rfl (by kernel_rfl) ?_;intro K hK;go_simp;refine hK _ _ (fun _ _=>aj ((hS0 _).2 (hs0.alloc _))) ?_;clear hK K;refine aR 16 rfl (by kernel_rfl) ?_;intro K hK;go_simp;refine hK _ _ (fun h=>absurd h (by decide +kernel)) ?_;clear hK K;refine bH (by kernel_rfl) ?_;clear a0 a1 a2 p1 p2 hne au hS0;obtain ⟨w8,hw8⟩:∃ y,W0.alloc (.cells #[.int .i64 n,.int .i64 two,.int .i64 nd.clock,.bool false,.string ⟨#[]⟩] 42)=y:=⟨_,rfl⟩;rw [hw8];have Gx:=ay hw8;have hM8:j5 w8 W0.heap.size ⟨n,two,nd.clock,false,⟨#[]⟩⟩:=by rw [<-hw8];exact j5.new W0 _ ⟨n,two,nd.clock,false,⟨#[]⟩⟩
       have zf4:w8.frozen? ⟨W0.heap.size,4,none⟩=false:=by rw [<-hw8];simp [go_sem]
       clear hw8;obtain ⟨w9,hw9⟩:∃ y,w8.setCell ⟨W0.heap.size,4,none⟩ (.string body)=y:=⟨_,rfl⟩
       have hM9:j5 w9 W0.heap.size ⟨n,two,nd.clock,false,body⟩:=by
        rw [<-hw9];exact ⟨by simpa using hM8.lt,⟨(bJ _ _ _ (by decide)).trans hM8.at0.c0,(bJ _ _ _ (by decide)).trans hM8.at0.c1,(bJ _ _ _ (by decide)).trans hM8.at0.c2,(bJ _ _ _ (by decide)).trans hM8.at0.c3,kK _ _ _ _ hM8.at0.c4⟩⟩
       have h79:Since w7 w9:=by
        rw [<-hw9];exact ((hs0.trans Gx).fr (fun b=>b=W0.heap.size)).trans (show Fr (fun b=>b=W0.heap.size) w8 _ from (Fr.refl _ _).setCell ⟨W0.heap.size,4,none⟩ _ (fun _=>rfl)) (fun _ _ f=>f) (fun _ _ f=>f) |>.since (fun i hi e=>by have:=hs0.size;omega)
       have q3:=hM8.at0.c3;have q4:=hM8.at0.c4;have kb3:=((hs0.trans Gx).cellAt l7 _).trans kk3;simp only [Nat.zero_add] at q3 q4;have hM9:j5 w9 W0.heap.size mm:=by rw [HMM.out];simpa using hM9
       go_upto_region 27 with fail
       clear q3 q4 kb3 zf4 hw9 hM8 Gx
      case' inr =>
       go_wp2_with fail
       obtain ⟨W0,hW0⟩:∃ y,w7.drew=y:=⟨_,rfl⟩;have hs0:=aQ hW0;obtain ⟨S0,hS0⟩:∃ S0:World->Prop,∀ w',S0 w'↔Since w7 w':=⟨_,fun _=>Iff.rfl⟩;have a0:∀ y:ak S0,y.w.cell? ⟨wo.heap.size,0,none⟩=some (.int .i64 2):=fun y=>(((hS0 _).1 y.h).cellAt l7 _).trans kk0;have a1:∀ y:ak S0,y.w.cell? ⟨wo.heap.size,1,none⟩=some (.int .i64 n):=fun y=>(((hS0 _).1 y.h).cellAt l7 _).trans kk1;have a2:∀ y:ak S0,y.w.cell? ⟨wo.heap.size,2,none⟩=some (.int .i64 two):=fun y=>(((hS0 _).1 y.h).cellAt l7 _).trans kk2;have p1:∀ y:ak S0,y.w.cell? ⟨w6.heap.size,1,none⟩=some (.slice (some ⟨bn,on,none⟩) d'.nodes.length (L' (1,0,0)).cap):=fun y=>(((hS0 _).1 y.h).cellAt hl7 _).trans u1';have p2:∀ y:ak S0,y.w.cell? ⟨bn,on+n*4,none⟩=some (.int .i64 nd.clock):=fun y=>(((hS0 _).1 y.h).cellAt hbn _).trans DX;have au:=(hS0 W0).2 hs0;have hne:Nonempty (ak S0):=⟨⟨_,au⟩⟩;have dH:=aI w;refine aK (fun w'=>∃ x:ak S0,w'=x.w) (by kernel_rfl) ?_;rw [hW0];clear hW0;refine tW 0 rfl ?_;go_big_quiet_op;refine tM 1 rfl (aj au) ?_;go_big_quiet_op;refine tW 2 rfl ?_;go_big_quiet_op;refine tM 3 rfl (aj au) ?_;go_big_quiet_op;refine tW 4 rfl ?_;go_big_quiet_op;refine tM 5 rfl (aj au) ?_;go_big_quiet_op;refine tW 6 rfl ?_;go_big_quiet_op;refine tM 7 rfl (aj au) ?_;go_big_quiet_op;refine tW 8 rfl ?_;go_big_quiet_op;refine tW 9 rfl ?_;go_big_quiet_op;refine tM 10 rfl (aj au) ?_;go_big_quiet_op;refine tW 11 rfl ?_;go_big_quiet_op;refine tM 12 rfl (aj au) ?_;go_big_quiet_op;refine tW 13 rfl ?_;go_big_quiet_op;refine tW 14 rfl ?_;go_big_quiet_op;refine aR 15 rfl (by kernel_rfl) ?_;intro K hK;go_simp;refine hK _ _ (fun _ _=>aj ((hS0 _).2 (hs0.alloc _))) ?_;clear hK K;refine aR 16 rfl (by kernel_rfl) ?_;intro K hK;go_simp;refine hK _ _ (fun h=>absurd h (by decide +kernel)) ?_;clear hK K;refine bH (by kernel_rfl) ?_;clear a0 a1 a2 p1 p2 hne au hS0;obtain ⟨w8,hw8⟩:∃ y,W0.alloc (.cells #[.int .i64 n,.int .i64 two,.int .i64 nd.clock,.bool true,.string ⟨#[]⟩] 42)=y:=⟨_,rfl⟩;rw [hw8];have Gx:=ay hw8;have hM8:j5 w8 W0.heap.size ⟨n,two,nd.clock,true,⟨#[]⟩⟩:=by rw [<-hw8];exact j5.new W0 _ ⟨n,two,nd.clock,true,⟨#[]⟩⟩
       have zf4:w8.frozen? ⟨W0.heap.size,4,none⟩=false:=by rw [<-hw8];simp [go_sem]
       clear hw8;have h79:=hs0.trans Gx;have q3:=hM8.at0.c3;simp only [Nat.zero_add] at q3;obtain ⟨w9,hw9⟩:∃ y,y=w8:=⟨_,rfl⟩
       have hM9:j5 w8 W0.heap.size mm:=by
        have h:=HMM.out;simp at h;rw [h];exact hM8
       go_upto_region 27 with fail
       clear q3 hM8 Gx zf4;subst hw9
      all_goals
       have TJ:=Ea.since h79;have Rt:=Pf.trans h79;have hO9:=hO7.since h79;have Xd:w7.heap.size<=w9.heap.size:=h79.size;have h56:w5.heap.size<=w6.heap.size:=hS6.size;have g0:=hM9.at0.c0;have g1:=hM9.at0.c1;have g2:=hM9.at0.c2;have g3:=hM9.at0.c3;have g4:=hM9.at0.c4;simp only [Nat.zero_add] at g1 g2 g3 g4
       have HST:Hid (∀ y,Fr (fun b=>b < wo.heap.size) w9 y->y.cell? ⟨wo.heap.size,1,none⟩=some (.int .i64 n)/\(y.cell? ⟨w6.heap.size,0,none⟩=some (.slice (L' (0,0,0)).a d'.groups.length (L' (0,0,0)).cap)/\y.cell? ⟨w6.heap.size,1,none⟩=some (.slice (L' (1,0,0)).a d'.nodes.length (L' (1,0,0)).cap)/\y.cell? ⟨w6.heap.size,2,none⟩=some (.slice (L' (2,0,0)).a d'.wires.length (L' (2,0,0)).cap))/\bE w5.heap.size y d' L'):=fun y hy=>by
        have hc:∀ b o,wo.heap.size<=b->b < w9.heap.size->y.cell? ⟨b,o,none⟩=w9.cell? ⟨b,o,none⟩:=fun b o h1 h2=>hy.cell (p:=⟨b,o,none⟩) h2 (fun e=>by have e':b < wo.heap.size:=e;omega);refine ⟨(hc _ _ (Nat.le_refl _) (by omega)).trans ((h79.cellAt l7 _).trans kk1),⟨(hc _ _ (by omega) (by omega)).trans ((h79.cellAt hl7 _).trans u0),(hc _ _ (by omega) (by omega)).trans ((h79.cellAt hl7 _).trans u1),(hc _ _ (by omega) (by omega)).trans ((h79.cellAt hl7 _).trans u2)⟩,hO9.fr hy (fun b hb e=>by have:=(hO9.blk hb).1;have e':b < wo.heap.size:=e;omega)⟩
       have Rs:all.length<=80:=by have:=TG.out;rw [<-xJ.out] at this;omega
       obtain ⟨w10,TK⟩:∃ y,w9.alloc (.cells #[.int .i64 mm.fr,.int .i64 mm.gr,.int .i64 mm.st,.bool mm.nul,.string mm.body] 42)=y:=⟨_,rfl⟩;have kS:=ay TK
       have hsrc:Src prog 5 39 (.slice (some ⟨w9.heap.size,0,none⟩) 1 1) 1 [.int .i64 mm.fr,.int .i64 mm.gr,.int .i64 mm.st,.bool mm.nul,.string mm.body] w10:=by
        rw [<-TK];exact fM (size:=5) iE.und [.int .i64 mm.fr,.int .i64 mm.gr,.int .i64 mm.st,.bool mm.nul,.string mm.body] rfl (fun u hu=>by simp at hu;rcases hu with rfl | rfl | rfl | rfl | rfl <;> rfl) 1
       have uZ:=(TJ.since kS).all;dsimp only at uZ;have Vz:w2.heap.size<=w9.heap.size:=Rt.size;have TL:w2.heap.size<=w10.heap.size:=zQ5 Vz kS.size;have HBO:Hid (∀ b,gF d' L' b->b < w6.heap.size):=Vv.out;have Qd:∀ b,MB w2.heap.size ⟨⟨ala,alc⟩,all,⟨sha,shc⟩,rh,ah,sk,rk,kn⟩ b->b < wo.heap.size:=fun b hb=>(hMO.blk hb).2;have HLB:=(show Hid _ from Qd);clear Qd u1' DX kk0 kk1 kk2 kk3 BS hO7 Ea u0 u1 u2 hO9;obtain ⟨eu,AQ⟩:∃ y,kn[n]? = some y:=⟨_,zQ1 (by rw [HKN.out,HRL.out.IK];exact hn1)⟩;have HKR:Hid (kn[n]? = some eu):=AQ;have HKL:Hid (eu.length=all.length):=by unfold Hid;rw [xJ.out];exact HRL.out.eu n eu (by rw [<-HKN.out];exact AQ)
       have hkb:eu.length<=80:=by have:=HKL.out;omega
       have tn:(n:Int) < (nodes:Int):=by have:=HNN.out;omega
       have H11:Hid (∀ mQ mR w11,Row w11 w2.heap.size 5 ⟨mQ,mR⟩ (all.length+1) (flat all++flat [mm])->Fr (fun k=>Sl.blk ⟨ala,alc⟩=some k) w10 w11->((⟨mQ,mR⟩:Sl)=⟨ala,alc⟩\/(Since w10 w11/\Sl.blk ⟨mQ,mR⟩=some w10.heap.size)) ->
         MO w2.heap.size w11 w2.heap.size ⟨ga,gl,gc,na,nl,nc,wa,wl,wc⟩ r.d ⟨⟨mQ,mR⟩,all++[mm],⟨sha,shc⟩,rh,ah,sk,rk,kn⟩/\Fr (fun b=>b < wo.heap.size) w9 w11/\Since w2 w11/\w11.cell? ⟨wo.heap.size,1,none⟩=some (.int .i64 n)/\wo.heap.size < w11.heap.size/\(∀ b,Sl.blk ⟨mQ,mR⟩=some b->b < wo.heap.size\/w9.heap.size<=b)):=by
        intro mQ mR w11 E5 Dq Ls;have yV:Fr (fun b=>b < wo.heap.size) w9 w11:=(kS.fr fun _=>False).trans Dq (fun _ _ f=>f.elim) (fun i hi e=>HLB.out i (.inr (.inl e)));have WO:w9.heap.size<=w11.heap.size:=yV.size;refine ⟨TJ.OW mm kS (al':=⟨mQ,mR⟩) E5 Dq Ls,yV,Dq.aC (Rt.trans kS) (fun i hi e=>by have:=(uZ.dJ e).2.1;omega),(HST.out w11 yV).1,by omega,fun b hb=>?_⟩;rcases Ls with e | ⟨_,e⟩
        ·rw [e] at hb;exact .inl (HLB.out b (.inr (.inl hb)))
        ·rw [e] at hb;have:=Option.some.inj hb;have:=kS.size;exact .inr (by omega)
       have H12:Hid (∀ mQ mR w11 w12,MO w2.heap.size w11 w2.heap.size ⟨ga,gl,gc,na,nl,nc,wa,wl,wc⟩ r.d ⟨⟨mQ,mR⟩,all++[mm],⟨sha,shc⟩,rh,ah,sk,rk,kn⟩->w11.alloc (.cells #[] 4)=w12 ->
         w12.cell? ⟨w3.heap.size,n,none⟩=some (.slice (rk n).a eu.length (rk n).cap)/\Row w12 w2.heap.size 1 ⟨some ⟨w11.heap.size,0,none⟩,0⟩ 0 []/\Src prog 1 87 (.slice (rk n).a eu.length (rk n).cap) eu.length (aW eu) w12):=by
        intro mQ mR w11 w12 kL Eb;have AU:=ay Eb;have Lr:=(kL.since AU).kn;dsimp only at Lr;have hkl:n < kn.length:=(zQ2.1 HKR.out).1;have htop:=Lr.top;rw [HSE.out,HSK.out] at htop;obtain ⟨b',o',e',_,hb3,_,hxt⟩:=htop.body (by dsimp only;have:=HNN.out;omega);dsimp only at e';cases e'
        have qE:=hxt n (.slice (rk n).a eu.length (rk n).cap) (by
         rw [List.getElem?_map,List.getElem?_range hkl];simp only [Option.map_some,HKR.out,Option.getD_some,Sl.v])
        rw [Nat.zero_add] at qE;exact ⟨qE,by rw [<-Eb];exact Row.empty w11 _ 1 _,Lp (Lr.rows n eu HKR.out)⟩
       have WQ:ah.length<=80:=by have h1:=HRL.out.Av;rw [<-HAH.out,<-xJ.out] at h1;omega
       have H13:Hid (∀ mQ mR w11 w12 ra' rc' w13 w14,MO w2.heap.size w11 w2.heap.size ⟨ga,gl,gc,na,nl,nc,wa,wl,wc⟩ r.d ⟨⟨mQ,mR⟩,all++[mm],⟨sha,shc⟩,rh,ah,sk,rk,kn⟩->Since w2 w11->w11.alloc (.cells #[] 4)=w12->Row w13 w2.heap.size 1 ⟨ra',rc'⟩ (0+eu.length) ([]++aW eu)->Fr (fun k=>Sl.blk ⟨some ⟨w11.heap.size,0,none⟩,0⟩=some k) w12 w13->((⟨ra',rc'⟩:Sl)=⟨some ⟨w11.heap.size,0,none⟩,0⟩\/(Since w12 w13/\Sl.blk ⟨ra',rc'⟩=some w12.heap.size))->w13.alloc (.cells #[.slice ra' eu.length rc'] 87)=w14 ->
         Row w14 w2.heap.size 1 ⟨sha,shc⟩ ah.length ((List.range ah.length).map fun k=>(rh k).v (ah[k]?.getD []).length)/\Src prog 1 83 (.slice (some ⟨w13.heap.size,0,none⟩) 1 1) 1 [.slice ra' eu.length rc'] w14/\Since w11 w14/\w2.heap.size<=w14.heap.size/\Row w14 w2.heap.size 1 ⟨ra',rc'⟩ eu.length (aW eu)/\∀ b,Sl.blk ⟨ra',rc'⟩=some b->w11.heap.size<=b):=by
        intro mQ mR w11 w12 ra' rc' w13 w14 kL CY Eb Ph Rv Rw Pj;rw [Nat.zero_add,List.nil_append] at Ph;have AU:=ay Eb;have qg:Since w12 w13:=Rv.since (fun i _ e=>by unfold Sl.blk at e;simp at e);have xC:=ay Pj;have qW:=AU.trans (qg.trans xC);have hlo:=(CY.trans qW).size;refine ⟨((kL.since qW).ah).top, ?_,qW,hlo,Ph.since xC,fun b hb=>?_⟩
        ·rw [<-Pj];exact fM (size:=1) zo.und [.slice ra' eu.length rc'] rfl (fun u hu=>by simp at hu;subst hu;rfl) 1
        ·rcases Rw with e | ⟨_,e⟩
         ·rw [e] at hb;simp [Sl.blk] at hb
         ·rw [e] at hb;have:=Option.some.inj hb;have:=AU.size;omega
       clear AQ
       go_wp2_with (first
        | (at_builtin;refine gQ iE rfl _ _ 39 rfl rfl uZ rfl hsrc (by omega) TL ?_;intro mQ mR w11 E5 Dq Ls;obtain ⟨kL,yV,CY,TM,l11,Qe⟩:=H11.out mQ mR w11 E5 Dq Ls;obtain ⟨w12,Eb⟩:∃ y,w11.alloc (.cells #[] 4)=y:=⟨_,rfl⟩;obtain ⟨qE,hRe,Qf⟩:=H12.out mQ mR w11 w12 kL Eb;have AU:Since w11 w12:=by { rw [<-Eb];exact (Since.refl w11).alloc _ };have VA:=(AU.cellAt l11 _).trans TM;have Qg:=(CY.trans AU).size)
        | (at_builtin;refine gQ xV rfl _ _ 87 rfl rfl hRe rfl Qf (by omega) Qg ?_;intro ra' rc' w13 Ph Rv Rw;obtain ⟨w14,Pj⟩:∃ y,w13.alloc (.cells #[.slice ra' eu.length rc'] 87)=y:=⟨_,rfl⟩;obtain ⟨NM,Qh,qW,Qi,Qj,hdR⟩:=H13.out mQ mR w11 w12 ra' rc' w13 w14 kL CY Eb Ph Rv Rw Pj;simp only [Nat.zero_add])
        | (at_builtin;refine gQ zo rfl _ _ 83 rfl rfl NM rfl Qh (by omega) Qi ?_;intro AV AX w15 TN Pk Rx))
       have Ry:=kL.KW qW Qj hdR (s':=⟨AV,AX⟩) TN Pk Rx;dsimp only at Ry;have Qk:Fr (fun b=>b < wo.heap.size) w9 w15:=(yV.trans (qW.fr fun _=>False) (fun _ _ f=>f) (fun _ _ f=>f.elim)).trans Pk (fun _ _ f=>f) (fun i hi e=>HLB.out i (.inr (.inr (.inl (.inl e)))));have Ql:Since w2 w15:=Pk.aC (CY.trans qW) (fun i hi e=>by have:=(NM.dJ e).2.1;omega);have WR:w9.heap.size<=w14.heap.size:=zQ5 yV.size qW.size
       have Qm:Hid (∀ b,MB w2.heap.size ⟨⟨mQ,mR⟩,all++[mm],⟨AV,AX⟩,kQ rh ah.length ⟨ra',rc'⟩,ah++[eu],sk,rk,kn⟩ b->b < wo.heap.size\/w9.heap.size<=b):=by
        intro b hb;rcases hb with hb | hb | hb | hb
        ·exact .inl (HLB.out b (.inl hb))
        ·exact Qe b hb
        ·rcases hb with hb | ⟨k',hk',hb⟩
         ·rcases Rx with e | ⟨_,e⟩
          ·have hb2:Sl.blk ⟨AV,AX⟩=some b:=hb;rw [e] at hb2;exact .inl (HLB.out b (.inr (.inr (.inl (.inl hb2)))))
          ·have hb2:Sl.blk ⟨AV,AX⟩=some b:=hb;rw [e] at hb2;have:=Option.some.inj hb2;exact .inr (by omega)
         ·have hb2:(kQ rh ah.length ⟨ra',rc'⟩ k').blk=some b:=hb;by_cases e:k'=ah.length
          ·subst e;rw [gG] at hb2;have:=hdR b hb2;have:=yV.size;exact .inr (by omega)
          ·rw [gZ _ e] at hb2;have hk2:k' < (ah++[eu]).length:=hk';rw [List.length_append] at hk2;exact .inl (HLB.out b (.inr (.inr (.inl (.inr ⟨k',by simp at hk2;show k' < ah.length;omega,hb2⟩)))))
        ·exact .inl (HLB.out b (.inr (.inr (.inr hb))))
       clear TN Pk Rx NM Qh Qj hdR hRe Qf qW kL yV CY TM l11 Qe qE VA Qg Qi H11 H12 H13 Eb uZ hsrc g0 g1 g2 g3 g4 hM9;have TP:kn.length=nodes:=by rw [HKN.out,HRL.out.IK,Rp.out]
       have TQ:=(show Hid _ from TP);clear TP
       go_loopw [21] (fun s21 wr=>∃ (j:Nat) (rk':Nat->Sl),j<=nodes/\s21=.int .i64 j/\MO w2.heap.size wr w2.heap.size ⟨ga,gl,gc,na,nl,nc,wa,wl,wc⟩ r.d ⟨⟨mQ,mR⟩,all++[mm],⟨AV,AX⟩,kQ rh ah.length ⟨ra',rc'⟩,ah++[eu],sk,rk',tJ kn n j⟩/\Fr (fun b=>b < wo.heap.size) w9 wr/\Since w2 wr/\(∀ b,MB w2.heap.size ⟨⟨mQ,mR⟩,all++[mm],⟨AV,AX⟩,kQ rh ah.length ⟨ra',rc'⟩,ah++[eu],sk,rk',tJ kn n j⟩ b->b < wo.heap.size\/w9.heap.size<=b)) (fun s21 _=>nodes - (intOf s21).toNat)
       case atStart=>exact ⟨0,rk,Nat.zero_le _,rfl,Ry,Qk,Ql,Qm.out⟩
       case round =>
        obtain ⟨wi,rfl⟩:∃ wo,wo=wr:=⟨_,rfl⟩;obtain ⟨j,rk',hj,rfl,hMi,hFi,hSi,TR⟩:=hrel;have Pm:=(show Hid _ from TR);clear Ry Qk Ql Qm TR;obtain ⟨kc1,hcb,hOi⟩:=HST.out wi hFi;have hli:w9.heap.size<=wi.heap.size:=hFi.size;by_cases hjl:j < nodes
        ·have hkj:j < kn.length:=by rw [TQ.out];exact hjl
         obtain ⟨kr,hkr⟩:∃ y,kn[j]? = some y:=⟨_,zQ1 hkj⟩;obtain ⟨KU,hKU⟩:∃ y,tJ kn n j=y:=⟨_,rfl⟩;obtain ⟨q,hq⟩:∃ y:Bool,decide (j=n)=y:=⟨_,rfl⟩;have hgU:KU[j]? = some kr:=by rw [<-hKU,AP kn n j (by omega) j,if_neg (by omega)];exact hkr
         have hjU:j < KU.length:=(zQ2.1 hgU).1
         have HKS:Hid (tJ kn n (j+1)=KU.set j (kr++[q])):=by
          unfold Hid;show (tJ kn n j).set j _=_;rw [hKU,hkr,<-hq];rfl
         rw [hKU] at hMi
         have NP:Hid (∀ b,MB w2.heap.size ⟨⟨mQ,mR⟩,all++[mm],⟨AV,AX⟩,kQ rh ah.length ⟨ra',rc'⟩,ah++[eu],sk,rk',KU⟩ b->b < wo.heap.size\/w9.heap.size<=b):=by
          rw [<-hKU];exact Pm.out
         clear hKU Pm
         have WS:kr.length<=80:=by
          have h1:=HRL.out.eu j kr (by rw [<-HKN.out];exact hkr);rw [<-xJ.out] at h1;omega
         have hki:=hMi.kn;dsimp only at hki;have Rz:sk=⟨some ⟨w3.heap.size,0,none⟩,nodes⟩:=by rw [HSE.out,HSK.out]
         have hsb:sk.blk=some w3.heap.size:=by rw [Rz];unfold Sl.blk;rw [if_neg (by dsimp only;omega)];rfl
         have htop:=hki.top;rw [Rz] at htop;obtain ⟨b',o',e',_,hb3,VB,hxt⟩:=htop.body (by dsimp only;omega);dsimp only at e';cases e'
         have qE:=hxt j (.slice (rk' j).a kr.length (rk' j).cap) (by
          rw [List.getElem?_map,List.getElem?_range hjU];simp only [Option.map_some,hgU,Option.getD_some,Sl.v])
         have zt:=(VB j (by dsimp only;omega)).2;rw [Nat.zero_add] at qE zt;have VD:=hki.rows j kr hgU;have hn3:¬ (rk' j).blk=some w3.heap.size:=fun e=>hki.apart j _ hjU e hsb;have lwi:wo.heap.size < wi.heap.size:=by omega
         have tj:(j:Int) < (nodes:Int):=by omega
         have eqq:((j:Int) == (n:Int))=q:=by rw [<-hq];exact Bool.eq_iff_iff.2 ⟨fun h=>decide_eq_true (by have:=beq_iff_eq.1 h;omega),fun h=>beq_iff_eq.2 (by have:=of_decide_eq_true h;omega)⟩
         go_wp2_with fail
         obtain ⟨W5,hW0⟩:∃ y,wi.drew=y:=⟨_,rfl⟩;have hs5:=aQ hW0;obtain ⟨S5,hS5⟩:∃ S0:World->Prop,∀ w',S0 w'↔Since wi w':=⟨_,fun _=>Iff.rfl⟩;have c1:∀ y:ak S5,y.w.cell? ⟨wo.heap.size,1,none⟩=some (.int .i64 n):=fun y=>(((hS5 _).1 y.h).cellAt lwi _).trans kc1;have kt:∀ y:ak S5,y.w.cell? ⟨w3.heap.size,j,none⟩=some (.slice (rk' j).a kr.length (rk' j).cap):=fun y=>(((hS5 _).1 y.h).cellAt hb3 _).trans qE;have j6:=(hS5 W5).2 hs5;have hne:Nonempty (ak S5):=⟨⟨_,j6⟩⟩;have dH:=aI w;obtain ⟨W6,hW6⟩:∃ y,W5.alloc (.cells #[.bool q] 4)=y:=⟨_,rfl⟩;have VE:=ay hW6;have hs6:=hs5.trans VE
         have J5:Src prog 1 87 (.slice (some ⟨W5.heap.size,0,none⟩) 1 1) 1 [.bool q] W6:=by
          rw [<-hW6];exact fM (size:=1) xV.und [.bool q] rfl (fun u hu=>by simp at hu;subst hu;rfl) 1
         have qX:=(hS5 W6).2 hs6;have Pn:=VD.since hs6;have EZ:w2.heap.size<=W6.heap.size:=(hSi.trans hs6).size;refine aK (fun w'=>∃ x:ak S5,w'=x.w) (by kernel_rfl) ?_;rw [hW0];clear hW0;refine tW 0 rfl ?_;go_big_quiet_op;refine tW 1 rfl ?_;go_big_quiet_op;refine tW 2 rfl ?_;go_big_quiet_op;refine tW 3 rfl ?_;go_big_quiet_op;refine tW 4 rfl ?_;go_big_quiet_op;refine tM 5 rfl (aj j6) ?_;go_big_quiet_op;refine tW 6 rfl ?_;go_big_quiet_op;refine tW 7 rfl ?_;go_big_quiet_op;refine tM 8 rfl (aj j6) ?_;go_big_quiet_op;refine tW 9 rfl ?_;go_big_quiet_op;refine aR 10 rfl (by kernel_rfl) ?_;intro K hK;go_simp;refine hK _ _ (fun _ _=>aj qX) ?_;clear hK K;refine aR 11 rfl (by kernel_rfl) ?_;intro K hK;refine fF xV (by rfl) _ _ 87 (by rfl) (by rfl) Pn (by rfl) J5 (by omega) EZ ?_;intro ra2 rc2 W7 hR7 hF7 hB7;have l36:w3.heap.size < W6.heap.size:=zQ4 hb3 hs6.size;have y7:=(hF7.cell (p:=⟨w3.heap.size,j,none⟩) l36 hn3).trans ((hs6.cellAt hb3 _).trans qE);have z7:=(hF7.frozen (p:=⟨w3.heap.size,j,none⟩) l36 hn3).trans ((hs6.below.frozen (p:=⟨w3.heap.size,j,none⟩) hb3).trans zt);obtain ⟨W8,hW8⟩:∃ y,W7.setCell ⟨w3.heap.size,j,none⟩ (.slice ra2 (kr.length+1) rc2)=y:=⟨_,rfl⟩;obtain ⟨hO7,hd7⟩:=(hki.since hs6).app1 hgU (r':=⟨ra2,rc2⟩) hR7 hF7 hB7
         have hO8:bC 1 aW w2.heap.size W8 sk (kQ rk' j ⟨ra2,rc2⟩) (KU.set j (kr++[q])):=by
          have h:=hO7.put hjU Rz (r:=⟨ra2,rc2⟩) (xs:=kr++[q]) (by rw [List.length_append];have e2:aW (kr++[q])=aW kr++[.bool q]:=by { unfold aW;simp };rw [e2];exact hR7) hd7;rw [Nat.zero_add,List.length_append] at h;rw [<-hW8];exact h
         have k78:Fr (fun i=>i=w3.heap.size) W7 W8:=by rw [<-hW8];exact (Fr.refl _ _).setCell ⟨w3.heap.size,j,none⟩ _ (fun _=>rfl)
         have hFk:Fr (gK sk rk' KU) wi W8:=((hs6.fr fun _=>False).trans hF7 (fun _ _ f=>f.elim) (fun _ _ e=>.inr ⟨j,hjU,e⟩)).trans k78 (fun _ _ f=>f) (fun _ _ e=>.inl (by rw [e];exact hsb))
         have hnew:∀ b,gK sk (kQ rk' j ⟨ra2,rc2⟩) (KU.set j (kr++[q])) b->gK sk rk' KU b\/wi.heap.size<=b:=fun b hb=>by
          rcases hb with hb | ⟨k',hk',hb⟩
          ·exact .inl (.inl hb)
          ·rw [List.length_set] at hk';by_cases e:k'=j
           ·subst e;rw [gG] at hb;rcases hB7 with e | ⟨_,e⟩
            ·rw [e] at hb;exact .inl (.inr ⟨k',hk',hb⟩)
            ·rw [e] at hb;have e3:=Option.some.inj hb;have:=hs6.size;exact .inr (by omega)
           ·rw [gZ _ e] at hb;exact .inl (.inr ⟨k',hk',hb⟩)
         have hM8:=hMi.known hFk (fun i _ e=>e) hO8 hnew;dsimp only at hM8;rw [<-HKS.out] at hM8;have HM8:=(show Hid _ from hM8);have HF8:Hid (Fr (fun b=>b < wo.heap.size) w9 W8):=hFi.trans hFk (fun _ _ f=>f) (fun i hi e=>(NP.out i (.inr (.inr (.inr e)))).elim id (fun h=>by omega));have HS8:Hid (Since w2 W8):=hFk.aC hSi (fun i hi e=>by have:=(hki.blk e).1;omega)
         have VF:Hid (∀ b,MB w2.heap.size ⟨⟨mQ,mR⟩,all++[mm],⟨AV,AX⟩,kQ rh ah.length ⟨ra',rc'⟩,ah++[eu],sk,kQ rk' j ⟨ra2,rc2⟩,tJ kn n (j+1)⟩ b->b < wo.heap.size\/w9.heap.size<=b):=by
          unfold Hid;rw [HKS.out];intro b hb;rcases hb with hb | hb | hb | hb
          ·exact NP.out b (.inl hb)
          ·exact NP.out b (.inr (.inl hb))
          ·exact NP.out b (.inr (.inr (.inl hb)))
          ·rcases hnew b hb with e | e
           ·exact NP.out b (.inr (.inr (.inr e)))
           ·exact .inr (by omega)
         clear hM8 hO8 hO7 hd7 hFk hnew k78 hR7 hF7 hB7 hMi;refine hK _ _ (fun h=>absurd h (by decide +kernel)) ?_;clear hK K;simp only [Act.put,zQ7,zQ8,zQ9];refine tW 12 rfl ?_;go_big_quiet_op;refine aR 13 rfl (by kernel_rfl) ?_;intro K hK;go_simp;refine hK _ _ (fun h=>absurd h (by decide +kernel)) ?_;clear hK K;refine bH (by kernel_rfl) ?_;clear c1 kt hne j6 qX hS5 hW8 hW6 y7 z7 J5 Pn qE zt
         go_wp2_with fail
         exact ⟨⟨j+1,kQ rk' j ⟨ra2,rc2⟩,by omega,by go_num,HM8.out,HF8.out,HS8.out,VF.out⟩,by simp [intOf];omega⟩
        ·have hje:j=nodes:=by omega
         subst hje;obtain ⟨g0,g1,g2⟩:=hcb;have d0:=hMi.c0;have d1:=hMi.c1;have d2:=hMi.c2;dsimp only at d0 d1 d2;have z0:=hMi.z 0 (by decide);have z1:=hMi.z 1 (by decide);have z2:=hMi.z 2 (by decide);obtain ⟨wP,hwP⟩:∃ y,y8 wi w2.heap.size (.slice (L' (0,0,0)).a d'.groups.length (L' (0,0,0)).cap) (.slice (L' (1,0,0)).a d'.nodes.length (L' (1,0,0)).cap) (.slice (L' (2,0,0)).a d'.wires.length (L' (2,0,0)).cap)=y:=⟨_,rfl⟩;have Vy:((wi.setCell ⟨w2.heap.size,0,none⟩ (.slice (L' (0,0,0)).a d'.groups.length (L' (0,0,0)).cap)).setCell ⟨w2.heap.size,1,none⟩ (.slice (L' (1,0,0)).a d'.nodes.length (L' (1,0,0)).cap)).setCell ⟨w2.heap.size,2,none⟩ (.slice (L' (2,0,0)).a d'.wires.length (L' (2,0,0)).cap)=wP:=hwP;have hbO:∀ b,gF d' L' b->b < w6.heap.size:=HBO.out
         have hMP:=hMi.world (u:=fV L' d') (d':=d') (fun W'' hF=>(hOi.fr hF (fun b hb hm=>by
          have h1:=(hOi.blk hb).1;have h2:=Pm.out b hm;have h3:=hbO b hb;omega)).wat) hwP
         have hSP:Since w2 wP:=by
          rw [<-hwP];exact (dN _ _ _ _ _).aC hSi (fun i' hi' e'=>by have e2:i'=w2.heap.size:=e';omega)
         have HNX:Hid (rcD j l (acts.take (k+1))=jX r _):=HN0.out
         have HMP:Hid (MO w2.heap.size wP w2.heap.size (fV L' d') (rcD j l (acts.take (k+1))).d ⟨⟨mQ,mR⟩,all++[mm],⟨AV,AX⟩,kQ rh ah.length ⟨ra',rc'⟩,ah++[eu],sk,rk',tJ kn n j⟩/\RcM (rcD j l (acts.take (k+1))) SK ⟨⟨mQ,mR⟩,all++[mm],⟨AV,AX⟩,kQ rh ah.length ⟨ra',rc'⟩,ah++[eu],sk,rk',tJ kn n j⟩):=by
          unfold Hid;rw [HN0.out,J3.out];refine ⟨hMP, ?_, ?_, ?_,HSE.out⟩
          ·show all++[mm]=r.all++[mm];rw [xJ.out]
          ·show ah++[eu]=r.ahead++[r.known[n]?.getD []];rw [HAH.out,<-HKN.out,HKR.out];rfl
          ·show tJ kn n j=(List.range r.known.length).map fun i=>(r.known[i]?.getD [])++[decide (i=n)];rw [<-HKN.out];have:=Nz kn n;rw [TQ.out] at this ⊢;exact this
         have HLA:Hid ((all++[mm]).length=all.length+1/\(ah++[eu]).length=ah.length+1):=by simp [Hid]
         clear hMi hMP hwP hOi HST Pm HNX
         go_wp2_with fail
         exact ⟨⟨k+1,fV L' d',⟨⟨mQ,mR⟩,all++[mm],⟨AV,AX⟩,kQ rh ah.length ⟨ra',rc'⟩,ah++[eu],sk,rk',tJ kn n j⟩,by omega,by go_num,by rw [HLA.out.1],by rw [HLA.out.2],HMP.out.1,HMP.out.2,hSP⟩,by simp [intOf];omega⟩
  ·have hke:k=acts.length:=by omega
   subst hke;rw [List.take_length] at hMO hRC;have xJ:Hid (all=(rcD nodes l acts).all):=hRC.1;have HAH:Hid (ah=(rcD nodes l acts).ahead):=hRC.2.1;have h1:=oo.out acts.length;rw [List.take_length] at h1;have HAL:Hid (ah.length=all.length):=by unfold Hid;rw [HAH.out,xJ.out];exact h1.1.Av
   have HAR:Hid (∀ (i:Nat) (x:List Bool),ah[i]? = some x->x.length=i):=fun i x hx=>h1.1.Gf i x (by rw [<-HAH.out];exact hx);have VG:all.length<=80:=by have:=h1.2.2;rw [<-xJ.out] at this;omega
   have HFC:Hid (closeAll all.length ah=iU (scD nodes l acts)/\all=(scD nodes l acts).sent):=by unfold Hid;rw [xJ.out,HAH.out];exact Dn.out
   have mK:Hid (∀ i,i<=all.length->∀ (j:Nat) (x:List Bool),(cls all.length ah i)[j]? = some x->x.length=all.length):=fun i hi=>JN (fun i x hx=>by have:=HAR.out i x hx;have:=(zQ2.1 hx).1;have:=HAL.out;omega) i (by rw [HAL.out];exact hi);have hCL:=hMO.cl;dsimp only at hCL;have h0S:=h02.trans hSr;have hlo2:=h02.size;clear h1 hRC hMO Dn oo TF xJ HAH hA hA2 hI;rw [HAL.out]
   go_wp2_with fail
   go_loopw [22] (fun s22 wr=>∃ (i:Nat) (rs:Nat->Sl),i<=all.length/\s22=.int .i64 i/\CL w2.heap.size wr ⟨ala,alc⟩ all ⟨sha,shc⟩ rs (cls all.length ah i++ah.drop i)/\Since w2 wr) (fun s22 _=>all.length - (intOf s22).toNat)
   case atStart=>exact ⟨0,rh,Nat.zero_le _,rfl,hCL,hSr⟩
   case round =>
    obtain ⟨wi,rfl⟩:∃ wo,wo=wr:=⟨_,rfl⟩;obtain ⟨i,rs,hi,rfl,hC,hS⟩:=hrel;clear hCL hSr;by_cases hil:i < all.length
    ·have hia:i < ah.length:=by rw [HAL.out];exact hil
     obtain ⟨x,hx⟩:∃ y,ah[i]? = some y:=⟨_,zQ1 hia⟩;have HXL:Hid (x.length=i):=HAR.out i x hx;rw [DC hx] at hC;obtain ⟨bh,oh,ch,he,hsb,hbh,hcap⟩:=hC.Q8 (by rw [vB hia];omega);cases he;have ti:(i:Int) < (all.length:Int):=by omega
     have HX:Hid (ah[i]? = some x):=hx;clear hx hsb hcap
     go_wp2_with fail
     go_loopw [] (fun wr=>∃ (c:Nat) (rs5:Nat->Sl),c<=all.length - i/\CL w2.heap.size wr ⟨ala,alc⟩ all ⟨some ⟨bh,oh,none⟩,shc⟩ rs5 (iY all.length ah i (x++List.replicate c false))/\Since w2 wr) (fun wr=>all.length - TD (wr.cell? ⟨bh,oh+i,none⟩))
     case atStart=>exact ⟨0,rs,Nat.zero_le _,by rw [List.replicate_zero,List.append_nil];exact hC,hS⟩
     case round =>
      obtain ⟨wp,rfl⟩:∃ wo,wo=wr:=⟨_,rfl⟩;obtain ⟨c,rs5,hc,hC5,hS5⟩:=hrel;clear hC hS hbh;obtain ⟨P,hP⟩:∃ y,x++List.replicate c false=y:=⟨_,rfl⟩;have HPL:Hid (P.length=i+c):=by unfold Hid;rw [<-hP,List.length_append,List.length_replicate,HXL.out]
      have HP1:Hid (x++List.replicate (c+1) false=P++[false]):=by unfold Hid;rw [<-hP,List.replicate_succ',List.append_assoc]
      have HPE:Hid (i+c=all.length->P=gV all.length x):=fun e=>by rw [<-hP];unfold gV;rw [HXL.out];congr 2;omega
      rw [hP] at hC5;clear hP;have hself:=r9 (N:=all.length) (x:=P) hia;obtain ⟨qE,zt,hbt⟩:=hC5.JM rfl hself;by_cases hcl:i+c < all.length
      ·have tc:(P.length:Int) < (all.length:Int):=by have:=HPL.out;omega
       have Xe:P.length<=80:=by omega
       have VH:=hC5.ah.rows i P hself
       have hnt:¬ (rs5 i).blk=some bh:=fun e=>by
        refine hC5.ah.apart i _ (by rw [vB hia];exact hia) e ?_;have hcp:=hC5.ah.top.cap;rw [vB hia] at hcp;dsimp only at hcp;unfold Sl.blk;rw [if_neg (by dsimp only;omega)];rfl
       obtain ⟨W6,hW6⟩:∃ y,wp.alloc (.cells #[.bool false] 4)=y:=⟨_,rfl⟩;have hs6:=ay hW6
       have J5:Src prog 1 87 (.slice (some ⟨wp.heap.size,0,none⟩) 1 1) 1 [.bool false] W6:=by
        rw [<-hW6];exact fM (size:=1) xV.und [.bool false] rfl (fun u hu=>by simp at hu;subst hu;rfl) 1
       have Pn:=VH.since hs6;have EZ:w2.heap.size<=W6.heap.size:=(hS5.trans hs6).size
       have H7:Hid (∀ ra2 rc2 W7,Row W7 w2.heap.size 1 ⟨ra2,rc2⟩ (P.length+1) (aW P++[.bool false])->Fr (fun k=>Sl.blk ⟨(rs5 i).a,(rs5 i).cap⟩=some k) W6 W7->((⟨ra2,rc2⟩:Sl)=⟨(rs5 i).a,(rs5 i).cap⟩\/(Since W6 W7/\Sl.blk ⟨ra2,rc2⟩=some W6.heap.size)) ->
         W7.cell? ⟨bh,oh+i,none⟩=some (.slice (rs5 i).a P.length (rs5 i).cap)/\W7.frozen? ⟨bh,oh+i,none⟩=false/\(CL w2.heap.size (W7.setCell ⟨bh,oh+i,none⟩ (.slice ra2 (P.length+1) rc2)) ⟨ala,alc⟩ all ⟨some ⟨bh,oh,none⟩,shc⟩ (kQ rs5 i ⟨ra2,rc2⟩) (iY all.length ah i (P++[false]))/\Since w2 (W7.setCell ⟨bh,oh+i,none⟩ (.slice ra2 (P.length+1) rc2)))):=by
        intro ra2 rc2 W7 hR7 hF7 hB7;have l36:bh < W6.heap.size:=zQ4 hbt hs6.size;have hC8:=(hC5.since hs6).app hself rfl (r':=⟨ra2,rc2⟩) hR7 hF7 hB7 (hS5.trans hs6) (Nat.le_refl _);rw [zX hia] at hC8;exact ⟨(hF7.cell (p:=⟨bh,oh+i,none⟩) l36 hnt).trans ((hs6.cellAt hbt _).trans qE),(hF7.frozen (p:=⟨bh,oh+i,none⟩) l36 hnt).trans ((hs6.below.frozen (p:=⟨bh,oh+i,none⟩) hbt).trans zt),hC8⟩
       go_wp2_with (at_builtin;refine gQ xV rfl _ _ 87 rfl rfl Pn rfl J5 (by omega) EZ ?_;intro ra2 rc2 W7 hR7 hF7 hB7;obtain ⟨y7,z7,hC8⟩:=H7.out ra2 rc2 W7 hR7 hF7 hB7;obtain ⟨W8,hW8⟩:∃ y,W7.setCell ⟨bh,oh+i,none⟩ (.slice ra2 (P.length+1) rc2)=y:=⟨_,rfl⟩;rw [hW8] at hC8)
       have HK8:=(hC8.1.JM rfl (r9 hia)).1;exact ⟨⟨c+1,kQ rs5 i ⟨ra2,rc2⟩,by omega,by rw [HP1.out];exact hC8.1,hC8.2⟩,by rw [HK8,qE];have:=HPL.out;simp [TD];omega⟩
      ·have tc:¬ (P.length:Int) < (all.length:Int):=by have:=HPL.out;omega
       obtain ⟨PR,hPR⟩:∃ y,gV all.length x=y:=⟨_,rfl⟩;have hPP:P=PR:=by rw [<-hPR];exact HPE.out (by omega)
       subst hPP;have HPN:Hid (P.length=all.length):=by unfold Hid;rw [HPL.out];omega
       have VI:=(show Hid (gV all.length x=P) from hPR);clear hPR HPE HP1 HPL hself
       go_wp2_with fail
       obtain ⟨CI,hCI⟩:∃ y,cls all.length ah i=y:=⟨_,rfl⟩;have HCI:=(show Hid (cls all.length ah i=CI) from hCI);have HCL:Hid (CI.length=i):=by unfold Hid;rw [<-hCI];exact nu _ _ i (by omega)
       have HCR:Hid (∀ (j:Nat) (x:List Bool),CI[j]? = some x->x.length=all.length):=by unfold Hid;rw [<-hCI];exact mK.out i hi
       clear hCI
       go_loopw [23] (fun s23 wr=>∃ (j:Nat),j<=i/\s23=.int .i64 j/\CL w2.heap.size wr ⟨ala,alc⟩ all ⟨some ⟨bh,oh,none⟩,shc⟩ rs5 (iY all.length ah i (eO CI P j))/\Since w2 wr) (fun s23 _=>i - (intOf s23).toNat)
       case atStart=>exact ⟨0,Nat.zero_le _,rfl,hC5,hS5⟩
       case round =>
        obtain ⟨wj,rfl⟩:∃ wo,wo=wr:=⟨_,rfl⟩;obtain ⟨j,hj,rfl,hC6,hS6⟩:=hrel;clear hC5 hS5 qE zt hbt tc;by_cases hji:j < i
        ·obtain ⟨Y,hY⟩:∃ y,eO CI P j=y:=⟨_,rfl⟩;obtain ⟨B,hB⟩:∃ y,CI[j]? = some y:=⟨_,zQ1 (by rw [HCL.out];exact hji)⟩;have HYL:Hid (Y.length=all.length):=by unfold Hid;rw [<-hY];exact rZ HCR.out HPN.out j (by rw [HCL.out];omega)
         have HBL:Hid (B.length=all.length):=HCR.out j B hB
         have HST:Hid (eO CI P (j+1)=if bM Y j=true then uQ Y B else Y):=by
          unfold Hid;conv=>lhs;unfold eO
          rw [hY,hB];rfl
         have HBJ:Hid (∀ z,(iY all.length ah i z)[j]? = some B):=fun z=>by rw [Ir hia hji,HCI.out];exact hB
         rw [hY] at hC6;clear hY hB;have tj:(j:Int) < (i:Int):=by omega
         have tjN:(j:Int) < (all.length:Int):=by omega
         go_wp2_with fail
         go_loopw [24] (fun s24 wr=>∃ (k:Nat),k<=all.length/\(k=0\/bM Y j=true)/\s24=.int .i64 k/\CL w2.heap.size wr ⟨ala,alc⟩ all ⟨some ⟨bh,oh,none⟩,shc⟩ rs5 (iY all.length ah i (ou Y B k))/\Since w2 wr) (fun s24 _=>all.length - (intOf s24).toNat)
         case atStart=>exact ⟨0,Nat.zero_le _,.inl rfl,rfl,hC6,hS6⟩
         case round =>
          obtain ⟨wk,rfl⟩:∃ wo,wo=wr:=⟨_,rfl⟩;obtain ⟨k,hkN,hkb,rfl,hC7,hS7⟩:=hrel;clear hC6 hS6;have hself:=r9 (N:=all.length) (x:=ou Y B k) hia;have HOL:Hid ((ou Y B k).length=all.length):=by unfold Hid;rw [zV];exact HYL.out
          obtain ⟨qE,zt,hbt⟩:=hC7.JM rfl hself;obtain ⟨b1,o1,c1,e1,hc1,hb1,hcells⟩:=hC7.bM hself (by rw [HOL.out];omega);rw [e1,HOL.out] at qE;rw [HOL.out] at hcells;dsimp only at qE;have kj:=(hcells j (by omega)).1;by_cases hkl:k < all.length
          ·have tk:(k:Int) < (all.length:Int):=by omega
           cases hbj:bM Y j
           ·have hk0:k=0:=hkb.resolve_right (by rw [hbj];simp);subst hk0;have e2:bM (ou Y B 0) j=false:=hbj;rw [e2] at kj;have HSE:Hid (eO CI P (j+1)=ou Y B 0):=by unfold Hid;rw [HST.out,hbj];rfl
            clear e2 hkb hbj hcells e1 HOL hself
            go_wp2_with fail
            exact ⟨⟨j+1,by omega,by go_num,by rw [HSE.out];exact hC7,hS7⟩,by simp [intOf];omega⟩
           ·have e2:bM (ou Y B k) j=true:=M5 hbj k (by rw [HYL.out];exact hkN);rw [e2] at kj;obtain ⟨kk,zk⟩:=hcells k hkl;have HBT:Hid (bM Y j=true):=hbj;have htj:=(hC7.JM rfl (HBJ.out _)).1;obtain ⟨b2,o2,c2,e3,hc2,hb2,Ec⟩:=hC7.bM (HBJ.out _) (by rw [HBL.out];omega);rw [e3,HBL.out] at htj;rw [HBL.out] at Ec;dsimp only at htj;have kk2:=(Ec k hkl).1
            have HN8:Hid (∀ y,Since wk y->CL w2.heap.size (y.setCell ⟨b1,o1+k,none⟩ (.bool (bM (ou Y B k) k || bM B k))) ⟨ala,alc⟩ all ⟨some ⟨bh,oh,none⟩,shc⟩ rs5 (iY all.length ah i (ou Y B (k+1)))/\Since w2 (y.setCell ⟨b1,o1+k,none⟩ (.bool (bM (ou Y B k) k || bM B k)))):=fun y hy=>by
             have hN8:=(hC7.since hy).bit hself e1 (j:=k) (by rw [HOL.out];exact hkl) (bM (ou Y B k) k || bM B k) (hS7.trans hy) (Nat.le_refl _);rw [zX hia] at hN8;exact hN8
            clear e2 hkb hbj hcells Ec e1 e3 HOL hself hC7;obtain ⟨p1,hp1⟩:∃ y,bM (ou Y B k) k=y:=⟨_,rfl⟩;obtain ⟨p2,hp2⟩:∃ y,bM B k=y:=⟨_,rfl⟩;rw [hp1,hp2] at HN8;rw [hp1] at kk;rw [hp2] at kk2;clear hp1 hp2;cases p1
            ·rw [Bool.false_or] at HN8
             go_wp2_with fail
             obtain ⟨W9,hW0⟩:∃ y,wk.drew=y:=⟨_,rfl⟩;have hs9:=aQ hW0;obtain ⟨S9,hS9⟩:∃ S0:World->Prop,∀ w',S0 w'↔Since wk w':=⟨_,fun _=>Iff.rfl⟩;have f1:∀ y:ak S9,y.w.cell? ⟨bh,oh+i,none⟩=some (.slice (some ⟨b1,o1,none⟩) all.length c1):=fun y=>(((hS9 _).1 y.h).cellAt hbt _).trans qE;have f2:∀ y:ak S9,y.w.cell? ⟨b1,o1+k,none⟩=some (.bool false):=fun y=>(((hS9 _).1 y.h).cellAt hb1 _).trans kk;have f3:∀ y:ak S9,y.w.cell? ⟨bh,oh+j,none⟩=some (.slice (some ⟨b2,o2,none⟩) all.length c2):=fun y=>(((hS9 _).1 y.h).cellAt hbt _).trans htj;have f4:∀ y:ak S9,y.w.cell? ⟨b2,o2+k,none⟩=some (.bool p2):=fun y=>(((hS9 _).1 y.h).cellAt hb2 _).trans kk2;have qF:=(hS9 W9).2 hs9;have hne:Nonempty (ak S9):=⟨⟨_,qF⟩⟩;have dH:=aI w;have y9:=(hs9.cellAt hb1 _).trans kk;have z9:=(hs9.below.frozen (p:=⟨b1,o1+k,none⟩) hb1).trans zk;have HN9:=(show Hid _ from HN8.out W9 hs9);refine aK (fun w'=>∃ x:ak S9,w'=x.w) (by kernel_rfl) ?_;rw [hW0];clear hW0;refine tW 0 rfl ?_;go_big_quiet_op;refine tW 1 rfl ?_;go_big_quiet_op;refine tW 2 rfl ?_;go_big_quiet_op;refine tM 3 rfl (aj qF) ?_;go_big_quiet_op;refine tW 4 rfl ?_;go_big_quiet_op;refine tW 5 rfl ?_;go_big_quiet_op;refine tW 6 rfl ?_;go_big_quiet_op;refine tW 7 rfl ?_;go_big_quiet_op;refine tM 8 rfl (aj qF) ?_;go_big_quiet_op;refine tW 9 rfl ?_;go_big_quiet_op;refine tW 10 rfl ?_;go_big_quiet_op;refine tM 11 rfl (aj qF) ?_;go_big_quiet_op;refine tW 12 rfl ?_;go_big_quiet_op;refine tW 13 rfl ?_;go_big_quiet_op;refine tW 14 rfl ?_;go_big_quiet_op;refine tW 15 rfl ?_;go_big_quiet_op;refine tM 16 rfl (aj qF) ?_;go_big_quiet_op;refine tW 17 rfl ?_;go_big_quiet_op;refine tW 18 rfl ?_;go_big_quiet_op;refine tM 19 rfl (aj qF) ?_;go_big_quiet_op;refine tW 20 rfl ?_;go_big_quiet_op;refine tW 21 rfl ?_;go_big_quiet_op;refine aR 22 rfl (by kernel_rfl) ?_;intro K hK;go_simp;refine hK _ _ (fun h=>absurd h (by decide +kernel)) ?_;clear hK K;refine bH (by kernel_rfl) ?_;clear f1 f2 f3 f4 hne qF hS9 y9 z9
             go_wp2_with fail
             exact ⟨⟨k+1,by omega,.inr trivial,by go_num,HN9.out.1,HN9.out.2⟩,by simp [intOf];omega⟩
            ·rw [Bool.true_or] at HN8
             go_wp2_with fail
             obtain ⟨W9,hW0⟩:∃ y,wk.drew=y:=⟨_,rfl⟩;have hs9:=aQ hW0;obtain ⟨S9,hS9⟩:∃ S0:World->Prop,∀ w',S0 w'↔Since wk w':=⟨_,fun _=>Iff.rfl⟩;have f1:∀ y:ak S9,y.w.cell? ⟨bh,oh+i,none⟩=some (.slice (some ⟨b1,o1,none⟩) all.length c1):=fun y=>(((hS9 _).1 y.h).cellAt hbt _).trans qE;have f2:∀ y:ak S9,y.w.cell? ⟨b1,o1+k,none⟩=some (.bool true):=fun y=>(((hS9 _).1 y.h).cellAt hb1 _).trans kk;have f3:∀ y:ak S9,y.w.cell? ⟨bh,oh+j,none⟩=some (.slice (some ⟨b2,o2,none⟩) all.length c2):=fun y=>(((hS9 _).1 y.h).cellAt hbt _).trans htj;have f4:∀ y:ak S9,y.w.cell? ⟨b2,o2+k,none⟩=some (.bool p2):=fun y=>(((hS9 _).1 y.h).cellAt hb2 _).trans kk2;have qF:=(hS9 W9).2 hs9;have hne:Nonempty (ak S9):=⟨⟨_,qF⟩⟩;have dH:=aI w;have y9:=(hs9.cellAt hb1 _).trans kk;have z9:=(hs9.below.frozen (p:=⟨b1,o1+k,none⟩) hb1).trans zk;have HN9:=(show Hid _ from HN8.out W9 hs9);refine aK (fun w'=>∃ x:ak S9,w'=x.w) (by kernel_rfl) ?_;rw [hW0];clear hW0;refine tW 0 rfl ?_;go_big_quiet_op;refine tW 1 rfl ?_;go_big_quiet_op;refine tW 2 rfl ?_;go_big_quiet_op;refine tM 3 rfl (aj qF) ?_;go_big_quiet_op;refine tW 4 rfl ?_;go_big_quiet_op;refine tW 5 rfl ?_;go_big_quiet_op;refine tW 6 rfl ?_;go_big_quiet_op;refine tW 7 rfl ?_;go_big_quiet_op;refine tM 8 rfl (aj qF) ?_;go_big_quiet_op;refine tW 9 rfl ?_;go_big_quiet_op;refine tW 10 rfl ?_;go_big_quiet_op;refine tM 11 rfl (aj qF) ?_;go_big_quiet_op;refine tW 12 rfl ?_;go_big_quiet_op;refine fJ 13 rfl (by kernel_rfl) (fun _=>aj qF) (fun _ _ _ _ h=>h) (by rfl) ?_;simp only [Act.put,zQ7,zQ8,zQ9];refine fJ 14 rfl (by kernel_rfl) (fun _=>aj qF) (fun _ _ _ _ h=>h) (by rfl) ?_;simp only [Act.put,zQ7,zQ8,zQ9];refine fJ 15 rfl (by kernel_rfl) (fun _=>aj qF) (fun _ _ _ _ h=>h) (by rfl) ?_;simp only [Act.put,zQ7,zQ8,zQ9];refine fJ 16 rfl (by kernel_rfl) (fun _=>aj qF) (fun _ _ _ _ h=>h) (by rfl) ?_;simp only [Act.put,zQ7,zQ8,zQ9];refine fJ 17 rfl (by kernel_rfl) (fun _=>aj qF) (fun _ _ _ _ h=>h) (by rfl) ?_;simp only [Act.put,zQ7,zQ8,zQ9];refine fJ 18 rfl (by kernel_rfl) (fun _=>aj qF) (fun _ _ _ _ h=>h) (by rfl) ?_;simp only [Act.put,zQ7,zQ8,zQ9];refine fJ 19 rfl (by kernel_rfl) (fun _=>aj qF) (fun _ _ _ _ h=>h) (by rfl) ?_;simp only [Act.put,zQ7,zQ8,zQ9];refine tW 20 rfl ?_;go_big_quiet_op;refine tW 21 rfl ?_;go_big_quiet_op;refine aR 22 rfl (by kernel_rfl) ?_;intro K hK;go_simp;refine hK _ _ (fun h=>absurd h (by decide +kernel)) ?_;clear hK K;refine bH (by kernel_rfl) ?_;clear f1 f2 f3 f4 hne qF hS9 y9 z9
             go_wp2_with fail
             exact ⟨⟨k+1,by omega,.inr trivial,by go_num,HN9.out.1,HN9.out.2⟩,by simp [intOf];omega⟩
          ·have hke:k=all.length:=by omega
           have tk:¬ (k:Int) < (all.length:Int):=by omega
           have HSE:Hid (eO CI P (j+1)=ou Y B k):=by
            unfold Hid;rcases hkb with e | e
            ·omega
            ·rw [HST.out,if_pos e,hke,M6 HYL.out HBL.out]
           clear hke hkb hcells e1 HOL hself
           go_wp2_with fail
           exact ⟨⟨j+1,by omega,by go_num,by rw [HSE.out];exact hC7,hS7⟩,by simp [intOf];omega⟩
        ·have hje:j=i:=by omega
         have tj:¬ (j:Int) < (i:Int):=by omega
         have HEN:Hid (CL w2.heap.size wj ⟨ala,alc⟩ all ⟨some ⟨bh,oh,none⟩,shc⟩ rs5 (cls all.length ah (i+1)++ah.drop (i+1))):=by
          unfold Hid;rw [<-Iu HX.out,VI.out,HCI.out,<-hje];rw [<-hje] at hC6;exact hC6
         clear hje hC6
         go_wp2_with fail
         exact ⟨⟨i+1,rs5,by omega,by go_num,HEN.out,hS6⟩,by simp [intOf];omega⟩
    ·have ti:¬ (i:Int) < (all.length:Int):=by omega
     have HEN:Hid (CL w2.heap.size wi ⟨ala,alc⟩ all ⟨sha,shc⟩ rs (iU (scD nodes l acts))):=by
      unfold Hid;have e1:i=ah.length:=by have:=HAL.out;omega
      rw [e1,OX,List.drop_length,List.append_nil,HFC.out.1] at hC;exact hC
     have HSN:Hid ((scD nodes l acts).sent=all):=HFC.out.2.symm
     go_wp2_with fail
     have hfin:=HEN.out.fin hlo2 VG;have hfm:fA wi ala (scD nodes l acts).sent.length (scD nodes l acts).sent:=by rw [HSN.out];exact hfin.1
     refine ⟨rfl,_,results_tmp3 rfl _ _ _,ala,alc,⟨sha,shc⟩, ?_,hfm,⟨rs,hfin.2⟩,h02.trans hS⟩;rw [HSN.out];rfl
end Go.Proofs.YtiiifecfdkjmbaaGreat
