/- Lemmas. Lemmas. Lemmas. Lemmas. Lemmas. -/
import Derived.Test.YtiiifecfdkjmbaaGreatCsMarks
import Derived.Test.YtiiifecfdkjmbaaGreatCsMark
import Derived.Test.YtiiifecfdkjmbaaGreatRMark
set_option maxHeartbeats 1000000
namespace Go.Proofs.YtiiifecfdkjmbaaGreat
open _root_.Go.Proofs.Tryz hiding checked
set_option maxRecDepth 8000
open Go.RowKit Go.Shelf
open Pu
set_option linter.unusedVariables false
set_option linter.unusedSimpArgs false
structure Bools (w:World) (a:Option Addr) (len:Nat) (bs:List Bool):Prop where
 hlen:bs.length=len
 hmax:len<=2932031007320
 cells:0 < len->∃ b off,a=some ⟨b,off,none⟩/\b < w.heap.size/\∀ (j:Nat) (u:Bool),bs[j]? = some u->w.cell? ⟨b,off+j,none⟩=some (.bool u)
theorem Bools.since {w W:World} {a:Option Addr} {len:Nat} {bs:List Bool} (h:Bools w a len bs) (k:Since w W):Bools W a len bs :=
 ⟨h.hlen,h.hmax,fun hp=>by
  obtain ⟨b,off,e,hb,hc⟩:=h.cells hp;exact ⟨b,off,e,zQ4 hb k.size,fun j u hu=>(k.cellAt hb _).trans (hc j u hu)⟩⟩
def jy (w:World) (v:Value) (xs:List Bool):Prop:=∃ a cap,v=.slice a xs.length cap/\xs.length<=cap/\Bools w a xs.length xs
theorem fU:Stable jy:=fun _ _ _ _ k ⟨a,cap,e,hc,h⟩=>⟨a,cap,e,hc,h.since k⟩
theorem KA {w:World} {lo:Nat} {s:Sl} {bs:List Bool} (h:Row w lo 1 s bs.length (aW bs)) (hm:bs.length<=1000):Bools w s.a bs.length bs:=by
 refine ⟨rfl,by omega,fun hp=>?_⟩;obtain ⟨b,off,e,_,hb,_,hx⟩:=h.body (by have:=h.cap;omega);exact ⟨b,off,e,hb,fun j u hu=>hx j _ (by unfold aW;rw [List.getElem?_map,hu];rfl)⟩
theorem yO {lo:Nat} {w:World} {s:Sl} {rs:Nat->Sl} {xss:List (List Bool)} (h:bC 1 aW lo w s rs xss) (hm:xss.length<=1000) (hr:∀ xs,xs∈xss->xs.length<=1000):Slices jy w s.a xss.length xss:=by
 refine ⟨rfl,by omega,fun hp=>?_⟩;obtain ⟨b,off,e,_,hb,_,hx⟩:=h.top.body (by have:=h.top.cap;omega);refine ⟨b,off,e,hb,fun i xs hi=>?_⟩;have hil:=(zQ2.1 hi).1;refine ⟨(rs i).v xs.length,hx i _ ?_,(rs i).a,(rs i).cap,rfl,(h.rows i xs hi).cap,KA (h.rows i xs hi) (hr xs (List.mem_of_getElem? hi))⟩;rw [List.getElem?_map,List.getElem?_range hil];simp [hi]
theorem rR (a b:Option Addr) (c e:Nat) (xss:List (List Bool)) (w:World) (h1:Slices jy w a xss.length xss) (h2:Slices jy w b xss.length xss) :
  Calls prog 74 #[.slice a xss.length c,.slice b xss.length e] w fun e w'=>e=.returned (.bool true)/\Since w w':=by
 have hmax:=h1.hmax;have H1:=(show Hid _ from h1);have H2:=(show Hid _ from h2);clear h1 h2
 go_enter func74,ntmps74
 go_wp2
 go_loopw [5] (fun i wr=>∃ k:Nat,k<=xss.length/\i=.int .i64 k/\Since w wr) (fun i _=>xss.length - (intOf i).toNat)
 case atStart=>exact ⟨0,Nat.zero_le _,rfl,Since.refl w⟩
 case round =>
  obtain ⟨wo,rfl⟩:∃ wo,wo=wr:=⟨_,rfl⟩;obtain ⟨k,hk,rfl,hSr⟩:=hrel;by_cases hlt:k < xss.length
  ·obtain ⟨xs,hxs⟩:∃ m,xss[k]? = some m:=⟨_,zQ1 hlt⟩;have n1:(k:Int) < (xss.length:Int):=by omega
   obtain ⟨ba,oa,rfl,hba,hca⟩:=(H1.out.since fU hSr).cells (by omega);obtain ⟨bb,ob,rfl,hbb,hcb⟩:=(H2.out.since fU hSr).cells (by omega);obtain ⟨v1,e1,ra,rc,rfl,_,hB1⟩:=hca k xs hxs;obtain ⟨v2,e2,rb,rd,rfl,_,hB2⟩:=hcb k xs hxs;have hxm:=hB1.hmax;have HB1:=(show Hid _ from hB1);have HB2:=(show Hid _ from hB2);clear hca hcb hxs hB1 hB2
   go_wp2_with fail
   obtain ⟨W0,hW0⟩:∃ y,wo.drew=y:=⟨_,rfl⟩;have hs0:=aQ hW0;obtain ⟨S0,hS0⟩:∃ S0:World->Prop,∀ w',S0 w'↔Since wo w':=⟨_,fun _=>Iff.rfl⟩;have a1:∀ y:ak S0,y.w.cell? ⟨ba,oa+k,none⟩=some (.slice ra xs.length rc):=fun y=>(((hS0 _).1 y.h).cellAt hba _).trans e1;have a2:∀ y:ak S0,y.w.cell? ⟨bb,ob+k,none⟩=some (.slice rb xs.length rd):=fun y=>(((hS0 _).1 y.h).cellAt hbb _).trans e2;have au:=(hS0 W0).2 hs0;have hne:Nonempty (ak S0):=⟨⟨_,au⟩⟩;have dH:=aI w;refine aK (fun w'=>∃ x:ak S0,w'=x.w) (by kernel_rfl) ?_;rw [hW0];clear hW0;refine tW 0 rfl ?_;go_big_quiet_op;refine tW 1 rfl ?_;go_big_quiet_op;refine tW 2 rfl ?_;go_big_quiet_op;refine tM 3 rfl (aj au) ?_;go_big_quiet_op;refine tM 4 rfl (aj au) ?_;go_big_quiet_op;refine tW 5 rfl ?_;go_big_quiet_op;refine tW 6 rfl ?_;go_big_quiet_op;refine tW 7 rfl ?_;go_big_quiet_op;refine tM 8 rfl (aj au) ?_;go_big_quiet_op;refine tM 9 rfl (aj au) ?_;go_big_quiet_op;refine tW 10 rfl ?_;go_big_quiet_op;refine bH (by kernel_rfl) ?_;clear a1 a2 hne au hS0;have hS0:=hSr.trans hs0;have e1:=(hs0.cellAt hba _).trans e1;have e2:=(hs0.cellAt hbb _).trans e2;have HB1:=(show Hid _ from HB1.out.since hs0);have HB2:=(show Hid _ from HB2.out.since hs0);have hba:=zQ4 hba hs0.size;have hbb:=zQ4 hbb hs0.size;clear hs0
   go_wp2
   go_loopw [6] (fun i wr=>∃ j:Nat,j<=xs.length/\i=.int .i64 j/\Since W0 wr) (fun i _=>xs.length - (intOf i).toNat)
   case atStart=>exact ⟨0,Nat.zero_le _,rfl,Since.refl W0⟩
   case round =>
    obtain ⟨wi,rfl⟩:∃ wo,wo=wr:=⟨_,rfl⟩;obtain ⟨j,hj,rfl,hSj⟩:=hrel;have e1:=(hSj.cellAt hba _).trans e1;have e2:=(hSj.cellAt hbb _).trans e2;by_cases hjl:j < xs.length
    ·obtain ⟨u,hu⟩:∃ m,xs[j]? = some m:=⟨_,zQ1 hjl⟩;have n2:(j:Int) < (xs.length:Int):=by omega
     obtain ⟨bp,op,rfl,hbp,hcp⟩:=(HB1.out.since hSj).cells (by omega);obtain ⟨bq,oq,rfl,hbq,hcq⟩:=(HB2.out.since hSj).cells (by omega);have g1:=hcp j u hu;have g2:=hcq j u hu;have hba:=zQ4 hba hSj.size;have hbb:=zQ4 hbb hSj.size;clear hcp hcq hu
     go_wp2_with fail
     obtain ⟨W5,hW0⟩:∃ y,wi.drew=y:=⟨_,rfl⟩;have hs5:=aQ hW0;obtain ⟨S5,hS5⟩:∃ S0:World->Prop,∀ w',S0 w'↔Since wi w':=⟨_,fun _=>Iff.rfl⟩;have a1:∀ y:ak S5,y.w.cell? ⟨ba,oa+k,none⟩=some (.slice (some ⟨bp,op,none⟩) xs.length rc):=fun y=>(((hS5 _).1 y.h).cellAt hba _).trans e1;have a2:∀ y:ak S5,y.w.cell? ⟨bb,ob+k,none⟩=some (.slice (some ⟨bq,oq,none⟩) xs.length rd):=fun y=>(((hS5 _).1 y.h).cellAt hbb _).trans e2;have a3:∀ y:ak S5,y.w.cell? ⟨bp,op+j,none⟩=some (.bool u):=fun y=>(((hS5 _).1 y.h).cellAt hbp _).trans g1;have a4:∀ y:ak S5,y.w.cell? ⟨bq,oq+j,none⟩=some (.bool u):=fun y=>(((hS5 _).1 y.h).cellAt hbq _).trans g2;have j6:=(hS5 W5).2 hs5;have hne:Nonempty (ak S5):=⟨⟨_,j6⟩⟩;refine aK (fun w'=>∃ x:ak S5,w'=x.w) (by kernel_rfl) ?_;rw [hW0];clear hW0;refine tW 0 rfl ?_;go_big_quiet_op;refine tW 1 rfl ?_;go_big_quiet_op;refine tW 2 rfl ?_;go_big_quiet_op;refine tM 3 rfl (aj j6) ?_;go_big_quiet_op;refine tW 4 rfl ?_;go_big_quiet_op;refine tW 5 rfl ?_;go_big_quiet_op;refine tM 6 rfl (aj j6) ?_;go_big_quiet_op;refine tW 7 rfl ?_;go_big_quiet_op;refine tW 8 rfl ?_;go_big_quiet_op;refine tW 9 rfl ?_;go_big_quiet_op;refine tM 10 rfl (aj j6) ?_;go_big_quiet_op;refine tW 11 rfl ?_;go_big_quiet_op;refine tW 12 rfl ?_;go_big_quiet_op;refine tM 13 rfl (aj j6) ?_;go_big_quiet_op;refine tW 14 rfl ?_;go_big_quiet_op;refine bH (by kernel_rfl) ?_;clear a1 a2 a3 a4 hne j6 hS5
     go_wp2
     go_roundw
     case rel=>exact ⟨j+1,by omega,by go_num,hSj.trans hs5⟩
     case measure=>simp [intOf];omega
    ·obtain rfl:j=xs.length:=by omega
     go_wp2
     go_roundw
     case rel=>exact ⟨k+1,by omega,by go_num,hS0.trans hSj⟩
     case measure=>simp [intOf];omega
  ·obtain rfl:k=xss.length:=by omega
   go_wp2
   go_ret
   exact ⟨rfl,hSr⟩
theorem qm (nodes:Int) (l:List Int) (acts:List Ac):(rD nodes l acts).length=(iL nodes l acts).length:=by
 unfold rD iL;split
 ·unfold iU;rw [List.length_map]
 ·rfl
theorem Cv (nodes:Int) (l:List Int) (acts:List Ac):(iL nodes l acts).length<=80:=by
 unfold iL;split
 ·rename_i h;have:=Dm acts (mZ nodes.toNat l);unfold scD;have e:(mZ nodes.toNat l).sent.length=0:=rfl;omega
 ·simp
theorem zK (nodes:Int) (l:List Int) (acts:List Ac):∀ xs,xs∈rD nodes l acts->xs.length=(iL nodes l acts).length:=by
 unfold rD iL;split
 ·intro xs hx;unfold iU at hx;obtain ⟨m,_,rfl⟩:=List.mem_map.1 hx;rw [List.length_map]
 ·intro xs hx;cases hx
theorem Cw (nodes:Int) (a:Option Addr) (len cap:Nat) (l:List Int) (ac:Option Addr) (al iV:Nat) (acts:List Ac) (w:World) (hI:Ints w a len l) (hA:vk w ac al acts) :
  Calls prog 71 #[.int .i64 nodes,.slice a len cap,.slice ac al iV] w fun e w'=>∃ (sa:Option Addr) (sc:Nat) (sb:Option Addr) (sd:Nat),e=.returned (.tuple #[.slice sa (iL nodes l acts).length sc,.slice sb (iL nodes l acts).length sd,.int .i64 (yL nodes l acts)])/\fA w' sa (iL nodes l acts).length (iL nodes l acts)/\Slices jy w' sb (iL nodes l acts).length (rD nodes l acts)/\Since w w':=by
 refine (MC nodes a len cap l ac al iV acts w hI hA).mono ?_;rintro e w' ⟨sa,sc,sl,rs,rfl,hM,hO,hS⟩;have hx:=Cv nodes l acts;have h:=yO hO (by rw [qm];omega) (fun xs hxs=>by rw [zK nodes l acts xs hxs];omega);rw [qm] at h;exact ⟨sa,sc,sl.a,sl.cap,rfl,hM,h,hS⟩
theorem Gy (nodes:Int) (a:Option Addr) (len cap:Nat) (l:List Int) (ac:Option Addr) (al iV:Nat) (w:World) (hI:Ints w a len l) (hE:¬ dF nodes l=0) :
  Calls prog 72 #[.int .i64 nodes,.slice a len cap,.slice ac al iV] w fun e w'=>e=.returned (.tuple #[.slice none 0 0,.slice none 0 0,.int .i64 (dF nodes l)])/\Since w w':=by
 have hGE:=qL w w nodes a len cap l hI (Since.refl w);obtain ⟨er,her⟩:∃ y,dF nodes l=y:=⟨_,rfl⟩;rw [her] at hGE hE ⊢;have hb:(er != 0)=true:=by simpa using hE
 clear hE her hI
 go_enter func72,ntmps72
 go_wp2_with (go_at_call 69;refine hGE.mono ?_;rintro e w1 ⟨rfl,hS1⟩)
 refine bodyPost_ret (v:=.tuple #[.slice none 0 0,.slice none 0 0,.int .i64 er]) ?_ rfl ⟨rfl,hS1⟩;simp [results,results72,go_sem]
theorem Ed (nodes:Int) (a:Option Addr) (len cap:Nat) (l:List Int) (ac:Option Addr) (al iV:Nat) (w:World) (hI:Ints w a len l) (hE:dF nodes l=0) (hm:80 < al) :
  Calls prog 72 #[.int .i64 nodes,.slice a len cap,.slice ac al iV] w fun e w'=>e=.returned (.tuple #[.slice none 0 0,.slice none 0 0,.int .i64 2])/\Since w w':=by
 have hGE:=qL w w nodes a len cap l hI (Since.refl w);rw [hE] at hGE;have hm1:decide (80 < (al:Int))=true:=by simp;omega
 clear hE hI
 go_enter func72,ntmps72
 go_wp2_with (go_at_call 69;refine hGE.mono ?_;rintro e w1 ⟨rfl,hS1⟩)
 refine bodyPost_ret (v:=.tuple #[.slice none 0 0,.slice none 0 0,.int .i64 2]) ?_ rfl ⟨rfl,hS1⟩;simp [results,results72,go_sem]
theorem Gz (nodes:Int) (a:Option Addr) (len cap:Nat) (l:List Int) (ac:Option Addr) (al iV:Nat) (acts:List Ac) (w:World) (hI:Ints w a len l) (hA:vk w ac al acts) :
  Calls prog 72 #[.int .i64 nodes,.slice a len cap,.slice ac al iV] w fun e w'=>∃ (sa:Option Addr) (sc:Nat) (sl:Sl) (rs:Nat->Sl),e=.returned (.tuple #[.slice sa (iL nodes l acts).length sc,sl.v (iL nodes l acts).length,.int .i64 (yL nodes l acts)])/\fA w' sa (iL nodes l acts).length (iL nodes l acts)/\bC 1 aW w.heap.size w' sl rs (rD nodes l acts)/\Since w w':=by
 have ha:=hA.hlen;subst ha;unfold iL rD yL;by_cases hE:dF nodes l=0
 ·obtain ⟨h1,h2,h3,h4⟩:=qj hE;obtain ⟨k,rfl⟩:∃ k:Nat,nodes=(k:Int):=⟨nodes.toNat,by omega⟩;have hl:=hI.hlen;subst hl;by_cases hm:acts.length<=80
  ·have hc:dF (k:Int) l=0/\acts.length<=80:=⟨hE,hm⟩;simp only [if_pos hc,if_pos hE,if_pos hm,Int.toNat_natCast];exact I8 k a cap l ac iV acts w hI hA (by omega) h4 hE hm
  ·have hc:¬ (dF (k:Int) l=0/\acts.length<=80):=fun h=>hm h.2;simp only [if_neg hc,if_pos hE,if_neg hm];refine (Ed k a l.length cap l ac acts.length iV w hI hE (by omega)).mono fun e w' h=>?_;exact ⟨none,0,⟨none,0⟩,fun _=>⟨none,0⟩,h.1,eY,bC.nil,h.2⟩
 ·have hc:¬ (dF nodes l=0/\acts.length<=80):=fun h=>hE h.1;simp only [if_neg hc,if_neg hE];refine (Gy nodes a len cap l ac acts.length iV w hI hE).mono fun e w' h=>?_;exact ⟨none,0,⟨none,0⟩,fun _=>⟨none,0⟩,h.1,eY,bC.nil,h.2⟩
theorem Dx (nodes:Int) (a:Option Addr) (len cap:Nat) (l:List Int) (ac:Option Addr) (al iV:Nat) (acts:List Ac) (w:World) (hI:Ints w a len l) (hA:vk w ac al acts) :
  Calls prog 72 #[.int .i64 nodes,.slice a len cap,.slice ac al iV] w fun e w'=>∃ (sa:Option Addr) (sc:Nat) (sb:Option Addr) (sd:Nat),e=.returned (.tuple #[.slice sa (iL nodes l acts).length sc,.slice sb (iL nodes l acts).length sd,.int .i64 (yL nodes l acts)])/\fA w' sa (iL nodes l acts).length (iL nodes l acts)/\Slices jy w' sb (iL nodes l acts).length (rD nodes l acts)/\Since w w':=by
 refine (Gz nodes a len cap l ac al iV acts w hI hA).mono ?_;rintro e w' ⟨sa,sc,sl,rs,rfl,hM,hO,hS⟩;have hx:=Cv nodes l acts;have h:=yO hO (by rw [qm];omega) (fun xs hxs=>by rw [zK nodes l acts xs hxs];omega);rw [qm] at h;exact ⟨sa,sc,sl.a,sl.cap,rfl,hM,h,hS⟩
end Go.Proofs.YtiiifecfdkjmbaaGreat
set_option maxHeartbeats 4000000
namespace Go.Proofs.YtiiifecfdkjmbaaGreat
open _root_.Go.Proofs.Tryz hiding checked
set_option maxRecDepth 8000
open Go.RowKit Go.Shelf
open Pu
set_option linter.unusedVariables false
set_option linter.unusedSimpArgs false
section
variable {P:Program} {Q:Exit->Act->World->Prop} {S:World->Prop}
def Ii (P:Program) (l:List Oper) (Q:Exit->Act->World->Prop) (S:World->Prop) (fuel:Nat) (listed:Array Bool) (a:Act) (w:World) (i:Nat) (oi:Oper):Prop :=
 ∀ K:Act->World->Prop,(∀ a' w',(uO l.toArray i=true->S w->S w')->dX P l.toArray Q S fuel (listed.setIfInBounds i true) a' w'->K a' w')->if Region.wanted oi (yielded l.toArray a.tmps)=true then Oper.wp P oi a w K Q else K (a.put oi.dst undef) w
theorem JL {l:List Oper} (i j k:Nat) {oi oj ok:Oper} {fuel:Nat} {listed:Array Bool} {a:Act} {w:World} (hi:l[i]? = some oi) (hj:l[j]? = some oj) (hk:l[k]? = some ok) (hr:Region.ready .any l.toArray listed=[i,j,k])
  (h1:Ii P l Q S fuel listed a w i oi) (h2:Ii P l Q S fuel listed a w j oj) (h3:Ii P l Q S fuel listed a w k ok):dX P l.toArray Q S (fuel+1) listed a w :=
 ⟨fun h0=>absurd (hr ▸ h0) (by simp),fun q hq=>by
  rw [hr] at hq;simp only [List.mem_cons,List.not_mem_nil,or_false] at hq;rcases hq with rfl | rfl | rfl
  ·exact kg (by rw [List.getElem?_toArray];exact hi) h1
  ·exact kg (by rw [List.getElem?_toArray];exact hj) h2
  ·exact kg (by rw [List.getElem?_toArray];exact hk) h3⟩
theorem SN {l:List Oper} (i j k m:Nat) {oi oj ok om:Oper} {fuel:Nat} {listed:Array Bool} {a:Act} {w:World} (hi:l[i]? = some oi) (hj:l[j]? = some oj) (hk:l[k]? = some ok) (hm:l[m]? = some om) (hr:Region.ready .any l.toArray listed=[i,j,k,m])
  (h1:Ii P l Q S fuel listed a w i oi) (h2:Ii P l Q S fuel listed a w j oj) (h3:Ii P l Q S fuel listed a w k ok) (h4:Ii P l Q S fuel listed a w m om):dX P l.toArray Q S (fuel+1) listed a w :=
 ⟨fun h0=>absurd (hr ▸ h0) (by simp),fun q hq=>by
  rw [hr] at hq;simp only [List.mem_cons,List.not_mem_nil,or_false] at hq;rcases hq with rfl | rfl | rfl | rfl
  ·exact kg (by rw [List.getElem?_toArray];exact hi) h1
  ·exact kg (by rw [List.getElem?_toArray];exact hj) h2
  ·exact kg (by rw [List.getElem?_toArray];exact hk) h3
  ·exact kg (by rw [List.getElem?_toArray];exact hm) h4⟩
end
def B4 (w:World) (b:Nat) (p q r s:Bool):Prop:=w.heap[b]? = some (.cells #[.bool p,.bool q,.bool r,.bool s] 4)
theorem B4.bools {w:World} {b:Nat} {p q r s:Bool} (h:B4 w b p q r s):jy w (.slice (some ⟨b,0,none⟩) 4 4) [p,q,r,s]:=by
 refine ⟨_,_,rfl,Nat.le_refl _,rfl,by simp,fun _=>⟨b,0,rfl,(zQ3.1 h).1,fun j u hu=>?_⟩⟩;unfold World.cell?;simp only [show w.heap[b]? = _ from h,Nat.zero_add]
 match j,hu with
 | 0,hu=>simp at hu;simp [hu]
 | 1,hu=>simp at hu;simp [hu]
 | 2,hu=>simp at hu;simp [hu]
 | 3,hu=>simp at hu;simp [hu]
theorem newAt {w:World} {o:Obj} {n:Nat} (h:w.heap.size=n):(w.alloc o).heap[n]? = some o:=by subst h;exact World.alloc_heap_new w o
theorem Ij {w:World} {bt:Nat} {r0 r1 r2 r3:List Bool} {x0 x1 x2 x3:Value} (ht:w.heap[bt]? = some (.cells #[x0,x1,x2,x3] 87)) (h0:jy w x0 r0) (h1:jy w x1 r1) (h2:jy w x2 r2) (h3:jy w x3 r3):Slices jy w (some ⟨bt,0,none⟩) 4 [r0,r1,r2,r3]:=by
 refine ⟨rfl,by simp,fun _=>⟨bt,0,rfl,(zQ3.1 ht).1,fun i x hx=>?_⟩⟩
 have hc:∀ i v,#[x0,x1,x2,x3][i]? = some v->w.cell? ⟨bt,0+i,none⟩=some v:=fun i v hv=>by
  unfold World.cell?;simp only [ht,Nat.zero_add];exact hv
 match i,hx with
 | 0,hx=>simp at hx;subst hx;exact ⟨_,hc 0 _ rfl,h0⟩
 | 1,hx=>simp at hx;subst hx;exact ⟨_,hc 1 _ rfl,h1⟩
 | 2,hx=>simp at hx;subst hx;exact ⟨_,hc 2 _ rfl,h2⟩
 | 3,hx=>simp at hx;subst hx;exact ⟨_,hc 3 _ rfl,h3⟩
theorem Fp (a b:Option Addr) (c e:Nat) (r0 r1 r2 r3:List Bool) {w:World} (h1:Slices jy w a 4 [r0,r1,r2,r3]) (h2:Slices jy w b 4 [r0,r1,r2,r3]) :
  Calls prog 74 #[.slice a 4 c,.slice b 4 e] w fun e w'=>e=.returned (.bool true)/\Since w w':=rR a b c e [r0,r1,r2,r3] w h1 h2
theorem MS (y:World):∃ cs,(Instr.makeSlice 50 (.int .i64 81) (.int .i64 81)).run prog y=.ok (.slice (some ⟨y.heap.size,0,none⟩) 81 81) (y.alloc (.cells cs 58)):=⟨_,rfl⟩
theorem zQ (m0 m1 m2:Mg) (f1:Hid (∀ (y:World) (a:Option Addr) (cap:Nat),Ints (y.alloc (.cells #[.int .i64 1,.int .i64 0,.int .i64 0,.string ⟨#[97]⟩,.int .i64 1,.int .i64 2,.int .i64 1,.string ⟨#[98]⟩,.int .i64 3,.int .i64 0,.int .i64 1,.string ⟨#[]⟩,.int .i64 2,.int .i64 1,.int .i64 1,.string ⟨#[]⟩,.int .i64 3,.int .i64 1,.int .i64 2,.string ⟨#[]⟩,.int .i64 1,.int .i64 2,.int .i64 1,.string ⟨#[99]⟩] 58)) a 2 [3,6]->Calls prog 71 #[.int .i64 3,.slice a 2 cap,.slice (some ⟨y.heap.size,0,none⟩) 6 6] (y.alloc (.cells #[.int .i64 1,.int .i64 0,.int .i64 0,.string ⟨#[97]⟩,.int .i64 1,.int .i64 2,.int .i64 1,.string ⟨#[98]⟩,.int .i64 3,.int .i64 0,.int .i64 1,.string ⟨#[]⟩,.int .i64 2,.int .i64 1,.int .i64 1,.string ⟨#[]⟩,.int .i64 3,.int .i64 1,.int .i64 2,.string ⟨#[]⟩,.int .i64 1,.int .i64 2,.int .i64 1,.string ⟨#[99]⟩] 58)) fun e w'=>∃ (sa:Option Addr) (sc:Nat) (sb:Option Addr) (sd:Nat),e=.returned (.tuple #[.slice sa 4 sc,.slice sb 4 sd,.int .i64 0])/\fA w' sa 4 [m0,m1,m2,⟨2,1,3,false,⟨#[99]⟩⟩]/\Slices jy w' sb 4 [[false,false,false,false],[false,false,false,false],[true,false,false,false],[true,true,true,false]]/\Since y w'))
  (f2:Hid (∀ y:World,Calls prog 71 #[.int .i64 3,.slice none 0 0,.slice none 0 0] y fun e w'=>e=.returned (.tuple #[.slice none 0 0,.slice none 0 0,.int .i64 2])/\Since y w'))
  (f3:Hid (∀ (y:World) (a:Option Addr) (cap:Nat) (ac:Option Addr) (iV:Nat),Ints y a 2 [3,6]->Calls prog 71 #[.int .i64 3,.slice a 2 cap,.slice ac 81 iV] y fun e w'=>e=.returned (.tuple #[.slice none 0 0,.slice none 0 0,.int .i64 2])/\Since y w')) (w:World) :
  Calls prog 73 #[] w fun e w'=>e=.returned (.bool true)/\Since w w':=by
 go_enter func73,ntmps73
 go_wp2_with (go_at_call 125;refine (MJ w w (Since.refl _)).mono ?_;rintro e w2 ⟨b,cap,rfl,hI,hS2⟩;have hc:Since w2 w2:=Since.refl _)
 go_wp2_with (go_at_call 94;refine (OU _ _ _ _ _).mono ?_;rintro e w' ⟨rfl,hS⟩;have hc:=hc.trans hS)
 refine (f1.out _ _ _ (hI.since (hc.alloc _))).mono ?_;rintro e w3 ⟨sa,sc,sb,sd,rfl,hM3,hK3,hS3⟩;have hc3:=hS2.trans (hc.trans hS3);clear hc hS3 hI hS2
 go_wp2_with fail
 refine (f2.out _).mono ?_;rintro e w4 ⟨rfl,hS4⟩;have hM4:=hM3.since hS4;have hK4:=hK3.since fU hS4;have hc4:=hc3.trans hS4;clear hM3 hK3 hc3 hS4
 go_upto_region 3 with fail
 go_cut [9] (fun s9 wx=>s9=.int .i64 2/\Since w4 wx)
 case first =>
  obtain ⟨W0,hW0⟩:∃ y,w4.drew=y:=⟨_,rfl⟩;have hs0:=aQ hW0;obtain ⟨S0,hS0⟩:∃ S0:World->Prop,∀ w',S0 w'↔Since w4 w':=⟨_,fun _=>Iff.rfl⟩;have au:=(hS0 W0).2 hs0;have hne:Nonempty (ak S0):=⟨⟨_,au⟩⟩;have dH:=aI w;obtain ⟨cs,hmk⟩:∃ cs:World->Array Value,∀ y:World,(Instr.makeSlice 50 (.int .i64 81) (.int .i64 81)).run prog y=.ok (.slice (some ⟨y.heap.size,0,none⟩) 81 81) (y.alloc (.cells (cs y) 58)):=⟨fun y=>(MS y).choose,fun y=>(MS y).choose_spec⟩;refine aK (fun w'=>∃ x:ak S0,w'=x.w) (by kernel_rfl) ?_;rw [hW0];clear hW0;refine rP 0 1 rfl rfl (by kernel_rfl) ?o1 ?o2
  case' o1 =>
   intro K hK;go_simp;refine (MJ W0 W0 (Since.refl _)).mono ?_;rintro e w5 ⟨b,cap,rfl,hI,hS5⟩;dsimp only;refine hK _ _ (fun h=>absurd h (by decide +kernel)) ?_;clear hK K;refine aR 1 rfl (by kernel_rfl) ?_;intro K hK;go_simp;refine hK _ _ (fun h=>absurd h (by decide +kernel)) ?_;clear hK K;have hS6:Since w5 (w5.alloc (.cells (cs w5) 58)):=(Since.refl w5).alloc _;obtain ⟨w6,hw6⟩:∃ y,w5.alloc (.cells (cs w5) 58)=y:=⟨_,rfl⟩;rw [hw6] at hS6 ⊢;have hI6:=hI.since hS6;have hc6:=hc4.trans (hs0.trans (hS5.trans hS6));have hg6:=hs0.trans (hS5.trans hS6);obtain ⟨q,hq⟩:∃ y,w5.heap.size=y:=⟨_,rfl⟩;rw [hq];clear hq hI hS5 hS6 hw6
  case' o2 =>
   intro K hK;go_simp;refine hK _ _ (fun h=>absurd h (by decide +kernel)) ?_;clear hK K;refine aR 0 rfl (by kernel_rfl) ?_;intro K hK;go_simp;have hS5:Since W0 (W0.alloc (.cells (cs W0) 58)):=(Since.refl W0).alloc _;refine (MJ (W0.alloc (.cells (cs W0) 58)) (W0.alloc (.cells (cs W0) 58)) (Since.refl _)).mono ?_;rintro e w6 ⟨b,cap,rfl,hI6,hS6⟩;dsimp only;refine hK _ _ (fun h=>absurd h (by decide +kernel)) ?_;clear hK K;have hc6:=hc4.trans (hs0.trans (hS5.trans hS6));have hg6:=hs0.trans (hS5.trans hS6);obtain ⟨q,hq⟩:∃ y,W0.heap.size=y:=⟨_,rfl⟩;rw [hq];clear hq hS5 hS6
  all_goals
   refine aR 2 rfl (by kernel_rfl) ?_;intro K hK;go_simp;refine (f3.out _ _ _ _ _ hI6).mono ?_;rintro e w7 ⟨rfl,hS7⟩;dsimp only;refine hK _ _ (fun h=>absurd h (by decide +kernel)) ?_;clear hK K;refine tW 3 rfl ?_;go_big_quiet_op;refine tW 4 rfl ?_;go_big_quiet_op;refine tW 5 rfl ?_;go_big_quiet_op;refine tW 6 rfl ?_;go_big_quiet_op;refine tW 7 rfl ?_;go_big_quiet_op;refine tW 8 rfl ?_;go_big_quiet_op;refine tW 9 rfl ?_;go_big_quiet_op;refine bH (by kernel_rfl) ?_
   go_wp2_with fail
   go_meet
   case rel=>exact ⟨rfl,hg6.trans hS7⟩
 case rest =>
  obtain ⟨rfl,hg7⟩:=hcut;obtain ⟨w7,hw7⟩:∃ y,y=wc:=⟨_,rfl⟩;rw [<-hw7] at hg7 ⊢;clear hw7;have hM7:=hM4.since hg7;have hK7:=hK4.since fU hg7;have hc7:=hc4.trans hg7;clear hM4 hK4 hg7 hc4;have dH:=aI w;obtain ⟨bm,om,rfl,hbm,hcm⟩:=hM7.cells (by omega);obtain ⟨g0,g1,g2,g3,g4⟩:=bP hcm 3 ⟨2,1,3,false,⟨#[99]⟩⟩ rfl;dsimp only at g0 g1 g2 g3 g4;clear hcm hM7
  go_wp2_with fail
  obtain ⟨W8,hW0⟩:∃ y,w7.drew=y:=⟨_,rfl⟩;have hs8:=aQ hW0;obtain ⟨S8,hS8⟩:∃ S0:World->Prop,∀ w',S0 w'↔Since w7 w':=⟨_,fun _=>Iff.rfl⟩;have x0:∀ y:ak S8,y.w.cell? ⟨bm,om+15,none⟩=some (.int .i64 2):=fun y=>(((hS8 _).1 y.h).cellAt hbm _).trans g0;have x1:∀ y:ak S8,y.w.cell? ⟨bm,om+16,none⟩=some (.int .i64 1):=fun y=>(((hS8 _).1 y.h).cellAt hbm _).trans g1;have x2:∀ y:ak S8,y.w.cell? ⟨bm,om+17,none⟩=some (.int .i64 3):=fun y=>(((hS8 _).1 y.h).cellAt hbm _).trans g2;have x3:∀ y:ak S8,y.w.cell? ⟨bm,om+18,none⟩=some (.bool false):=fun y=>(((hS8 _).1 y.h).cellAt hbm _).trans g3;have x4:∀ y:ak S8,y.w.cell? ⟨bm,om+19,none⟩=some (.string ⟨#[99]⟩):=fun y=>(((hS8 _).1 y.h).cellAt hbm _).trans g4;have fE:=(hS8 W8).2 hs8;have hne:Nonempty (ak S8):=⟨⟨_,fE⟩⟩;simp only [Nat.reduceMul,Nat.add_assoc,Nat.reduceAdd] at g0 g1 g2 g3 g4;refine aK (fun w'=>∃ x:ak S8,w'=x.w) (by kernel_rfl) ?_;rw [hW0];clear hW0;refine tW 0 rfl ?_;go_big_quiet_op;refine tW 1 rfl ?_;go_big_quiet_op;refine tW 2 rfl ?_;go_big_quiet_op;refine tW 3 rfl ?_;go_big_quiet_op;refine tW 4 rfl ?_;go_big_quiet_op;refine tW 5 rfl ?_;go_big_quiet_op;refine tW 6 rfl ?_;go_big_quiet_op;refine tW 7 rfl ?_;go_big_quiet_op;refine tW 8 rfl ?_;go_big_quiet_op;refine tW 9 rfl ?_;go_big_quiet_op;refine tW 10 rfl ?_;go_big_quiet_op;refine tW 11 rfl ?_;go_big_quiet_op;refine tM 12 rfl (aj fE) ?_;go_big_quiet_op;refine tW 13 rfl ?_;go_big_quiet_op;refine tW 14 rfl ?_;go_big_quiet_op;refine tW 15 rfl ?_;go_big_quiet_op;refine tW 16 rfl ?_;go_big_quiet_op;refine tW 17 rfl ?_;go_big_quiet_op;refine tM 18 rfl (aj fE) ?_;go_big_quiet_op;refine aR 19 rfl (by kernel_rfl) ?_;intro K hK;go_simp;refine (OV 2 1 3 ⟨#[99]⟩ W8).mono ?_;rintro e w9 ⟨rfl,hS9⟩;dsimp only;have hA9:=hs8.trans hS9;refine hK _ _ (fun _ _=>aj ((hS8 _).2 hA9)) ?_;clear hK K;refine tW 20 rfl ?_;go_big_quiet_op;refine tW 21 rfl ?_;go_big_quiet_op;refine tW 22 rfl ?_;go_big_quiet_op;refine tW 23 rfl ?_;go_big_quiet_op;have hK9:=hK7.since fU (hs8.trans hS9);have hc9:=hc7.trans (hs8.trans hS9);have hB9:Since w9 w9:=Since.refl _;clear x0 x1 x2 x3 x4 hne fE hs8 hS9 hK7 hc7 g0 g1 g2 g3 g4 hbm
  refine SN 24 25 26 27 rfl rfl rfl rfl (by kernel_rfl) ?_ ?_ ?_ ?_ <;> (intro K hK;go_simp;refine hK _ _ (fun _ _=>aj ((hS8 _).2 (by first | exact hA9.alloc _ | exact (hA9.alloc _).alloc _ | exact ((hA9.alloc _).alloc _).alloc _ | exact (((hA9.alloc _).alloc _).alloc _).alloc _))) ?_;clear hK K) <;> (first | refine JL 24 25 26 rfl rfl rfl (by decide +kernel) ?_ ?_ ?_ | refine JL 24 25 27 rfl rfl rfl (by decide +kernel) ?_ ?_ ?_ | refine JL 24 26 27 rfl rfl rfl (by decide +kernel) ?_ ?_ ?_ | refine JL 25 26 27 rfl rfl rfl (by decide +kernel) ?_ ?_ ?_) <;> (intro K hK;go_simp;refine hK _ _ (fun _ _=>aj ((hS8 _).2 (by first | exact hA9.alloc _ | exact (hA9.alloc _).alloc _ | exact ((hA9.alloc _).alloc _).alloc _ | exact (((hA9.alloc _).alloc _).alloc _).alloc _))) ?_;clear hK K) <;> (first | refine rP 24 25 rfl rfl (by decide +kernel) ?_ ?_ | refine rP 24 26 rfl rfl (by decide +kernel) ?_ ?_ | refine rP 24 27 rfl rfl (by decide +kernel) ?_ ?_ | refine rP 25 26 rfl rfl (by decide +kernel) ?_ ?_ | refine rP 25 27 rfl rfl (by decide +kernel) ?_ ?_ | refine rP 26 27 rfl rfl (by decide +kernel) ?_ ?_) <;> (intro K hK;go_simp;refine hK _ _ (fun _ _=>aj ((hS8 _).2 (by first | exact hA9.alloc _ | exact (hA9.alloc _).alloc _ | exact ((hA9.alloc _).alloc _).alloc _ | exact (((hA9.alloc _).alloc _).alloc _).alloc _))) ?_;clear hK K) <;> (first | refine aR 24 rfl (by decide +kernel) ?_ | refine aR 25 rfl (by decide +kernel) ?_ | refine aR 26 rfl (by decide +kernel) ?_ | refine aR 27 rfl (by decide +kernel) ?_) <;> (intro K hK;go_simp;refine hK _ _ (fun _ _=>aj ((hS8 _).2 (by first | exact hA9.alloc _ | exact (hA9.alloc _).alloc _ | exact ((hA9.alloc _).alloc _).alloc _ | exact (((hA9.alloc _).alloc _).alloc _).alloc _))) ?_;clear hK K)
  all_goals
   refine aR 28 rfl (by kernel_rfl) ?_;intro K hK;go_simp;refine hK _ _ (fun _ _=>aj ((hS8 _).2 (((((hA9.alloc _).alloc _).alloc _).alloc _).alloc _))) ?_;clear hK K;refine aR 29 rfl (by kernel_rfl) ?_;intro K hK;go_simp
   refine (Fp _ _ _ _ _ _ _ _ (hK9.since fU (((((hB9.alloc _).alloc _).alloc _).alloc _).alloc _)) (Ij (newAt (by simp [World.size_alloc,Nat.add_assoc])) (B4.bools (by unfold B4;repeat (first | (refine newAt ?_;first | rfl | (simp only [World.size_alloc];done) | (simp only [World.size_alloc];omega)) | refine (Below.heap_alloc _ _ _ (by simp only [World.size_alloc];omega)).trans ?_))) (B4.bools (by unfold B4;repeat (first | (refine newAt ?_;first | rfl | (simp only [World.size_alloc];done) | (simp only [World.size_alloc];omega)) | refine (Below.heap_alloc _ _ _ (by simp only [World.size_alloc];omega)).trans ?_))) (B4.bools (by unfold B4;repeat (first | (refine newAt ?_;first | rfl | (simp only [World.size_alloc];done) | (simp only [World.size_alloc];omega)) | refine (Below.heap_alloc _ _ _ (by simp only [World.size_alloc];omega)).trans ?_))) (B4.bools (by unfold B4;repeat (first | (refine newAt ?_;first | rfl | (simp only [World.size_alloc];done) | (simp only [World.size_alloc];omega)) | refine (Below.heap_alloc _ _ _ (by simp only [World.size_alloc];omega)).trans ?_))))).mono ?_
   rintro e wF ⟨rfl,hSF⟩;dsimp only;have hfin:=(((((hA9.alloc _).alloc _).alloc _).alloc _).alloc _).trans hSF;have hcF:=(((((hc9.alloc _).alloc _).alloc _).alloc _).alloc _).trans hSF;refine hK _ _ (fun _ _=>aj ((hS8 _).2 hfin)) ?_;clear hK K;refine tW 30 rfl ?_;go_big_quiet_op;refine tW 31 rfl ?_;go_big_quiet_op;refine bH (by kernel_rfl) ?_
   go_wp2
   go_ret
   exact ⟨rfl,hcF⟩
def Fq:List Ac:=[⟨1,0,0,⟨#[97]⟩⟩,⟨1,2,1,⟨#[98]⟩⟩,⟨3,0,1,⟨#[]⟩⟩,⟨2,1,1,⟨#[]⟩⟩,⟨3,1,2,⟨#[]⟩⟩,⟨1,2,1,⟨#[99]⟩⟩]
def SQ:List Mg:=[⟨0,0,1,false,⟨#[97]⟩⟩,⟨2,1,1,false,⟨#[98]⟩⟩,⟨1,1,2,true,⟨#[]⟩⟩,⟨2,1,3,false,⟨#[99]⟩⟩]
theorem MU:yL 3 [3,6] Fq=0/\lU (iL 3 [3,6] Fq) SQ=true/\rD 3 [3,6] Fq=[[false,false,false,false],[false,false,false,false],[true,false,false,false],[true,true,true,false]]:=by decide +kernel
theorem zR (w:World):Calls prog 73 #[] w fun e w'=>e=.returned (.bool true)/\Since w w':=by
 refine zQ ⟨0,0,1,false,⟨#[97]⟩⟩ ⟨2,1,1,false,⟨#[98]⟩⟩ ⟨1,1,2,true,⟨#[]⟩⟩ ?_ ?_ ?_ w
 ·intro y a cap hI;have h:=Cw 3 a 2 cap [3,6] _ _ 6 Fq _ hI (MV y Fq (by decide) 58);rw [MU.1,(lV _ _).1 MU.2.1,MU.2.2] at h;refine h.mono ?_;rintro e w' ⟨sa,sc,sb,sd,rfl,h1,h2,h3⟩;exact ⟨sa,sc,sb,sd,rfl,h1,h2,((Since.refl y).alloc _).trans h3⟩
 ·intro y;exact EU 3 none 0 0 [] none 0 0 y E9 (by decide)
 ·intro y a cap ac iV hI;exact Ct 3 a cap [3,6] ac 81 iV y hI (by decide) (by decide) (by decide) (by decide)
theorem Fy (n:Nat) (a b:Option Addr) (c e:Nat) (xss:List (List Bool)) (hl:xss.length=n) (w:World) (h1:Slices jy w a n xss) (h2:Slices jy w b n xss) :
  Calls prog 74 #[.slice a n c,.slice b n e] w fun e w'=>e=.returned (.bool true)/\Since w w':=by
 subst hl;exact rR a b c e xss w h1 h2
theorem wI (nodes:Int) (a:Option Addr) (len cap:Nat) (l:List Int) (ac:Option Addr) (al iV:Nat) (acts:List Ac) (w:World) (hI:Ints w a len l) (hA:vk w ac al acts) :
  Calls prog 24 #[.int .i64 nodes,.slice a len cap,.slice ac al iV] w fun e w'=>e=.returned (.bool true)/\Since w w':=by
 have hMk:=Cw nodes a len cap l ac al iV acts w hI hA;have hRf:=fun y (hy:Since w y)=>Dx nodes a len cap l ac al iV acts y (hI.since hy) (hA.since hy);have hlY:=qm nodes l acts;obtain ⟨er,her⟩:∃ y,yL nodes l acts=y:=⟨_,rfl⟩;obtain ⟨X,hX⟩:∃ y,iL nodes l acts=y:=⟨_,rfl⟩;obtain ⟨Y,hY⟩:∃ y,rD nodes l acts=y:=⟨_,rfl⟩;simp only [her,hX,hY] at hMk hRf hlY;have HLY:Hid (Y.length=X.length):=hlY;have HSS:Hid (lU X X=true):=(lV X X).2 rfl;clear her hX hY hI hA hlY
 go_enter func24,ntmps24
 go_wp2_with fail
 refine hMk.mono ?_;rintro e w2 ⟨sa,sc,sb,sd,rfl,hM,hB,hS2⟩;dsimp only;clear hMk;have hR2:=hRf w2 hS2;clear hRf
 go_wp2_with fail
 refine hR2.mono ?_;rintro e w3 ⟨ta,tc,tb,td,rfl,hM',hB',hS3⟩;dsimp only;clear hR2;have hBg:=zR w3
 have HSM:Hid (∀ y,Since w3 y->Calls prog 40 #[.slice sa X.length sc,.slice ta X.length tc] y fun e w'=>e=.returned (.bool true)/\Since y w'):=fun y hy=>by
  have h:=Dy sa X.length sc X ta X.length tc X y ((hM.since hS3).since hy) (hM'.since hy);rw [HSS.out] at h;exact h
 have HSK:Hid (∀ y,Since w3 y->Calls prog 74 #[.slice sb X.length sd,.slice tb X.length td] y fun e w'=>e=.returned (.bool true)/\Since y w'):=fun y hy =>
  Fy X.length sb tb sd td Y HLY.out y ((hB.since fU hS3).since fU hy) (hB'.since fU hy)
 clear hM hB hM' hB'
 go_wp2_with (first
  | (go_at_call 73;refine hBg.mono ?_;rintro e w4 ⟨rfl,hS4⟩;have hSM:=HSM.out w4 hS4)
  | (go_at_call 40;refine hSM.mono ?_;rintro e w5 ⟨rfl,hS5⟩;have hSK:=HSK.out w5 (hS4.trans hS5))
  | (go_at_call 74;refine hSK.mono ?_;rintro e w6 ⟨rfl,hS6⟩))
 go_ret
 exact ⟨by simp,hS2.trans (hS3.trans (hS4.trans (hS5.trans hS6)))⟩
end Go.Proofs.YtiiifecfdkjmbaaGreat
