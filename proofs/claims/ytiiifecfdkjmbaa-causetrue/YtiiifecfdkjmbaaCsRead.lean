/- Lemmas. Lemmas. -/
import Derived.Test.YtiiifecfdkjmbaaCsMarks
import Derived.Test.YtiiifecfdkjmbaaCsMark
set_option maxHeartbeats 1000000
namespace Go.Proofs.Ytiiifecfdkjmbaa
open _root_.Go.Proofs.Try
set_option maxRecDepth 8000
open Go.RowKit Go.Shelf
open Pu
set_option linter.unusedVariables false
set_option linter.unusedSimpArgs false
structure Bools (w:World) (a:Option Addr) (len:Nat) (bs:List Bool):Prop where
 hlen:bs.length=len
 hmax:len<=2932031007320
 cells:0 < len->∃ b off,a=some ⟨b,off,none⟩/\b < w.heap.size/\∀ (j:Nat) (u:Bool),bs[j]? = some u->w.cell? ⟨b,off+j,none⟩=some (.bool u)
theorem Bools.since {w W:World} {a:Option Addr} {len:Nat} {bs:List Bool} (h:Bools w a len bs) (k:Since w W):Bools W a len bs :=
 ⟨h.hlen,h.hmax,fun hp=>by
  obtain ⟨b,off,e,hb,hc⟩:=h.cells hp
  exact ⟨b,off,e,zQ4 hb k.size,fun j u hu=>(k.cellAt hb _).trans (hc j u hu)⟩⟩
def iK (w:World) (v:Value) (xs:List Bool):Prop:=∃ a cap,v=.slice a xs.length cap/\xs.length<=cap/\Bools w a xs.length xs
theorem gu:Stable iK:=fun _ _ _ _ k ⟨a,cap,e,hc,h⟩=>⟨a,cap,e,hc,h.since k⟩
theorem Em {w:World} {lo:Nat} {s:Sl} {bs:List Bool} (h:Row w lo 1 s bs.length (fG bs)) (hm:bs.length<=1000):Bools w s.a bs.length bs:=by
 refine ⟨rfl,by omega,fun hp=>?_⟩
 obtain ⟨b,off,e,_,hb,_,hx⟩:=h.body (by have:=h.cap;omega)
 exact ⟨b,off,e,hb,fun j u hu=>hx j _ (by unfold fG;rw [List.getElem?_map,hu];rfl)⟩
theorem Ae {lo:Nat} {w:World} {s:Sl} {rs:Nat->Sl} {xss:List (List Bool)} (h:bP 1 fG lo w s rs xss) (hm:xss.length<=1000) (hr:∀ xs,xs∈xss->xs.length<=1000):Slices iK w s.a xss.length xss:=by
 refine ⟨rfl,by omega,fun hp=>?_⟩
 obtain ⟨b,off,e,_,hb,_,hx⟩:=h.top.body (by have:=h.top.cap;omega)
 refine ⟨b,off,e,hb,fun i xs hi=>?_⟩
 have hil:=(zQ2.1 hi).1
 refine ⟨(rs i).v xs.length,hx i _ ?_,(rs i).a,(rs i).cap,rfl,(h.rows i xs hi).cap,Em (h.rows i xs hi) (hr xs (List.mem_of_getElem? hi))⟩
 rw [List.getElem?_map,List.getElem?_range hil]
 simp [hi]
theorem uU (a b:Option Addr) (c e:Nat) (xss:List (List Bool)) (w:World) (h1:Slices iK w a xss.length xss) (h2:Slices iK w b xss.length xss) :
  Calls prog 70 #[.slice a xss.length c,.slice b xss.length e] w fun e w'=>e=.returned (.bool true)/\Since w w':=by
 have hmax:=h1.hmax
 have H1:=(show Hid _ from h1)
 have H2:=(show Hid _ from h2)
 clear h1 h2
 go_enter func70,ntmps70
 go_wp2
 go_loopw [5] (fun i wr=>∃ k:Nat,k<=xss.length/\i=.int .i64 k/\Since w wr) (fun i _=>xss.length - (intOf i).toNat)
 case atStart=>exact ⟨0,Nat.zero_le _,rfl,Since.refl w⟩
 case round =>
  obtain ⟨wo,rfl⟩:∃ wo,wo=wr:=⟨_,rfl⟩
  obtain ⟨k,hk,rfl,hSr⟩:=hrel
  by_cases hlt:k < xss.length
  ·obtain ⟨xs,hxs⟩:∃ m,xss[k]? = some m:=⟨_,zQ1 hlt⟩
   have n1:(k:Int) < (xss.length:Int):=by omega
   obtain ⟨ba,oa,rfl,hba,hca⟩:=(H1.out.since gu hSr).cells (by omega)
   obtain ⟨bb,ob,rfl,hbb,hcb⟩:=(H2.out.since gu hSr).cells (by omega)
   obtain ⟨v1,e1,ra,rc,rfl,_,hB1⟩:=hca k xs hxs
   obtain ⟨v2,e2,rb,rd,rfl,_,hB2⟩:=hcb k xs hxs
   have hxm:=hB1.hmax
   have HB1:=(show Hid _ from hB1)
   have HB2:=(show Hid _ from hB2)
   clear hca hcb hxs hB1 hB2
   go_wp2_with fail
   obtain ⟨W0,hW0⟩:∃ y,wo.drew=y:=⟨_,rfl⟩
   have hs0:=aJ hW0
   obtain ⟨S0,hS0⟩:∃ S0:World->Prop,∀ w',S0 w'↔Since wo w':=⟨_,fun _=>Iff.rfl⟩
   have a1:∀ y:aj S0,y.w.cell? ⟨ba,oa+k,none⟩=some (.slice ra xs.length rc):=fun y=>(((hS0 _).1 y.h).cellAt hba _).trans e1
   have a2:∀ y:aj S0,y.w.cell? ⟨bb,ob+k,none⟩=some (.slice rb xs.length rd):=fun y=>(((hS0 _).1 y.h).cellAt hbb _).trans e2
   have ak:=(hS0 W0).2 hs0
   have hne:Nonempty (aj S0):=⟨⟨_,ak⟩⟩
   have bG:=aG w
   refine aF (fun w'=>∃ x:aj S0,w'=x.w) (by kernel_rfl) ?_
   rw [hW0]
   clear hW0
   refine tW 0 rfl ?_;go_big_quiet_op
   refine tW 1 rfl ?_;go_big_quiet_op
   refine tW 2 rfl ?_;go_big_quiet_op
   refine tM 3 rfl (ah ak) ?_;go_big_quiet_op
   refine tM 4 rfl (ah ak) ?_;go_big_quiet_op
   refine tW 5 rfl ?_;go_big_quiet_op
   refine tW 6 rfl ?_;go_big_quiet_op
   refine tW 7 rfl ?_;go_big_quiet_op
   refine tM 8 rfl (ah ak) ?_;go_big_quiet_op
   refine tM 9 rfl (ah ak) ?_;go_big_quiet_op
   refine tW 10 rfl ?_;go_big_quiet_op
   refine aM (by kernel_rfl) ?_
   clear a1 a2 hne ak hS0
   have hS0:=hSr.trans hs0
   have e1:=(hs0.cellAt hba _).trans e1
   have e2:=(hs0.cellAt hbb _).trans e2
   have HB1:=(show Hid _ from HB1.out.since hs0)
   have HB2:=(show Hid _ from HB2.out.since hs0)
   have hba:=zQ4 hba hs0.size
   have hbb:=zQ4 hbb hs0.size
   clear hs0
   go_wp2
   go_loopw [6] (fun i wr=>∃ j:Nat,j<=xs.length/\i=.int .i64 j/\Since W0 wr) (fun i _=>xs.length - (intOf i).toNat)
   case atStart=>exact ⟨0,Nat.zero_le _,rfl,Since.refl W0⟩
   case round =>
    obtain ⟨wi,rfl⟩:∃ wo,wo=wr:=⟨_,rfl⟩
    obtain ⟨j,hj,rfl,hSj⟩:=hrel
    have e1:=(hSj.cellAt hba _).trans e1
    have e2:=(hSj.cellAt hbb _).trans e2
    by_cases hjl:j < xs.length
    ·obtain ⟨u,hu⟩:∃ m,xs[j]? = some m:=⟨_,zQ1 hjl⟩
     have n2:(j:Int) < (xs.length:Int):=by omega
     obtain ⟨bp,op,rfl,hbp,hcp⟩:=(HB1.out.since hSj).cells (by omega)
     obtain ⟨bq,oq,rfl,hbq,hcq⟩:=(HB2.out.since hSj).cells (by omega)
     have g1:=hcp j u hu
     have g2:=hcq j u hu
     have hba:=zQ4 hba hSj.size
     have hbb:=zQ4 hbb hSj.size
     clear hcp hcq hu
     go_wp2_with fail
     obtain ⟨W5,hW0⟩:∃ y,wi.drew=y:=⟨_,rfl⟩
     have hs5:=aJ hW0
     obtain ⟨S5,hS5⟩:∃ S0:World->Prop,∀ w',S0 w'↔Since wi w':=⟨_,fun _=>Iff.rfl⟩
     have a1:∀ y:aj S5,y.w.cell? ⟨ba,oa+k,none⟩=some (.slice (some ⟨bp,op,none⟩) xs.length rc):=fun y=>(((hS5 _).1 y.h).cellAt hba _).trans e1
     have a2:∀ y:aj S5,y.w.cell? ⟨bb,ob+k,none⟩=some (.slice (some ⟨bq,oq,none⟩) xs.length rd):=fun y=>(((hS5 _).1 y.h).cellAt hbb _).trans e2
     have a3:∀ y:aj S5,y.w.cell? ⟨bp,op+j,none⟩=some (.bool u):=fun y=>(((hS5 _).1 y.h).cellAt hbp _).trans g1
     have a4:∀ y:aj S5,y.w.cell? ⟨bq,oq+j,none⟩=some (.bool u):=fun y=>(((hS5 _).1 y.h).cellAt hbq _).trans g2
     have kT:=(hS5 W5).2 hs5
     have hne:Nonempty (aj S5):=⟨⟨_,kT⟩⟩
     refine aF (fun w'=>∃ x:aj S5,w'=x.w) (by kernel_rfl) ?_
     rw [hW0]
     clear hW0
     refine tW 0 rfl ?_;go_big_quiet_op
     refine tW 1 rfl ?_;go_big_quiet_op
     refine tW 2 rfl ?_;go_big_quiet_op
     refine tM 3 rfl (ah kT) ?_;go_big_quiet_op
     refine tW 4 rfl ?_;go_big_quiet_op
     refine tW 5 rfl ?_;go_big_quiet_op
     refine tM 6 rfl (ah kT) ?_;go_big_quiet_op
     refine tW 7 rfl ?_;go_big_quiet_op
     refine tW 8 rfl ?_;go_big_quiet_op
     refine tW 9 rfl ?_;go_big_quiet_op
     refine tM 10 rfl (ah kT) ?_;go_big_quiet_op
     refine tW 11 rfl ?_;go_big_quiet_op
     refine tW 12 rfl ?_;go_big_quiet_op
     refine tM 13 rfl (ah kT) ?_;go_big_quiet_op
     refine tW 14 rfl ?_;go_big_quiet_op
     refine aM (by kernel_rfl) ?_
     clear a1 a2 a3 a4 hne kT hS5
     go_wp2
     go_roundw
     case rel=>exact ⟨j+1,by omega,by go_num,hSj.trans hs5⟩
     case measure=>simp [intOf];omega
    ·obtain rfl:j=xs.length:=by omega
     go_wp2
     go_roundw
     case rel=>exact ⟨k+1,by omega,by go_num,hS0.trans hSj⟩
     case measure=>simp [intOf];omega
  ·obtain rfl:k=xss.length:=by omega
   go_wp2
   go_ret
   exact ⟨rfl,hSr⟩
theorem xW (nodes:Int) (l:List Int) (acts:List Ac):(oU nodes l acts).length=(gF nodes l acts).length:=by
 unfold oU gF
 split
 ·unfold iX;rw [List.length_map]
 ·rfl
theorem xX (nodes:Int) (l:List Int) (acts:List Ac):(gF nodes l acts).length<=80:=by
 unfold gF
 split
 ·rename_i h
  have:=yR acts (l9 nodes.toNat l)
  unfold scD
  have e:(l9 nodes.toNat l).sent.length=0:=rfl
  omega
 ·simp
theorem Ct (nodes:Int) (l:List Int) (acts:List Ac):∀ xs,xs∈oU nodes l acts->xs.length=(gF nodes l acts).length:=by
 unfold oU gF
 split
 ·intro xs hx
  unfold iX at hx
  obtain ⟨m,_,rfl⟩:=List.mem_map.1 hx
  rw [List.length_map]
 ·intro xs hx;cases hx
theorem sw (nodes:Int) (a:Option Addr) (len cap:Nat) (l:List Int) (ac:Option Addr) (al gG:Nat) (acts:List Ac) (w:World) (hI:Ints w a len l) (hA:qJ w ac al acts) :
  Calls prog 32 #[.int .i64 nodes,.slice a len cap,.slice ac al gG] w fun e w'=>∃ (sa:Option Addr) (sc:Nat) (sb:Option Addr) (sd:Nat),e=.returned (.tuple #[.slice sa (gF nodes l acts).length sc,.slice sb (gF nodes l acts).length sd,.int .i64 (qU nodes l acts)])/\fO w' sa (gF nodes l acts).length (gF nodes l acts)/\Slices iK w' sb (gF nodes l acts).length (oU nodes l acts)/\Since w w':=by
 refine (F6 nodes a len cap l ac al gG acts w hI hA).mono ?_
 rintro e w' ⟨sa,sc,sl,rs,rfl,hM,hO,hS⟩
 have hx:=xX nodes l acts
 have h:=Ae hO (by rw [xW];omega) (fun xs hxs=>by rw [Ct nodes l acts xs hxs];omega)
 rw [xW] at h
 exact ⟨sa,sc,sl.a,sl.cap,rfl,hM,h,hS⟩
end Go.Proofs.Ytiiifecfdkjmbaa
