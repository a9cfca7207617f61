/- Lemmas. Lemmas. -/
import Derived.Test.YtiiifecfdkjmbaaGreatTSCalmX
import Derived.Test.YtiiifecfdkjmbaaGreatTCsRead
import Derived.Test.YtiiifecfdkjmbaaGreatTMsg
import Derived.Test.YtiiifecfdkjmbaaGreatTAgX
namespace Go.Proofs.YtiiifecfdkjmbaaGreat
open _root_.Go.Proofs.Tryz hiding checked
set_option maxRecDepth 8000
open Go.RowKit Go.Shelf
open Pu
set_option linter.unusedVariables false
def sV (d:Wd):Int:=match checked d (iY d) with | .error e=>e | .ok _=>0
def sZ (d:Wd):Wd:=match checked d (iY d) with | .error _=>⟨[],[],[]⟩ | .ok d'=>d'
theorem Jb (w:World):WAt w ⟨none,0,0,none,0,0,none,0,0⟩ ⟨[],[],[]⟩ :=
 ⟨⟨rfl,by simp,fun h=>absurd h (by simp)⟩,Nat.le_refl _,⟨rfl,by simp,fun h=>absurd h (by simp)⟩,Nat.le_refl _,⟨rfl,by simp,fun h=>absurd h (by simp)⟩,Nat.le_refl _⟩
theorem Jc (x:WV) (d:Wd) (w:World) (hW:WAt w x d) :
  Calls prog 46 #[.agg #[.slice x.ga x.gl x.gc,.slice x.na x.nl x.nc,.slice x.wa x.wl x.wc]] w fun e w'=>∃ v:WV,e=.returned (.tuple #[.agg #[.slice v.ga v.gl v.gc,.slice v.na v.nl v.nc,.slice v.wa v.wl v.wc],.int .i64 (sV d)])/\WAt w' v (sZ d)/\Since w w':=by
 refine (nM x d w hW).mono ?_
 intro e w' h
 unfold sV sZ
 cases hr:checked d (iY d) with
 | error er =>
  rw [hr] at h
  obtain ⟨he,hS⟩:=h.out.1 er rfl
  exact ⟨⟨none,0,0,none,0,0,none,0,0⟩,he,Jb w',hS⟩
 | ok d' =>
  rw [hr] at h
  obtain ⟨v,he,hv,hS⟩:=sM h
  exact ⟨v,he,hv,hS⟩
end Go.Proofs.YtiiifecfdkjmbaaGreat
set_option maxHeartbeats 2000000
namespace Go.Proofs.YtiiifecfdkjmbaaGreat
open _root_.Go.Proofs.Tryz hiding checked
set_option maxRecDepth 8000
open Go.RowKit Go.Shelf
open Pu
set_option linter.unusedVariables false
set_option linter.unusedSimpArgs false
theorem KI {w:World} {ops:Array Oper} {rest:List Oper} {o:Oper} {a:Act} {Q:Exit->Act->World->Prop} {t e:TypeId} {size bytes:Nat} (hE:ET t e size bytes) (hgd:o.guard=none) (ds dx:Operand) (tx:TypeId)
  (ho:o.op=.call { callee:=.builtin .append,args:=#[ds,dx],argTypes:=#[t,tx] })
  {lo:Nat} {sa:Option Addr} {sc n:Nat} {xs:List Value} (hd:a.eval ds=.slice sa n sc) (hR:Row w lo size ⟨sa,sc⟩ n xs) {x:Value} {m:Nat} {news:List Value} (hx:a.eval dx=x) (hs:Src prog size tx x m news w)
  (hm:n+m<=5000000000000) (hb:(n+m)*bytes<=140737488355328) (hlo:lo<=w.heap.size)
  (h:∀ a' c' w',Row w' lo size ⟨a',c'⟩ (n+m) (xs++news)->Fr (fun k=>Sl.blk ⟨sa,sc⟩=some k) w w'->((⟨a',c'⟩:Sl)=⟨sa,sc⟩\/(Since w w'/\Sl.blk ⟨a',c'⟩=some w.heap.size))->wpList prog ops Q rest (a.put o.dst (.slice a' (n+m) c')) w'):wpList prog ops Q (o::rest) a w:=by
 obtain ⟨i,z,h1,h2,h3,h4,h5⟩:=hE.info
 exact lU w hgd ds dx t tx ho e i z size bytes hE.und h1 h2 h3 h4 h5 (s:=⟨sa,sc⟩) hd hR hx hs (by unfold maxLen;omega) hb hlo (fun s' w'=>h s'.a s'.cap w')
theorem Cx:∀ (l:List Ac) (i:Nat) (x:Ac),l[i]? = some x->∀ j,j < 4->(l.flatMap fK)[i*4+j]? = (fK x)[j]?:=by
 intro l
 induction l with
 | nil=>intro i x h;simp at h
 | cons y ys ih =>
  intro i x h j hj
  cases i with
  | zero =>
   simp at h;subst h
   rw [List.flatMap_cons,List.getElem?_append_left (by simp [fK];omega)];simp
  | succ i =>
   simp at h
   rw [List.flatMap_cons,List.getElem?_append_right (by simp [fK];omega)]
   have:=ih i x h j hj
   rw [<-this];congr 1;simp [fK];omega
theorem Gx {w:World} {lo:Nat} {s:Sl} {l:List Ac} (h:Row w lo 4 s l.length (l.flatMap fK)) (hl:l.length<=3518437208780):mQ w s.a l.length l:=by
 refine ⟨rfl,hl,fun hp=>?_⟩
 obtain ⟨b,off,e,_,hb,_,hx⟩:=h.body (by have:=h.cap;omega)
 refine ⟨b,off,e,hb,fun i x hi=>?_⟩
 have k:=Cx l i x hi
 have g:∀ j v,j < 4->(fK x)[j]? = some v->w.cell? ⟨b,off+i*4+j,none⟩=some v:=fun j v hj hv=>by rw [Nat.add_assoc];exact hx _ v ((k j hj).trans hv)
 exact ⟨g 0 _ (by omega) rfl,g 1 _ (by omega) rfl,g 2 _ (by omega) rfl,g 3 _ (by omega) rfl⟩
theorem Jh (nodes:Int) (a:Option Addr) (len cap:Nat) (l:List Int) (ac:Option Addr) (El fM:Nat) (acts:List Ac) (w:World) (hI:Ints w a len l) (hA:mQ w ac El acts) :
  Calls prog 48 #[.int .i64 nodes,.slice a len cap,.slice ac El fM] w fun e w'=>∃ (v:WV) (b:Bool),e=.returned (.tuple #[.agg #[.slice v.ga v.gl v.gc,.slice v.na v.nl v.nc,.slice v.wa v.wl v.wc],.bool b])/\((bF nodes l=0/\acts.length<=80)->b=true/\WAt w' v (doneD nodes.toNat l acts))/\Since w w':=by
 have hal:=hA.hlen
 by_cases hc:bF nodes l=0/\acts.length<=80
 ·obtain ⟨h1,h2,h3,h4⟩:=jv hc.1
  obtain ⟨k,rfl⟩:∃ k:Nat,nodes=(k:Int):=⟨nodes.toNat,by omega⟩
  have hl:=hI.hlen
  subst hl hal
  refine (KE k a cap l ac fM acts w hI hA (by omega) h4 hc.1 hc.2).mono ?_
  rintro e w' ⟨v,rfl,hW,hS⟩
  exact ⟨v,true,rfl,fun _=>⟨rfl,by rw [Int.toNat_natCast];exact hW⟩,hS⟩
 ·refine (KG nodes a len cap l ac El fM acts w hI hA ?_).mono ?_
  ·by_cases h1:bF nodes l=0
   ·right;rw [<-hal];exact Nat.lt_of_not_le fun h2=>hc ⟨h1,h2⟩
   ·exact .inl h1
  ·rintro e w' ⟨rfl,hS⟩
   exact ⟨⟨none,0,0,none,0,0,none,0,0⟩,false,rfl,fun h=>absurd h hc,hS⟩
theorem ze (nodes:Int) (a:Option Addr) (len cap:Nat) (l:List Int) (ac:Option Addr) (fM:Nat) (acts:List Ac) (cn:Int) (w:World) (n:Nat) (xs:List Mg) (rows:List (List Bool)) (er CE:Int) (d X:Wd) (tn:Nat)
  (hMk:Calls prog 71 #[.int .i64 nodes,.slice a len cap,.slice ac acts.length fM] w fun e w'=>∃ (sa:Option Addr) (sc:Nat) (sb:Option Addr) (sd:Nat),e=.returned (.tuple #[.slice sa n sc,.slice sb n sd,.int .i64 er])/\eY w' sa n xs/\Slices jk w' sb n rows/\Since w w')
  (hI:Ints w a len l) (hA:mQ w ac acts.length acts)
  (HER:Hid (er=0->(bF nodes l=0/\(bK acts).length<=80)/\doneD nodes.toNat l (bK acts)=d/\sV d=CE/\sZ d=X))
  (HCE:Hid (er=0->¬ CE=0->CE=2))
  (HCH:Hid (er=0->∀ y,Calls prog 52 #[.int .i64 cn,.int .i64 nodes] y fun e w'=>e=.returned (.int .i64 tn)/\w'=y))
  (HAS:Hid (er=0->CE=0->qQ X [(tn:Int)]=0))
  (HN:Hid (n<=80/\∀ (i:Nat) (row:List Bool),rows[i]? = some row->row.length=n))
  (MR:Hid (er=0->CE=0->∀ (i j:Nat) (row:List Bool) (mi mj:Mg),rows[i]? = some row->row[j]? = some true->xs[i]? = some mi->xs[j]? = some mj->∀ p q,uE X tn mi=some p->uE X tn mj=some q->q < p))
  (hCB:∀ y,Calls prog 73 #[] y fun e w'=>e=.returned (.bool true)/\Since y w') :
  Calls prog 25 #[.int .i64 nodes,.slice a len cap,.slice ac acts.length fM,.int .i64 cn] w fun e w'=>e=.returned (.bool true)/\Since w w':=by
 have hmax:=hA.hmax
 go_enter func25,ntmps25
 go_wp2_with fail
 refine hMk.mono ?_
 rintro e w2 ⟨sa,sc,sb,sd,rfl,hM,hB,hS2⟩
 dsimp only
 have hA2:=hA.since hS2
 have HI2:=(show Hid _ from hI.since hS2)
 have HM2:=(show Hid _ from hM)
 have HB2:=(show Hid _ from hB)
 clear hMk hM hB hA hI
 go_wp2_with fail
 go_loopw [12,13] (fun v i wr=>∃ (k:Nat) (pa:Option Addr) (pc:Nat),k<=acts.length/\i=.int .i64 k/\v=.slice pa (bK (acts.take k)).length pc/\Row wr w2.heap.size 4 ⟨pa,pc⟩ (bK (acts.take k)).length ((bK (acts.take k)).flatMap fK)/\Since w2 wr) (fun _ i _=>acts.length - (intOf i).toNat)
 case atStart=>exact ⟨0,none,0,Nat.zero_le _,rfl,rfl,Row.nil _ _ _,Since.refl _⟩
 case round =>
  obtain ⟨wo,rfl⟩:∃ wo,wo=wr:=⟨_,rfl⟩
  obtain ⟨k,pa,pc,hk,rfl,rfl,hR,hSr⟩:=hrel
  obtain ⟨pl,hpl⟩:∃ y,bK (acts.take k)=y:=⟨_,rfl⟩
  rw [hpl] at hR ⊢
  have HPL:Hid (bK (acts.take k)=pl):=hpl
  have RD:pl.length<=k:=by rw [<-hpl];refine zQ5 (List.length_filter_le _ _) ?_;rw [List.length_take];omega
  clear hpl
  by_cases hlt:k < acts.length
  ·obtain ⟨x,hx⟩:∃ x,acts[k]? = some x:=⟨_,zQ1 hlt⟩
   obtain ⟨b,off,rfl,hbb,hcell⟩:=(hA2.since hSr).cells (by omega)
   obtain ⟨e0,e1,e2,e3⟩:=hcell k x hx
   have k1:(k:Int) < (acts.length:Int):=by omega
   have HT:=(show Hid _ from u7 hx)
   clear hcell hx
   cases h4:(x.kind != 4)
   ·have HT2:Hid (bK (acts.take (k+1))=pl):=by unfold Hid;have:=HT.out;rw [h4,HPL.out] at this;simpa using this
    clear HT
    go_wp2_with fail
    refine ⟨⟨k+1,pa,pc,by omega,by go_num,by rw [HT2.out],by rw [HT2.out];exact hR,hSr⟩,by simp [intOf];omega⟩
   ·have HT2:Hid (bK (acts.take (k+1))=pl++[x]):=by unfold Hid;have:=HT.out;rw [h4,HPL.out] at this;simpa using this
    clear HT
    obtain ⟨w5,hw5⟩:∃ y,wo.alloc (.cells #[.int .i64 x.kind,.int .i64 x.one,.int .i64 x.two,.string x.body] 58)=y:=⟨_,rfl⟩
    have hS5:=ay hw5
    have hsrc:Src prog 4 50 (.slice (some ⟨wo.heap.size,0,none⟩) 1 1) 1 [.int .i64 x.kind,.int .i64 x.one,.int .i64 x.two,.string x.body] w5:=by
     rw [<-hw5];exact kN (size:=4) LK.und [.int .i64 x.kind,.int .i64 x.one,.int .i64 x.two,.string x.body] rfl (fun u hu=>by simp at hu;rcases hu with rfl | rfl | rfl | rfl <;> rfl) 1
    have hR5:=hR.since hS5
    have Kt:w2.heap.size<=w5.heap.size:=(hSr.trans hS5).size
    have Qv:=hSr.trans hS5
    go_wp2_with (at_builtin;refine KI LK rfl _ _ 50 rfl rfl hR5 rfl hsrc (by omega) (by omega) Kt ?_;intro pa' pc' w6 hR6 hF6 hB6)
    have hSf:Since w2 w6:=hF6.dz Qv (fun i hi hc=>by have:=(hR5.dK hc).2.1;omega)
    refine ⟨⟨k+1,pa',pc',by omega,by go_num,by rw [HT2.out];simp,by rw [HT2.out,List.flatMap_append,List.length_append];simpa [fK] using hR6,hSf⟩,by simp [intOf];omega⟩
  ·obtain rfl:k=acts.length:=by omega
   have HPE:Hid (bK acts=pl):=by unfold Hid;rw [<-HPL.out,List.take_length]
   have hPA:=Gx hR (by omega)
   dsimp only at hPA
   have hD:=Jh nodes a len cap l pa pl.length pc pl wo (HI2.out.since hSr) hPA
   have kk:¬ (acts.length:Int) < (acts.length:Int):=by omega
   clear hR hPA
   go_wp2_with fail
   refine hD.mono ?_
   rintro e w3 ⟨⟨ga,gl,gc,na,nl,nc,wa,wl,wk⟩,b,rfl,hWb,hS3⟩
   dsimp only at hWb ⊢
   obtain ⟨w4,hw4⟩:∃ y,w3.alloc (.cells #[.slice ga gl gc,.slice na nl nc,.slice wa wl wk] 26)=y:=⟨_,rfl⟩
   have hS4:=ay hw4
   have hP4:bD w4 w3.heap.size ⟨ga,gl,gc,na,nl,nc,wa,wl,wk⟩:=by rw [<-hw4];exact bD.new w3 ⟨ga,gl,gc,na,nl,nc,wa,wl,wk⟩ _
   have h24:=hSr.trans (hS3.trans hS4)
   have h04:=hS2.trans h24
   clear hD
   by_cases her:er=0
   ·subst her
    have MS:=(show Hid _ from HAS.out rfl)
    have Ji:=(show Hid _ from MR.out rfl)
    have MU:=(show Hid _ from HCH.out rfl)
    have MV:=(show Hid _ from HCE.out rfl)
    clear HAS MR HCH HCE
    obtain ⟨⟨hc1,hc2⟩,hdd,hce,hcx⟩:=HER.out rfl
    obtain ⟨rfl,hW3⟩:=hWb ⟨hc1,by rw [<-HPE.out];exact hc2⟩
    rw [<-HPE.out,hdd] at hW3
    have hW4:=hW3.since hS4
    have p0:=hP4.c0
    have p1:=hP4.c1
    have p2:=hP4.c2
    dsimp only at p0 p1 p2
    have hCC:=Jc ⟨ga,gl,gc,na,nl,nc,wa,wl,wk⟩ d w4 hW4
    dsimp only at hCC
    rw [hce,hcx] at hCC
    have nn:((n:Int) != (n:Int))=false:=by simp
    clear hWb hdd hce hcx hW3 hW4 hc1 hc2 HER hP4
    go_wp2_with fail
    refine hCC.mono ?_
    rintro e w6 ⟨⟨xga,xgl,xgc,xna,xnl,xnc,xwa,xwl,xwc⟩,rfl,hX6,hS6⟩
    dsimp only at hX6 ⊢
    clear p0 p1 p2 hw4 hCC nn
    obtain ⟨we,hwe⟩:∃ y,y=w6:=⟨_,rfl⟩
    subst hwe
    obtain ⟨w7,hw7⟩:∃ y,we.alloc (.cells #[.slice xga xgl xgc,.slice xna xnl xnc,.slice xwa xwl xwc] 26)=y:=⟨_,rfl⟩
    have hS7:=ay hw7
    have hQ7:bD w7 we.heap.size ⟨xga,xgl,xgc,xna,xnl,xnc,xwa,xwl,xwc⟩:=by rw [<-hw7];exact bD.new we ⟨xga,xgl,xgc,xna,xnl,xnc,xwa,xwl,xwc⟩ _
    have h47:=hS6.trans hS7
    have h07:=h04.trans h47
    by_cases hce:CE=0
    ·subst hce
     have QF:Hid (∀ y,Since w7 y->bD y we.heap.size ⟨xga,xgl,xgc,xna,xnl,xnc,xwa,xwl,xwc⟩):=fun y hy=>hQ7.since hy
     have AF:Hid (∀ (m:Mg) (y:World),Since w7 y->Calls prog 56 #[.agg #[.slice xga xgl xgc,.slice xna xnl xnc,.slice xwa xwl xwc],.int .i64 tn,.agg #[.int .i64 m.fr,.int .i64 m.gr,.int .i64 m.st,.bool m.nul,.string m.body]] y fun e w'=>e=.returned (.tuple #[.int .i64 (((uE X tn m).getD 0:Nat):Int),.bool (uE X tn m).isSome,.int .i64 0])/\Since y w'):=fun m y hy=>by
      have:=BL ⟨xga,xgl,xgc,xna,xnl,xnc,xwa,xwl,xwc⟩ X (tn:Int) m y (hX6.since (hS7.trans hy))
      rw [MS.out rfl] at this
      exact this
     have HB:=(show Hid _ from Ji.out rfl)
     have hch:=MU.out w7
     have hM7:=HM2.out.since (h24.trans h47)
     have hB7:=HB2.out.since gu (h24.trans h47)
     clear Ji MU MS MV hX6 hQ7
     go_wp2_with (go_at_call 52;refine hch.mono ?_;rintro e w' ⟨rfl,hw⟩;obtain rfl:=hw.symm)
     clear hw7 hch
     have RG:=HN.out.1
     go_loopw [19] (fun i wr=>(∃ k:Nat,k<=n/\i=.int .i64 k)/\Since w7 wr) (fun i _=>n - (intOf i).toNat)
     case atStart=>exact ⟨⟨0,Nat.zero_le _,rfl⟩,Since.refl _⟩
     case round =>
      obtain ⟨wi,rfl⟩:∃ wo,wo=wr:=⟨_,rfl⟩
      obtain ⟨⟨i,hi,rfl⟩,hSi⟩:=hrel
      by_cases hlt:i < n
      ·obtain ⟨row,hrow⟩:∃ m,rows[i]? = some m:=⟨_,zQ1 (by rw [hB7.hlen];exact hlt)⟩
       obtain ⟨mi,hmi⟩:∃ m,xs[i]? = some m:=⟨_,zQ1 (by rw [hM7.hlen];exact hlt)⟩
       have k1:(i:Int) < (n:Int):=by omega
       obtain ⟨br,oR,hre,hbr,hcR⟩:=hB7.cells (by omega)
       obtain ⟨bm,om,hme,hbm,hcM⟩:=hM7.cells (by omega)
       subst hre hme
       obtain ⟨vr,er,ra,rc,rfl,hrc,hBr⟩:=hcR i row hrow
       have hrl:=HN.out.2 i row hrow
       rw [hrl] at er hBr
       have HRL:=(show Hid _ from hrl)
       have kY:Hid (rows[i]? = some row):=hrow
       have HMI:Hid (xs[i]? = some mi):=hmi
       have HCM:Hid (∀ (k:Nat) (m:Mg),xs[k]? = some m->∀ y,Since w7 y->aZ y bm (om+k*5) m):=fun k m hm y hy=>by
        have g:=bJ hcM k m hm
        exact ⟨(hy.cellAt hbm _).trans g.c0,(hy.cellAt hbm _).trans g.c1,(hy.cellAt hbm _).trans g.c2,(hy.cellAt hbm _).trans g.c3,(hy.cellAt hbm _).trans g.c4⟩
       clear hcR hcM hrow hmi hrc hrl
       go_wp2_with fail
       go_loopw [20] (fun i wr=>(∃ k:Nat,k<=n/\i=.int .i64 k)/\Since w7 wr) (fun i _=>n - (intOf i).toNat)
       case atStart=>exact ⟨⟨0,Nat.zero_le _,rfl⟩,hSi⟩
       case round =>
        obtain ⟨wj,rfl⟩:∃ wo,wo=wr:=⟨_,rfl⟩
        obtain ⟨⟨j,hj,rfl⟩,hSj⟩:=hrel
        have er':=(hSj.cellAt hbr _).trans er
        by_cases hjl:j < n
        ·have dj:decide ((j:Int) < (n:Int))=true:=by simp;omega
         have k2:(j:Int) < (n:Int):=by omega
         obtain ⟨bit,hbit⟩:∃ m,row[j]? = some m:=⟨_,zQ1 (by rw [hBr.hlen];exact hjl)⟩
         obtain ⟨mj,hmj⟩:∃ m,xs[j]? = some m:=⟨_,zQ1 (by rw [hM7.hlen];exact hjl)⟩
         obtain ⟨bb,ob,hbe,hbb,hcb⟩:=hBr.cells (by omega)
         subst hbe
         have eb:=(hSj.cellAt hbb _).trans (hcb j bit hbit)
         have HBJ:Hid (row[j]? = some bit):=hbit
         have HMJ:Hid (xs[j]? = some mj):=hmj
         clear hcb hbit hmj
         cases bit
         ·go_wp2_with fail
          refine ⟨⟨⟨j+1,by omega,by go_num⟩,hSj⟩,by simp [intOf];omega⟩
         ·have HLT:=(show Hid _ from HB.out i j row mi mj kY.out HBJ.out HMI.out HMJ.out)
          have bS:=aH w
          have Jj:=hSj
          have Jk:=zQ4 hbm hSj.size
          have gi:=HCM.out i mi HMI.out wj hSj
          go_wp2_with fail
          obtain ⟨W0,hW0⟩:∃ y,wj.drew=y:=⟨_,rfl⟩
          have MW:=aO hW0
          obtain ⟨S0,hS0⟩:∃ S0:World->Prop,∀ w',S0 w'↔Since wj w':=⟨_,fun _=>Iff.rfl⟩
          have p0:∀ y:aj S0,y.w.cell? ⟨we.heap.size,0,none⟩=some (.slice xga xgl xgc):=fun y=>(QF.out _ (Jj.trans ((hS0 _).1 y.h))).c0
          have p1:∀ y:aj S0,y.w.cell? ⟨we.heap.size,1,none⟩=some (.slice xna xnl xnc):=fun y=>(QF.out _ (Jj.trans ((hS0 _).1 y.h))).c1
          have p2:∀ y:aj S0,y.w.cell? ⟨we.heap.size,2,none⟩=some (.slice xwa xwl xwc):=fun y=>(QF.out _ (Jj.trans ((hS0 _).1 y.h))).c2
          have m0:∀ y:aj S0,y.w.cell? ⟨bm,om+i*5,none⟩=some (.int .i64 mi.fr):=fun y=>(((hS0 _).1 y.h).cellAt Jk _).trans gi.c0
          have m1:∀ y:aj S0,y.w.cell? ⟨bm,om+i*5+1,none⟩=some (.int .i64 mi.gr):=fun y=>(((hS0 _).1 y.h).cellAt Jk _).trans gi.c1
          have m2:∀ y:aj S0,y.w.cell? ⟨bm,om+i*5+2,none⟩=some (.int .i64 mi.st):=fun y=>(((hS0 _).1 y.h).cellAt Jk _).trans gi.c2
          have m3:∀ y:aj S0,y.w.cell? ⟨bm,om+i*5+3,none⟩=some (.bool mi.nul):=fun y=>(((hS0 _).1 y.h).cellAt Jk _).trans gi.c3
          have m4:∀ y:aj S0,y.w.cell? ⟨bm,om+i*5+4,none⟩=some (.string mi.body):=fun y=>(((hS0 _).1 y.h).cellAt Jk _).trans gi.c4
          have ak:=(hS0 W0).2 MW
          have hne:Nonempty (aj S0):=⟨⟨_,ak⟩⟩
          have hAh:=AF.out mi W0 (Jj.trans MW)
          refine aI (fun w'=>∃ x:aj S0,w'=x.w) (by kernel_rfl) ?_
          rw [hW0]
          clear hW0
          refine tM 0 rfl (ah ak) ?_;go_big_quiet_op
          refine tW 1 rfl ?_;go_big_quiet_op
          refine tW 2 rfl ?_;go_big_quiet_op
          refine tW 3 rfl ?_;go_big_quiet_op
          refine tW 4 rfl ?_;go_big_quiet_op
          refine tM 5 rfl (ah ak) ?_;go_big_quiet_op
          refine aK 6 rfl (by kernel_rfl) ?_
          intro K hK
          go_simp
          refine hAh.mono ?_
          rintro e w8 ⟨rfl,Qw⟩
          dsimp only
          refine hK _ _ (fun h=>absurd h (by decide +kernel)) ?_
          clear hK K
          refine tW 7 rfl ?_;go_big_quiet_op
          refine tW 8 rfl ?_;go_big_quiet_op
          refine tW 9 rfl ?_;go_big_quiet_op
          refine tW 10 rfl ?_;go_big_quiet_op
          refine tW 11 rfl ?_;go_big_quiet_op
          refine tW 12 rfl ?_;go_big_quiet_op
          refine tW 13 rfl ?_;go_big_quiet_op
          refine aW (by kernel_rfl) ?_
          have hj8:=Jj.trans (MW.trans Qw)
          have gj:=HCM.out j mj HMJ.out w8 hj8
          have KJ:=hj8
          have Jl:=zQ4 hbm hj8.size
          clear p0 p1 p2 m0 m1 m2 m3 m4 hne ak hS0 hAh
          go_wp2_with fail
          obtain ⟨W5,hW0⟩:∃ y,w8.drew=y:=⟨_,rfl⟩
          have MX:=aO hW0
          obtain ⟨S5,hS5⟩:∃ S0:World->Prop,∀ w',S0 w'↔Since w8 w':=⟨_,fun _=>Iff.rfl⟩
          have p0:∀ y:aj S5,y.w.cell? ⟨we.heap.size,0,none⟩=some (.slice xga xgl xgc):=fun y=>(QF.out _ (KJ.trans ((hS5 _).1 y.h))).c0
          have p1:∀ y:aj S5,y.w.cell? ⟨we.heap.size,1,none⟩=some (.slice xna xnl xnc):=fun y=>(QF.out _ (KJ.trans ((hS5 _).1 y.h))).c1
          have p2:∀ y:aj S5,y.w.cell? ⟨we.heap.size,2,none⟩=some (.slice xwa xwl xwc):=fun y=>(QF.out _ (KJ.trans ((hS5 _).1 y.h))).c2
          have m0:∀ y:aj S5,y.w.cell? ⟨bm,om+j*5,none⟩=some (.int .i64 mj.fr):=fun y=>(((hS5 _).1 y.h).cellAt Jl _).trans gj.c0
          have m1:∀ y:aj S5,y.w.cell? ⟨bm,om+j*5+1,none⟩=some (.int .i64 mj.gr):=fun y=>(((hS5 _).1 y.h).cellAt Jl _).trans gj.c1
          have m2:∀ y:aj S5,y.w.cell? ⟨bm,om+j*5+2,none⟩=some (.int .i64 mj.st):=fun y=>(((hS5 _).1 y.h).cellAt Jl _).trans gj.c2
          have m3:∀ y:aj S5,y.w.cell? ⟨bm,om+j*5+3,none⟩=some (.bool mj.nul):=fun y=>(((hS5 _).1 y.h).cellAt Jl _).trans gj.c3
          have m4:∀ y:aj S5,y.w.cell? ⟨bm,om+j*5+4,none⟩=some (.string mj.body):=fun y=>(((hS5 _).1 y.h).cellAt Jl _).trans gj.c4
          have lQ:=(hS5 W5).2 MX
          have hne:Nonempty (aj S5):=⟨⟨_,lQ⟩⟩
          have hAh:=AF.out mj W5 (KJ.trans MX)
          refine aI (fun w'=>∃ x:aj S5,w'=x.w) (by kernel_rfl) ?_
          rw [hW0]
          clear hW0
          refine tM 0 rfl (ah lQ) ?_;go_big_quiet_op
          refine tW 1 rfl ?_;go_big_quiet_op
          refine tW 2 rfl ?_;go_big_quiet_op
          refine tW 3 rfl ?_;go_big_quiet_op
          refine tW 4 rfl ?_;go_big_quiet_op
          refine tM 5 rfl (ah lQ) ?_;go_big_quiet_op
          refine aK 6 rfl (by kernel_rfl) ?_
          intro K hK
          go_simp
          refine hAh.mono ?_
          rintro e w9 ⟨rfl,Qx⟩
          dsimp only
          refine hK _ _ (fun h=>absurd h (by decide +kernel)) ?_
          clear hK K
          refine tW 7 rfl ?_;go_big_quiet_op
          refine tW 8 rfl ?_;go_big_quiet_op
          refine tW 9 rfl ?_;go_big_quiet_op
          refine tW 10 rfl ?_;go_big_quiet_op
          refine tW 11 rfl ?_;go_big_quiet_op
          refine tW 12 rfl ?_;go_big_quiet_op
          refine tW 13 rfl ?_;go_big_quiet_op
          refine aW (by kernel_rfl) ?_
          clear p0 p1 p2 m0 m1 m2 m3 m4 hne lQ hS5 hAh
          have hj9:=hj8.trans (MX.trans Qx)
          obtain ⟨o1,ho1⟩:∃ y,uE X tn mi=y:=⟨_,rfl⟩
          obtain ⟨o2,ho2⟩:∃ y,uE X tn mj=y:=⟨_,rfl⟩
          rw [ho1,ho2] at HLT
          rw [ho1,ho2]
          clear ho1 ho2 gi gj eb er'
          cases o1 with
          | none =>
           simp only [Option.isSome_none,Option.getD_none]
           go_wp2_with fail
           refine ⟨⟨⟨j+1,by omega,by go_num⟩,hj9⟩,by simp [intOf];omega⟩
          | some p =>
           cases o2 with
           | none =>
            simp only [Option.isSome_none,Option.getD_none,Option.isSome_some,Option.getD_some]
            go_wp2_with fail
            refine ⟨⟨⟨j+1,by omega,by go_num⟩,hj9⟩,by simp [intOf];omega⟩
           | some q =>
            have hqp:=HLT.out p q rfl rfl
            have dq:decide ((p:Int)<=(q:Int))=false:=by simp;omega
            simp only [Option.isSome_some,Option.getD_some]
            go_wp2_with fail
            refine ⟨⟨⟨j+1,by omega,by go_num⟩,hj9⟩,by simp [intOf];omega⟩
        ·obtain rfl:j=n:=by omega
         have dj:decide ((j:Int) < (j:Int))=false:=by simp
         go_wp2_with fail
         refine ⟨⟨⟨i+1,by omega,by go_num⟩,hSj⟩,by simp [intOf];omega⟩
      ·obtain rfl:i=n:=by omega
       have k1:¬ (i:Int) < (i:Int):=by omega
       go_wp2_with (go_at_call 73;refine (hCB wi).mono ?_;rintro e w8 ⟨rfl,hS8⟩)
       go_ret
       exact ⟨by simp,h07.trans (hSi.trans hS8)⟩
    ·obtain rfl:=MV.out hce
     clear hce Ji MU MS MV hX6 hQ7
     go_wp2_with (go_at_call 73;refine (hCB w7).mono ?_;rintro e w8 ⟨rfl,hS8⟩)
     go_ret
     exact ⟨by simp,h07.trans hS8⟩
   ·have hb:(er != 0)=true:=by simpa using her
    clear hWb her HER HCE HCH HAS MR hP4
    go_wp2_with (go_at_call 73;refine (hCB w4).mono ?_;rintro e w8 ⟨rfl,hS8⟩)
    go_ret
    exact ⟨by simp,h04.trans hS8⟩
theorem xk (nodes:Int) (a:Option Addr) (len cap:Nat) (l:List Int) (ac:Option Addr) (al fM:Nat) (acts:List Ac) (cn:Int) (w:World) (hI:Ints w a len l) (hA:mQ w ac al acts) (hc:I64 cn)
  (hCB:∀ y,Calls prog 73 #[] y fun e w'=>e=.returned (.bool true)/\Since y w') :
  Calls prog 25 #[.int .i64 nodes,.slice a len cap,.slice ac al fM,.int .i64 cn] w fun e w'=>e=.returned (.bool true)/\Since w w':=by
 have hal:=hA.hlen
 subst hal
 have hMk:=zD nodes a len cap l ac acts.length fM acts w hI hA
 have hx:=zC nodes l acts
 have hcond:kW nodes l acts=0->bF nodes l=0/\acts.length<=80:=fun hE=>by
  unfold kW at hE
  split at hE
  ·rename_i h
   split at hE
   ·rename_i h2;exact ⟨h,h2⟩
   ·cases hE
  ·rename_i h;exact absurd hE h
 have hnn:kW nodes l acts=0->bF (nodes.toNat:Int) l=0:=fun hE=>by
  obtain ⟨h1,h2,_,_⟩:=jv (hcond hE).1
  rw [Int.toNat_of_nonneg (by omega)];exact (hcond hE).1
 have hpl:kW nodes l acts=0->(bK acts).length<=80:=fun hE=>zQ5 (List.length_filter_le _ _) (hcond hE).2
 obtain ⟨d,hd⟩:∃ y,doneD nodes.toNat l (bK acts)=y:=⟨_,rfl⟩
 have hpos:kW nodes l acts=0->0 < nodes.toNat/\nodes.toNat<=4/\nodes=(nodes.toNat:Int):=fun hE=>by
  obtain ⟨h1,h2,_,_⟩:=jv (hcond hE).1
  omega
 have hI0:kW nodes l acts=0->Inv d:=fun hE=>by rw [<-hd];exact (tC (hnn hE) _).1
 have hck:kW nodes l acts=0->checked d (iY d)=iY d:=fun hE=>by unfold checked;rw [if_pos ((cu d).2 (hI0 hE).right)]
 have hCX:kW nodes l acts=0->sV d=0->∃ x,iY d=.ok x/\sZ d=x:=fun hE hz=>by
  unfold sV at hz
  unfold sZ
  rw [hck hE] at hz ⊢
  cases hr:iY d with
  | error e=>rw [hr] at hz;exact absurd hz (Cq hr)
  | ok x=>exact ⟨x,rfl,rfl⟩
 have hnl:kW nodes l acts=0->d.nodes.length=nodes.toNat:=fun hE=>by rw [<-hd];exact (zN (hnn hE) _).1
 have hXr:kW nodes l acts=0->sV d=0->Right (sZ d)/\(sZ d).nodes.length=nodes.toNat:=fun hE hz=>by
  obtain ⟨x,h1,h2⟩:=hCX hE hz
  have C:=Fj (hI0 hE).right h1
  rw [h2];exact ⟨C.right,by rw [C.grow.alike.n];exact hnl hE⟩
 have OE:kW nodes l acts=0->sV d=0->qQ (sZ d) [((gY cn nodes.toNat:Nat):Int)]=0:=fun hE hz=>by
  obtain ⟨h1,h2⟩:=hXr hE hz
  have hlt:=ru cn (hpos hE).1
  unfold qQ
  rw [if_pos ((cu _).2 h1),if_neg]
  rw [List.any_eq_true]
  rintro ⟨q,hq1,hq2⟩
  simp at hq1
  subst hq1
  unfold wh at hq2
  rw [h2] at hq2
  simp at hq2
  omega
 refine ze nodes a len cap l ac fM acts cn w _ _ _ _ (sV d) d (sZ d) (gY cn nodes.toNat) hMk hI hA ?_ ?_ ?_ OE ⟨hx, ?_⟩ ?_ hCB
 ·exact fun hE=>⟨⟨(hcond hE).1,hpl hE⟩,hd,rfl,rfl⟩
 ·intro hE hz
  unfold sV at hz ⊢
  rw [hck hE] at hz ⊢
  cases hr:iY d with
  | error e =>
   rw [<-hd] at hr
   exact Gy (hnn hE) _ (hpl hE) hr
  | ok x=>rw [hr] at hz;exact absurd rfl hz
 ·intro hE y
  have:=Ei cn nodes.toNat hc (hpos hE).1 (hpos hE).2.1 y
  rw [<-(hpos hE).2.2] at this
  exact this
 ·intro i row hr
  exact wN nodes l acts row (List.mem_of_getElem? hr)
 ·intro hE hz i j row mi mj hr hb hmi hmj p q hp hq
  have hX:jF nodes l acts=(scD nodes.toNat l acts).sent:=by unfold jF;rw [if_pos (hcond hE)]
  have hY:qB nodes l acts=kG (scD nodes.toNat l acts):=by unfold qB;rw [if_pos (hcond hE)]
  rw [hX] at hmi hmj
  rw [hY] at hr
  have Is:=IQ (hnn hE) acts
  unfold kG at hr
  rw [List.getElem?_map,hmi] at hr
  obtain rfl:=Option.some.inj hr
  rw [List.getElem?_map,hmj] at hb
  have hah:(scD nodes.toNat l acts).ahead mi mj=true:=Option.some.inj hb
  have hst:=(Is.xq mi mj hah).2.2
  unfold uE at hp hq
  rw [if_pos (OE hE hz)] at hp hq
  exact Em ((hXr hE hz).1.xu _) hp hq hst
end Go.Proofs.YtiiifecfdkjmbaaGreat
