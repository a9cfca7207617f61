/- Lemmas. Lemmas. -/
import Derived.Test.YtiiifecfdkjmbaaGreatJudgeX
import Derived.RecoverIn
import Derived.Test.YtiiifecfdkjmbaaGreatNodeX
set_option maxHeartbeats 2000000
namespace Go.Proofs.YtiiifecfdkjmbaaGreat
open _root_.Go.Proofs.Tryz hiding checked
set_option maxRecDepth 8000
open Go.RowKit Go.Shelf
attribute [local go_sem] Oper.semAt_some
def jg (ns:List Nd):List Nat:=ns.flatMap fun nd=>[nd.held.length,nd.told.length]
def ko (rs:List (List (List Mg))):List Nat:=rs.flatMap fun row=>row.map List.length
def iF (d:Wd):List Nat:=jg d.nodes++ko d.wires
theorem uP (ns:List Nd) (i:Nat) (h:i<=ns.length):(jg (ns.take i)).length=2*i:=by
 unfold jg;rw [List.length_flatMap]
 have:((ns.take i).map fun nd:Nd=>[nd.held.length,nd.told.length].length)=List.replicate i 2:=by
  rw [List.eq_replicate_iff];refine ⟨by simp;omega,fun b hb=>?_⟩;simp only [List.mem_map] at hb;obtain ⟨_,_,rfl⟩:=hb;rfl
 rw [this];simp [Nat.mul_comm]
theorem Fz {α:Type} {l:List α} {i:Nat} {x:α} (h:l[i]? = some x):l=l.take i++x::l.drop (i+1):=by
 obtain ⟨hi,rfl⟩:=zQ2.1 h;simp
theorem FB {ns:List Nd} {i:Nat} {nd:Nd} (h:ns[i]? = some nd):(jg ns)[2*i]? = some nd.held.length/\(jg ns)[2*i+1]? = some nd.told.length:=by
 have hl:=uP ns i (Nat.le_of_lt (zQ2.1 h).1)
 have e:jg ns=jg (ns.take i)++([nd.held.length,nd.told.length]++jg (ns.drop (i+1))):=by
  conv=>lhs;rw [Fz h]
  simp [jg]
 rw [e];constructor
 ·rw [List.getElem?_append_right (by omega),hl];simp
 ·rw [List.getElem?_append_right (by omega),hl];simp
theorem ni (ns:List Nd):(jg ns).length=2*ns.length:=by
 have:=uP ns ns.length (Nat.le_refl _);rwa [List.take_length] at this
def zT (rs:List (List (List Mg))) (f:Nat):Nat:=(ko (rs.take f)).length
theorem KR {rs:List (List (List Mg))} {f:Nat} {row:List (List Mg)} (h:rs[f]? = some row):zT rs (f+1)=zT rs f+row.length:=by
 unfold zT ko;rw [List.take_add_one,h,List.flatMap_append,List.length_append];simp
theorem FC {rs:List (List (List Mg))} {f t:Nat} {row:List (List Mg)} {l:List Mg} (h:rs[f]? = some row) (hl:row[t]? = some l):(ko rs)[zT rs f+t]? = some l.length:=by
 have e:ko rs=ko (rs.take f)++(row.map List.length++ko (rs.drop (f+1))):=by
  conv=>lhs;rw [Fz h]
  simp [ko]
 have ht:=(zQ2.1 hl).1;rw [e,List.getElem?_append_right (by unfold zT;omega)];unfold zT;rw [Nat.add_sub_cancel_left,List.getElem?_append_left (by simpa using ht)];simp [hl]
theorem KT (x:WV) (w:World) :
  Calls prog 160 #[.agg #[.slice x.ga x.gl x.gc,.slice x.na x.nl x.nc,.slice x.wa x.wl x.wc]] w fun e w'=>e=.returned (.func (.func 196) #[] #[.pointer (some ⟨w.heap.size,0,none⟩)])/\w'=w.alloc (.cells #[.slice x.ga x.gl x.gc,.slice x.na x.nl x.nc,.slice x.wa x.wl x.wc] 111):=by
 go_enter func160,ntmps160
 go_wp2
 go_ret
 exact ⟨rfl,rfl⟩
set_option maxRecDepth 100000 in
theorem KV (m:Nat) (Bj:Nat) (w:World) (hBj:Bj < w.heap.size) (x:WV) (d:Wd) (hWA:WAt w x d)
  (c1:w.cell? ⟨Bj,1,none⟩=some (.slice x.na x.nl x.nc)) (c2:w.cell? ⟨Bj,2,none⟩=some (.slice x.wa x.wl x.wc)) :
  OT prog m 196 #[.pointer (some ⟨Bj,0,none⟩)] (fun s:Option Addr × Nat × Nat=>#[.slice s.1 s.2.1 s.2.2]) (KX w.heap.size none) (fun i s=>(iF d)[i]? = some s.2.1) (fun _=>False) (iF d).length w:=by
 intro l J Jp W hW hJ _ hY h0;obtain ⟨ga,gl,gc,na,nl,nc,wa,wl,wc⟩:=x;have hwl:=hWA.r.hlen;have hwm:=hWA.r.hmax;have hnl:=hWA.n.hlen;have hnm:=hWA.n.hmax;dsimp only at hwl hwm hnl hnm c1 c2;subst hwl hnl
 have C:∀ W',Below w.heap.size W W'->Since w W'/\W'.cell? ⟨Bj,1,none⟩=some (.slice na d.nodes.length nc)/\W'.cell? ⟨Bj,2,none⟩=some (.slice wa d.wires.length wc):=fun W' h =>
  have hs:Since w W':=⟨hW.below.trans h⟩
  ⟨hs,(hs.cellAt hBj _).trans c1,(hs.cellAt hBj _).trans c2⟩
 obtain ⟨-,d1,d2⟩:=C W (Below.refl _ _);refine callsIn_of_wp func196 rfl trivial ?_ rfl;simp only [ntmps196,List.size_toArray,List.length_cons,List.length_nil,Nat.reduceAdd,Nat.reduceSub,Array.replicate_succ,Array.replicate_zero,List.push_toArray,List.append_toArray,List.nil_append,List.cons_append]
 gi_wp2
 gi_loopw [13] (fun i wr=>∃ k:Nat,k<=d.nodes.length/\i=.int .i64 k/\J (2*k) wr/\Below w.heap.size W wr) (fun i _=>d.nodes.length - (intOf i).toNat)
 case atStart=>exact ⟨0,Nat.zero_le _,rfl,h0,Below.refl _ _⟩
 case round =>
  obtain ⟨k,hk,rfl,hJs,hB⟩:=hrel;obtain ⟨hSr,f1,f2⟩:=C wr hB;by_cases hlt:k < d.nodes.length
  ·obtain ⟨nd,hnd⟩:∃ nd,d.nodes[k]? = some nd:=⟨_,zQ1 hlt⟩;obtain ⟨bn,on,rfl,hbn,hcn⟩:=hWA.n.cells (by dsimp only;omega);obtain ⟨k0,⟨v1,k1,la,lc,rfl,hlc,hL⟩,⟨v2,k2,ha,hc,rfl,hhc,hH⟩,⟨v3,k3,ta,tc,rfl,htc,hT⟩⟩:=hcn k nd hnd;have j0:wr.cell? ⟨bn,on+k*4,none⟩=_:=(hSr.cellAt hbn _).trans k0;have j1:wr.cell? ⟨bn,on+k*4+1,none⟩=_:=(hSr.cellAt hbn _).trans k1;have j2:wr.cell? ⟨bn,on+k*4+2,none⟩=_:=(hSr.cellAt hbn _).trans k2;have j3:wr.cell? ⟨bn,on+k*4+3,none⟩=_:=(hSr.cellAt hbn _).trans k3;obtain ⟨e1,e2⟩:=FB hnd;have hll:=ni d.nodes;have E1:(iF d)[2*k]? = some nd.held.length:=by unfold iF;rw [List.getElem?_append_left (by omega)];exact e1
   have E2:(iF d)[2*k+1]? = some nd.told.length:=by unfold iF;rw [List.getElem?_append_left (by omega)];exact e2
   have hS1:Since wr (wr.alloc (.cells #[.int .i64 nd.clock,.slice la nd.last.length lc,.slice ha nd.held.length hc,.slice ta nd.told.length tc] 45)):=(Since.refl wr).alloc _;have hbb:=World.alloc_heap_new wr (.cells #[.int .i64 nd.clock,.slice la nd.last.length lc,.slice ha nd.held.length hc,.slice ta nd.told.length tc] 45);obtain ⟨fn,tmps,assign,body,hy,hR⟩:=hY (2*k) (ha,nd.held.length,hc) _ (hJ _ _ _ hJs hS1) (zQ2.1 E1).1 E1;have HBB:Hid _:=hbb;have HY:Hid _:=hY;clear hY hcn k0 k1 k2 k3 hL hH hT hbb e1 e2 E1
   gi_wp2
   refine ⟨fun h=>(by cases h), ?_⟩;refine hR.mono ?_;rintro e W3 (⟨rfl,hJ3,hk3⟩ | ⟨ch,rfl,hp3⟩)
   ·have t3:W3.cell? ⟨wr.heap.size,3,none⟩=some (.slice ta nd.told.length tc) :=
     (World.cell?_of_block (w:=wr.alloc (.cells #[.int .i64 nd.clock,.slice la nd.last.length lc,.slice ha nd.held.length hc,.slice ta nd.told.length tc] 45)) ((hk3.cells _ _ HBB.out rfl (by simp)).trans HBB.out.symm)).trans (by simp [go_sem])
    obtain ⟨fn2,WI,assign2,WJ,hy2,hR2⟩:=HY.out (2*k+1) (ta,nd.told.length,tc) W3 hJ3 (zQ2.1 E2).1 E2;have hB3:Below w.heap.size W W3:=(hB.trans (hS1.below.mono hSr.size)).trans hk3.below;clear hy hR
    gi_wp2
    refine ⟨fun h=>(by cases h), ?_⟩;refine hR2.mono ?_;rintro e W4 (⟨rfl,hJ4,hk4⟩ | ⟨ch,rfl,hp4⟩)
    ·gi_wp2
     go_roundw
     case rel=>exact ⟨k+1,by omega,by simp,hJ4,hB3.trans hk4.below⟩
     case measure=>simp [intOf];omega
    ·exact ⟨rfl,.inr ⟨ch,rfl,hp4⟩⟩
   ·exact ⟨rfl,.inr ⟨ch,rfl,hp3⟩⟩
  ·obtain rfl:k=d.nodes.length:=by omega
   gi_wp2
   gi_loopw [34] (fun i wr=>∃ f:Nat,f<=d.wires.length/\i=.int .i64 f/\J (2*d.nodes.length+zT d.wires f) wr/\Below w.heap.size W wr) (fun i _=>d.wires.length - (intOf i).toNat)
   case atStart=>exact ⟨0,Nat.zero_le _,rfl,hJs,hB⟩
   case round =>
    obtain ⟨f,hf,rfl,hJf,hBf⟩:=hrel;obtain ⟨hSf,g1,g2⟩:=C wr hBf;by_cases hfl:f < d.wires.length
    ·obtain ⟨row,hrow⟩:∃ row,d.wires[f]? = some row:=⟨_,zQ1 hfl⟩;obtain ⟨bL,oL,rfl,hbL,hcL⟩:=hWA.r.cells (by dsimp only;omega);obtain ⟨v4,k4,ra,rc,rfl,hrc,hR⟩:=hcL f row hrow;have k5:wr.cell? ⟨bL,oL+f,none⟩=_:=(hSf.cellAt hbL _).trans k4;have mK:Hid (d.wires[f]? = some row):=hrow;have hrm:=hR.hmax;clear hrow k4 hcL
     gi_wp2
     gi_loopw [40] (fun i wr=>∃ t:Nat,t<=row.length/\i=.int .i64 t/\J (2*d.nodes.length+(zT d.wires f+t)) wr/\Below w.heap.size W wr) (fun i _=>row.length - (intOf i).toNat)
     case atStart=>exact ⟨0,Nat.zero_le _,rfl,hJf,hBf⟩
     case round =>
      obtain ⟨t,ht,rfl,hJt,hBt⟩:=hrel;obtain ⟨hSt,-,-⟩:=C wr hBt;by_cases htl:t < row.length
      ·obtain ⟨li,hli⟩:∃ li,row[t]? = some li:=⟨_,zQ1 htl⟩;obtain ⟨bR,oR,rfl,hbR,hcR⟩:=hR.cells (by omega);obtain ⟨v6,k6,qa,qc,rfl,hqc,hM⟩:=hcR t li hli;have k7:wr.cell? ⟨bR,oR+t,none⟩=_:=(hSt.cellAt hbR _).trans k6
       have E3:(iF d)[2*d.nodes.length+(zT d.wires f+t)]? = some li.length:=by
        unfold iF;rw [List.getElem?_append_right (by rw [ni];omega),ni,Nat.add_sub_cancel_left];exact FC mK.out hli
       obtain ⟨fn,tmps,assign,body,hy,hR2⟩:=hY _ (qa,li.length,qc) wr hJt (zQ2.1 E3).1 E3;clear hcR hli k6 hM E3 hY
       gi_wp2
       refine ⟨fun h=>(by cases h), ?_⟩;refine hR2.mono ?_;rintro e W4 (⟨rfl,hJ4,hk4⟩ | ⟨ch,rfl,hp4⟩)
       ·gi_wp2
        go_roundw
        case rel=>exact ⟨t+1,by omega,by simp,hJ4,hBt.trans hk4.below⟩
        case measure=>simp [intOf];omega
       ·exact ⟨rfl,.inr ⟨ch,rfl,hp4⟩⟩
      ·obtain rfl:t=row.length:=by omega
       gi_wp2
       go_roundw
       case rel=>exact ⟨f+1,by omega,by simp,by rw [KR mK.out];exact hJt,hBt⟩
       case measure=>simp [intOf];omega
    ·obtain rfl:f=d.wires.length:=by omega
     gi_wp2
     go_end0
     refine .inl ⟨_,rfl, ?_⟩
     have:(iF d).length=2*d.nodes.length+zT d.wires d.wires.length:=by
      unfold iF zT;rw [List.length_append,ni,List.take_length]
     rw [this];exact hJf
end Go.Proofs.YtiiifecfdkjmbaaGreat
set_option maxHeartbeats 2000000
namespace Go.Proofs.YtiiifecfdkjmbaaGreat
open _root_.Go.Proofs.Tryz hiding checked
set_option maxRecDepth 8000
open Go.RowKit Go.Shelf
theorem xO (e:Int) (w:World):(Instr.typeAssert (.iface 27 (.int .i64 e)) 20 27 false).run prog w=.ok (.int .i64 e) w:=by kernel_rfl
set_option maxRecDepth 20000 in
theorem Ou (p:Addr) (x e:Int) (w:World) (hc:w.cell? p=some (.int .i64 x)) (hz:w.frozen? p=false) :
  CallsDIn Fence.wide 0 prog 157 #[.pointer (some p)] (.panicking (pan e)) w fun r u' w' =>
   r=.returned (.tuple #[])/\u'=.panicking [{ v:=.iface 27 (.int .i64 e),recovered:=true }]/\w'=w.setCell p (.int .i64 e):=by
 have hta:=xO e;refine callsDIn_of_wpSIn func157 rfl trivial fun c₀ cs hu=>?_;apply wpSIn_seq;apply wpSIn_region;simp [wpOpsSIn,go_sem,recoverD,hu,ntmps157,Exit.thenS];refine wpSIn_of_wpIn rfl ((wpIn_wide (n:=0)).2 ?_);simp only [Array.replicate_succ,Array.replicate_zero,List.push_toArray,List.append_toArray,List.nil_append,List.cons_append,zQ7,zQ9,zQ8]
 go_wp2
 exact ⟨rfl,_,rfl,_,results_none rfl _ _ _,rfl,rfl,rfl⟩
theorem L8 (p:Addr) (w:World) :
  CallsDIn Fence.wide 0 prog 157 #[.pointer (some p)] .returning w fun r u' w'=>r=.returned (.tuple #[])/\u'=.returning/\w'=w:=by
 refine callsDIn_of_wpSIn func157 rfl trivial fun c₀ cs hu=>?_;apply wpSIn_seq;apply wpSIn_region;simp [wpOpsSIn,go_sem,recoverD,hu,ntmps157,Exit.thenS];refine wpSIn_of_wpIn rfl ((wpIn_wide (n:=0)).2 ?_);simp only [Array.replicate_succ,Array.replicate_zero,List.push_toArray,List.append_toArray,List.nil_append,List.cons_append,zQ7,zQ9,zQ8]
 go_wp2
 obtain ⟨c1,c2,c3,c4,c5,c6,c7⟩:=c₀;subst hu;exact ⟨rfl,_,rfl,_,results_none rfl _ _ _,rfl,rfl,rfl⟩
theorem uD (y:World) (b:Nat) (tmps:Array Value) (h2:tmps[2]? = some (.pointer (some ⟨b,0,none⟩))) (x e:Int) (hc:y.cell? ⟨b,0,none⟩=some (.int .i64 x)) (hz:y.frozen? ⟨b,0,none⟩=false)
  (R:Ending->World->Prop) (hR:R (.returned (.int .i64 e)) (y.setCell ⟨b,0,none⟩ (.int .i64 e))) :
  LeavesInM Fence.wide 0 prog Tryz.f100 tmps R [{ target:=.fn (.func 157) #[.pointer (some ⟨b,0,none⟩)],args:=#[] }] (.panicking (pan e)) y:=by
 refine ⟨by simp,.inr ⟨fun h=>(by cases h),_,_,157,#[.pointer (some ⟨b,0,none⟩)],rfl,by simp [go_sem,invoke],fun _ _=>trivial, ?_⟩⟩;refine (Ou ⟨b,0,none⟩ x e y hc hz).mono ?_;rintro r u' w'' ⟨rfl,rfl,rfl⟩;refine ⟨_, ?_,hR⟩;have hc':(y.setCell ⟨b,0,none⟩ (.int .i64 e)).cell? ⟨b,0,none⟩=some (.int .i64 e):=World.cell?_setCell_same' _ _ _ (by rw [hc];rfl);simp [results,Tryz.f100,go_sem,h2,hc']
theorem L9 (y:World) (b:Nat) (tmps:Array Value) (h2:tmps[2]? = some (.pointer (some ⟨b,0,none⟩))) (e:Int) (hc:y.cell? ⟨b,0,none⟩=some (.int .i64 e))
  (R:Ending->World->Prop) (hR:R (.returned (.int .i64 e)) y) :
  LeavesInM Fence.wide 0 prog Tryz.f100 tmps R [{ target:=.fn (.func 157) #[.pointer (some ⟨b,0,none⟩)],args:=#[] }] .returning y:=by
 refine ⟨by simp,.inr ⟨fun h=>(by cases h),_,_,157,#[.pointer (some ⟨b,0,none⟩)],rfl,by simp [go_sem,invoke],fun _ _=>trivial, ?_⟩⟩;refine (L8 ⟨b,0,none⟩ y).mono ?_;rintro r u' w'' ⟨rfl,rfl,rfl⟩;refine ⟨_, ?_,hR⟩;simp [results,Tryz.f100,go_sem,h2,hc]
def jm (d:Wd):Bool:=(List.range d.nodes.length).all fun n=>match d.nodes[n]? with | some nd=>aH d n nd | none=>true
def iO (d:Wd):Bool:=(iF d).all fun k=>decide (k<=40)
def aL (d:Wd):Int:=if dF d.nodes.length d.groups=0 then (if iO d then (if jm d && fC d then 0 else 1) else 2) else dF d.nodes.length d.groups
theorem Sd (w0:World) (x:WV) (d:Wd) (n:Nat) (nd:Nd) (hv:aH d n nd=true) (hW:WAt w0 x d) (hn:d.nodes[n]? = some nd) (w:World) (h:Since w0 w) :
  Calls prog 161 #[.agg #[.slice x.ga x.gl x.gc,.slice x.na x.nl x.nc,.slice x.wa x.wl x.wc],.int .i64 n] w fun e w'=>e=.returned (.tuple #[])/\Since w0 w' :=
 (FM x d n nd w (hW.since h) hn).mono fun _ _ ⟨he,hw⟩=>⟨by rw [he,hv];rfl,h.trans hw⟩
theorem Sg (w0:World) (x:WV) (d:Wd) (n:Nat) (nd:Nd) (hv:aH d n nd=false) (hW:WAt w0 x d) (hn:d.nodes[n]? = some nd) (w:World) (h:Since w0 w) :
  Calls prog 161 #[.agg #[.slice x.ga x.gl x.gc,.slice x.na x.nl x.nc,.slice x.wa x.wl x.wc],.int .i64 n] w fun e w'=>e=.panicked (pan 1)/\Since w0 w' :=
 (FM x d n nd w (hW.since h) hn).mono fun _ _ ⟨he,hw⟩=>⟨by rw [he,hv];rfl,h.trans hw⟩
theorem PD (w0:World) (x:WV) (d:Wd) (hv:fC d=true) (hW:WAt w0 x d) (w:World) (h:Since w0 w) :
  Calls prog 162 #[.agg #[.slice x.ga x.gl x.gc,.slice x.na x.nl x.nc,.slice x.wa x.wl x.wc]] w fun e w'=>e=.returned (.tuple #[])/\Since w0 w' :=
 (CG x d w (hW.since h)).mono fun _ _ ⟨he,hw⟩=>⟨by rw [he,hv];rfl,h.trans hw⟩
theorem PE (w0:World) (x:WV) (d:Wd) (hv:fC d=false) (hW:WAt w0 x d) (w:World) (h:Since w0 w) :
  Calls prog 162 #[.agg #[.slice x.ga x.gl x.gc,.slice x.na x.nl x.nc,.slice x.wa x.wl x.wc]] w fun e w'=>e=.panicked (pan 1)/\Since w0 w' :=
 (CG x d w (hW.since h)).mono fun _ _ ⟨he,hw⟩=>⟨by rw [he,hv];rfl,h.trans hw⟩
attribute [local go_sem] Oper.semAt_some
set_option maxRecDepth 8000 in
theorem G8 (x:WV) (d:Wd) (w:World) (hW:WAt w x d) :
  Calls prog 100 #[.agg #[.slice x.ga x.gl x.gc,.slice x.na x.nl x.nc,.slice x.wa x.wl x.wc]] w fun e w'=>e=.returned (.int .i64 (aL d))/\Since w w':=by
 obtain ⟨ga,gl,gc,na,nl,nc,wa,wl,wc⟩:=x;have hwl:=hW.r.hlen;have hnl:=hW.n.hlen;have hnm:=hW.n.hmax;dsimp only at hwl hnl hnm ⊢;subst hwl hnl;obtain ⟨w1,hw1⟩:∃ w1,(w.alloc (.cells #[.slice ga gl gc,.slice na d.nodes.length nc,.slice wa d.wires.length wc] 111)).alloc (.cells #[.int .i64 0] 27)=w1:=⟨_,rfl⟩;have hS1:Since w w1:=by rw [<-hw1];exact ((Since.refl w).alloc _).alloc _
 have hsz:w.heap.size+1 < w1.heap.size:=by rw [<-hw1];simp
 have b0:w1.cell? ⟨w.heap.size,0,none⟩=some (.slice ga gl gc):=by rw [<-hw1];simp [go_sem]
 have b1:w1.cell? ⟨w.heap.size,1,none⟩=some (.slice na d.nodes.length nc):=by rw [<-hw1];simp [go_sem]
 have b2:w1.cell? ⟨w.heap.size,2,none⟩=some (.slice wa d.wires.length wc):=by rw [<-hw1];simp [go_sem]
 have b3:w1.cell? ⟨w.heap.size+1,0,none⟩=some (.int .i64 0):=by rw [<-hw1];simp [go_sem]
 have b4:w1.frozen? ⟨w.heap.size+1,0,none⟩=false:=by rw [<-hw1];simp [go_sem]
 have hW1:=hW.since hS1
 have RF:Hid (∀ y,Since w1 y->y.cell? ⟨w.heap.size,0,none⟩=some (.slice ga gl gc)/\y.cell? ⟨w.heap.size,1,none⟩=some (.slice na d.nodes.length nc)/\y.cell? ⟨w.heap.size,2,none⟩=some (.slice wa d.wires.length wc)
   /\ y.cell? ⟨w.heap.size+1,0,none⟩=some (.int .i64 0)/\y.frozen? ⟨w.heap.size+1,0,none⟩=false):=fun y hy =>
  ⟨(hy.cellAt (by omega) _).trans b0,(hy.cellAt (by omega) _).trans b1,(hy.cellAt (by omega) _).trans b2,(hy.cellAt (by omega) _).trans b3,(hy.below.frozen (p:=⟨w.heap.size+1,0,none⟩) (by show w.heap.size+1 < _;omega)).trans b4⟩
 have SET:Hid (∀ y v,Since w1 y->Since w (y.setCell ⟨w.heap.size+1,0,none⟩ v)):=fun y v hy=>⟨(hS1.trans hy).below.setCell (p:=⟨w.heap.size+1,0,none⟩) (Nat.le_succ _) v⟩
 have hmf:∀ (fn:Fn) (first cap:Array Value) (w:World),(Instr.makeFunc fn first cap).run prog w=.ok (.func fn first cap) w:=fun _ _ _ _=>rfl
 have HE:Hid (aL d=if dF d.nodes.length d.groups=0 then (if iO d then (if jm d && fC d then 0 else 1) else 2) else dF d.nodes.length d.groups):=rfl;refine lg func100 rfl ?_;simp only [ntmps100,List.size_toArray,List.length_cons,List.length_nil,Nat.reduceAdd,Nat.reduceSub,Array.replicate_succ,Array.replicate_zero,List.push_toArray,List.append_toArray,List.nil_append,List.cons_append];refine eG (cK ?_)
 go_wp2
 refine eG (cK ?_)
 go_wp2
 clear hw1;refine eG (cK ?_)
 go_wp2_with (go_at_call 158;refine (uj _ _ _ _ d.groups _ hW1.g).mono ?_;rintro e w2 ⟨rfl,hw2⟩;have hS2:Since w1 w2:=(by rw [hw2];exact (Since.refl _).alloc _);obtain ⟨c0,c1,c2,c3,c4⟩:=RF.out _ hS2;clear hw2)
 cases h1:(dF d.nodes.length d.groups == 0)
 ·have H1:Hid ((dF d.nodes.length d.groups == 0)=false):=h1
  have HF:Hid (aL d=dF d.nodes.length d.groups):=by
   have:¬ dF d.nodes.length d.groups=0:=by simpa using h1
   unfold Hid;rw [HE.out,if_neg this]
  clear h1;refine eG (cK ?_)
  go_wp2_with (go_at_call 159;refine (iK _ _ H1.out _).mono ?_;rintro e w' ⟨rfl,hw3⟩;have hS3:Since w1 w':=(by rw [hw3];exact Since.alloc (by assumption) _);obtain ⟨f0,f1,f2,f3,f4⟩:=RF.out _ hS3;clear hw3)
  exact uD _ _ _ rfl 0 _ (by assumption) (by assumption) _ ⟨by rw [HF.out],SET.out _ _ (by assumption)⟩
 have H1:Hid ((dF d.nodes.length d.groups == 0)=true):=h1
 have HE1:Hid (aL d=if iO d then (if jm d && fC d then 0 else 1) else 2):=by
  have:dF d.nodes.length d.groups=0:=by simpa using h1
  unfold Hid;rw [HE.out,if_pos this]
 clear h1 HE;refine eG (cK ?_)
 go_wp2_with (go_at_call 159;refine (gJ _ _ H1.out _).mono ?_;rintro e w3 ⟨rfl,hw3⟩;have hS3:Since w1 w3:=(by rw [hw3];exact Since.alloc (by assumption) _);obtain ⟨f0,f1,f2,f3,f4⟩:=RF.out _ hS3;clear hw3)
 refine eG (eG (cK ?_))
 go_wp2_with (go_at_call 160;refine (KT ⟨ga,gl,gc,na,d.nodes.length,nc,wa,d.wires.length,wc⟩ _).mono ?_;rintro e w' ⟨rfl,rfl⟩)
 obtain ⟨w4,hw4⟩:∃ w4,w3.alloc (.cells #[.slice ga gl gc,.slice na d.nodes.length nc,.slice wa d.wires.length wc] 111)=w4:=⟨_,rfl⟩;have hS4:Since w1 w4:=by rw [<-hw4];exact Since.alloc (by assumption) _
 have z1:w4.cell? ⟨w3.heap.size,1,none⟩=some (.slice na d.nodes.length nc):=by rw [<-hw4];simp [go_sem]
 have z2:w4.cell? ⟨w3.heap.size,2,none⟩=some (.slice wa d.wires.length wc):=by rw [<-hw4];simp [go_sem]
 have Wx:w3.heap.size < w4.heap.size:=by rw [<-hw4];simp
 rw [hw4];clear hw4;refine ug ?_
 refine xZ (m:=1) func100 (gf:=196) (lb:=#[.pointer (some ⟨w3.heap.size,0,none⟩)]) rfl (enters_of func196 (by kernel_rfl) rfl) (Nat.le_refl _)
  (KV 1 w3.heap.size w4 Wx ⟨ga,gl,gc,na,d.nodes.length,nc,wa,d.wires.length,wc⟩ d (hW1.since hS4) z1 z2) (fun _=>rfl)
  (fun i W=>Since w1 W/\((iF d).take i).all (fun k=>decide (k<=40))=true)
  (fun ch W=>ch=pan 2/\Since w1 W/\iO d=false)
  (fun i A B hA hk=>⟨⟨hA.1.below.trans (hk.below.mono hS4.size)⟩,hA.2⟩) (fun _ _ _ _ h=>h.elim) ⟨hS4,rfl⟩ ?round ?done ?pan
 case pan =>
  rintro D ch W hD ⟨rfl,hSW,hF⟩ hK;have hS9:Since w1 (W.putObj D (.deferred none)):=⟨hSW.below.trans ((KX.put (X:=none) (.deferred none) hK rfl hD).below.mono hS4.size)⟩;obtain ⟨f0,f1,f2,f3,f4⟩:=RF.out _ hS9;have HF:Hid (aL d=2):=by unfold Hid;rw [HE1.out,hF];rfl
  exact ⟨by simp,.inl ⟨_,_,rfl,run_takeDeferred hK,uD _ _ _ rfl 0 _ f3 f4 _ ⟨by rw [HF.out],SET.out _ _ hS9⟩⟩⟩
 case round =>
  rintro l i ⟨sa,sl,sc⟩ W W' hsz' ⟨hSW,hall⟩ hiN hx;have HX:Hid ((iF d)[i]? = some sl):=hx;have HA:Hid (((iF d).take i).all (fun k=>decide (k<=40))=true):=hall;have HD:Hid (decide (sl<=40)=decide ((sl:Int)<=40)):=by unfold Hid;rw [Bool.eq_iff_iff];simp;omega
  clear hx hall
  gi_wp2
  refine ⟨trivial, ?_⟩;cases h2:decide ((sl:Int)<=40)
  ·have HF:Hid (iO d=false):=mM HX.out (by rw [HD.out];exact h2)
   gi_wp2_with (refine ⟨trivial,rfl, ?_⟩;gi_at_call 159;refine (vw (iK _ _ (by first | exact h2 | rfl) _)).mono ?_;rintro e w' ⟨rfl,rfl⟩)
   exact ⟨rfl,NC.dR ((Since.refl W').alloc _),rfl,hSW.alloc _,HF.out⟩
  ·have HF:Hid (((iF d).take (i+1)).all (fun k=>decide (k<=40))=true):=jB HX.out HA.out (by rw [HD.out];exact h2)
   gi_wp2_with (refine ⟨trivial,rfl, ?_⟩;gi_at_call 159;refine (vw (gJ _ _ (by first | exact h2 | rfl) _)).mono ?_;rintro e w' ⟨rfl,rfl⟩)
   exact ⟨NC.dR ((Since.refl W').alloc _),KX.dR ((Since.refl W').alloc _) hsz',hSW.alloc _,HF.out⟩
 case done =>
  rintro D W hD ⟨hSW,hall⟩ hK
  have HE2:Hid (aL d=if jm d && fC d then 0 else 1):=by
   have:iO d=true:=by rw [List.take_of_length_le (Nat.le_refl _)] at hall;exact hall
   unfold Hid;rw [HE1.out,this];rfl
  have OUT:Hid (∀ y,Since W y->y.heap[D]? = some (.deferred (some []))/\Since w1 y/\Since w1 (y.putObj D (.deferred none))/\(y.putObj D (.deferred none)).cell? ⟨w.heap.size+1,0,none⟩=some (.int .i64 0)/\(y.putObj D (.deferred none)).frozen? ⟨w.heap.size+1,0,none⟩=false):=by
   intro y hy;have hk:=hy.block hK;have hs:Since w1 (y.putObj D (.deferred none)):=⟨(hSW.trans hy).below.trans ((KX.put (X:=none) (.deferred none) hk rfl hD).below.mono hS4.size)⟩;exact ⟨hk,hSW.trans hy,hs,(RF.out _ hs).2.2.2.1,(RF.out _ hs).2.2.2.2⟩
  obtain ⟨f0,f1,f2,f3,f4⟩:=RF.out _ hSW;have hWW:=hW1.since hSW;clear hall hK;refine cK ?_
  go_wp2_with fail
  go_loopw [32] (fun i wr=>(∃ k:Nat,k<=d.nodes.length/\i=.int .i64 k/\(List.range k).all (fun n=>match d.nodes[n]? with | some nd=>aH d n nd | none=>true)=true)/\Since W wr) (fun i _=>d.nodes.length - (intOf i).toNat)
  case atStart=>exact ⟨⟨0,Nat.zero_le _,rfl,rfl⟩,Since.refl _⟩
  case round =>
   obtain ⟨⟨k,hk,rfl,hn⟩,hS⟩:=hrel
   have HN:Hid ((List.range k).all (fun n=>match d.nodes[n]? with | some nd=>aH d n nd | none=>true)=true):=hn
   clear hn;obtain ⟨g0,g1,g2,g3,g4⟩:=RF.out _ (hSW.trans hS);by_cases hlt:k < d.nodes.length
   ·obtain ⟨nd,hnd⟩:∃ nd,d.nodes[k]? = some nd:=⟨_,zQ1 hlt⟩;have HND:Hid (d.nodes[k]? = some nd):=hnd;clear hnd;cases h5:aH d k nd
    ·have HF:Hid (aL d=1):=by
      have:jm d=false:=ng hlt (by rw [HND.out];exact h5);unfold Hid;rw [HE2.out,this];rfl
     have H5:Hid (aH d k nd=false):=h5;clear h5
     go_wp2_with (go_at_call 161;refine (Sg W ⟨ga,gl,gc,na,d.nodes.length,nc,wa,d.wires.length,wc⟩ d k nd H5.out hWW HND.out _ hS).mono ?_;rintro e w' ⟨rfl,hS6⟩)
     obtain ⟨o1,o2,o3,o4,o5⟩:=OUT.out _ (by assumption);exact ⟨by simp,.inl ⟨_,_,rfl,run_takeDeferred o1,uD _ _ _ rfl 0 _ o4 o5 _ ⟨by rw [HF.out],SET.out _ _ o3⟩⟩⟩
    ·have H5:Hid (aH d k nd=true):=h5;clear h5
     go_wp2_with (go_at_call 161;refine (Sd W ⟨ga,gl,gc,na,d.nodes.length,nc,wa,d.wires.length,wc⟩ d k nd H5.out hWW HND.out _ hS).mono ?_;rintro e w' ⟨rfl,hS6⟩)
     go_roundw
     case rel=>exact ⟨⟨k+1,by omega,by go_num,jL HN.out (by rw [HND.out];exact H5.out)⟩,by assumption⟩
     case measure=>simp [intOf];omega
   ·have HNB:Hid (jm d=true):=by
     have:=HN.out;rw [show k=d.nodes.length from by omega] at this;exact this
    cases h6:fC d
    ·have HF:Hid (aL d=1):=by unfold Hid;rw [HE2.out,h6];simp
     have H6:Hid (fC d=false):=h6;clear h6
     go_wp2_with (go_at_call 162;refine (PE W ⟨ga,gl,gc,na,d.nodes.length,nc,wa,d.wires.length,wc⟩ d H6.out hWW _ hS).mono ?_;rintro e w' ⟨rfl,hS6⟩)
     obtain ⟨o1,o2,o3,o4,o5⟩:=OUT.out _ (by assumption);exact ⟨by simp,.inl ⟨_,_,rfl,run_takeDeferred o1,uD _ _ _ rfl 0 _ o4 o5 _ ⟨by rw [HF.out],SET.out _ _ o3⟩⟩⟩
    ·have HF:Hid (aL d=0):=by unfold Hid;rw [HE2.out,h6,HNB.out];rfl
     have H6:Hid (fC d=true):=h6;clear h6
     go_wp2_with (go_at_call 162;refine (PD W ⟨ga,gl,gc,na,d.nodes.length,nc,wa,d.wires.length,wc⟩ d H6.out hWW _ hS).mono ?_;rintro e w6 ⟨rfl,hS6⟩;obtain ⟨m0,m1,m2,m3,m4⟩:=RF.out _ (hSW.trans hS6))
     obtain ⟨o1,o2,o3,o4,o5⟩:=OUT.out _ hS6;have hDX:D≠w.heap.size+1:=by have:=hS4.size;omega
     have o6:(w6.setCell ⟨w.heap.size+1,0,none⟩ (.int .i64 0)).heap[D]? = some (.deferred (some [])):=(Below.heap_setCell _ _ _ _ hDX).trans o1
     have o7:((w6.setCell ⟨w.heap.size+1,0,none⟩ (.int .i64 0)).putObj D (.deferred none)).cell? ⟨w.heap.size+1,0,none⟩=some (.int .i64 0) :=
      (World.cell?_of_block (w:=w6.setCell ⟨w.heap.size+1,0,none⟩ (.int .i64 0)) (World.putObj_heap_other (Ne.symm hDX))).trans (World.cell?_setCell_same' _ _ _ (by rw [m3];rfl))
     have o8:Since w ((w6.setCell ⟨w.heap.size+1,0,none⟩ (.int .i64 0)).putObj D (.deferred none)):=by
      refine ⟨(SET.out w6 (.int .i64 0) o2).below.trans ?_⟩;exact (KX.put (X:=none) (n:=w.heap.size) (.deferred none) o6 rfl (by have:=hS1.size;have:=hS4.size;omega)).below
     exact ⟨by simp,.inl ⟨_,_,rfl,run_takeDeferred o6,L9 _ _ _ rfl 0 o7 _ ⟨by rw [HF.out],o8⟩⟩⟩
theorem nL (x:WV) (d:Wd) (w:World) (hW:WAt w x d) :
  Calls prog 39 #[.agg #[.slice x.ga x.gl x.gc,.slice x.na x.nl x.nc,.slice x.wa x.wl x.wc]] w fun e w'=>e=.returned (.int .i64 (aL d))/\Since w w':=by
 have hS1:Since w (w.alloc (.cells #[.slice x.ga x.gl x.gc,.slice x.na x.nl x.nc,.slice x.wa x.wl x.wc] 26)):=(Since.refl w).alloc _
 go_enter func39,ntmps39
 go_wp2_with (go_at_call 100;refine (G8 x d _ (hW.since hS1)).mono ?_;rintro e w' ⟨rfl,hS2⟩)
 go_ret
 exact ⟨rfl,hS1.trans (by assumption)⟩
end Go.Proofs.YtiiifecfdkjmbaaGreat
