/- Lemmas. -/
import Derived.Test.YtiiifecfdkjmbaaJudgeX
set_option maxHeartbeats 2000000
namespace Go.Proofs.Ytiiifecfdkjmbaa
open _root_.Go.Proofs.Try hiding checked
set_option maxRecDepth 8000
open Go.RowKit Go.Shelf
attribute [local go_sem] Oper.semAt_some
def eF (ns:List Nd):List Nat:=ns.flatMap fun nd=>[nd.held.length,nd.told.length]
def fV (rs:List (List (List Mg))):List Nat:=rs.flatMap fun row=>row.map List.length
def dF (d:Wd):List Nat:=eF d.nodes++fV d.wires
theorem mJ (ns:List Nd) (i:Nat) (h:i<=ns.length):(eF (ns.take i)).length=2*i:=by
 unfold eF
 rw [List.length_flatMap]
 have:((ns.take i).map fun nd:Nd=>[nd.held.length,nd.told.length].length)=List.replicate i 2:=by
  rw [List.eq_replicate_iff]
  refine ⟨by simp;omega,fun b hb=>?_⟩
  simp only [List.mem_map] at hb
  obtain ⟨_,_,rfl⟩:=hb;rfl
 rw [this];simp [Nat.mul_comm]
theorem vF {α:Type} {l:List α} {i:Nat} {x:α} (h:l[i]? = some x):l=l.take i++x::l.drop (i+1):=by
 obtain ⟨hi,rfl⟩:=zQ2.1 h
 simp
theorem vG {ns:List Nd} {i:Nat} {nd:Nd} (h:ns[i]? = some nd):(eF ns)[2*i]? = some nd.held.length/\(eF ns)[2*i+1]? = some nd.told.length:=by
 have hl:=mJ ns i (Nat.le_of_lt (zQ2.1 h).1)
 have e:eF ns=eF (ns.take i)++([nd.held.length,nd.told.length]++eF (ns.drop (i+1))):=by
  conv=>lhs;rw [vF h]
  simp [eF]
 rw [e]
 constructor
 ·rw [List.getElem?_append_right (by omega),hl];simp
 ·rw [List.getElem?_append_right (by omega),hl];simp
theorem ji (ns:List Nd):(eF ns).length=2*ns.length:=by
 have:=mJ ns ns.length (Nat.le_refl _);rwa [List.take_length] at this
def qb (rs:List (List (List Mg))) (f:Nat):Nat:=(fV (rs.take f)).length
theorem zO {rs:List (List (List Mg))} {f:Nat} {row:List (List Mg)} (h:rs[f]? = some row):qb rs (f+1)=qb rs f+row.length:=by
 unfold qb fV
 rw [List.take_add_one,h,List.flatMap_append,List.length_append];simp
theorem vH {rs:List (List (List Mg))} {f t:Nat} {row:List (List Mg)} {l:List Mg} (h:rs[f]? = some row) (hl:row[t]? = some l):(fV rs)[qb rs f+t]? = some l.length:=by
 have e:fV rs=fV (rs.take f)++(row.map List.length++fV (rs.drop (f+1))):=by
  conv=>lhs;rw [vF h]
  simp [fV]
 have ht:=(zQ2.1 hl).1
 rw [e,List.getElem?_append_right (by unfold qb;omega)]
 unfold qb
 rw [Nat.add_sub_cancel_left,List.getElem?_append_left (by simpa using ht)]
 simp [hl]
theorem zP (x:WV) (w:World) :
  Calls prog 78 #[.agg #[.slice x.ga x.gl x.gc,.slice x.na x.nl x.nc,.slice x.wa x.wl x.wc]] w fun e w'=>e=.returned (.func (.func 107) #[] #[.pointer (some ⟨w.heap.size,0,none⟩)])/\w'=w.alloc (.cells #[.slice x.ga x.gl x.gc,.slice x.na x.nl x.nc,.slice x.wa x.wl x.wc] 77):=by
 go_enter func78,ntmps78
 go_wp2
 go_ret
 exact ⟨rfl,rfl⟩
set_option maxRecDepth 100000 in
theorem zQ (m:Nat) (Bj:Nat) (w:World) (hBj:Bj < w.heap.size) (x:WV) (d:Wd) (hWA:WAt w x d)
  (c1:w.cell? ⟨Bj,1,none⟩=some (.slice x.na x.nl x.nc)) (c2:w.cell? ⟨Bj,2,none⟩=some (.slice x.wa x.wl x.wc)) :
  D5 prog m 107 #[.pointer (some ⟨Bj,0,none⟩)] (fun s:Option Addr × Nat × Nat=>#[.slice s.1 s.2.1 s.2.2]) (KX w.heap.size none) (fun i s=>(dF d)[i]? = some s.2.1) (fun _=>False) (dF d).length w:=by
 intro l J Jp W hW hJ _ hY h0
 obtain ⟨ga,gl,gc,na,nl,nc,wa,wl,wc⟩:=x
 have hwl:=hWA.r.hlen
 have hwm:=hWA.r.hmax
 have hnl:=hWA.n.hlen
 have hnm:=hWA.n.hmax
 dsimp only at hwl hwm hnl hnm c1 c2
 subst hwl hnl
 have C:∀ W',Below w.heap.size W W'->Since w W'/\W'.cell? ⟨Bj,1,none⟩=some (.slice na d.nodes.length nc)/\W'.cell? ⟨Bj,2,none⟩=some (.slice wa d.wires.length wc):=fun W' h =>
  have hs:Since w W':=⟨hW.below.trans h⟩
  ⟨hs,(hs.cellAt hBj _).trans c1,(hs.cellAt hBj _).trans c2⟩
 obtain ⟨-,d1,d2⟩:=C W (Below.refl _ _)
 refine callsIn_of_wp func107 rfl trivial ?_ rfl
 simp only [ntmps107,List.size_toArray,List.length_cons,List.length_nil,Nat.reduceAdd,Nat.reduceSub,Array.replicate_succ,Array.replicate_zero,List.push_toArray,List.append_toArray,List.nil_append,List.cons_append]
 gi_wp2
 gi_loopw [13] (fun i wr=>∃ k:Nat,k<=d.nodes.length/\i=.int .i64 k/\J (2*k) wr/\Below w.heap.size W wr) (fun i _=>d.nodes.length - (intOf i).toNat)
 case atStart=>exact ⟨0,Nat.zero_le _,rfl,h0,Below.refl _ _⟩
 case round =>
  obtain ⟨k,hk,rfl,hJs,hB⟩:=hrel
  obtain ⟨hSr,f1,f2⟩:=C wr hB
  by_cases hlt:k < d.nodes.length
  ·obtain ⟨nd,hnd⟩:∃ nd,d.nodes[k]? = some nd:=⟨_,zQ1 hlt⟩
   obtain ⟨bn,on,rfl,hbn,hcn⟩:=hWA.n.cells (by dsimp only;omega)
   obtain ⟨k0,⟨v1,k1,la,lc,rfl,hlc,hL⟩,⟨v2,k2,ha,hc,rfl,hhc,hH⟩,⟨v3,k3,ta,tc,rfl,htc,hT⟩⟩:=hcn k nd hnd
   have j0:wr.cell? ⟨bn,on+k*4,none⟩=_:=(hSr.cellAt hbn _).trans k0
   have j1:wr.cell? ⟨bn,on+k*4+1,none⟩=_:=(hSr.cellAt hbn _).trans k1
   have j2:wr.cell? ⟨bn,on+k*4+2,none⟩=_:=(hSr.cellAt hbn _).trans k2
   have j3:wr.cell? ⟨bn,on+k*4+3,none⟩=_:=(hSr.cellAt hbn _).trans k3
   obtain ⟨e1,e2⟩:=vG hnd
   have hll:=ji d.nodes
   have E1:(dF d)[2*k]? = some nd.held.length:=by unfold dF;rw [List.getElem?_append_left (by omega)];exact e1
   have E2:(dF d)[2*k+1]? = some nd.told.length:=by unfold dF;rw [List.getElem?_append_left (by omega)];exact e2
   have hS1:Since wr (wr.alloc (.cells #[.int .i64 nd.clock,.slice la nd.last.length lc,.slice ha nd.held.length hc,.slice ta nd.told.length tc] 45)):=(Since.refl wr).alloc _
   have hbb:=World.alloc_heap_new wr (.cells #[.int .i64 nd.clock,.slice la nd.last.length lc,.slice ha nd.held.length hc,.slice ta nd.told.length tc] 45)
   obtain ⟨fn,tmps,assign,body,hy,hR⟩:=hY (2*k) (ha,nd.held.length,hc) _ (hJ _ _ _ hJs hS1) (zQ2.1 E1).1 E1
   have HBB:Hid _:=hbb
   have HY:Hid _:=hY
   clear hY hcn k0 k1 k2 k3 hL hH hT hbb e1 e2 E1
   gi_wp2
   refine ⟨fun h=>(by cases h), ?_⟩
   refine hR.mono ?_
   rintro e W3 (⟨rfl,hJ3,hk3⟩ | ⟨ch,rfl,hp3⟩)
   ·have t3:W3.cell? ⟨wr.heap.size,3,none⟩=some (.slice ta nd.told.length tc) :=
     (World.cell?_of_block (w:=wr.alloc (.cells #[.int .i64 nd.clock,.slice la nd.last.length lc,.slice ha nd.held.length hc,.slice ta nd.told.length tc] 45)) ((hk3.cells _ _ HBB.out rfl (by simp)).trans HBB.out.symm)).trans (by simp [go_sem])
    obtain ⟨fn2,Jy,assign2,Jz,hy2,hR2⟩:=HY.out (2*k+1) (ta,nd.told.length,tc) W3 hJ3 (zQ2.1 E2).1 E2
    have hB3:Below w.heap.size W W3:=(hB.trans (hS1.below.mono hSr.size)).trans hk3.below
    clear hy hR
    gi_wp2
    refine ⟨fun h=>(by cases h), ?_⟩
    refine hR2.mono ?_
    rintro e W4 (⟨rfl,hJ4,hk4⟩ | ⟨ch,rfl,hp4⟩)
    ·gi_wp2
     go_roundw
     case rel=>exact ⟨k+1,by omega,by simp,hJ4,hB3.trans hk4.below⟩
     case measure=>simp [intOf];omega
    ·exact ⟨rfl,.inr ⟨ch,rfl,hp4⟩⟩
   ·exact ⟨rfl,.inr ⟨ch,rfl,hp3⟩⟩
  ·obtain rfl:k=d.nodes.length:=by omega
   gi_wp2
   gi_loopw [34] (fun i wr=>∃ f:Nat,f<=d.wires.length/\i=.int .i64 f/\J (2*d.nodes.length+qb d.wires f) wr/\Below w.heap.size W wr) (fun i _=>d.wires.length - (intOf i).toNat)
   case atStart=>exact ⟨0,Nat.zero_le _,rfl,hJs,hB⟩
   case round =>
    obtain ⟨f,hf,rfl,hJf,hBf⟩:=hrel
    obtain ⟨hSf,g1,g2⟩:=C wr hBf
    by_cases hfl:f < d.wires.length
    ·obtain ⟨row,hrow⟩:∃ row,d.wires[f]? = some row:=⟨_,zQ1 hfl⟩
     obtain ⟨bL,oL,rfl,hbL,hcL⟩:=hWA.r.cells (by dsimp only;omega)
     obtain ⟨v4,k4,ra,rc,rfl,hrc,hR⟩:=hcL f row hrow
     have k5:wr.cell? ⟨bL,oL+f,none⟩=_:=(hSf.cellAt hbL _).trans k4
     have jZ:Hid (d.wires[f]? = some row):=hrow
     have hrm:=hR.hmax
     clear hrow k4 hcL
     gi_wp2
     gi_loopw [40] (fun i wr=>∃ t:Nat,t<=row.length/\i=.int .i64 t/\J (2*d.nodes.length+(qb d.wires f+t)) wr/\Below w.heap.size W wr) (fun i _=>row.length - (intOf i).toNat)
     case atStart=>exact ⟨0,Nat.zero_le _,rfl,hJf,hBf⟩
     case round =>
      obtain ⟨t,ht,rfl,hJt,hBt⟩:=hrel
      obtain ⟨hSt,-,-⟩:=C wr hBt
      by_cases htl:t < row.length
      ·obtain ⟨li,hli⟩:∃ li,row[t]? = some li:=⟨_,zQ1 htl⟩
       obtain ⟨bR,oR,rfl,hbR,hcR⟩:=hR.cells (by omega)
       obtain ⟨v6,k6,qa,qc,rfl,hqc,hM⟩:=hcR t li hli
       have k7:wr.cell? ⟨bR,oR+t,none⟩=_:=(hSt.cellAt hbR _).trans k6
       have E3:(dF d)[2*d.nodes.length+(qb d.wires f+t)]? = some li.length:=by
        unfold dF
        rw [List.getElem?_append_right (by rw [ji];omega),ji,Nat.add_sub_cancel_left]
        exact vH jZ.out hli
       obtain ⟨fn,tmps,assign,body,hy,hR2⟩:=hY _ (qa,li.length,qc) wr hJt (zQ2.1 E3).1 E3
       clear hcR hli k6 hM E3 hY
       gi_wp2
       refine ⟨fun h=>(by cases h), ?_⟩
       refine hR2.mono ?_
       rintro e W4 (⟨rfl,hJ4,hk4⟩ | ⟨ch,rfl,hp4⟩)
       ·gi_wp2
        go_roundw
        case rel=>exact ⟨t+1,by omega,by simp,hJ4,hBt.trans hk4.below⟩
        case measure=>simp [intOf];omega
       ·exact ⟨rfl,.inr ⟨ch,rfl,hp4⟩⟩
      ·obtain rfl:t=row.length:=by omega
       gi_wp2
       go_roundw
       case rel=>exact ⟨f+1,by omega,by simp,by rw [zO jZ.out];exact hJt,hBt⟩
       case measure=>simp [intOf];omega
    ·obtain rfl:f=d.wires.length:=by omega
     gi_wp2
     go_end0
     refine .inl ⟨_,rfl, ?_⟩
     have:(dF d).length=2*d.nodes.length+qb d.wires d.wires.length:=by
      unfold dF qb;rw [List.length_append,ji,List.take_length]
     rw [this];exact hJf
end Go.Proofs.Ytiiifecfdkjmbaa
