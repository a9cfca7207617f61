/- Lemmas. -/
import Derived.Test.YtiiifecfdkjmbaaGreatTVerdict
set_option maxHeartbeats 8000000
namespace Go.Proofs.YtiiifecfdkjmbaaGreat
open _root_.Go.Proofs.Tryz hiding checked
set_option maxRecDepth 8000
open Go.RowKit Go.Shelf
def mD (nd:Nd):Bool:=decide (nd.held.length<=40) && decide (nd.told.length<=40)
def r9 (row:List (List Mg)):Bool:=row.all fun l=>decide (l.length<=40)
theorem pR (d:Wd):gF d=(d.nodes.all mD && d.wires.all r9):=by
 unfold gF fT gT jc mD r9
 rw [List.all_append,List.all_flatMap,List.all_flatMap]
 congr 1
 ·congr 1;funext nd;simp
 ·congr 1;funext row;rw [List.all_map];rfl
def iF (d:Wd) (n:Nat):Bool:=decide ((d.wires[n]?.getD []).length=d.nodes.length) && (match d.nodes[n]? with | some nd=>aC d n nd | none=>true)
def jh (d:Wd) (f t:Nat):Bool:=aG d f t ((d.wires[f]?.getD [])[t]?.getD [])
theorem FH (d:Wd):(gX d && dR d)=(decide (d.wires.length=d.nodes.length) && ((List.range d.nodes.length).all (iF d) && (List.range d.nodes.length).all fun f=>(List.range d.nodes.length).all fun t=>jh d f t)):=by
 by_cases hl:d.wires.length=d.nodes.length
 ·rw [Bool.eq_iff_iff]
  unfold gX dR nZ iF jh
  rw [hl]
  simp only [Bool.and_eq_true,List.all_eq_true,List.mem_range,decide_eq_true_eq,decide_true,true_and]
  constructor
  ·rintro ⟨h1,h2⟩
   refine ⟨fun n hn=>⟨(h2 n hn).1,h1 n hn⟩,fun f hf t ht=>(h2 f hf).2 t (by rw [(h2 f hf).1];exact ht)⟩
  ·rintro ⟨h1,h2⟩
   refine ⟨fun n hn=>(h1 n hn).2,fun f hf=>⟨(h1 f hf).1,fun t ht=>h2 f hf t (by rw [(h1 f hf).1] at ht;exact ht)⟩⟩
 ·have:dR d=false:=by unfold dR;simp [hl]
  rw [this];simp [hl]
theorem yQ (w0:World) (x:WV) (d:Wd) (n:Nat) (nd:Nd) (v:Bool) (hv:aC d n nd=v) (hW:WAt w0 x d) (hn:d.nodes[n]? = some nd) (w:World) (h:Since w0 w) :
  Calls prog 98 #[.agg #[.slice x.ga x.gl x.gc,.slice x.na x.nl x.nc,.slice x.wa x.wl x.wc],.int .i64 n] w fun e w'=>e=.returned (.bool v)/\Since w0 w' :=
 (Bz x d n nd w (hW.since h) hn).mono fun _ _ ⟨he,hw⟩=>⟨by rw [<-hv];exact he,h.trans hw⟩
theorem yR (w0:World) (x:WV) (d:Wd) (f t:Nat) (row:List (List Mg)) (l:List Mg) (v:Bool) (hv:aG d f t l=v) (hW:WAt w0 x d) (hr:d.wires[f]? = some row) (hl:row[t]? = some l) (w:World) (h:Since w0 w) :
  Calls prog 99 #[.agg #[.slice x.ga x.gl x.gc,.slice x.na x.nl x.nc,.slice x.wa x.wl x.wc],.int .i64 f,.int .i64 t] w fun e w'=>e=.returned (.bool v)/\Since w0 w' :=
 (BA x d f t row l w (hW.since h) hr hl).mono fun _ _ ⟨he,hw⟩=>⟨by rw [<-hv];exact he,h.trans hw⟩
set_option maxRecDepth 40000 in
theorem xg (x:WV) (d:Wd) (w:World) (hW:WAt w x d) :
  Calls prog 38 #[.agg #[.slice x.ga x.gl x.gc,.slice x.na x.nl x.nc,.slice x.wa x.wl x.wc]] w fun e w'=>e=.returned (.int .i64 (aM d))/\Since w w':=by
 obtain ⟨ga,gl,gc,na,nl,nc,wa,wl,wc⟩:=x
 have hwl:=hW.r.hlen
 have hwm:=hW.r.hmax
 have hnl:=hW.n.hlen
 have hnm:=hW.n.hmax
 dsimp only at hwl hwm hnl hnm ⊢
 subst hwl hnl
 obtain ⟨w1,hw1⟩:∃ w1,w.alloc (.cells #[.slice ga gl gc,.slice na d.nodes.length nc,.slice wa d.wires.length wc] 26)=w1:=⟨_,rfl⟩
 have hS1:=ay hw1
 have hsz:w.heap.size < w1.heap.size:=by rw [<-hw1];simp
 have b0:w1.cell? ⟨w.heap.size,0,none⟩=some (.slice ga gl gc):=by rw [<-hw1];simp [go_sem]
 have b1:w1.cell? ⟨w.heap.size,1,none⟩=some (.slice na d.nodes.length nc):=by rw [<-hw1];simp [go_sem]
 have b2:w1.cell? ⟨w.heap.size,2,none⟩=some (.slice wa d.wires.length wc):=by rw [<-hw1];simp [go_sem]
 have hW1:=hW.since hS1
 have hG1:=hW1.g
 have hR1:=hW1.r
 have hN1:=hW1.n
 have RF:Hid (∀ y,Since w1 y->y.cell? ⟨w.heap.size,0,none⟩=some (.slice ga gl gc)/\y.cell? ⟨w.heap.size,1,none⟩=some (.slice na d.nodes.length nc)/\y.cell? ⟨w.heap.size,2,none⟩=some (.slice wa d.wires.length wc)):=fun y hy =>
  ⟨(hy.cellAt (by omega) _).trans b0,(hy.cellAt (by omega) _).trans b1,(hy.cellAt (by omega) _).trans b2⟩
 have HE:Hid (aM d=if bF d.nodes.length d.groups=0 then (if gF d then (if gX d && dR d then 0 else 1) else 2) else bF d.nodes.length d.groups):=rfl
 cases h1:(bF d.nodes.length d.groups != 0)
 rotate_left
 ·have HF:Hid (aM d=bF d.nodes.length d.groups):=by
   have:¬ bF d.nodes.length d.groups=0:=by simpa using h1
   unfold Hid;rw [HE.out,if_neg this]
  go_enter func38,ntmps38
  go_wp2_with (go_at_call 69;refine (sQ w1 _ _ _ _ _ d.groups hG1 (Since.refl _)).mono ?_;rintro e w2 ⟨rfl,hS2⟩)
  go_ret
  exact ⟨by rw [HF.out];rfl,hS1.trans (by assumption)⟩
 have HE1:Hid (aM d=if gF d then (if gX d && dR d then 0 else 1) else 2):=by
  have:bF d.nodes.length d.groups=0:=by simpa using h1
  unfold Hid;rw [HE.out,if_pos this]
 clear HE
 go_enter func38,ntmps38
 go_wp2_with (go_at_call 69;refine (sQ w1 _ _ _ _ _ d.groups hG1 (Since.refl _)).mono ?_;rintro e w2 ⟨rfl,hS2⟩)
 clear hw1 h1
 go_loopw [4] (fun i wr=>(∃ k:Nat,k<=d.nodes.length/\i=.int .i64 k/\(d.nodes.take k).all mD=true)/\Since w1 wr) (fun i _=>d.nodes.length - (intOf i).toNat)
 case atStart=>exact ⟨⟨0,Nat.zero_le _,rfl,rfl⟩,by assumption⟩
 case round =>
  obtain ⟨⟨k,hk,rfl,hn⟩,hS⟩:=hrel
  have HN:Hid ((d.nodes.take k).all mD=true):=hn
  clear hn
  obtain ⟨f0,f1,f2⟩:=RF.out _ hS
  by_cases hlt:k < d.nodes.length
  ·obtain ⟨nd,hnd⟩:∃ nd,d.nodes[k]? = some nd:=⟨_,zQ1 hlt⟩
   obtain ⟨bn,on,rfl,hbn,hcn⟩:=hN1.cells (by omega)
   obtain ⟨k0,-,⟨v2,k2,ha,hc,rfl,hhc,hH⟩,⟨v3,k3,ta,tc,rfl,htc,hT⟩⟩:=hcn k nd hnd
   have j2:wr.cell? ⟨bn,on+k*4+2,none⟩=_:=(hS.cellAt hbn _).trans k2
   have j3:wr.cell? ⟨bn,on+k*4+3,none⟩=_:=(hS.cellAt hbn _).trans k3
   have HND:Hid (d.nodes[k]? = some nd):=hnd
   have n1:(k:Int) < (d.nodes.length:Int):=by omega
   clear hcn k0 k2 k3 hH hT hnd
   have HD:Hid (mD nd=(!(decide ((40:Int) < nd.held.length)) && !(decide ((40:Int) < nd.told.length)))):=by
    unfold Hid mD;rw [Bool.eq_iff_iff];simp;omega
   have HBAD:Hid (mD nd=false->aM d=2):=by
    intro h
    have:gF d=false:=by rw [pR,kI HND.out h];rfl
    rw [HE1.out,this];rfl
   cases h2:decide ((40:Int) < nd.held.length)
   ·cases h3:decide ((40:Int) < nd.told.length)
    ·have HF:Hid ((d.nodes.take (k+1)).all mD=true):=iw HND.out HN.out (by rw [HD.out,h2,h3];rfl)
     go_wp2
     go_roundw
     case rel=>exact ⟨⟨k+1,by omega,by go_num,HF.out⟩,hS⟩
     case measure=>simp [intOf];omega
    ·have HF:Hid (aM d=2):=HBAD.out (by rw [HD.out,h3];simp)
     go_wp2
     go_ret
     exact ⟨by rw [HF.out];rfl,hS1.trans hS⟩
   ·have HF:Hid (aM d=2):=HBAD.out (by rw [HD.out,h2];simp)
    go_wp2
    go_ret
    exact ⟨by rw [HF.out];rfl,hS1.trans hS⟩
  ·have HSN:Hid (d.nodes.all mD=true):=by
    have:=HN.out
    rw [List.take_of_length_le (by omega)] at this
    exact this
   clear HN
   go_wp2_with fail
   clear hlt
   go_loopw [5,6] (fun i _ wr=>(∃ k:Nat,k<=d.wires.length/\i=.int .i64 k/\(d.wires.take k).all r9=true)/\Since w1 wr) (fun i _ _=>d.wires.length - (intOf i).toNat)
   case atStart=>exact ⟨⟨0,Nat.zero_le _,rfl,rfl⟩,by assumption⟩
   case round =>
    clear hS f0 f1 f2
    obtain ⟨⟨k,hk,rfl,hn⟩,hS⟩:=hrel
    have HN:Hid ((d.wires.take k).all r9=true):=hn
    clear hn
    obtain ⟨f0,f1,f2⟩:=RF.out _ hS
    by_cases hlt:k < d.wires.length
    ·obtain ⟨row,hrow⟩:∃ row,d.wires[k]? = some row:=⟨_,zQ1 hlt⟩
     obtain ⟨bL,oL,rfl,hbL,hcL⟩:=hR1.cells (by omega)
     obtain ⟨v4,k4,ra,rc,rfl,hrc,hR⟩:=hcL k row hrow
     have hRm:=hR.hmax
     have kY:Hid (d.wires[k]? = some row):=hrow
     have n1:(k:Int) < (d.wires.length:Int):=by omega
     clear hcL hrow
     go_wp2_with fail
     go_loopw [6] (fun i wr=>(∃ j:Nat,j<=row.length/\i=.int .i64 j/\(row.take j).all (fun l=>decide (l.length<=40))=true)/\Since w1 wr) (fun i _=>row.length - (intOf i).toNat)
     case atStart=>exact ⟨⟨0,Nat.zero_le _,rfl,rfl⟩,by assumption⟩
     case round =>
      clear hS f0 f1 f2
      obtain ⟨⟨j,hj,rfl,hnj⟩,hS⟩:=hrel
      have HNJ:Hid ((row.take j).all (fun l=>decide (l.length<=40))=true):=hnj
      clear hnj
      obtain ⟨f0,f1,f2⟩:=RF.out _ hS
      have k5:wr.cell? ⟨bL,oL+k,none⟩=_:=(hS.cellAt hbL _).trans k4
      by_cases hjl:j < row.length
      ·obtain ⟨l,hl⟩:∃ l,row[j]? = some l:=⟨_,zQ1 hjl⟩
       obtain ⟨bR,oR,rfl,hbR,hcR⟩:=hR.cells (by omega)
       obtain ⟨v6,k6,la,lc,rfl,hlc,hM⟩:=hcR j l hl
       have k7:wr.cell? ⟨bR,oR+j,none⟩=_:=(hS.cellAt hbR _).trans k6
       have HL:Hid (row[j]? = some l):=hl
       have n2:(j:Int) < (row.length:Int):=by omega
       have HD:Hid (decide (l.length<=40)=!(decide ((40:Int) < l.length))):=by unfold Hid;rw [Bool.eq_iff_iff];simp;omega
       clear hcR hl k6 hM
       cases h8:decide ((40:Int) < l.length)
       ·have HF:Hid ((row.take (j+1)).all (fun l=>decide (l.length<=40))=true):=iw HL.out HNJ.out (by rw [HD.out,h8];rfl)
        go_wp2
        go_roundw
        case rel=>exact ⟨⟨j+1,by omega,by go_num,HF.out⟩,hS⟩
        case measure=>simp [intOf];omega
       ·have HF:Hid (aM d=2):=by
         have h9:r9 row=false:=kI HL.out (by rw [HD.out,h8];rfl)
         have:gF d=false:=by rw [pR,kI kY.out h9];simp
         unfold Hid;rw [HE1.out,this];rfl
        go_wp2
        go_ret
        exact ⟨by rw [HF.out];rfl,hS1.trans hS⟩
      ·have HF:Hid (r9 row=true):=by
        have:=HNJ.out
        rw [List.take_of_length_le (by omega)] at this
        exact this
       go_wp2_with fail
       go_roundw
       case rel=>exact ⟨⟨k+1,by omega,by go_num,iw kY.out HN.out HF.out⟩,hS⟩
       case measure=>simp [intOf];omega
    ·have HE2:Hid (aM d=if gX d && dR d then 0 else 1):=by
      have h9:d.wires.all r9=true:=by
       have:=HN.out
       rw [List.take_of_length_le (by omega)] at this
       exact this
      have:gF d=true:=by rw [pR,HSN.out,h9];rfl
      unfold Hid;rw [HE1.out,this];rfl
     clear HN HE1 HSN
     cases h4:((d.wires.length:Int) != (d.nodes.length:Int))
     rotate_left
     ·have HF:Hid (aM d=1):=by
       have:¬ d.wires.length=d.nodes.length:=by have h:=h4;simp at h;omega
       unfold Hid;rw [HE2.out,FH];simp [this]
      go_wp2
      go_ret
      exact ⟨by rw [HF.out];rfl,hS1.trans hS⟩
     have HWN:Hid (d.wires.length=d.nodes.length):=by unfold Hid;have h:=h4;simp at h;omega
     have HE3:Hid (aM d=if ((List.range d.nodes.length).all (iF d) && (List.range d.nodes.length).all fun f=>(List.range d.nodes.length).all fun t=>jh d f t) then 0 else 1):=by
      unfold Hid;rw [HE2.out,FH];simp [HWN.out]
     clear HE2
     go_wp2_with fail
     clear h4 hlt
     go_loopw [7] (fun i wr=>(∃ k:Nat,k<=d.nodes.length/\i=.int .i64 k/\(List.range k).all (iF d)=true)/\Since w1 wr) (fun i _=>d.nodes.length - (intOf i).toNat)
     case atStart=>exact ⟨⟨0,Nat.zero_le _,rfl,rfl⟩,by assumption⟩
     case round =>
      clear hS f0 f1 f2
      obtain ⟨⟨k,hk,rfl,hn⟩,hS⟩:=hrel
      have HN:Hid ((List.range k).all (iF d)=true):=hn
      clear hn
      obtain ⟨f0,f1,f2⟩:=RF.out _ hS
      by_cases hlt:k < d.nodes.length
      ·obtain ⟨row,hrow⟩:∃ row,d.wires[k]? = some row:=⟨_,zQ1 (by have:=HWN.out;omega)⟩
       obtain ⟨nd,hnd⟩:∃ nd,d.nodes[k]? = some nd:=⟨_,zQ1 hlt⟩
       obtain ⟨bL,oL,rfl,hbL,hcL⟩:=hR1.cells (by have:=HWN.out;omega)
       obtain ⟨v4,k4,ra,rc,rfl,hrc,hR⟩:=hcL k row hrow
       have HRN:Hid (iF d k=(!((row.length:Int) != (d.nodes.length:Int)) && aC d k nd)):=by
        unfold Hid iF;rw [hrow,hnd,Option.getD_some];congr 1;rw [Bool.eq_iff_iff];simp;omega
       have HND:Hid (d.nodes[k]? = some nd):=hnd
       have n1:(k:Int) < (d.wires.length:Int):=by have:=HWN.out;omega
       have HBAD:Hid (iF d k=false->aM d=1):=by
        intro h
        rw [HE3.out,kP hlt h];rfl
       have hne:Nonempty (Later w1):=⟨⟨w1,Since.refl w1⟩⟩
       have gw:∀ (y:Later w1) (o:Nat),y.w.cell? ⟨w.heap.size,o,none⟩=w1.cell? ⟨w.heap.size,o,none⟩:=fun y o=>y.cell (by omega)
       have gL:∀ (y:Later w1) (o:Nat),y.w.cell? ⟨bL,o,none⟩=w1.cell? ⟨bL,o,none⟩:=fun y o=>y.cell hbL
       clear hcL hrow hnd hR
       cases c3:((row.length:Int) != (d.nodes.length:Int))
       rotate_left
       ·have HF:Hid (aM d=1):=HBAD.out (by rw [HRN.out,c3];rfl)
        go_wp2_with fail
        refine av (by kernel_rfl) (by kernel_rfl) hS ?_
        repeat (go_big_quiet_step (fail))
        refine wpQuiet_nil ?_
        intro w9 hS9
        go_wp2
        go_ret
        exact ⟨by rw [HF.out];rfl,hS1.trans hS9⟩
       cases c4:aC d k nd
       ·have HF:Hid (aM d=1):=HBAD.out (by rw [HRN.out,c4];simp)
        have C4:Hid (aC d k nd=false):=c4
        clear c4
        go_wp2_with fail
        refine av (by kernel_rfl) (by kernel_rfl) hS ?_
        repeat (go_big_quiet_step ((go_at_call 98;exact Later.call (yQ w1 ⟨ga,gl,gc,na,d.nodes.length,nc,_,d.wires.length,wc⟩ d k nd _ C4.out hW1 HND.out))))
        refine wpQuiet_nil ?_
        intro w9 hS9
        go_wp2
        go_ret
        exact ⟨by rw [HF.out];rfl,hS1.trans hS9⟩
       ·have HF:Hid ((List.range (k+1)).all (iF d)=true):=iI HN.out (by rw [HRN.out,c3,c4];rfl)
        have C4:Hid (aC d k nd=true):=c4
        clear c4
        go_wp2_with fail
        refine av (by kernel_rfl) (by kernel_rfl) hS ?_
        repeat (go_big_quiet_step ((go_at_call 98;exact Later.call (yQ w1 ⟨ga,gl,gc,na,d.nodes.length,nc,_,d.wires.length,wc⟩ d k nd _ C4.out hW1 HND.out))))
        refine wpQuiet_nil ?_
        intro w9 hS9
        go_wp2
        go_roundw
        case rel=>exact ⟨⟨k+1,by omega,by go_num,HF.out⟩,hS9⟩
        case measure=>simp [intOf];omega
      ·have HRA:Hid ((List.range d.nodes.length).all (iF d)=true):=by
        have:=HN.out
        rw [show k=d.nodes.length from by omega] at this
        exact this
       have HE4:Hid (aM d=if ((List.range d.nodes.length).all fun f=>(List.range d.nodes.length).all fun t=>jh d f t) then 0 else 1):=by
        unfold Hid;rw [HE3.out,HRA.out];rfl
       clear HE3 HN
       go_wp2_with fail
       clear hlt
       go_loopw [8,9] (fun i _ wr=>(∃ k:Nat,k<=d.nodes.length/\i=.int .i64 k/\(List.range k).all (fun f=>(List.range d.nodes.length).all fun t=>jh d f t)=true)/\Since w1 wr) (fun i _ _=>d.nodes.length - (intOf i).toNat)
       case atStart=>exact ⟨⟨0,Nat.zero_le _,rfl,rfl⟩,by assumption⟩
       case round =>
        clear hS f0 f1 f2
        obtain ⟨⟨k,hk,rfl,hn⟩,hS⟩:=hrel
        have HN:Hid ((List.range k).all (fun f=>(List.range d.nodes.length).all fun t=>jh d f t)=true):=hn
        clear hn
        obtain ⟨f0,f1,f2⟩:=RF.out _ hS
        by_cases hlt:k < d.nodes.length
        ·obtain ⟨row,hrow⟩:∃ row,d.wires[k]? = some row:=⟨_,zQ1 (by have:=HWN.out;omega)⟩
         have kY:Hid (d.wires[k]? = some row):=hrow
         have HRL:Hid (row.length=d.nodes.length):=by
          have:=HRA.out
          rw [List.all_eq_true] at this
          have:=this k (by simpa using hlt)
          unfold iF at this
          rw [hrow,Bool.and_eq_true] at this
          unfold Hid
          simpa using this.1
         clear hrow
         go_wp2_with fail
         go_loopw [9] (fun i wr=>(∃ j:Nat,j<=d.nodes.length/\i=.int .i64 j/\(List.range j).all (fun t=>jh d k t)=true)/\Since w1 wr) (fun i _=>d.nodes.length - (intOf i).toNat)
         case atStart=>exact ⟨⟨0,Nat.zero_le _,rfl,rfl⟩,by assumption⟩
         case round =>
          clear hS f0 f1 f2
          obtain ⟨⟨j,hj,rfl,hnj⟩,hS⟩:=hrel
          have HNJ:Hid ((List.range j).all (fun t=>jh d k t)=true):=hnj
          clear hnj
          obtain ⟨f0,f1,f2⟩:=RF.out _ hS
          by_cases hjl:j < d.nodes.length
          ·obtain ⟨l,hl⟩:∃ l,row[j]? = some l:=⟨_,zQ1 (by have:=HRL.out;omega)⟩
           have HL:Hid (row[j]? = some l):=hl
           have HWA:Hid (jh d k j=aG d k j l):=by unfold Hid jh;rw [kY.out,Option.getD_some,hl];rfl
           clear hl
           cases h8:aG d k j l
           ·have HF:Hid (aM d=1):=by
             have:((List.range d.nodes.length).all fun f=>(List.range d.nodes.length).all fun t=>jh d f t)=false:=kP hlt (kP hjl (by rw [HWA.out];exact h8))
             unfold Hid;rw [HE4.out,this];rfl
            have H8:Hid (aG d k j l=false):=h8
            clear h8
            go_wp2_with (go_at_call 99;refine (yR w1 ⟨ga,gl,gc,na,d.nodes.length,nc,wa,d.wires.length,wc⟩ d k j row l _ H8.out hW1 kY.out HL.out _ hS).mono ?_;rintro e w9 ⟨rfl,hS9⟩)
            go_ret
            exact ⟨by rw [HF.out];rfl,hS1.trans (by assumption)⟩
           ·have H8:Hid (aG d k j l=true):=h8
            clear h8
            go_wp2_with (go_at_call 99;refine (yR w1 ⟨ga,gl,gc,na,d.nodes.length,nc,wa,d.wires.length,wc⟩ d k j row l _ H8.out hW1 kY.out HL.out _ hS).mono ?_;rintro e w9 ⟨rfl,hS9⟩)
            go_roundw
            case rel=>exact ⟨⟨j+1,by omega,by go_num,iI HNJ.out (by rw [HWA.out];exact H8.out)⟩,by assumption⟩
            case measure=>simp [intOf];omega
          ·have HF:Hid ((List.range d.nodes.length).all (fun t=>jh d k t)=true):=by
            have:=HNJ.out
            rw [show j=d.nodes.length from by omega] at this
            exact this
           go_wp2_with fail
           go_roundw
           case rel=>exact ⟨⟨k+1,by omega,by go_num,iI HN.out HF.out⟩,hS⟩
           case measure=>simp [intOf];omega
        ·have HF:Hid (aM d=0):=by
          have:=HN.out
          rw [show k=d.nodes.length from by omega] at this
          unfold Hid;rw [HE4.out,this];rfl
         go_wp2
         go_ret
         exact ⟨by rw [HF.out];rfl,hS1.trans hS⟩
end Go.Proofs.YtiiifecfdkjmbaaGreat
