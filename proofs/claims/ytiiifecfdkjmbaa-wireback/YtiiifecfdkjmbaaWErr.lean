/- Lemmas. -/
import Derived.Test.YtiiifecfdkjmbaaVerdict
set_option maxHeartbeats 8000000
namespace Go.Proofs.Ytiiifecfdkjmbaa
open _root_.Go.Proofs.Try hiding checked
set_option maxRecDepth 8000
open Go.RowKit Go.Shelf
def kS (nd:Nd):Bool:=decide (nd.held.length<=40) && decide (nd.told.length<=40)
def nA (row:List (List Mg)):Bool:=row.all fun l=>decide (l.length<=40)
theorem oG (d:Wd):fq d=(d.nodes.all kS && d.wires.all nA):=by
 unfold fq dF eF fV kS nA
 rw [List.all_append,List.all_flatMap,List.all_flatMap]
 congr 1
 ·congr 1;funext nd;simp
 ·congr 1;funext row;rw [List.all_map];rfl
def fD (d:Wd) (n:Nat):Bool:=decide ((d.wires[n]?.getD []).length=d.nodes.length) && (match d.nodes[n]? with | some nd=>av d n nd | none=>true)
def gG (d:Wd) (f t:Nat):Bool:=ay d f t ((d.wires[f]?.getD [])[t]?.getD [])
theorem zu (d:Wd):(gM d && bM d)=(decide (d.wires.length=d.nodes.length) && ((List.range d.nodes.length).all (fD d) && (List.range d.nodes.length).all fun f=>(List.range d.nodes.length).all fun t=>gG d f t)):=by
 by_cases hl:d.wires.length=d.nodes.length
 ·rw [Bool.eq_iff_iff]
  unfold gM bM kX fD gG
  rw [hl]
  simp only [Bool.and_eq_true,List.all_eq_true,List.mem_range,decide_eq_true_eq,decide_true,true_and]
  constructor
  ·rintro ⟨h1,h2⟩
   refine ⟨fun n hn=>⟨(h2 n hn).1,h1 n hn⟩,fun f hf t ht=>(h2 f hf).2 t (by rw [(h2 f hf).1];exact ht)⟩
  ·rintro ⟨h1,h2⟩
   refine ⟨fun n hn=>(h1 n hn).2,fun f hf=>⟨(h1 f hf).1,fun t ht=>h2 f hf t (by rw [(h1 f hf).1] at ht;exact ht)⟩⟩
 ·have:bM d=false:=by unfold bM;simp [hl]
  rw [this];simp [hl]
theorem qU (w0:World) (x:WV) (d:Wd) (n:Nat) (nd:Nd) (v:Bool) (hv:av d n nd=v) (hW:WAt w0 x d) (hn:d.nodes[n]? = some nd) (w:World) (h:Since w0 w) :
  Calls prog 48 #[.agg #[.slice x.ga x.gl x.gc,.slice x.na x.nl x.nc,.slice x.wa x.wl x.wc],.int .i64 n] w fun e w'=>e=.returned (.bool v)/\Since w0 w' :=
 (uK x d n nd w (hW.since h) hn).mono fun _ _ ⟨he,hw⟩=>⟨by rw [<-hv];exact he,h.trans hw⟩
theorem qV (w0:World) (x:WV) (d:Wd) (f t:Nat) (row:List (List Mg)) (l:List Mg) (v:Bool) (hv:ay d f t l=v) (hW:WAt w0 x d) (hr:d.wires[f]? = some row) (hl:row[t]? = some l) (w:World) (h:Since w0 w) :
  Calls prog 49 #[.agg #[.slice x.ga x.gl x.gc,.slice x.na x.nl x.nc,.slice x.wa x.wl x.wc],.int .i64 f,.int .i64 t] w fun e w'=>e=.returned (.bool v)/\Since w0 w' :=
 (uL x d f t row l w (hW.since h) hr hl).mono fun _ _ ⟨he,hw⟩=>⟨by rw [<-hv];exact he,h.trans hw⟩
set_option maxRecDepth 40000 in
theorem pV (x:WV) (d:Wd) (w:World) (hW:WAt w x d) :
  Calls prog 18 #[.agg #[.slice x.ga x.gl x.gc,.slice x.na x.nl x.nc,.slice x.wa x.wl x.wc]] w fun e w'=>e=.returned (.int .i64 (aA d))/\Since w w':=by
 obtain ⟨ga,gl,gc,na,nl,nc,wa,wl,wc⟩:=x
 have hwl:=hW.r.hlen
 have hwm:=hW.r.hmax
 have hnl:=hW.n.hlen
 have hnm:=hW.n.hmax
 dsimp only at hwl hwm hnl hnm ⊢
 subst hwl hnl
 obtain ⟨w1,hw1⟩:∃ w1,w.alloc (.cells #[.slice ga gl gc,.slice na d.nodes.length nc,.slice wa d.wires.length wc] 26)=w1:=⟨_,rfl⟩
 have hS1:=au hw1
 have hsz:w.heap.size < w1.heap.size:=by rw [<-hw1];simp
 have b0:w1.cell? ⟨w.heap.size,0,none⟩=some (.slice ga gl gc):=by rw [<-hw1];simp [go_sem]
 have b1:w1.cell? ⟨w.heap.size,1,none⟩=some (.slice na d.nodes.length nc):=by rw [<-hw1];simp [go_sem]
 have b2:w1.cell? ⟨w.heap.size,2,none⟩=some (.slice wa d.wires.length wc):=by rw [<-hw1];simp [go_sem]
 have hW1:=hW.since hS1
 have hG1:=hW1.g
 have hR1:=hW1.r
 have hN1:=hW1.n
 have RF:Hid (∀ y,Since w1 y->y.cell? ⟨w.heap.size,0,none⟩=some (.slice ga gl gc)/\y.cell? ⟨w.heap.size,1,none⟩=some (.slice na d.nodes.length nc)/\y.cell? ⟨w.heap.size,2,none⟩=some (.slice wa d.wires.length wc)):=fun y hy =>
  ⟨(hy.cellAt (by omega) _).trans b0,(hy.cellAt (by omega) _).trans b1,(hy.cellAt (by omega) _).trans b2⟩
 have HE:Hid (aA d=if bP d.nodes.length d.groups=0 then (if fq d then (if gM d && bM d then 0 else 1) else 2) else bP d.nodes.length d.groups):=rfl
 cases h1:(bP d.nodes.length d.groups != 0)
 rotate_left
 ·have HF:Hid (aA d=bP d.nodes.length d.groups):=by
   have:¬ bP d.nodes.length d.groups=0:=by simpa using h1
   unfold Hid;rw [HE.out,if_neg this]
  go_enter func18,ntmps18
  go_wp2_with (go_at_call 13;refine (pQ w1 _ _ _ _ _ d.groups hG1 (Since.refl _)).mono ?_;rintro e w2 ⟨rfl,hS2⟩)
  go_ret
  exact ⟨by rw [HF.out];rfl,hS1.trans (by assumption)⟩
 have HE1:Hid (aA d=if fq d then (if gM d && bM d then 0 else 1) else 2):=by
  have:bP d.nodes.length d.groups=0:=by simpa using h1
  unfold Hid;rw [HE.out,if_pos this]
 clear HE
 go_enter func18,ntmps18
 go_wp2_with (go_at_call 13;refine (pQ w1 _ _ _ _ _ d.groups hG1 (Since.refl _)).mono ?_;rintro e w2 ⟨rfl,hS2⟩)
 clear hw1 h1
 go_loopw [4] (fun i wr=>(∃ k:Nat,k<=d.nodes.length/\i=.int .i64 k/\(d.nodes.take k).all kS=true)/\Since w1 wr) (fun i _=>d.nodes.length - (intOf i).toNat)
 case atStart=>exact ⟨⟨0,Nat.zero_le _,rfl,rfl⟩,by assumption⟩
 case round =>
  obtain ⟨⟨k,hk,rfl,hn⟩,hS⟩:=hrel
  have HN:Hid ((d.nodes.take k).all kS=true):=hn
  clear hn
  obtain ⟨f0,f1,f2⟩:=RF.out _ hS
  by_cases hlt:k < d.nodes.length
  ·obtain ⟨nd,hnd⟩:∃ nd,d.nodes[k]? = some nd:=⟨_,zQ1 hlt⟩
   obtain ⟨bn,on,rfl,hbn,hcn⟩:=hN1.cells (by omega)
   obtain ⟨k0,-,⟨v2,k2,ha,hc,rfl,hhc,hH⟩,⟨v3,k3,ta,tc,rfl,htc,hT⟩⟩:=hcn k nd hnd
   have j2:wr.cell? ⟨bn,on+k*4+2,none⟩=_:=(hS.cellAt hbn _).trans k2
   have j3:wr.cell? ⟨bn,on+k*4+3,none⟩=_:=(hS.cellAt hbn _).trans k3
   have HND:Hid (d.nodes[k]? = some nd):=hnd
   have n1:(k:Int) < (d.nodes.length:Int):=by omega
   clear hcn k0 k2 k3 hH hT hnd
   have HD:Hid (kS nd=(!(decide ((40:Int) < nd.held.length)) && !(decide ((40:Int) < nd.told.length)))):=by
    unfold Hid kS;rw [Bool.eq_iff_iff];simp;omega
   have HBAD:Hid (kS nd=false->aA d=2):=by
    intro h
    have:fq d=false:=by rw [oG,iV HND.out h];rfl
    rw [HE1.out,this];rfl
   cases h2:decide ((40:Int) < nd.held.length)
   ·cases h3:decide ((40:Int) < nd.told.length)
    ·have HF:Hid ((d.nodes.take (k+1)).all kS=true):=eX HND.out HN.out (by rw [HD.out,h2,h3];rfl)
     go_wp2
     go_roundw
     case rel=>exact ⟨⟨k+1,by omega,by go_num,HF.out⟩,hS⟩
     case measure=>simp [intOf];omega
    ·have HF:Hid (aA d=2):=HBAD.out (by rw [HD.out,h3];simp)
     go_wp2
     go_ret
     exact ⟨by rw [HF.out];rfl,hS1.trans hS⟩
   ·have HF:Hid (aA d=2):=HBAD.out (by rw [HD.out,h2];simp)
    go_wp2
    go_ret
    exact ⟨by rw [HF.out];rfl,hS1.trans hS⟩
  ·have HSN:Hid (d.nodes.all kS=true):=by
    have:=HN.out
    rw [List.take_of_length_le (by omega)] at this
    exact this
   clear HN
   go_wp2_with fail
   clear hlt
   go_loopw [5,6] (fun i _ wr=>(∃ k:Nat,k<=d.wires.length/\i=.int .i64 k/\(d.wires.take k).all nA=true)/\Since w1 wr) (fun i _ _=>d.wires.length - (intOf i).toNat)
   case atStart=>exact ⟨⟨0,Nat.zero_le _,rfl,rfl⟩,by assumption⟩
   case round =>
    clear hS f0 f1 f2
    obtain ⟨⟨k,hk,rfl,hn⟩,hS⟩:=hrel
    have HN:Hid ((d.wires.take k).all nA=true):=hn
    clear hn
    obtain ⟨f0,f1,f2⟩:=RF.out _ hS
    by_cases hlt:k < d.wires.length
    ·obtain ⟨row,hrow⟩:∃ row,d.wires[k]? = some row:=⟨_,zQ1 hlt⟩
     obtain ⟨bL,oL,rfl,hbL,hcL⟩:=hR1.cells (by omega)
     obtain ⟨v4,k4,ra,rc,rfl,hrc,hR⟩:=hcL k row hrow
     have hRm:=hR.hmax
     have jZ:Hid (d.wires[k]? = some row):=hrow
     have n1:(k:Int) < (d.wires.length:Int):=by omega
     clear hcL hrow
     go_wp2_with fail
     go_loopw [6] (fun i wr=>(∃ j:Nat,j<=row.length/\i=.int .i64 j/\(row.take j).all (fun l=>decide (l.length<=40))=true)/\Since w1 wr) (fun i _=>row.length - (intOf i).toNat)
     case atStart=>exact ⟨⟨0,Nat.zero_le _,rfl,rfl⟩,by assumption⟩
     case round =>
      clear hS f0 f1 f2
      obtain ⟨⟨j,hj,rfl,hnj⟩,hS⟩:=hrel
      have HNJ:Hid ((row.take j).all (fun l=>decide (l.length<=40))=true):=hnj
      clear hnj
      obtain ⟨f0,f1,f2⟩:=RF.out _ hS
      have k5:wr.cell? ⟨bL,oL+k,none⟩=_:=(hS.cellAt hbL _).trans k4
      by_cases hjl:j < row.length
      ·obtain ⟨l,hl⟩:∃ l,row[j]? = some l:=⟨_,zQ1 hjl⟩
       obtain ⟨bR,oR,rfl,hbR,hcR⟩:=hR.cells (by omega)
       obtain ⟨v6,k6,la,lc,rfl,hlc,hM⟩:=hcR j l hl
       have k7:wr.cell? ⟨bR,oR+j,none⟩=_:=(hS.cellAt hbR _).trans k6
       have HL:Hid (row[j]? = some l):=hl
       have n2:(j:Int) < (row.length:Int):=by omega
       have HD:Hid (decide (l.length<=40)=!(decide ((40:Int) < l.length))):=by unfold Hid;rw [Bool.eq_iff_iff];simp;omega
       clear hcR hl k6 hM
       cases h8:decide ((40:Int) < l.length)
       ·have HF:Hid ((row.take (j+1)).all (fun l=>decide (l.length<=40))=true):=eX HL.out HNJ.out (by rw [HD.out,h8];rfl)
        go_wp2
        go_roundw
        case rel=>exact ⟨⟨j+1,by omega,by go_num,HF.out⟩,hS⟩
        case measure=>simp [intOf];omega
       ·have HF:Hid (aA d=2):=by
         have h9:nA row=false:=iV HL.out (by rw [HD.out,h8];rfl)
         have:fq d=false:=by rw [oG,iV jZ.out h9];simp
         unfold Hid;rw [HE1.out,this];rfl
        go_wp2
        go_ret
        exact ⟨by rw [HF.out];rfl,hS1.trans hS⟩
      ·have HF:Hid (nA row=true):=by
        have:=HNJ.out
        rw [List.take_of_length_le (by omega)] at this
        exact this
       go_wp2_with fail
       go_roundw
       case rel=>exact ⟨⟨k+1,by omega,by go_num,eX jZ.out HN.out HF.out⟩,hS⟩
       case measure=>simp [intOf];omega
    ·have HE2:Hid (aA d=if gM d && bM d then 0 else 1):=by
      have h9:d.wires.all nA=true:=by
       have:=HN.out
       rw [List.take_of_length_le (by omega)] at this
       exact this
      have:fq d=true:=by rw [oG,HSN.out,h9];rfl
      unfold Hid;rw [HE1.out,this];rfl
     clear HN HE1 HSN
     cases h4:((d.wires.length:Int) != (d.nodes.length:Int))
     rotate_left
     ·have HF:Hid (aA d=1):=by
       have:¬ d.wires.length=d.nodes.length:=by have h:=h4;simp at h;omega
       unfold Hid;rw [HE2.out,zu];simp [this]
      go_wp2
      go_ret
      exact ⟨by rw [HF.out];rfl,hS1.trans hS⟩
     have HWN:Hid (d.wires.length=d.nodes.length):=by unfold Hid;have h:=h4;simp at h;omega
     have HE3:Hid (aA d=if ((List.range d.nodes.length).all (fD d) && (List.range d.nodes.length).all fun f=>(List.range d.nodes.length).all fun t=>gG d f t) then 0 else 1):=by
      unfold Hid;rw [HE2.out,zu];simp [HWN.out]
     clear HE2
     go_wp2_with fail
     clear h4 hlt
     go_loopw [7] (fun i wr=>(∃ k:Nat,k<=d.nodes.length/\i=.int .i64 k/\(List.range k).all (fD d)=true)/\Since w1 wr) (fun i _=>d.nodes.length - (intOf i).toNat)
     case atStart=>exact ⟨⟨0,Nat.zero_le _,rfl,rfl⟩,by assumption⟩
     case round =>
      clear hS f0 f1 f2
      obtain ⟨⟨k,hk,rfl,hn⟩,hS⟩:=hrel
      have HN:Hid ((List.range k).all (fD d)=true):=hn
      clear hn
      obtain ⟨f0,f1,f2⟩:=RF.out _ hS
      by_cases hlt:k < d.nodes.length
      ·obtain ⟨row,hrow⟩:∃ row,d.wires[k]? = some row:=⟨_,zQ1 (by have:=HWN.out;omega)⟩
       obtain ⟨nd,hnd⟩:∃ nd,d.nodes[k]? = some nd:=⟨_,zQ1 hlt⟩
       obtain ⟨bL,oL,rfl,hbL,hcL⟩:=hR1.cells (by have:=HWN.out;omega)
       obtain ⟨v4,k4,ra,rc,rfl,hrc,hR⟩:=hcL k row hrow
       have HRN:Hid (fD d k=(!((row.length:Int) != (d.nodes.length:Int)) && av d k nd)):=by
        unfold Hid fD;rw [hrow,hnd,Option.getD_some];congr 1;rw [Bool.eq_iff_iff];simp;omega
       have HND:Hid (d.nodes[k]? = some nd):=hnd
       have n1:(k:Int) < (d.wires.length:Int):=by have:=HWN.out;omega
       have HBAD:Hid (fD d k=false->aA d=1):=by
        intro h
        rw [HE3.out,jh hlt h];rfl
       have hne:Nonempty (Later w1):=⟨⟨w1,Since.refl w1⟩⟩
       have gw:∀ (y:Later w1) (o:Nat),y.w.cell? ⟨w.heap.size,o,none⟩=w1.cell? ⟨w.heap.size,o,none⟩:=fun y o=>y.cell (by omega)
       have gL:∀ (y:Later w1) (o:Nat),y.w.cell? ⟨bL,o,none⟩=w1.cell? ⟨bL,o,none⟩:=fun y o=>y.cell hbL
       clear hcL hrow hnd hR
       cases c3:((row.length:Int) != (d.nodes.length:Int))
       rotate_left
       ·have HF:Hid (aA d=1):=HBAD.out (by rw [HRN.out,c3];rfl)
        go_wp2_with fail
        refine aj (by kernel_rfl) (by kernel_rfl) hS ?_
        repeat (go_big_quiet_step (fail))
        refine wpQuiet_nil ?_
        intro w9 hS9
        go_wp2
        go_ret
        exact ⟨by rw [HF.out];rfl,hS1.trans hS9⟩
       cases c4:av d k nd
       ·have HF:Hid (aA d=1):=HBAD.out (by rw [HRN.out,c4];simp)
        have C4:Hid (av d k nd=false):=c4
        clear c4
        go_wp2_with fail
        refine aj (by kernel_rfl) (by kernel_rfl) hS ?_
        repeat (go_big_quiet_step ((go_at_call 48;exact Later.call (qU w1 ⟨ga,gl,gc,na,d.nodes.length,nc,_,d.wires.length,wc⟩ d k nd _ C4.out hW1 HND.out))))
        refine wpQuiet_nil ?_
        intro w9 hS9
        go_wp2
        go_ret
        exact ⟨by rw [HF.out];rfl,hS1.trans hS9⟩
       ·have HF:Hid ((List.range (k+1)).all (fD d)=true):=fJ HN.out (by rw [HRN.out,c3,c4];rfl)
        have C4:Hid (av d k nd=true):=c4
        clear c4
        go_wp2_with fail
        refine aj (by kernel_rfl) (by kernel_rfl) hS ?_
        repeat (go_big_quiet_step ((go_at_call 48;exact Later.call (qU w1 ⟨ga,gl,gc,na,d.nodes.length,nc,_,d.wires.length,wc⟩ d k nd _ C4.out hW1 HND.out))))
        refine wpQuiet_nil ?_
        intro w9 hS9
        go_wp2
        go_roundw
        case rel=>exact ⟨⟨k+1,by omega,by go_num,HF.out⟩,hS9⟩
        case measure=>simp [intOf];omega
      ·have HRA:Hid ((List.range d.nodes.length).all (fD d)=true):=by
        have:=HN.out
        rw [show k=d.nodes.length from by omega] at this
        exact this
       have HE4:Hid (aA d=if ((List.range d.nodes.length).all fun f=>(List.range d.nodes.length).all fun t=>gG d f t) then 0 else 1):=by
        unfold Hid;rw [HE3.out,HRA.out];rfl
       clear HE3 HN
       go_wp2_with fail
       clear hlt
       go_loopw [8,9] (fun i _ wr=>(∃ k:Nat,k<=d.nodes.length/\i=.int .i64 k/\(List.range k).all (fun f=>(List.range d.nodes.length).all fun t=>gG d f t)=true)/\Since w1 wr) (fun i _ _=>d.nodes.length - (intOf i).toNat)
       case atStart=>exact ⟨⟨0,Nat.zero_le _,rfl,rfl⟩,by assumption⟩
       case round =>
        clear hS f0 f1 f2
        obtain ⟨⟨k,hk,rfl,hn⟩,hS⟩:=hrel
        have HN:Hid ((List.range k).all (fun f=>(List.range d.nodes.length).all fun t=>gG d f t)=true):=hn
        clear hn
        obtain ⟨f0,f1,f2⟩:=RF.out _ hS
        by_cases hlt:k < d.nodes.length
        ·obtain ⟨row,hrow⟩:∃ row,d.wires[k]? = some row:=⟨_,zQ1 (by have:=HWN.out;omega)⟩
         have jZ:Hid (d.wires[k]? = some row):=hrow
         have HRL:Hid (row.length=d.nodes.length):=by
          have:=HRA.out
          rw [List.all_eq_true] at this
          have:=this k (by simpa using hlt)
          unfold fD at this
          rw [hrow,Bool.and_eq_true] at this
          unfold Hid
          simpa using this.1
         clear hrow
         go_wp2_with fail
         go_loopw [9] (fun i wr=>(∃ j:Nat,j<=d.nodes.length/\i=.int .i64 j/\(List.range j).all (fun t=>gG d k t)=true)/\Since w1 wr) (fun i _=>d.nodes.length - (intOf i).toNat)
         case atStart=>exact ⟨⟨0,Nat.zero_le _,rfl,rfl⟩,by assumption⟩
         case round =>
          clear hS f0 f1 f2
          obtain ⟨⟨j,hj,rfl,hnj⟩,hS⟩:=hrel
          have HNJ:Hid ((List.range j).all (fun t=>gG d k t)=true):=hnj
          clear hnj
          obtain ⟨f0,f1,f2⟩:=RF.out _ hS
          by_cases hjl:j < d.nodes.length
          ·obtain ⟨l,hl⟩:∃ l,row[j]? = some l:=⟨_,zQ1 (by have:=HRL.out;omega)⟩
           have HL:Hid (row[j]? = some l):=hl
           have HWA:Hid (gG d k j=ay d k j l):=by unfold Hid gG;rw [jZ.out,Option.getD_some,hl];rfl
           clear hl
           cases h8:ay d k j l
           ·have HF:Hid (aA d=1):=by
             have:((List.range d.nodes.length).all fun f=>(List.range d.nodes.length).all fun t=>gG d f t)=false:=jh hlt (jh hjl (by rw [HWA.out];exact h8))
             unfold Hid;rw [HE4.out,this];rfl
            have H8:Hid (ay d k j l=false):=h8
            clear h8
            go_wp2_with (go_at_call 49;refine (qV w1 ⟨ga,gl,gc,na,d.nodes.length,nc,wa,d.wires.length,wc⟩ d k j row l _ H8.out hW1 jZ.out HL.out _ hS).mono ?_;rintro e w9 ⟨rfl,hS9⟩)
            go_ret
            exact ⟨by rw [HF.out];rfl,hS1.trans (by assumption)⟩
           ·have H8:Hid (ay d k j l=true):=h8
            clear h8
            go_wp2_with (go_at_call 49;refine (qV w1 ⟨ga,gl,gc,na,d.nodes.length,nc,wa,d.wires.length,wc⟩ d k j row l _ H8.out hW1 jZ.out HL.out _ hS).mono ?_;rintro e w9 ⟨rfl,hS9⟩)
            go_roundw
            case rel=>exact ⟨⟨j+1,by omega,by go_num,fJ HNJ.out (by rw [HWA.out];exact H8.out)⟩,by assumption⟩
            case measure=>simp [intOf];omega
          ·have HF:Hid ((List.range d.nodes.length).all (fun t=>gG d k t)=true):=by
            have:=HNJ.out
            rw [show j=d.nodes.length from by omega] at this
            exact this
           go_wp2_with fail
           go_roundw
           case rel=>exact ⟨⟨k+1,by omega,by go_num,fJ HN.out HF.out⟩,hS⟩
           case measure=>simp [intOf];omega
        ·have HF:Hid (aA d=0):=by
          have:=HN.out
          rw [show k=d.nodes.length from by omega] at this
          unfold Hid;rw [HE4.out,this];rfl
         go_wp2
         go_ret
         exact ⟨by rw [HF.out];rfl,hS1.trans hS⟩
end Go.Proofs.Ytiiifecfdkjmbaa
