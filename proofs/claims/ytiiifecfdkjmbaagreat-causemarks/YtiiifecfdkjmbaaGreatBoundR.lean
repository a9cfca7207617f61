/- Lemmas. Lemmas. -/
import Derived.Test.YtiiifecfdkjmbaaGreatVerdict
set_option maxHeartbeats 8000000
namespace Go.Proofs.YtiiifecfdkjmbaaGreat
open _root_.Go.Proofs.Tryz hiding checked
set_option maxRecDepth 8000
open Go.RowKit Go.Shelf
def pF (nd:Nd):Bool:=decide (nd.held.length<=40) && decide (nd.told.length<=40)
def vX (row:List (List Mg)):Bool:=row.all fun l=>decide (l.length<=40)
theorem tZ (d:Wd):iO d=(d.nodes.all pF && d.wires.all vX):=by
 unfold iO iF jg ko pF vX;rw [List.all_append,List.all_flatMap,List.all_flatMap]
 congr 1
 ·congr 1;funext nd;simp
 ·congr 1;funext row;rw [List.all_map];rfl
def jH (d:Wd) (n:Nat):Bool:=decide ((d.wires[n]?.getD []).length=d.nodes.length) && (match d.nodes[n]? with | some nd=>aH d n nd | none=>true)
def kI (d:Wd) (f t:Nat):Bool:=aN d f t ((d.wires[f]?.getD [])[t]?.getD [])
theorem Kc (d:Wd):(jm d && fC d)=(decide (d.wires.length=d.nodes.length) && ((List.range d.nodes.length).all (jH d) && (List.range d.nodes.length).all fun f=>(List.range d.nodes.length).all fun t=>kI d f t)):=by
 by_cases hl:d.wires.length=d.nodes.length
 ·rw [Bool.eq_iff_iff];unfold jm fC rF jH kI;rw [hl];simp only [Bool.and_eq_true,List.all_eq_true,List.mem_range,decide_eq_true_eq,decide_true,true_and];constructor
  ·rintro ⟨h1,h2⟩;refine ⟨fun n hn=>⟨(h2 n hn).1,h1 n hn⟩,fun f hf t ht=>(h2 f hf).2 t (by rw [(h2 f hf).1];exact ht)⟩
  ·rintro ⟨h1,h2⟩;refine ⟨fun n hn=>(h1 n hn).2,fun f hf=>⟨(h1 f hf).1,fun t ht=>h2 f hf t (by rw [(h1 f hf).1] at ht;exact ht)⟩⟩
 ·have:fC d=false:=by unfold fC;simp [hl]
  rw [this];simp [hl]
theorem BA (w0:World) (x:WV) (d:Wd) (n:Nat) (nd:Nd) (v:Bool) (hv:aH d n nd=v) (hW:WAt w0 x d) (hn:d.nodes[n]? = some nd) (w:World) (h:Since w0 w) :
  Calls prog 98 #[.agg #[.slice x.ga x.gl x.gc,.slice x.na x.nl x.nc,.slice x.wa x.wl x.wc],.int .i64 n] w fun e w'=>e=.returned (.bool v)/\Since w0 w' :=
 (EB x d n nd w (hW.since h) hn).mono fun _ _ ⟨he,hw⟩=>⟨by rw [<-hv];exact he,h.trans hw⟩
theorem BD (w0:World) (x:WV) (d:Wd) (f t:Nat) (row:List (List Mg)) (l:List Mg) (v:Bool) (hv:aN d f t l=v) (hW:WAt w0 x d) (hr:d.wires[f]? = some row) (hl:row[t]? = some l) (w:World) (h:Since w0 w) :
  Calls prog 99 #[.agg #[.slice x.ga x.gl x.gc,.slice x.na x.nl x.nc,.slice x.wa x.wl x.wc],.int .i64 f,.int .i64 t] w fun e w'=>e=.returned (.bool v)/\Since w0 w' :=
 (EC x d f t row l w (hW.since h) hr hl).mono fun _ _ ⟨he,hw⟩=>⟨by rw [<-hv];exact he,h.trans hw⟩
set_option maxRecDepth 40000 in
theorem rM (x:WV) (d:Wd) (w:World) (hW:WAt w x d) :
  Calls prog 38 #[.agg #[.slice x.ga x.gl x.gc,.slice x.na x.nl x.nc,.slice x.wa x.wl x.wc]] w fun e w'=>e=.returned (.int .i64 (aL d))/\Since w w':=by
 obtain ⟨ga,gl,gc,na,nl,nc,wa,wl,wc⟩:=x;have hwl:=hW.r.hlen;have hwm:=hW.r.hmax;have hnl:=hW.n.hlen;have hnm:=hW.n.hmax;dsimp only at hwl hwm hnl hnm ⊢;subst hwl hnl;obtain ⟨w1,hw1⟩:∃ w1,w.alloc (.cells #[.slice ga gl gc,.slice na d.nodes.length nc,.slice wa d.wires.length wc] 26)=w1:=⟨_,rfl⟩;have hS1:=ay hw1;have hsz:w.heap.size < w1.heap.size:=by rw [<-hw1];simp
 have b0:w1.cell? ⟨w.heap.size,0,none⟩=some (.slice ga gl gc):=by rw [<-hw1];simp [go_sem]
 have b1:w1.cell? ⟨w.heap.size,1,none⟩=some (.slice na d.nodes.length nc):=by rw [<-hw1];simp [go_sem]
 have b2:w1.cell? ⟨w.heap.size,2,none⟩=some (.slice wa d.wires.length wc):=by rw [<-hw1];simp [go_sem]
 have hW1:=hW.since hS1;have hG1:=hW1.g;have hR1:=hW1.r;have hN1:=hW1.n
 have RF:Hid (∀ y,Since w1 y->y.cell? ⟨w.heap.size,0,none⟩=some (.slice ga gl gc)/\y.cell? ⟨w.heap.size,1,none⟩=some (.slice na d.nodes.length nc)/\y.cell? ⟨w.heap.size,2,none⟩=some (.slice wa d.wires.length wc)):=fun y hy =>
  ⟨(hy.cellAt (by omega) _).trans b0,(hy.cellAt (by omega) _).trans b1,(hy.cellAt (by omega) _).trans b2⟩
 have HE:Hid (aL d=if dF d.nodes.length d.groups=0 then (if iO d then (if jm d && fC d then 0 else 1) else 2) else dF d.nodes.length d.groups):=rfl;cases h1:(dF d.nodes.length d.groups != 0)
 rotate_left
 ·have HF:Hid (aL d=dF d.nodes.length d.groups):=by
   have:¬ dF d.nodes.length d.groups=0:=by simpa using h1
   unfold Hid;rw [HE.out,if_neg this]
  go_enter func38,ntmps38
  go_wp2_with (go_at_call 69;refine (qL w1 _ _ _ _ _ d.groups hG1 (Since.refl _)).mono ?_;rintro e w2 ⟨rfl,hS2⟩)
  go_ret
  exact ⟨by rw [HF.out];rfl,hS1.trans (by assumption)⟩
 have HE1:Hid (aL d=if iO d then (if jm d && fC d then 0 else 1) else 2):=by
  have:dF d.nodes.length d.groups=0:=by simpa using h1
  unfold Hid;rw [HE.out,if_pos this]
 clear HE
 go_enter func38,ntmps38
 go_wp2_with (go_at_call 69;refine (qL w1 _ _ _ _ _ d.groups hG1 (Since.refl _)).mono ?_;rintro e w2 ⟨rfl,hS2⟩)
 clear hw1 h1
 go_loopw [4] (fun i wr=>(∃ k:Nat,k<=d.nodes.length/\i=.int .i64 k/\(d.nodes.take k).all pF=true)/\Since w1 wr) (fun i _=>d.nodes.length - (intOf i).toNat)
 case atStart=>exact ⟨⟨0,Nat.zero_le _,rfl,rfl⟩,by assumption⟩
 case round =>
  obtain ⟨⟨k,hk,rfl,hn⟩,hS⟩:=hrel;have HN:Hid ((d.nodes.take k).all pF=true):=hn;clear hn;obtain ⟨f0,f1,f2⟩:=RF.out _ hS;by_cases hlt:k < d.nodes.length
  ·obtain ⟨nd,hnd⟩:∃ nd,d.nodes[k]? = some nd:=⟨_,zQ1 hlt⟩;obtain ⟨bn,on,rfl,hbn,hcn⟩:=hN1.cells (by omega);obtain ⟨k0,-,⟨v2,k2,ha,hc,rfl,hhc,hH⟩,⟨v3,k3,ta,tc,rfl,htc,hT⟩⟩:=hcn k nd hnd;have j2:wr.cell? ⟨bn,on+k*4+2,none⟩=_:=(hS.cellAt hbn _).trans k2;have j3:wr.cell? ⟨bn,on+k*4+3,none⟩=_:=(hS.cellAt hbn _).trans k3;have HND:Hid (d.nodes[k]? = some nd):=hnd;have n1:(k:Int) < (d.nodes.length:Int):=by omega
   clear hcn k0 k2 k3 hH hT hnd
   have HD:Hid (pF nd=(!(decide ((40:Int) < nd.held.length)) && !(decide ((40:Int) < nd.told.length)))):=by
    unfold Hid pF;rw [Bool.eq_iff_iff];simp;omega
   have HBAD:Hid (pF nd=false->aL d=2):=by
    intro h;have:iO d=false:=by rw [tZ,mM HND.out h];rfl
    rw [HE1.out,this];rfl
   cases h2:decide ((40:Int) < nd.held.length)
   ·cases h3:decide ((40:Int) < nd.told.length)
    ·have HF:Hid ((d.nodes.take (k+1)).all pF=true):=jB HND.out HN.out (by rw [HD.out,h2,h3];rfl)
     go_wp2
     go_roundw
     case rel=>exact ⟨⟨k+1,by omega,by go_num,HF.out⟩,hS⟩
     case measure=>simp [intOf];omega
    ·have HF:Hid (aL d=2):=HBAD.out (by rw [HD.out,h3];simp)
     go_wp2
     go_ret
     exact ⟨by rw [HF.out];rfl,hS1.trans hS⟩
   ·have HF:Hid (aL d=2):=HBAD.out (by rw [HD.out,h2];simp)
    go_wp2
    go_ret
    exact ⟨by rw [HF.out];rfl,hS1.trans hS⟩
  ·have HSN:Hid (d.nodes.all pF=true):=by
    have:=HN.out;rw [List.take_of_length_le (by omega)] at this;exact this
   clear HN
   go_wp2_with fail
   clear hlt
   go_loopw [5,6] (fun i _ wr=>(∃ k:Nat,k<=d.wires.length/\i=.int .i64 k/\(d.wires.take k).all vX=true)/\Since w1 wr) (fun i _ _=>d.wires.length - (intOf i).toNat)
   case atStart=>exact ⟨⟨0,Nat.zero_le _,rfl,rfl⟩,by assumption⟩
   case round =>
    clear hS f0 f1 f2;obtain ⟨⟨k,hk,rfl,hn⟩,hS⟩:=hrel;have HN:Hid ((d.wires.take k).all vX=true):=hn;clear hn;obtain ⟨f0,f1,f2⟩:=RF.out _ hS;by_cases hlt:k < d.wires.length
    ·obtain ⟨row,hrow⟩:∃ row,d.wires[k]? = some row:=⟨_,zQ1 hlt⟩;obtain ⟨bL,oL,rfl,hbL,hcL⟩:=hR1.cells (by omega);obtain ⟨v4,k4,ra,rc,rfl,hrc,hR⟩:=hcL k row hrow;have hRm:=hR.hmax;have mK:Hid (d.wires[k]? = some row):=hrow;have n1:(k:Int) < (d.wires.length:Int):=by omega
     clear hcL hrow
     go_wp2_with fail
     go_loopw [6] (fun i wr=>(∃ j:Nat,j<=row.length/\i=.int .i64 j/\(row.take j).all (fun l=>decide (l.length<=40))=true)/\Since w1 wr) (fun i _=>row.length - (intOf i).toNat)
     case atStart=>exact ⟨⟨0,Nat.zero_le _,rfl,rfl⟩,by assumption⟩
     case round =>
      clear hS f0 f1 f2;obtain ⟨⟨j,hj,rfl,hnj⟩,hS⟩:=hrel;have HNJ:Hid ((row.take j).all (fun l=>decide (l.length<=40))=true):=hnj;clear hnj;obtain ⟨f0,f1,f2⟩:=RF.out _ hS;have k5:wr.cell? ⟨bL,oL+k,none⟩=_:=(hS.cellAt hbL _).trans k4;by_cases hjl:j < row.length
      ·obtain ⟨l,hl⟩:∃ l,row[j]? = some l:=⟨_,zQ1 hjl⟩;obtain ⟨bR,oR,rfl,hbR,hcR⟩:=hR.cells (by omega);obtain ⟨v6,k6,la,lc,rfl,hlc,hM⟩:=hcR j l hl;have k7:wr.cell? ⟨bR,oR+j,none⟩=_:=(hS.cellAt hbR _).trans k6;have HL:Hid (row[j]? = some l):=hl;have n2:(j:Int) < (row.length:Int):=by omega
       have HD:Hid (decide (l.length<=40)=!(decide ((40:Int) < l.length))):=by unfold Hid;rw [Bool.eq_iff_iff];simp;omega
       clear hcR hl k6 hM;cases h8:decide ((40:Int) < l.length)
       ·have HF:Hid ((row.take (j+1)).all (fun l=>decide (l.length<=40))=true):=jB HL.out HNJ.out (by rw [HD.out,h8];rfl)
        go_wp2
        go_roundw
        case rel=>exact ⟨⟨j+1,by omega,by go_num,HF.out⟩,hS⟩
        case measure=>simp [intOf];omega
       ·have HF:Hid (aL d=2):=by
         have h9:vX row=false:=mM HL.out (by rw [HD.out,h8];rfl);have:iO d=false:=by rw [tZ,mM mK.out h9];simp
         unfold Hid;rw [HE1.out,this];rfl
        go_wp2
        go_ret
        exact ⟨by rw [HF.out];rfl,hS1.trans hS⟩
      ·have HF:Hid (vX row=true):=by
        have:=HNJ.out;rw [List.take_of_length_le (by omega)] at this;exact this
       go_wp2_with fail
       go_roundw
       case rel=>exact ⟨⟨k+1,by omega,by go_num,jB mK.out HN.out HF.out⟩,hS⟩
       case measure=>simp [intOf];omega
    ·have HE2:Hid (aL d=if jm d && fC d then 0 else 1):=by
      have h9:d.wires.all vX=true:=by
       have:=HN.out;rw [List.take_of_length_le (by omega)] at this;exact this
      have:iO d=true:=by rw [tZ,HSN.out,h9];rfl
      unfold Hid;rw [HE1.out,this];rfl
     clear HN HE1 HSN;cases h4:((d.wires.length:Int) != (d.nodes.length:Int))
     rotate_left
     ·have HF:Hid (aL d=1):=by
       have:¬ d.wires.length=d.nodes.length:=by have h:=h4;simp at h;omega
       unfold Hid;rw [HE2.out,Kc];simp [this]
      go_wp2
      go_ret
      exact ⟨by rw [HF.out];rfl,hS1.trans hS⟩
     have HWN:Hid (d.wires.length=d.nodes.length):=by unfold Hid;have h:=h4;simp at h;omega
     have HE3:Hid (aL d=if ((List.range d.nodes.length).all (jH d) && (List.range d.nodes.length).all fun f=>(List.range d.nodes.length).all fun t=>kI d f t) then 0 else 1):=by
      unfold Hid;rw [HE2.out,Kc];simp [HWN.out]
     clear HE2
     go_wp2_with fail
     clear h4 hlt
     go_loopw [7] (fun i wr=>(∃ k:Nat,k<=d.nodes.length/\i=.int .i64 k/\(List.range k).all (jH d)=true)/\Since w1 wr) (fun i _=>d.nodes.length - (intOf i).toNat)
     case atStart=>exact ⟨⟨0,Nat.zero_le _,rfl,rfl⟩,by assumption⟩
     case round =>
      clear hS f0 f1 f2;obtain ⟨⟨k,hk,rfl,hn⟩,hS⟩:=hrel;have HN:Hid ((List.range k).all (jH d)=true):=hn;clear hn;obtain ⟨f0,f1,f2⟩:=RF.out _ hS;by_cases hlt:k < d.nodes.length
      ·obtain ⟨row,hrow⟩:∃ row,d.wires[k]? = some row:=⟨_,zQ1 (by have:=HWN.out;omega)⟩;obtain ⟨nd,hnd⟩:∃ nd,d.nodes[k]? = some nd:=⟨_,zQ1 hlt⟩;obtain ⟨bL,oL,rfl,hbL,hcL⟩:=hR1.cells (by have:=HWN.out;omega);obtain ⟨v4,k4,ra,rc,rfl,hrc,hR⟩:=hcL k row hrow
       have HRN:Hid (jH d k=(!((row.length:Int) != (d.nodes.length:Int)) && aH d k nd)):=by
        unfold Hid jH;rw [hrow,hnd,Option.getD_some];congr 1;rw [Bool.eq_iff_iff];simp;omega
       have HND:Hid (d.nodes[k]? = some nd):=hnd;have n1:(k:Int) < (d.wires.length:Int):=by have:=HWN.out;omega
       have HBAD:Hid (jH d k=false->aL d=1):=by
        intro h;rw [HE3.out,ng hlt h];rfl
       have hne:Nonempty (Later w1):=⟨⟨w1,Since.refl w1⟩⟩;have gw:∀ (y:Later w1) (o:Nat),y.w.cell? ⟨w.heap.size,o,none⟩=w1.cell? ⟨w.heap.size,o,none⟩:=fun y o=>y.cell (by omega);have gL:∀ (y:Later w1) (o:Nat),y.w.cell? ⟨bL,o,none⟩=w1.cell? ⟨bL,o,none⟩:=fun y o=>y.cell hbL;clear hcL hrow hnd hR;cases c3:((row.length:Int) != (d.nodes.length:Int))
       rotate_left
       ·have HF:Hid (aL d=1):=HBAD.out (by rw [HRN.out,c3];rfl)
        go_wp2_with fail
        refine av (by kernel_rfl) (by kernel_rfl) hS ?_
        repeat (go_big_quiet_step (fail))
        refine wpQuiet_nil ?_;intro w9 hS9
        go_wp2
        go_ret
        exact ⟨by rw [HF.out];rfl,hS1.trans hS9⟩
       cases c4:aH d k nd
       ·have HF:Hid (aL d=1):=HBAD.out (by rw [HRN.out,c4];simp);have C4:Hid (aH d k nd=false):=c4;clear c4
        go_wp2_with fail
        refine av (by kernel_rfl) (by kernel_rfl) hS ?_
        repeat (go_big_quiet_step ((go_at_call 98;exact Later.call (BA w1 ⟨ga,gl,gc,na,d.nodes.length,nc,_,d.wires.length,wc⟩ d k nd _ C4.out hW1 HND.out))))
        refine wpQuiet_nil ?_;intro w9 hS9
        go_wp2
        go_ret
        exact ⟨by rw [HF.out];rfl,hS1.trans hS9⟩
       ·have HF:Hid ((List.range (k+1)).all (jH d)=true):=jL HN.out (by rw [HRN.out,c3,c4];rfl);have C4:Hid (aH d k nd=true):=c4;clear c4
        go_wp2_with fail
        refine av (by kernel_rfl) (by kernel_rfl) hS ?_
        repeat (go_big_quiet_step ((go_at_call 98;exact Later.call (BA w1 ⟨ga,gl,gc,na,d.nodes.length,nc,_,d.wires.length,wc⟩ d k nd _ C4.out hW1 HND.out))))
        refine wpQuiet_nil ?_;intro w9 hS9
        go_wp2
        go_roundw
        case rel=>exact ⟨⟨k+1,by omega,by go_num,HF.out⟩,hS9⟩
        case measure=>simp [intOf];omega
      ·have HRA:Hid ((List.range d.nodes.length).all (jH d)=true):=by
        have:=HN.out;rw [show k=d.nodes.length from by omega] at this;exact this
       have HE4:Hid (aL d=if ((List.range d.nodes.length).all fun f=>(List.range d.nodes.length).all fun t=>kI d f t) then 0 else 1):=by
        unfold Hid;rw [HE3.out,HRA.out];rfl
       clear HE3 HN
       go_wp2_with fail
       clear hlt
       go_loopw [8,9] (fun i _ wr=>(∃ k:Nat,k<=d.nodes.length/\i=.int .i64 k/\(List.range k).all (fun f=>(List.range d.nodes.length).all fun t=>kI d f t)=true)/\Since w1 wr) (fun i _ _=>d.nodes.length - (intOf i).toNat)
       case atStart=>exact ⟨⟨0,Nat.zero_le _,rfl,rfl⟩,by assumption⟩
       case round =>
        clear hS f0 f1 f2;obtain ⟨⟨k,hk,rfl,hn⟩,hS⟩:=hrel;have HN:Hid ((List.range k).all (fun f=>(List.range d.nodes.length).all fun t=>kI d f t)=true):=hn;clear hn;obtain ⟨f0,f1,f2⟩:=RF.out _ hS;by_cases hlt:k < d.nodes.length
        ·obtain ⟨row,hrow⟩:∃ row,d.wires[k]? = some row:=⟨_,zQ1 (by have:=HWN.out;omega)⟩;have mK:Hid (d.wires[k]? = some row):=hrow
         have HRL:Hid (row.length=d.nodes.length):=by
          have:=HRA.out;rw [List.all_eq_true] at this;have:=this k (by simpa using hlt);unfold jH at this;rw [hrow,Bool.and_eq_true] at this;unfold Hid;simpa using this.1
         clear hrow
         go_wp2_with fail
         go_loopw [9] (fun i wr=>(∃ j:Nat,j<=d.nodes.length/\i=.int .i64 j/\(List.range j).all (fun t=>kI d k t)=true)/\Since w1 wr) (fun i _=>d.nodes.length - (intOf i).toNat)
         case atStart=>exact ⟨⟨0,Nat.zero_le _,rfl,rfl⟩,by assumption⟩
         case round =>
          clear hS f0 f1 f2;obtain ⟨⟨j,hj,rfl,hnj⟩,hS⟩:=hrel;have HNJ:Hid ((List.range j).all (fun t=>kI d k t)=true):=hnj;clear hnj;obtain ⟨f0,f1,f2⟩:=RF.out _ hS;by_cases hjl:j < d.nodes.length
          ·obtain ⟨l,hl⟩:∃ l,row[j]? = some l:=⟨_,zQ1 (by have:=HRL.out;omega)⟩;have HL:Hid (row[j]? = some l):=hl;have HWA:Hid (kI d k j=aN d k j l):=by unfold Hid kI;rw [mK.out,Option.getD_some,hl];rfl
           clear hl;cases h8:aN d k j l
           ·have HF:Hid (aL d=1):=by
             have:((List.range d.nodes.length).all fun f=>(List.range d.nodes.length).all fun t=>kI d f t)=false:=ng hlt (ng hjl (by rw [HWA.out];exact h8));unfold Hid;rw [HE4.out,this];rfl
            have H8:Hid (aN d k j l=false):=h8;clear h8
            go_wp2_with (go_at_call 99;refine (BD w1 ⟨ga,gl,gc,na,d.nodes.length,nc,wa,d.wires.length,wc⟩ d k j row l _ H8.out hW1 mK.out HL.out _ hS).mono ?_;rintro e w9 ⟨rfl,hS9⟩)
            go_ret
            exact ⟨by rw [HF.out];rfl,hS1.trans (by assumption)⟩
           ·have H8:Hid (aN d k j l=true):=h8;clear h8
            go_wp2_with (go_at_call 99;refine (BD w1 ⟨ga,gl,gc,na,d.nodes.length,nc,wa,d.wires.length,wc⟩ d k j row l _ H8.out hW1 mK.out HL.out _ hS).mono ?_;rintro e w9 ⟨rfl,hS9⟩)
            go_roundw
            case rel=>exact ⟨⟨j+1,by omega,by go_num,jL HNJ.out (by rw [HWA.out];exact H8.out)⟩,by assumption⟩
            case measure=>simp [intOf];omega
          ·have HF:Hid ((List.range d.nodes.length).all (fun t=>kI d k t)=true):=by
            have:=HNJ.out;rw [show j=d.nodes.length from by omega] at this;exact this
           go_wp2_with fail
           go_roundw
           case rel=>exact ⟨⟨k+1,by omega,by go_num,jL HN.out HF.out⟩,hS⟩
           case measure=>simp [intOf];omega
        ·have HF:Hid (aL d=0):=by
          have:=HN.out;rw [show k=d.nodes.length from by omega] at this;unfold Hid;rw [HE4.out,this];rfl
         go_wp2
         go_ret
         exact ⟨by rw [HF.out];rfl,hS1.trans hS⟩
end Go.Proofs.YtiiifecfdkjmbaaGreat
set_option maxHeartbeats 2000000
namespace Go.Proofs.YtiiifecfdkjmbaaGreat
open _root_.Go.Proofs.Tryz hiding checked
set_option maxRecDepth 8000
open Go.RowKit Go.Shelf
def kV (d:Wd) (n:Nat) (p:Nat × Nat):Bool:=((p.2:Int) != (n:Int)) && (hasB d.groups p.1 n && hasB d.groups p.1 p.2)
def oz (d:Wd) (n:Nat) (nd:Nd) (acc:Int) (p:Nat × Nat):Int:=if kV d n p then (if dW nd.last p.1 p.2 < acc then dW nd.last p.1 p.2 else acc) else acc
def jY (d:Wd) (n:Nat) (nd:Nd) (i:Nat):Int:=((pairs d.groups.length d.nodes.length).take i).foldl (oz d n nd) nd.clock
def uE (d:Wd) (n:Nat) (nd:Nd):Int:=(pairs d.groups.length d.nodes.length).foldl (oz d n nd) nd.clock
theorem vo {d:Wd} {n:Nat} {nd:Nd} {i:Nat} {p:Nat × Nat} (h:(pairs d.groups.length d.nodes.length)[i]? = some p):jY d n nd (i+1)=oz d n nd (jY d n nd i) p:=by
 unfold jY;rw [List.take_add_one,h,List.foldl_append];rfl
theorem Cj (d:Wd) (n:Nat) (nd:Nd):jY d n nd (d.groups.length*d.nodes.length)=uE d n nd:=by
 unfold jY uE;rw [List.take_of_length_le (by rw [kN];exact Nat.le_refl _)]
def aV (d:Wd) (n:Int):Int:=if aL d=0 then (if inB n 0 ((d.nodes.length:Int) - 1) then 0 else 4) else aL d
theorem jK (w0 w:World) (x:WV) (d:Wd) (hW:WAt w x d) (h:Since w0 w) :
  Calls prog 38 #[.agg #[.slice x.ga x.gl x.gc,.slice x.na x.nl x.nc,.slice x.wa x.wl x.wc]] w fun e w'=>e=.returned (.int .i64 (aL d))/\Since w0 w' :=
 (rM x d w hW).mono fun _ _ ⟨he,hw⟩=>⟨he,h.trans hw⟩
theorem pz (x:WV) (d:Wd) (n:Int) (w:World) (hW:WAt w x d) :
  Calls prog 123 #[.agg #[.slice x.ga x.gl x.gc,.slice x.na x.nl x.nc,.slice x.wa x.wl x.wc],.int .i64 n] w fun e w'=>e=.returned (.int .i64 (aV d n))/\Since w w':=by
 obtain ⟨ga,gl,gc,na,nl,nc,wa,wl,wc⟩:=x;have hnl:=hW.n.hlen;have hnm:=hW.n.hmax;dsimp only at hnl hnm ⊢;subst hnl;obtain ⟨w1,hw1⟩:∃ w1,w.alloc (.cells #[.slice ga gl gc,.slice na d.nodes.length nc,.slice wa wl wc] 26)=w1:=⟨_,rfl⟩;have hS1:=ay hw1;have hsz:w.heap.size < w1.heap.size:=by rw [<-hw1];simp
 have b0:w1.cell? ⟨w.heap.size,0,none⟩=some (.slice ga gl gc):=by rw [<-hw1];simp [go_sem]
 have b1:w1.cell? ⟨w.heap.size,1,none⟩=some (.slice na d.nodes.length nc):=by rw [<-hw1];simp [go_sem]
 have b2:w1.cell? ⟨w.heap.size,2,none⟩=some (.slice wa wl wc):=by rw [<-hw1];simp [go_sem]
 have hW1:=hW.since hS1;have RF:Hid (∀ y,Since w1 y->y.cell? ⟨w.heap.size,1,none⟩=some (.slice na d.nodes.length nc)):=fun y hy=>(hy.cellAt (by omega) _).trans b1;have hwk:IntKind.i64.wrap ((d.nodes.length:Int) - 1)=(d.nodes.length:Int) - 1:=IntWalk.i64_in _ (by omega);cases h1:(aL d != 0)
 rotate_left
 ·have HF:Hid (aV d n=aL d):=by
   have:¬ aL d=0:=by simpa using h1
   unfold Hid aV;rw [if_neg this]
  go_enter func123,ntmps123
  go_wp2_with (go_at_call 38;refine (jK w1 _ ⟨ga,gl,gc,na,d.nodes.length,nc,wa,wl,wc⟩ d hW1 (Since.refl _)).mono ?_;rintro e w2 ⟨rfl,hS2⟩;have f1:=RF.out _ hS2)
  go_ret
  exact ⟨by rw [HF.out];rfl,hS1.trans (by assumption)⟩
 have HF:Hid (aV d n=if inB n 0 ((d.nodes.length:Int) - 1) then 0 else 4):=by
  have:aL d=0:=by simpa using h1
  unfold Hid aV;rw [if_pos this]
 cases h2:inB n 0 ((d.nodes.length:Int) - 1)
 ·have HG:Hid (aV d n=4):=by unfold Hid;rw [HF.out,h2];rfl
  have H2:Hid (inB n 0 ((d.nodes.length:Int) - 1)=false):=h2;clear h2
  go_enter func123,ntmps123
  go_wp2_with (first
   | (go_at_call 38;refine (jK w1 _ ⟨ga,gl,gc,na,d.nodes.length,nc,wa,wl,wc⟩ d hW1 (Since.refl _)).mono ?_;rintro e w2 ⟨rfl,hS2⟩;have f1:=RF.out _ hS2)
   | (go_at_call 126;refine (bD _ _ _ _).mono ?_;rw [H2.out];rintro e w' ⟨rfl,hw⟩;obtain rfl:=hw.symm))
  go_ret
  exact ⟨by rw [HG.out];rfl,hS1.trans (by assumption)⟩
 ·have HG:Hid (aV d n=0):=by unfold Hid;rw [HF.out,h2];rfl
  have H2:Hid (inB n 0 ((d.nodes.length:Int) - 1)=true):=h2;clear h2
  go_enter func123,ntmps123
  go_wp2_with (first
   | (go_at_call 38;refine (jK w1 _ ⟨ga,gl,gc,na,d.nodes.length,nc,wa,wl,wc⟩ d hW1 (Since.refl _)).mono ?_;rintro e w2 ⟨rfl,hS2⟩;have f1:=RF.out _ hS2)
   | (go_at_call 126;refine (bD _ _ _ _).mono ?_;rw [H2.out];rintro e w' ⟨rfl,hw⟩;obtain rfl:=hw.symm))
  go_ret
  exact ⟨by rw [HG.out];rfl,hS1.trans (by assumption)⟩
structure kJ (d:Wd) (nd:Nd):Prop where
 len:nd.last.length=d.groups.length
 rows:∀ (g:Nat) (row:List Int),nd.last[g]? = some row->row.length=d.nodes.length
set_option maxRecDepth 4000 in
theorem Df (x:WV) (d:Wd) (n:Nat) (nd:Nd) (w:World) (hW:WAt w x d) (hn:d.nodes[n]? = some nd) (hL0:kJ d nd) :
  Calls prog 218 #[.agg #[.slice x.ga x.gl x.gc,.slice x.na x.nl x.nc,.slice x.wa x.wl x.wc],.int .i64 n] w fun e w'=>e=.returned (.int .i64 (uE d n nd))/\Since w w':=by
 have hnl:=(zQ2.1 hn).1;obtain ⟨ga,gl,gc,na,nl,nc,wa,wl,wc⟩:=x;have pE:=hW.n.hlen;have hnm:=hW.n.hmax;have hgl:=hW.g.hlen;have hgm:=hW.g.hmax;dsimp only at pE hnm hgl hgm ⊢;subst pE hgl;obtain ⟨bn,on,rfl,hbn,hcn⟩:=hW.n.cells (by dsimp only;omega);obtain ⟨k0,⟨v1,k1,la,lc,rfl,hlc,hL⟩,⟨v2,k2,ha,hc,rfl,hhc,hH⟩,⟨v3,k3,ta,tc,rfl,htc,hT⟩⟩:=hcn n nd hn;have hlm:=hL.hmax;obtain ⟨w1,hw1⟩:∃ w1,(w.alloc (.cells #[.slice ga d.groups.length gc,.slice (some ⟨bn,on,none⟩) d.nodes.length nc,.slice wa wl wc] 26)).alloc (.cells #[.int .i64 nd.clock,.slice la nd.last.length lc,.slice ha nd.held.length hc,.slice ta nd.told.length tc] 45)=w1:=⟨_,rfl⟩;have hS1:Since w w1:=by rw [<-hw1];exact ((Since.refl w).alloc _).alloc _
 have hsz:w.heap.size+1 < w1.heap.size:=by rw [<-hw1];simp
 have b0:w1.cell? ⟨w.heap.size,0,none⟩=some (.slice ga d.groups.length gc):=by rw [<-hw1];simp [go_sem]
 have b1:w1.cell? ⟨w.heap.size,1,none⟩=some (.slice (some ⟨bn,on,none⟩) d.nodes.length nc):=by rw [<-hw1];simp [go_sem]
 have b3:w1.cell? ⟨w.heap.size+1,0,none⟩=some (.int .i64 nd.clock):=by rw [<-hw1];simp [go_sem]
 have b4:w1.cell? ⟨w.heap.size+1,1,none⟩=some (.slice la nd.last.length lc):=by rw [<-hw1];simp [go_sem]
 have hG1:Ints w1 ga d.groups.length d.groups:=hW.g.since hS1;have hL1:=hL.since kW hS1;have n1:(n:Int) < (d.nodes.length:Int):=by omega
 clear hcn
 go_enter func218,ntmps218
 go_wp2
 clear hw1 k0 k1 k2 k3
 go_loopw [6,7,8] (fun o g _ wr=>(∃ k:Nat,k<=d.groups.length/\g=.int .i64 k/\o=.int .i64 (jY d n nd (k*d.nodes.length)))/\wr=w1) (fun _ g _ _=>d.groups.length - (intOf g).toNat)
 case atStart=>exact ⟨⟨0,Nat.zero_le _,rfl,by unfold jY;simp⟩,rfl⟩
 case round =>
  obtain ⟨⟨g,hg,rfl,rfl⟩,hwr⟩:=hrel;obtain rfl:=hwr.symm;clear hwr;by_cases hlt:g < d.groups.length
  ·obtain ⟨row,hrow⟩:∃ row,nd.last[g]? = some row:=⟨_,zQ1 (by have:=hL0.len;omega)⟩;have hrl:=hL0.rows g row hrow;obtain ⟨bL,oL,rfl,hbL,hcL⟩:=hL1.cells (by have:=hL0.len;omega);obtain ⟨v4,k4,ra,rc,rfl,hrc,hR⟩:=hcL g row hrow;have hRm:=hR.hmax;have hRc:=hR.cells;have mK:Hid (nd.last[g]? = some row):=hrow;have HRL:Hid (row.length=d.nodes.length):=hrl;have g1:(g:Int) < (nd.last.length:Int):=by have:=hL0.len;omega
   clear hcL hrow hR hrl
   go_wp2_with fail
   go_loopw [6,8] (fun o i wr=>(∃ k:Nat,k<=d.nodes.length/\i=.int .i64 k/\o=.int .i64 (jY d n nd (g*d.nodes.length+k)))/\wr=w1) (fun _ i _=>d.nodes.length - (intOf i).toNat)
   case atStart=>exact ⟨⟨0,Nat.zero_le _,rfl,rfl⟩,rfl⟩
   case round =>
    obtain ⟨⟨k,hk,rfl,rfl⟩,hwr⟩:=hrel;obtain rfl:=hwr.symm;clear hwr;by_cases hkl:k < d.nodes.length
    ·obtain ⟨v,hv⟩:∃ v,row[k]? = some v:=⟨_,zQ1 (by have:=HRL.out;omega)⟩;obtain ⟨bR,oR,rfl,hbR,hcR⟩:=hRc (by have:=HRL.out;omega);have k6:w1.cell? ⟨bR,oR+k,none⟩=some (.int .i64 v):=by have:=hcR k (by have:=HRL.out;omega);rw [hv] at this;exact this
     have g2:(k:Int) < (row.length:Int):=by have:=HRL.out;omega
     have HV:Hid (dW nd.last g k=v):=by unfold Hid dW;rw [mK.out,Option.getD_some,hv];rfl
     have HS:Hid (jY d n nd (g*d.nodes.length+(k+1))=if kV d n (g,k) then (if v < jY d n nd (g*d.nodes.length+k) then v else jY d n nd (g*d.nodes.length+k)) else jY d n nd (g*d.nodes.length+k)):=by
      have:=vo (n:=n) (nd:=nd) (kX hlt hkl);unfold oz at this;rw [HV.out] at this;exact this
     have HO:Hid (kV d n (g,k)=(((k:Int) != (n:Int)) && (hasB d.groups g n && hasB d.groups g k))):=rfl;obtain ⟨acc,hacc⟩:∃ acc,jY d n nd (g*d.nodes.length+k)=acc:=⟨_,rfl⟩;rw [hacc];have U2:Hid (jY d n nd (g*d.nodes.length+k)=acc):=hacc;clear hv hcR hRc hacc;cases h1:((k:Int) != (n:Int))
     all_goals cases h2:hasB d.groups g n
     all_goals cases h3:hasB d.groups g k
     all_goals
      have HO1:=HO.out;rw [h1,h2,h3] at HO1;have HS1:=HS.out;rw [HO1,U2.out] at HS1;have HS2:Hid (jY d n nd (g*d.nodes.length+(k+1))=_):=HS1;clear HO1 HS1;have H3:Hid (hasB d.groups g k=_):=h3;clear h3
      go_wp2_with (go_at_call 145;refine (dO _ _ _ d.groups _ _ _ hG1).mono ?_;(first | rw [h2] | rw [H3.out]);rintro e w' ⟨rfl,hw⟩;obtain rfl:=hw.symm)
     all_goals exact ⟨⟨⟨k+1,by omega,by go_num,by rw [HS2.out];rfl⟩,trivial⟩,by simp [intOf];omega⟩
    ·obtain rfl:k=d.nodes.length:=by omega
     go_wp2_with fail
     exact ⟨⟨⟨g+1,by omega,by go_num,by rw [Nat.succ_mul]⟩,trivial⟩,by simp [intOf];omega⟩
  ·obtain rfl:g=d.groups.length:=by omega
   go_wp2
   go_ret
   exact ⟨by rw [Cj];rfl,hS1⟩
theorem Kn {d:Wd} (h:aL d=0) {n:Nat} {nd:Nd} (hn:d.nodes[n]? = some nd):kJ d nd:=by
 have hk:=(zQ2.1 hn).1
 have h1:jm d=true:=by
  unfold aL at h;by_cases c:dF d.nodes.length d.groups=0
  ·rw [if_pos c] at h;cases hs:iO d
   ·rw [hs] at h;simp at h
   ·rw [hs] at h;simp only [if_true] at h;cases hb:jm d
    ·rw [hb] at h;simp at h
    ·rfl
  ·rw [if_neg c] at h;exact absurd h c
 unfold jm at h1;rw [List.all_eq_true] at h1;have h2:=h1 n (by simpa using hk);rw [hn] at h2;have h2:aH d n nd=true:=h2;unfold aH mX at h2;simp only [Bool.and_eq_true,decide_eq_true_eq] at h2;obtain ⟨⟨_,hl⟩,hlo,_⟩:=h2;refine ⟨hl,fun g row hrow=>?_⟩;unfold eF at hlo;rw [List.all_eq_true] at hlo;have:=hlo g (by simpa using (zQ2.1 hrow).1);rw [hrow] at this;unfold lQ at this;simp only [Bool.and_eq_true,decide_eq_true_eq] at this;exact this.1
theorem Dg {d:Wd} {n:Int} (h:aV d n=0):aL d=0/\∃ (k:Nat) (nd:Nd),n=(k:Int)/\d.nodes[k]? = some nd:=by
 unfold aV at h;by_cases c:aL d=0
 ·rw [if_pos c] at h;refine ⟨c, ?_⟩;cases hi:inB n 0 ((d.nodes.length:Int) - 1)
  ·rw [hi] at h;simp at h
  ·have:0<=n/\n<=(d.nodes.length:Int) - 1:=by simpa [inB] using hi
   exact ⟨n.toNat,d.nodes[n.toNat]'(by omega),by omega,zQ1 (by omega)⟩
 ·rw [if_neg c] at h;exact absurd h c
end Go.Proofs.YtiiifecfdkjmbaaGreat
