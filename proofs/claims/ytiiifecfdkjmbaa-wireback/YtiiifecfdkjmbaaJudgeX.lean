/- Lemmas. -/
import Derived.Test.YtiiifecfdkjmbaaRises
import Derived.Test.YtiiifecfdkjmbaaWorld3
set_option maxHeartbeats 2000000
namespace Go.Proofs.Ytiiifecfdkjmbaa
open _root_.Go.Proofs.Try hiding checked
set_option maxRecDepth 8000
open Go.RowKit Go.Shelf
abbrev pan (e:Int):List PanicEntry:=[{ v:=.iface 27 (.int .i64 e),recovered:=false }]
theorem cK (e:Int) (x:Bool) (hv:x=true) (w:World) :
  Calls prog 77 #[.int .i64 e,.slice (some ⟨w.heap.size,0,none⟩) 1 1] (w.alloc (.cells #[.bool x] 4)) fun r w'=>r=.returned (.tuple #[])/\w'=w.alloc (.cells #[.bool x] 4):=by
 subst hv;exact vv e true w
theorem dO (e:Int) (x:Bool) (hv:x=false) (w:World) :
  Calls prog 77 #[.int .i64 e,.slice (some ⟨w.heap.size,0,none⟩) 1 1] (w.alloc (.cells #[.bool x] 4)) fun r w'=>r=.panicked (pan e)/\w'=w.alloc (.cells #[.bool x] 4):=by
 subst hv;exact vv e false w
theorem kE (e:Int) (x y:Bool) (hv:(x && y)=true) (w:World) :
  Calls prog 77 #[.int .i64 e,.slice (some ⟨w.heap.size,0,none⟩) 2 2] (w.alloc (.cells #[.bool x,.bool y] 4)) fun r w'=>r=.returned (.tuple #[])/\w'=w.alloc (.cells #[.bool x,.bool y] 4):=by
 have:=vw e x y w;rw [hv] at this;exact this
theorem kF (e:Int) (x y:Bool) (hv:(x && y)=false) (w:World) :
  Calls prog 77 #[.int .i64 e,.slice (some ⟨w.heap.size,0,none⟩) 2 2] (w.alloc (.cells #[.bool x,.bool y] 4)) fun r w'=>r=.panicked (pan e)/\w'=w.alloc (.cells #[.bool x,.bool y] 4):=by
 have:=vw e x y w;rw [hv] at this;exact this
set_option maxRecDepth 4000 in
theorem rY (x:WV) (d:Wd) (a:Option Addr) (len cap:Nat) (ms:List Mg) (n:Int) (w:World) (hW:WAt w x d) (hM:dn w a len ms) :
  Calls prog 111 #[.agg #[.slice x.ga x.gl x.gc,.slice x.na x.nl x.nc,.slice x.wa x.wl x.wc],.int .i64 n,.slice a len cap] w fun e w'=>e=nI 1 (aH d ms n)/\Since w w':=by
 obtain ⟨rfl,hmax,hc⟩:=hM
 obtain ⟨w1,hw1⟩:∃ w1,w.alloc (.cells #[.slice x.ga x.gl x.gc,.slice x.na x.nl x.nc,.slice x.wa x.wl x.wc] 77)=w1:=⟨_,rfl⟩
 have hS1:=au hw1
 have hsz:w1.heap.size=w.heap.size+1:=by rw [<-hw1];simp
 have b0:w1.cell? ⟨w.heap.size,0,none⟩=some (.slice x.ga x.gl x.gc):=by rw [<-hw1];simp [go_sem]
 have b1:w1.cell? ⟨w.heap.size,1,none⟩=some (.slice x.na x.nl x.nc):=by rw [<-hw1];simp [go_sem]
 have hI1:=hW.g.since hS1
 have hnm:=hW.n.hmax
 have HNL:Hid (d.nodes.length=x.nl):=hW.n.hlen
 go_enter func111,ntmps111
 go_wp2_with fail
 clear hw1
 go_loopw [7,8,11] (fun _ _ i wr=>(∃ k:Nat,k<=ms.length/\i=.int .i64 k/\(ms.take k).all (gQ d n)=true)/\Since w1 wr) (fun _ _ i _=>ms.length - (intOf i).toNat)
 case atStart=>exact ⟨⟨0,Nat.zero_le _,rfl,rfl⟩,Since.refl _⟩
 case round =>
  obtain ⟨⟨k,hk,rfl,hn⟩,hS⟩:=hrel
  have HN:Hid ((ms.take k).all (gQ d n)=true):=hn
  clear hn
  by_cases hlt:k < ms.length
  ·obtain ⟨b,off,rfl,hb,hcell⟩:=hc (by omega)
   obtain ⟨m,hm⟩:∃ m,ms[k]? = some m:=⟨_,zQ1 hlt⟩
   have hS0:=hS1.trans hS
   obtain ⟨d0,d1,d2,d3,d4⟩:=aX (w:=wr) (fun i u hi=>(hS0.cellAt hb _).trans (hcell i u hi)) k m hm
   have HM:Hid (ms[k]? = some m):=hm
   obtain ⟨w2,hw2⟩:∃ w2,wr.alloc (.cells #[.int .i64 m.fr,.int .i64 m.gr,.int .i64 m.st,.bool m.nul,.string m.body] 48)=w2:=⟨_,rfl⟩
   have hS2:=au hw2
   have hsz2:wr.heap.size < w2.heap.size:=by rw [<-hw2];simp
   have q0:w2.cell? ⟨wr.heap.size,0,none⟩=some (.int .i64 m.fr):=by rw [<-hw2];simp [go_sem]
   have q1:w2.cell? ⟨wr.heap.size,1,none⟩=some (.int .i64 m.gr):=by rw [<-hw2];simp [go_sem]
   have q2:w2.cell? ⟨wr.heap.size,2,none⟩=some (.int .i64 m.st):=by rw [<-hw2];simp [go_sem]
   have q3:w2.cell? ⟨wr.heap.size,3,none⟩=some (.bool m.nul):=by rw [<-hw2];simp [go_sem]
   have q4:w2.cell? ⟨wr.heap.size,4,none⟩=some (.string m.body):=by rw [<-hw2];simp [go_sem]
   have aY:=hS.trans hS2
   have c0:w2.cell? ⟨w.heap.size,0,none⟩=some (.slice x.ga x.gl x.gc):=(aY.cellAt (by omega) _).trans b0
   have c1:w2.cell? ⟨w.heap.size,1,none⟩=some (.slice x.na x.nl x.nc):=(aY.cellAt (by omega) _).trans b1
   have hI2:=hI1.since aY
   have RF:Hid (∀ y,Since w2 y->y.cell? ⟨w.heap.size,0,none⟩=some (.slice x.ga x.gl x.gc)/\y.cell? ⟨wr.heap.size,1,none⟩=some (.int .i64 m.gr)/\Ints y x.ga x.gl d.groups/\Since w1 y):=fun y hy =>
    ⟨(hy.cellAt (by have:=aY.size;omega) _).trans c0,(hy.cellAt hsz2 _).trans q1,hI2.since hy,aY.trans hy⟩
   clear hm hcell hc
   have HV:Hid (gQ d n m=((eB x.nl d.groups m == 0) && hasB d.groups m.gr n)):=by
    unfold Hid gQ;rw [HNL.out];congr 1
   cases hv:gQ d n m
   ·have HF:Hid (aH d ms n=false):=iV HM.out hv
    go_wp2_with (first
     | (go_at_call 139;refine (nJ _ _ _ _ d.groups m _ hI2).mono ?_;rintro e w3 ⟨rfl,hS3⟩;obtain ⟨f0,f1,f2,f3⟩:=RF.out _ hS3)
     | (go_at_call 25;refine (gX _ _ _ d.groups _ _ _ (by assumption)).mono ?_;rintro e w' ⟨rfl,hw⟩;obtain rfl:=hw.symm)
     | (go_at_call 77;refine (kF _ _ _ (by rw [<-HV.out];exact hv) _).mono ?_;rintro e w' ⟨rfl,rfl⟩))
    exact ⟨rfl,by rw [HF.out];rfl,hS1.trans (Since.alloc (by assumption) _)⟩
   ·have HF:Hid ((ms.take (k+1)).all (gQ d n)=true):=eX HM.out HN.out hv
    go_wp2_with (first
     | (go_at_call 139;refine (nJ _ _ _ _ d.groups m _ hI2).mono ?_;rintro e w3 ⟨rfl,hS3⟩;obtain ⟨f0,f1,f2,f3⟩:=RF.out _ hS3)
     | (go_at_call 25;refine (gX _ _ _ d.groups _ _ _ (by assumption)).mono ?_;rintro e w' ⟨rfl,hw⟩;obtain rfl:=hw.symm)
     | (go_at_call 77;refine (kE _ _ _ (by rw [<-HV.out];exact hv) _).mono ?_;rintro e w' ⟨rfl,rfl⟩))
    go_roundw
    case rel=>exact ⟨⟨k+1,by omega,by go_num,HF.out⟩,Since.alloc (by assumption) _⟩
    case measure=>simp [intOf];omega
  ·have HF:Hid (aH d ms n=true):=by have:=HN.out;rw [List.take_of_length_le (by omega)] at this;exact this
   clear hc
   go_wp2
   go_end0
   exact ⟨by rw [HF.out];rfl,hS1.trans hS⟩
theorem yX (w0:World) (x:WV) (d:Wd) (a:Option Addr) (len cap:Nat) (ms:List Mg) (n:Int) (hv:aH d ms n=true) (hW:WAt w0 x d) (hM:dn w0 a len ms) (w:World) (h:Since w0 w) :
  Calls prog 111 #[.agg #[.slice x.ga x.gl x.gc,.slice x.na x.nl x.nc,.slice x.wa x.wl x.wc],.int .i64 n,.slice a len cap] w fun e w'=>e=.returned (.tuple #[])/\Since w0 w' :=
 (rY x d a len cap ms n w (hW.since h) (hM.since h)).mono fun _ _ ⟨he,hw⟩=>⟨by rw [he,hv];rfl,h.trans hw⟩
theorem yY (w0:World) (x:WV) (d:Wd) (a:Option Addr) (len cap:Nat) (ms:List Mg) (n:Int) (hv:aH d ms n=false) (hW:WAt w0 x d) (hM:dn w0 a len ms) (w:World) (h:Since w0 w) :
  Calls prog 111 #[.agg #[.slice x.ga x.gl x.gc,.slice x.na x.nl x.nc,.slice x.wa x.wl x.wc],.int .i64 n,.slice a len cap] w fun e w'=>e=.panicked (pan 1)/\Since w0 w' :=
 (rY x d a len cap ms n w (hW.since h) (hM.since h)).mono fun _ _ ⟨he,hw⟩=>⟨by rw [he,hv];rfl,h.trans hw⟩
theorem lY (w0:World) (a:Option Addr) (len cap:Nat) (ms:List Mg) (v:Bool) (hv:fI ms=v) (hM:dn w0 a len ms) (w:World) (h:Since w0 w) :
  Calls prog 110 #[.slice a len cap,.func (.func 140) #[] #[]] w fun e w'=>e=.returned (.bool v)/\Since w0 w' :=
 (vB a len cap ms w (hM.since h)).mono fun _ _ ⟨he,hw⟩=>⟨by rw [<-hv];exact he,h.trans hw⟩
theorem lq (w0:World) (a:Option Addr) (len cap:Nat) (ms:List Mg) (v:Bool) (hv:aM ms=v) (hM:dn w0 a len ms) (w:World) (h:Since w0 w) :
  Calls prog 110 #[.slice a len cap,.func (.func 88) #[] #[]] w fun e w'=>e=.returned (.bool v)/\Since w0 w' :=
 (rA a len cap ms w (hM.since h)).mono fun _ _ ⟨he,hw⟩=>⟨by rw [<-hv];exact he,h.trans hw⟩
set_option maxRecDepth 4000 in
theorem vC (x:WV) (d:Wd) (f t:Nat) (a:Option Addr) (cap:Nat) (l:List Mg) (w:World) (hW:WAt w x d) (hM:dn w a l.length l) :
  Calls prog 112 #[.agg #[.slice x.ga x.gl x.gc,.slice x.na x.nl x.nc,.slice x.wa x.wl x.wc],.int .i64 f,.int .i64 t,.slice a l.length cap] w fun e w'=>e=nI 1 (ay d f t l)/\Since w w':=by
 obtain ⟨w1,hw1⟩:∃ w1,w.alloc (.cells #[.slice x.ga x.gl x.gc,.slice x.na x.nl x.nc,.slice x.wa x.wl x.wc] 77)=w1:=⟨_,rfl⟩
 have hS1:=au hw1
 have hsz:w1.heap.size=w.heap.size+1:=by rw [<-hw1];simp
 have b0:w1.cell? ⟨w.heap.size,0,none⟩=some (.slice x.ga x.gl x.gc):=by rw [<-hw1];simp [go_sem]
 have b1:w1.cell? ⟨w.heap.size,1,none⟩=some (.slice x.na x.nl x.nc):=by rw [<-hw1];simp [go_sem]
 have b2:w1.cell? ⟨w.heap.size,2,none⟩=some (.slice x.wa x.wl x.wc):=by rw [<-hw1];simp [go_sem]
 have hW1:=hW.since hS1
 have hM1:=hM.since hS1
 obtain ⟨_,hmax,hc⟩:=hM
 have hSr:=Since.refl w1
 have RF:Hid (∀ y,Since w1 y->y.cell? ⟨w.heap.size,0,none⟩=some (.slice x.ga x.gl x.gc)/\y.cell? ⟨w.heap.size,1,none⟩=some (.slice x.na x.nl x.nc)/\y.cell? ⟨w.heap.size,2,none⟩=some (.slice x.wa x.wl x.wc)):=fun y hy =>
  ⟨(hy.cellAt (by omega) _).trans b0,(hy.cellAt (by omega) _).trans b1,(hy.cellAt (by omega) _).trans b2⟩
 cases h4:((f:Int) != (t:Int))
 all_goals
  have HV:Hid ((decide (f≠t) || decide (l.length=0))=(((f:Int) != (t:Int)) || ((l.length:Int) == 0))):=by
   unfold Hid;rw [vD];congr 1;rw [Bool.eq_iff_iff];simp;omega
  cases h1:fI l
  ·have HF:Hid (ay d f t l=false):=by unfold Hid ay gF;rw [h1];simp
   have H1:=h1
   clear h1
   go_enter func112,ntmps112
   go_wp2_with (first
    | (go_at_call 110;refine (lY w1 _ _ _ _ _ H1 hM1 _ hSr).mono ?_;rintro e w2 ⟨rfl,hS2⟩)
    | (go_at_call 77;refine (kF _ _ _ rfl _).mono ?_;rintro e w' ⟨rfl,rfl⟩))
   exact ⟨rfl,by rw [HF.out];rfl,hS1.trans (Since.alloc (by assumption) _)⟩
  have H1:Hid (fI l=true):=h1
  clear h1
  cases h2:(decide (f≠t) || decide (l.length=0))
  ·have HF:Hid (ay d f t l=false):=by unfold Hid ay;rw [h2];simp
   have H5:Hid ((((f:Int) != (t:Int)) || ((l.length:Int) == 0))=false):=by unfold Hid;rw [<-HV.out];exact h2
   clear h2
   go_enter func112,ntmps112
   go_wp2_with (first
    | (go_at_call 110;refine (lY w1 _ _ _ _ _ H1.out hM1 _ hSr).mono ?_;rintro e w2 ⟨rfl,hS2⟩)
    | (go_at_call 77;refine (kF _ _ _ (by have h:=H5.out;rw [h4] at h;exact h) _).mono ?_;rintro e w' ⟨rfl,rfl⟩))
   exact ⟨rfl,by rw [HF.out];rfl,hS1.trans (Since.alloc (by assumption) _)⟩
  have H5:Hid ((((f:Int) != (t:Int)) || ((l.length:Int) == 0))=true):=by unfold Hid;rw [<-HV.out];exact h2
  have H2:Hid ((decide (f≠t) || decide (l.length=0))=true):=h2
  clear h2
  cases h3:aH d l t
  ·have HF:Hid (ay d f t l=false):=by unfold Hid ay;rw [h3];simp
   have H3:Hid (aH d l t=false):=h3
   clear h3
   go_enter func112,ntmps112
   go_wp2_with (first
    | (go_at_call 110;refine (lY w1 _ _ _ _ _ H1.out hM1 _ hSr).mono ?_;rintro e w2 ⟨rfl,hS2⟩)
    | (go_at_call 77;refine (kE _ _ _ (by have h:=H5.out;rw [h4] at h;exact h) _).mono ?_;rintro e w' ⟨rfl,hw3⟩;have hS3:Since w1 w':=(by rw [hw3];exact Since.alloc hS2 _);obtain ⟨g0,g1,g2⟩:=RF.out _ hS3;clear hw3)
    | (go_at_call 111;refine (yY w1 x d _ _ _ l _ H3.out hW1 hM1 _ (by assumption)).mono ?_;rintro e w' ⟨rfl,hS4⟩))
   exact ⟨rfl,by rw [HF.out];rfl,hS1.trans (by assumption)⟩
  have H3:Hid (aH d l t=true):=h3
  clear h3
  go_enter func112,ntmps112
  go_wp2_with (first
   | (go_at_call 110;refine (lY w1 _ _ _ _ _ H1.out hM1 _ hSr).mono ?_;rintro e w2 ⟨rfl,hS2⟩)
   | (go_at_call 77;refine (kE _ _ _ (by have h:=H5.out;rw [h4] at h;exact h) _).mono ?_;rintro e w' ⟨rfl,hw3⟩;have hS3:Since w1 w':=(by rw [hw3];exact Since.alloc hS2 _);obtain ⟨g0,g1,g2⟩:=RF.out _ hS3;clear hw3)
   | (go_at_call 111;refine (yX w1 x d _ _ _ l _ H3.out hW1 hM1 _ (by assumption)).mono ?_;rintro e w' ⟨rfl,hS4⟩))
  clear hw1
  go_loopw [10,30] (fun _ i wr=>(∃ k:Nat,k<=l.length/\i=.int .i64 k/\(l.take k).all (fun m=>decide (m.fr=f))=true)/\Since w1 wr) (fun _ i _=>l.length - (intOf i).toNat)
  case atStart=>exact ⟨⟨0,Nat.zero_le _,rfl,rfl⟩,by assumption⟩
  case round =>
   obtain ⟨⟨k,hk,rfl,hn⟩,hS⟩:=hrel
   have HN:Hid ((l.take k).all (fun m=>decide (m.fr=f))=true):=hn
   clear hn
   by_cases hlt:k < l.length
   ·obtain ⟨b,off,rfl,hb,hcell⟩:=hc (by omega)
    obtain ⟨m,hm⟩:∃ m,l[k]? = some m:=⟨_,zQ1 hlt⟩
    have hS0:=hS1.trans hS
    obtain ⟨d0,d1,d2,d3,d4⟩:=aX (w:=wr) (fun i u hi=>(hS0.cellAt hb _).trans (hcell i u hi)) k m hm
    have HM:Hid (l[k]? = some m):=hm
    obtain ⟨w2,hw2⟩:∃ w2,wr.alloc (.cells #[.int .i64 m.fr,.int .i64 m.gr,.int .i64 m.st,.bool m.nul,.string m.body] 48)=w2:=⟨_,rfl⟩
    have hS2:=au hw2
    have q0:w2.cell? ⟨wr.heap.size,0,none⟩=some (.int .i64 m.fr):=by rw [<-hw2];simp [go_sem]
    clear hm hcell hc
    have HD:Hid (decide (m.fr=f)=(m.fr == (f:Int))):=by unfold Hid;rw [Bool.eq_iff_iff];simp
    cases hv:decide (m.fr=(f:Int))
    ·have HF:Hid (ay d f t l=false):=by
      unfold Hid ay gF;rw [iV HM.out hv];simp
     have H6:Hid ((m.fr == (f:Int))=false):=by unfold Hid;rw [<-HD.out];exact hv
     clear hv
     go_wp2_with (first
      | (go_at_call 77;refine (dO _ _ H6.out _).mono ?_;rintro e w' ⟨rfl,rfl⟩))
     exact ⟨rfl,by rw [HF.out];rfl,hS0.trans (Since.alloc (by assumption) _)⟩
    ·have HF:Hid ((l.take (k+1)).all (fun m=>decide (m.fr=f))=true):=eX HM.out HN.out hv
     have H6:Hid ((m.fr == (f:Int))=true):=by unfold Hid;rw [<-HD.out];exact hv
     clear hv
     go_wp2_with (first
      | (go_at_call 77;refine (cK _ _ H6.out _).mono ?_;rintro e w' ⟨rfl,rfl⟩))
     go_roundw
     case rel=>exact ⟨⟨k+1,by omega,by go_num,HF.out⟩,hS.trans (Since.alloc (by assumption) _)⟩
     case measure=>simp [intOf];omega
   ·have HO:Hid (ay d f t l=true):=by
     have:=HN.out
     rw [List.take_of_length_le (by omega)] at this
     unfold Hid ay gF;rw [this,H1.out,H2.out,H3.out];rfl
    clear hc
    go_wp2
    go_end0
    exact ⟨by rw [HO.out];rfl,hS1.trans hS⟩
def kX (d:Wd) (f:Nat) (row:List (List Mg)):Bool:=decide (row.length=d.nodes.length) && (List.range row.length).all fun t=>ay d f t (row[t]?.getD [])
def bM (d:Wd):Bool:=decide (d.wires.length=d.nodes.length) && (List.range d.wires.length).all fun f=>kX d f (d.wires[f]?.getD [])
theorem DY (w0:World) (x:WV) (d:Wd) (f t:Nat) (a:Option Addr) (cap:Nat) (l:List Mg) (hv:ay d f t l=true) (hW:WAt w0 x d) (hM:dn w0 a l.length l) (w:World) (h:Since w0 w) :
  Calls prog 112 #[.agg #[.slice x.ga x.gl x.gc,.slice x.na x.nl x.nc,.slice x.wa x.wl x.wc],.int .i64 f,.int .i64 t,.slice a l.length cap] w fun e w'=>e=.returned (.tuple #[])/\Since w0 w' :=
 (vC x d f t a cap l w (hW.since h) (hM.since h)).mono fun _ _ ⟨he,hw⟩=>⟨by rw [he,hv];rfl,h.trans hw⟩
theorem DZ (w0:World) (x:WV) (d:Wd) (f t:Nat) (a:Option Addr) (cap:Nat) (l:List Mg) (hv:ay d f t l=false) (hW:WAt w0 x d) (hM:dn w0 a l.length l) (w:World) (h:Since w0 w) :
  Calls prog 112 #[.agg #[.slice x.ga x.gl x.gc,.slice x.na x.nl x.nc,.slice x.wa x.wl x.wc],.int .i64 f,.int .i64 t,.slice a l.length cap] w fun e w'=>e=.panicked (pan 1)/\Since w0 w' :=
 (vC x d f t a cap l w (hW.since h) (hM.since h)).mono fun _ _ ⟨he,hw⟩=>⟨by rw [he,hv];rfl,h.trans hw⟩
theorem eq_len (a b:Nat):((a:Int) == (b:Int))=decide (a=b):=by rw [Bool.eq_iff_iff];simp;omega
set_option maxRecDepth 4000 in
theorem rZ (x:WV) (d:Wd) (w:World) (hW:WAt w x d) :
  Calls prog 80 #[.agg #[.slice x.ga x.gl x.gc,.slice x.na x.nl x.nc,.slice x.wa x.wl x.wc]] w fun e w'=>e=nI 1 (bM d)/\Since w w':=by
 obtain ⟨ga,gl,gc,na,nl,nc,wa,wl,wc⟩:=x
 have hwl:=hW.r.hlen
 have hwm:=hW.r.hmax
 have hnl:=hW.n.hlen
 have hnm:=hW.n.hmax
 dsimp only at hwl hwm hnl hnm ⊢
 subst hwl hnl
 obtain ⟨w1,hw1⟩:∃ w1,w.alloc (.cells #[.slice ga gl gc,.slice na d.nodes.length nc,.slice wa d.wires.length wc] 77)=w1:=⟨_,rfl⟩
 have hS1:=au hw1
 have hsz:w.heap.size < w1.heap.size:=by rw [<-hw1];simp
 have b0:w1.cell? ⟨w.heap.size,0,none⟩=some (.slice ga gl gc):=by rw [<-hw1];simp [go_sem]
 have b1:w1.cell? ⟨w.heap.size,1,none⟩=some (.slice na d.nodes.length nc):=by rw [<-hw1];simp [go_sem]
 have b2:w1.cell? ⟨w.heap.size,2,none⟩=some (.slice wa d.wires.length wc):=by rw [<-hw1];simp [go_sem]
 have hW1:=hW.since hS1
 have hR1:=hW1.r
 have RF:Hid (∀ y,Since w1 y->y.cell? ⟨w.heap.size,0,none⟩=some (.slice ga gl gc)/\y.cell? ⟨w.heap.size,1,none⟩=some (.slice na d.nodes.length nc)/\y.cell? ⟨w.heap.size,2,none⟩=some (.slice wa d.wires.length wc)):=fun y hy =>
  ⟨(hy.cellAt (by omega) _).trans b0,(hy.cellAt (by omega) _).trans b1,(hy.cellAt (by omega) _).trans b2⟩
 cases h1:((d.wires.length:Int) == (d.nodes.length:Int))
 ·have HF:Hid (bM d=false):=by unfold Hid bM;rw [<-eq_len,h1];rfl
  go_enter func80,ntmps80
  go_wp2_with (go_at_call 77;refine (dO _ _ (by first | exact h1 | rfl) _).mono ?_;rintro e w' ⟨rfl,rfl⟩)
  exact ⟨rfl,by rw [HF.out];rfl,hS1.alloc _⟩
 have H1:Hid (((d.wires.length:Int) == (d.nodes.length:Int))=true):=h1
 clear h1
 go_enter func80,ntmps80
 go_wp2_with (go_at_call 77;refine (cK _ _ (by exact H1.out) _).mono ?_;rintro e w' ⟨rfl,hw3⟩;have hS3:Since w1 w':=(by rw [hw3];exact Since.alloc (Since.refl _) _);obtain ⟨g0,g1,g2⟩:=RF.out _ hS3;clear hw3)
 clear hw1
 go_loopw [21] (fun i wr=>(∃ k:Nat,k<=d.wires.length/\i=.int .i64 k/\(List.range k).all (fun f=>kX d f (d.wires[f]?.getD []))=true)/\Since w1 wr) (fun i _=>d.wires.length - (intOf i).toNat)
 case atStart=>exact ⟨⟨0,Nat.zero_le _,rfl,rfl⟩,by assumption⟩
 case round =>
  obtain ⟨⟨k,hk,rfl,hn⟩,hS⟩:=hrel
  have HN:Hid ((List.range k).all (fun f=>kX d f (d.wires[f]?.getD []))=true):=hn
  clear hn
  obtain ⟨f0,f1,f2⟩:=RF.out _ hS
  by_cases hlt:k < d.wires.length
  ·obtain ⟨row,hrow⟩:∃ row,d.wires[k]? = some row:=⟨_,zQ1 hlt⟩
   obtain ⟨bL,oL,rfl,hbL,hcL⟩:=hR1.cells (by omega)
   obtain ⟨v4,k4,ra,rc,rfl,hrc,hR⟩:=hcL k row hrow
   have hRm:=hR.hmax
   have k5:wr.cell? ⟨bL,oL+k,none⟩=_:=(hS.cellAt hbL _).trans k4
   have jZ:Hid (d.wires[k]? = some row):=hrow
   have HFR:Hid (kX d k row=false->bM d=false):=by
    intro h
    unfold bM
    rw [jh (p:=fun f=>kX d f (d.wires[f]?.getD [])) hlt (by rw [jZ.out];exact h)]
    simp
   clear hcL hrow k4
   cases c3:((row.length:Int) == (d.nodes.length:Int))
   ·have HF:Hid (bM d=false):=HFR.out (by unfold kX;rw [<-eq_len,c3];rfl)
    go_wp2_with (go_at_call 77;refine (dO _ _ (by first | exact c3 | rfl) _).mono ?_;rintro e w' ⟨rfl,rfl⟩)
    exact ⟨rfl,by rw [HF.out];rfl,hS1.trans (hS.alloc _)⟩
   have C3:Hid (((row.length:Int) == (d.nodes.length:Int))=true):=c3
   have HFC:Hid (∀ j v,row[j]? = some v->ay d k j v=false->bM d=false):=by
    intro j v hv h
    refine HFR.out ?_
    unfold kX
    rw [jh (p:=fun t=>ay d k t (row[t]?.getD [])) (zQ2.1 hv).1 (by rw [hv];exact h)]
    simp
   clear c3 HFR
   go_wp2_with (go_at_call 77;refine (cK _ _ (by exact C3.out) _).mono ?_;rintro e w' ⟨rfl,hw3⟩;have hS4:Since w1 w':=(by rw [hw3];exact Since.alloc hS _);obtain ⟨e0,e1,e2⟩:=RF.out _ hS4;clear hw3)
   go_loopw [37] (fun i wr=>(∃ j:Nat,j<=row.length/\i=.int .i64 j/\(List.range j).all (fun t=>ay d k t (row[t]?.getD []))=true)/\Since w1 wr) (fun i _=>row.length - (intOf i).toNat)
   case atStart=>exact ⟨⟨0,Nat.zero_le _,rfl,rfl⟩,by assumption⟩
   case round =>
    obtain ⟨⟨j,hj,rfl,hnj⟩,hSj⟩:=hrel
    have HNJ:Hid ((List.range j).all (fun t=>ay d k t (row[t]?.getD []))=true):=hnj
    clear hnj
    obtain ⟨e0,e1,e2⟩:=RF.out _ hSj
    by_cases hjl:j < row.length
    ·obtain ⟨l,hl⟩:∃ l,row[j]? = some l:=⟨_,zQ1 hjl⟩
     obtain ⟨bR,oR,rfl,hbR,hcR⟩:=hR.cells (by omega)
     obtain ⟨v6,k6,la,lc,rfl,hlc,hM⟩:=hcR j l hl
     have k7:wr.cell? ⟨bR,oR+j,none⟩=_:=(hSj.cellAt hbR _).trans k6
     have HL:Hid (row[j]? = some l):=hl
     clear hcR hl k6
     cases h8:ay d k j l
     ·have HF:Hid (bM d=false):=HFC.out j l HL.out h8
      have H8:Hid (ay d k j l=false):=h8
      clear h8
      go_wp2_with (go_at_call 112;refine (DZ w1 ⟨ga,gl,gc,na,d.nodes.length,nc,_,d.wires.length,wc⟩ d k j _ _ l H8.out hW1 hM _ hSj).mono ?_;rintro e w' ⟨rfl,hS9⟩)
      exact ⟨rfl,by rw [HF.out];rfl,hS1.trans (by assumption)⟩
     ·have H8:Hid (ay d k j l=true):=h8
      clear h8
      go_wp2_with (go_at_call 112;refine (DY w1 ⟨ga,gl,gc,na,d.nodes.length,nc,_,d.wires.length,wc⟩ d k j _ _ l H8.out hW1 hM _ hSj).mono ?_;rintro e w' ⟨rfl,hS9⟩)
      go_roundw
      case rel=>exact ⟨⟨j+1,by omega,by go_num,fJ HNJ.out (by rw [HL.out];exact H8.out)⟩,by assumption⟩
      case measure=>simp [intOf];omega
    ·have HR:Hid (kX d k row=true):=by
      have:=HNJ.out
      rw [show j=row.length from by omega] at this
      unfold Hid kX;rw [this,<-eq_len,C3.out];rfl
     go_wp2_with fail
     go_roundw
     case rel=>exact ⟨⟨k+1,by omega,by go_num,fJ HN.out (by rw [jZ.out];exact HR.out)⟩,hSj⟩
     case measure=>simp [intOf];omega
  ·have HF:Hid (bM d=true):=by
    have:=HN.out
    rw [show k=d.wires.length from by omega] at this
    unfold Hid bM;rw [this,<-eq_len,H1.out];rfl
   go_wp2
   go_end0
   exact ⟨by rw [HF.out];rfl,hS1.trans hS⟩
attribute [local go_sem] Oper.semAt_some
def pairs (G N:Nat):List (Nat × Nat):=(List.range G).flatMap fun g=>(List.range N).map fun k=>(g,k)
theorem pY (G N:Nat):pairs (G+1) N=pairs G N++(List.range N).map fun k=>(G,k):=by
 simp [pairs,List.range_succ,List.flatMap_append]
theorem jq (G N:Nat):(pairs G N).length=G*N:=by
 induction G with
 | zero=>simp [pairs]
 | succ G ih=>rw [pY,List.length_append,ih];simp [Nat.succ_mul]
theorem pW {G N g k:Nat} (hg:g < G) (hk:k < N):(pairs G N)[g*N+k]? = some (g,k):=by
 induction G with
 | zero=>omega
 | succ G ih =>
  rw [pY]
  by_cases h:g < G
  ·rw [List.getElem?_append_left (by rw [jq];have:=Nat.mul_le_mul_right N (show g+1<=G from h);rw [Nat.succ_mul] at this;omega)]
   exact ih h
  ·obtain rfl:g=G:=by omega
   rw [List.getElem?_append_right (by rw [jq];omega),jq]
   simp [hk]
theorem zL {G N i g k:Nat} (h:(pairs G N)[i]? = some (g,k)):g < G/\k < N:=by
 have:=List.mem_of_getElem? h
 simp only [pairs,List.mem_flatMap,List.mem_map,List.mem_range,Prod.mk.injEq] at this
 obtain ⟨g',hg,k',hk,rfl,rfl⟩:=this
 exact ⟨hg,hk⟩
set_option maxRecDepth 100000 in
theorem zM (m:Nat) (Bj n0:Nat) (w:World) (hBj:Bj < n0) (hn0:n0<=w.heap.size) (ga:Option Addr) (gl gc:Nat) (na:Option Addr) (nl nc:Nat) (hgm:gl<=17592186043904) (hnm:nl<=17592186043904)
  (c0:w.cell? ⟨Bj,0,none⟩=some (.slice ga gl gc)) (c1:w.cell? ⟨Bj,1,none⟩=some (.slice na nl nc)) :
  D5 prog m 162 #[.pointer (some ⟨Bj,0,none⟩)] (fun p:Nat × Nat=>#[.int .i64 (p.1:Int),.int .i64 (p.2:Int)]) (KX n0 none) (fun i p=>(pairs gl nl)[i]? = some p) (fun _=>False) (gl*nl) w:=by
 intro l J Jp W hW hJ _ hY h0
 have C:∀ W',Below n0 W W'->W'.cell? ⟨Bj,0,none⟩=some (.slice ga gl gc)/\W'.cell? ⟨Bj,1,none⟩=some (.slice na nl nc):=fun W' h =>
  ⟨(h.cell (p:=⟨Bj,0,none⟩) hBj).trans ((hW.below.cell (p:=⟨Bj,0,none⟩) (by show Bj < _;omega)).trans c0),(h.cell (p:=⟨Bj,1,none⟩) hBj).trans ((hW.below.cell (p:=⟨Bj,1,none⟩) (by show Bj < _;omega)).trans c1)⟩
 obtain ⟨d0,d1⟩:=C W (Below.refl _ _)
 refine callsIn_of_wp func162 rfl trivial ?_ rfl
 simp only [ntmps162,List.size_toArray,List.length_cons,List.length_nil,Nat.reduceAdd,Nat.reduceSub,Array.replicate_succ,Array.replicate_zero,List.push_toArray,List.append_toArray,List.nil_append,List.cons_append]
 gi_wp2
 gi_loopw [9] (fun i wr=>∃ g:Nat,g<=gl/\i=.int .i64 g/\J (g*nl) wr/\Below n0 W wr) (fun i _=>gl - (intOf i).toNat)
 case atStart=>exact ⟨0,Nat.zero_le _,rfl,by simpa using h0,Below.refl _ _⟩
 case round =>
  obtain ⟨g,hg,rfl,hJs,hB⟩:=hrel
  obtain ⟨f0,f1⟩:=C wr hB
  by_cases hlt:g < gl
  ·gi_wp2
   gi_loopw [16] (fun i wr=>∃ k:Nat,k<=nl/\i=.int .i64 k/\J (g*nl+k) wr/\Below n0 W wr) (fun i _=>nl - (intOf i).toNat)
   case atStart=>exact ⟨0,Nat.zero_le _,rfl,hJs,hB⟩
   case round =>
    obtain ⟨k,hk,rfl,hJk,hBk⟩:=hrel
    by_cases hkl:k < nl
    ·obtain ⟨fn,tmps,assign,body,hy,hR⟩:=hY _ (g,k) wr hJk (by have:=(zQ2.1 (pW hlt hkl)).1;rw [jq] at this;exact this) (pW hlt hkl)
     clear hY
     gi_wp2
     refine ⟨fun h=>(by cases h), ?_⟩
     refine hR.mono ?_
     rintro e W3 (⟨rfl,hJ3,hk3⟩ | ⟨ch,rfl,hp3⟩)
     ·gi_wp2
      go_roundw
      case rel=>exact ⟨k+1,by omega,by simp,hJ3,hBk.trans hk3.below⟩
      case measure=>simp [intOf];omega
     ·exact ⟨rfl,.inr ⟨ch,rfl,hp3⟩⟩
    ·obtain rfl:k=nl:=by omega
     gi_wp2
     go_roundw
     case rel=>exact ⟨g+1,by omega,by simp,by rw [Nat.succ_mul];exact hJk,hBk⟩
     case measure=>simp [intOf];omega
  ·obtain rfl:g=gl:=by omega
   gi_wp2
   go_end0
   exact .inl ⟨_,rfl,hJs⟩
end Go.Proofs.Ytiiifecfdkjmbaa
