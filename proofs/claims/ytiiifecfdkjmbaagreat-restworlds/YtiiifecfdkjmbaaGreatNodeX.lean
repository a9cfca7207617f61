/- Lemmas. Lemmas. -/
import Derived.Test.YtiiifecfdkjmbaaGreatWorld3
set_option maxHeartbeats 2000000
namespace Go.Proofs.YtiiifecfdkjmbaaGreat
open _root_.Go.Proofs.Tryz
set_option maxRecDepth 8000
open Go.RowKit Go.Shelf
abbrev pan (e:Int):List PanicEntry:=[{ v:=.iface 27 (.int .i64 e),recovered:=false }]
theorem fU (e:Int) (x:Bool) (hv:x=true) (w:World) :
  Calls prog 159 #[.int .i64 e,.slice (some ⟨w.heap.size,0,none⟩) 1 1] (w.alloc (.cells #[.bool x] 4)) fun r w'=>r=.returned (.tuple #[])/\w'=w.alloc (.cells #[.bool x] 4):=by
 subst hv;exact Ej e true w
theorem iw (e:Int) (x:Bool) (hv:x=false) (w:World) :
  Calls prog 159 #[.int .i64 e,.slice (some ⟨w.heap.size,0,none⟩) 1 1] (w.alloc (.cells #[.bool x] 4)) fun r w'=>r=.panicked (pan e)/\w'=w.alloc (.cells #[.bool x] 4):=by
 subst hv;exact Ej e false w
theorem pW (e:Int) (x y:Bool) (hv:(x && y)=true) (w:World) :
  Calls prog 159 #[.int .i64 e,.slice (some ⟨w.heap.size,0,none⟩) 2 2] (w.alloc (.cells #[.bool x,.bool y] 4)) fun r w'=>r=.returned (.tuple #[])/\w'=w.alloc (.cells #[.bool x,.bool y] 4):=by
 have:=El e x y w;rw [hv] at this;exact this
theorem pX (e:Int) (x y:Bool) (hv:(x && y)=false) (w:World) :
  Calls prog 159 #[.int .i64 e,.slice (some ⟨w.heap.size,0,none⟩) 2 2] (w.alloc (.cells #[.bool x,.bool y] 4)) fun r w'=>r=.panicked (pan e)/\w'=w.alloc (.cells #[.bool x,.bool y] 4):=by
 have:=El e x y w;rw [hv] at this;exact this
set_option maxRecDepth 4000 in
theorem BH (x:WV) (d:Wd) (a:Option Addr) (len cap:Nat) (ms:List Mg) (n:Int) (w:World) (hW:WAt w x d) (hM:dI w a len ms) :
  Calls prog 200 #[.agg #[.slice x.ga x.gl x.gc,.slice x.na x.nl x.nc,.slice x.wa x.wl x.wc],.int .i64 n,.slice a len cap] w fun e w'=>e=vH 1 (aZ d ms n)/\Since w w':=by
 obtain ⟨rfl,hmax,hc⟩:=hM
 obtain ⟨w1,hw1⟩:∃ w1,w.alloc (.cells #[.slice x.ga x.gl x.gc,.slice x.na x.nl x.nc,.slice x.wa x.wl x.wc] 111)=w1:=⟨_,rfl⟩
 have hS1:=au hw1
 have hsz:w1.heap.size=w.heap.size+1:=by rw [<-hw1];simp
 have b0:w1.cell? ⟨w.heap.size,0,none⟩=some (.slice x.ga x.gl x.gc):=by rw [<-hw1];simp [go_sem]
 have b1:w1.cell? ⟨w.heap.size,1,none⟩=some (.slice x.na x.nl x.nc):=by rw [<-hw1];simp [go_sem]
 have hI1:=hW.g.since hS1
 have hnm:=hW.n.hmax
 have HNL:Hid (d.nodes.length=x.nl):=hW.n.hlen
 go_enter func200,ntmps200
 go_wp2_with fail
 clear hw1
 go_loopw [7,8,11] (fun _ _ i wr=>(∃ k:Nat,k<=ms.length/\i=.int .i64 k/\(ms.take k).all (jh d n)=true)/\Since w1 wr) (fun _ _ i _=>ms.length - (intOf i).toNat)
 case atStart=>exact ⟨⟨0,Nat.zero_le _,rfl,rfl⟩,Since.refl _⟩
 case round =>
  obtain ⟨⟨k,hk,rfl,hn⟩,hS⟩:=hrel
  have HN:Hid ((ms.take k).all (jh d n)=true):=hn
  clear hn
  by_cases hlt:k < ms.length
  ·obtain ⟨b,off,rfl,hb,hcell⟩:=hc (by omega)
   obtain ⟨m,hm⟩:∃ m,ms[k]? = some m:=⟨_,zQ1 hlt⟩
   have hS0:=hS1.trans hS
   obtain ⟨d0,d1,d2,d3,d4⟩:=bJ (w:=wr) (fun i u hi=>(hS0.cellAt hb _).trans (hcell i u hi)) k m hm
   have HM:Hid (ms[k]? = some m):=hm
   obtain ⟨w2,hw2⟩:∃ w2,wr.alloc (.cells #[.int .i64 m.fr,.int .i64 m.gr,.int .i64 m.st,.bool m.nul,.string m.body] 42)=w2:=⟨_,rfl⟩
   have hS2:=au hw2
   have hsz2:wr.heap.size < w2.heap.size:=by rw [<-hw2];simp
   have q0:w2.cell? ⟨wr.heap.size,0,none⟩=some (.int .i64 m.fr):=by rw [<-hw2];simp [go_sem]
   have q1:w2.cell? ⟨wr.heap.size,1,none⟩=some (.int .i64 m.gr):=by rw [<-hw2];simp [go_sem]
   have q2:w2.cell? ⟨wr.heap.size,2,none⟩=some (.int .i64 m.st):=by rw [<-hw2];simp [go_sem]
   have q3:w2.cell? ⟨wr.heap.size,3,none⟩=some (.bool m.nul):=by rw [<-hw2];simp [go_sem]
   have q4:w2.cell? ⟨wr.heap.size,4,none⟩=some (.string m.body):=by rw [<-hw2];simp [go_sem]
   have dw:=hS.trans hS2
   have c0:w2.cell? ⟨w.heap.size,0,none⟩=some (.slice x.ga x.gl x.gc):=(dw.cellAt (by omega) _).trans b0
   have c1:w2.cell? ⟨w.heap.size,1,none⟩=some (.slice x.na x.nl x.nc):=(dw.cellAt (by omega) _).trans b1
   have hI2:=hI1.since dw
   have RF:Hid (∀ y,Since w2 y->y.cell? ⟨w.heap.size,0,none⟩=some (.slice x.ga x.gl x.gc)/\y.cell? ⟨wr.heap.size,1,none⟩=some (.int .i64 m.gr)/\Ints y x.ga x.gl d.groups/\Since w1 y):=fun y hy =>
    ⟨(hy.cellAt (by have:=dw.size;omega) _).trans c0,(hy.cellAt hsz2 _).trans q1,hI2.since hy,dw.trans hy⟩
   clear hm hcell hc
   have HV:Hid (jh d n m=((iC x.nl d.groups m == 0) && hasB d.groups m.gr n)):=by
    unfold Hid jh;rw [HNL.out];congr 1
   cases hv:jh d n m
   ·have HF:Hid (aZ d ms n=false):=l9 HM.out hv
    go_wp2_with (first
     | (go_at_call 222;refine (vI _ _ _ _ d.groups m _ hI2).mono ?_;rintro e w3 ⟨rfl,hS3⟩;obtain ⟨f0,f1,f2,f3⟩:=RF.out _ hS3)
     | (go_at_call 50;refine (gQ _ _ _ d.groups _ _ _ (by assumption)).mono ?_;rintro e w' ⟨rfl,hw⟩;obtain rfl:=hw.symm)
     | (go_at_call 159;refine (pX _ _ _ (by rw [<-HV.out];exact hv) _).mono ?_;rintro e w' ⟨rfl,rfl⟩))
    exact ⟨rfl,by rw [HF.out];rfl,hS1.trans (Since.alloc (by assumption) _)⟩
   ·have HF:Hid ((ms.take (k+1)).all (jh d n)=true):=ji HM.out HN.out hv
    go_wp2_with (first
     | (go_at_call 222;refine (vI _ _ _ _ d.groups m _ hI2).mono ?_;rintro e w3 ⟨rfl,hS3⟩;obtain ⟨f0,f1,f2,f3⟩:=RF.out _ hS3)
     | (go_at_call 50;refine (gQ _ _ _ d.groups _ _ _ (by assumption)).mono ?_;rintro e w' ⟨rfl,hw⟩;obtain rfl:=hw.symm)
     | (go_at_call 159;refine (pW _ _ _ (by rw [<-HV.out];exact hv) _).mono ?_;rintro e w' ⟨rfl,rfl⟩))
    go_roundw
    case rel=>exact ⟨⟨k+1,by omega,by go_num,HF.out⟩,Since.alloc (by assumption) _⟩
    case measure=>simp [intOf];omega
  ·have HF:Hid (aZ d ms n=true):=by have:=HN.out;rw [List.take_of_length_le (by omega)] at this;exact this
   clear hc
   go_wp2
   go_end0
   exact ⟨by rw [HF.out];rfl,hS1.trans hS⟩
theorem IY (w0:World) (x:WV) (d:Wd) (a:Option Addr) (len cap:Nat) (ms:List Mg) (n:Int) (hv:aZ d ms n=true) (hW:WAt w0 x d) (hM:dI w0 a len ms) (w:World) (h:Since w0 w) :
  Calls prog 200 #[.agg #[.slice x.ga x.gl x.gc,.slice x.na x.nl x.nc,.slice x.wa x.wl x.wc],.int .i64 n,.slice a len cap] w fun e w'=>e=.returned (.tuple #[])/\Since w0 w' :=
 (BH x d a len cap ms n w (hW.since h) (hM.since h)).mono fun _ _ ⟨he,hw⟩=>⟨by rw [he,hv];rfl,h.trans hw⟩
theorem IZ (w0:World) (x:WV) (d:Wd) (a:Option Addr) (len cap:Nat) (ms:List Mg) (n:Int) (hv:aZ d ms n=false) (hW:WAt w0 x d) (hM:dI w0 a len ms) (w:World) (h:Since w0 w) :
  Calls prog 200 #[.agg #[.slice x.ga x.gl x.gc,.slice x.na x.nl x.nc,.slice x.wa x.wl x.wc],.int .i64 n,.slice a len cap] w fun e w'=>e=.panicked (pan 1)/\Since w0 w' :=
 (BH x d a len cap ms n w (hW.since h) (hM.since h)).mono fun _ _ ⟨he,hw⟩=>⟨by rw [he,hv];rfl,h.trans hw⟩
theorem sJ (w0:World) (a:Option Addr) (len cap:Nat) (ms:List Mg) (v:Bool) (hv:gq ms=v) (hM:dI w0 a len ms) (w:World) (h:Since w0 w) :
  Calls prog 199 #[.slice a len cap,.func (.func 223) #[] #[]] w fun e w'=>e=.returned (.bool v)/\Since w0 w' :=
 (Em a len cap ms w (hM.since h)).mono fun _ _ ⟨he,hw⟩=>⟨by rw [<-hv];exact he,h.trans hw⟩
theorem qN (w0:World) (a:Option Addr) (len cap:Nat) (ms:List Mg) (v:Bool) (hv:aL ms=v) (hM:dI w0 a len ms) (w:World) (h:Since w0 w) :
  Calls prog 199 #[.slice a len cap,.func (.func 170) #[] #[]] w fun e w'=>e=.returned (.bool v)/\Since w0 w' :=
 (AV a len cap ms w (hM.since h)).mono fun _ _ ⟨he,hw⟩=>⟨by rw [<-hv];exact he,h.trans hw⟩
set_option maxRecDepth 4000 in
theorem En (x:WV) (d:Wd) (f t:Nat) (a:Option Addr) (cap:Nat) (l:List Mg) (w:World) (hW:WAt w x d) (hM:dI w a l.length l) :
  Calls prog 201 #[.agg #[.slice x.ga x.gl x.gc,.slice x.na x.nl x.nc,.slice x.wa x.wl x.wc],.int .i64 f,.int .i64 t,.slice a l.length cap] w fun e w'=>e=vH 1 (aN d f t l)/\Since w w':=by
 obtain ⟨w1,hw1⟩:∃ w1,w.alloc (.cells #[.slice x.ga x.gl x.gc,.slice x.na x.nl x.nc,.slice x.wa x.wl x.wc] 111)=w1:=⟨_,rfl⟩
 have hS1:=au hw1
 have hsz:w1.heap.size=w.heap.size+1:=by rw [<-hw1];simp
 have b0:w1.cell? ⟨w.heap.size,0,none⟩=some (.slice x.ga x.gl x.gc):=by rw [<-hw1];simp [go_sem]
 have b1:w1.cell? ⟨w.heap.size,1,none⟩=some (.slice x.na x.nl x.nc):=by rw [<-hw1];simp [go_sem]
 have b2:w1.cell? ⟨w.heap.size,2,none⟩=some (.slice x.wa x.wl x.wc):=by rw [<-hw1];simp [go_sem]
 have hW1:=hW.since hS1
 have hM1:=hM.since hS1
 obtain ⟨_,hmax,hc⟩:=hM
 have hSr:=Since.refl w1
 have RF:Hid (∀ y,Since w1 y->y.cell? ⟨w.heap.size,0,none⟩=some (.slice x.ga x.gl x.gc)/\y.cell? ⟨w.heap.size,1,none⟩=some (.slice x.na x.nl x.nc)/\y.cell? ⟨w.heap.size,2,none⟩=some (.slice x.wa x.wl x.wc)):=fun y hy =>
  ⟨(hy.cellAt (by omega) _).trans b0,(hy.cellAt (by omega) _).trans b1,(hy.cellAt (by omega) _).trans b2⟩
 cases h4:((f:Int) != (t:Int))
 all_goals
  have HV:Hid ((decide (f≠t) || decide (l.length=0))=(((f:Int) != (t:Int)) || ((l.length:Int) == 0))):=by
   unfold Hid;rw [Eo];congr 1;rw [Bool.eq_iff_iff];simp;omega
  cases h1:gq l
  ·have HF:Hid (aN d f t l=false):=by unfold Hid aN jV;rw [h1];simp
   have H1:=h1
   clear h1
   go_enter func201,ntmps201
   go_wp2_with (first
    | (go_at_call 199;refine (sJ w1 _ _ _ _ _ H1 hM1 _ hSr).mono ?_;rintro e w2 ⟨rfl,hS2⟩)
    | (go_at_call 159;refine (pX _ _ _ rfl _).mono ?_;rintro e w' ⟨rfl,rfl⟩))
   exact ⟨rfl,by rw [HF.out];rfl,hS1.trans (Since.alloc (by assumption) _)⟩
  have H1:Hid (gq l=true):=h1
  clear h1
  cases h2:(decide (f≠t) || decide (l.length=0))
  ·have HF:Hid (aN d f t l=false):=by unfold Hid aN;rw [h2];simp
   have H5:Hid ((((f:Int) != (t:Int)) || ((l.length:Int) == 0))=false):=by unfold Hid;rw [<-HV.out];exact h2
   clear h2
   go_enter func201,ntmps201
   go_wp2_with (first
    | (go_at_call 199;refine (sJ w1 _ _ _ _ _ H1.out hM1 _ hSr).mono ?_;rintro e w2 ⟨rfl,hS2⟩)
    | (go_at_call 159;refine (pX _ _ _ (by have h:=H5.out;rw [h4] at h;exact h) _).mono ?_;rintro e w' ⟨rfl,rfl⟩))
   exact ⟨rfl,by rw [HF.out];rfl,hS1.trans (Since.alloc (by assumption) _)⟩
  have H5:Hid ((((f:Int) != (t:Int)) || ((l.length:Int) == 0))=true):=by unfold Hid;rw [<-HV.out];exact h2
  have H2:Hid ((decide (f≠t) || decide (l.length=0))=true):=h2
  clear h2
  cases h3:aZ d l t
  ·have HF:Hid (aN d f t l=false):=by unfold Hid aN;rw [h3];simp
   have H3:Hid (aZ d l t=false):=h3
   clear h3
   go_enter func201,ntmps201
   go_wp2_with (first
    | (go_at_call 199;refine (sJ w1 _ _ _ _ _ H1.out hM1 _ hSr).mono ?_;rintro e w2 ⟨rfl,hS2⟩)
    | (go_at_call 159;refine (pW _ _ _ (by have h:=H5.out;rw [h4] at h;exact h) _).mono ?_;rintro e w' ⟨rfl,hw3⟩;have hS3:Since w1 w':=(by rw [hw3];exact Since.alloc hS2 _);obtain ⟨g0,g1,g2⟩:=RF.out _ hS3;clear hw3)
    | (go_at_call 200;refine (IZ w1 x d _ _ _ l _ H3.out hW1 hM1 _ (by assumption)).mono ?_;rintro e w' ⟨rfl,hS4⟩))
   exact ⟨rfl,by rw [HF.out];rfl,hS1.trans (by assumption)⟩
  have H3:Hid (aZ d l t=true):=h3
  clear h3
  go_enter func201,ntmps201
  go_wp2_with (first
   | (go_at_call 199;refine (sJ w1 _ _ _ _ _ H1.out hM1 _ hSr).mono ?_;rintro e w2 ⟨rfl,hS2⟩)
   | (go_at_call 159;refine (pW _ _ _ (by have h:=H5.out;rw [h4] at h;exact h) _).mono ?_;rintro e w' ⟨rfl,hw3⟩;have hS3:Since w1 w':=(by rw [hw3];exact Since.alloc hS2 _);obtain ⟨g0,g1,g2⟩:=RF.out _ hS3;clear hw3)
   | (go_at_call 200;refine (IY w1 x d _ _ _ l _ H3.out hW1 hM1 _ (by assumption)).mono ?_;rintro e w' ⟨rfl,hS4⟩))
  clear hw1
  go_loopw [10,30] (fun _ i wr=>(∃ k:Nat,k<=l.length/\i=.int .i64 k/\(l.take k).all (fun m=>decide (m.fr=f))=true)/\Since w1 wr) (fun _ i _=>l.length - (intOf i).toNat)
  case atStart=>exact ⟨⟨0,Nat.zero_le _,rfl,rfl⟩,by assumption⟩
  case round =>
   obtain ⟨⟨k,hk,rfl,hn⟩,hS⟩:=hrel
   have HN:Hid ((l.take k).all (fun m=>decide (m.fr=f))=true):=hn
   clear hn
   by_cases hlt:k < l.length
   ·obtain ⟨b,off,rfl,hb,hcell⟩:=hc (by omega)
    obtain ⟨m,hm⟩:∃ m,l[k]? = some m:=⟨_,zQ1 hlt⟩
    have hS0:=hS1.trans hS
    obtain ⟨d0,d1,d2,d3,d4⟩:=bJ (w:=wr) (fun i u hi=>(hS0.cellAt hb _).trans (hcell i u hi)) k m hm
    have HM:Hid (l[k]? = some m):=hm
    obtain ⟨w2,hw2⟩:∃ w2,wr.alloc (.cells #[.int .i64 m.fr,.int .i64 m.gr,.int .i64 m.st,.bool m.nul,.string m.body] 42)=w2:=⟨_,rfl⟩
    have hS2:=au hw2
    have q0:w2.cell? ⟨wr.heap.size,0,none⟩=some (.int .i64 m.fr):=by rw [<-hw2];simp [go_sem]
    clear hm hcell hc
    have HD:Hid (decide (m.fr=f)=(m.fr == (f:Int))):=by unfold Hid;rw [Bool.eq_iff_iff];simp
    cases hv:decide (m.fr=(f:Int))
    ·have HF:Hid (aN d f t l=false):=by
      unfold Hid aN jV;rw [l9 HM.out hv];simp
     have H6:Hid ((m.fr == (f:Int))=false):=by unfold Hid;rw [<-HD.out];exact hv
     clear hv
     go_wp2_with (first
      | (go_at_call 159;refine (iw _ _ H6.out _).mono ?_;rintro e w' ⟨rfl,rfl⟩))
     exact ⟨rfl,by rw [HF.out];rfl,hS0.trans (Since.alloc (by assumption) _)⟩
    ·have HF:Hid ((l.take (k+1)).all (fun m=>decide (m.fr=f))=true):=ji HM.out HN.out hv
     have H6:Hid ((m.fr == (f:Int))=true):=by unfold Hid;rw [<-HD.out];exact hv
     clear hv
     go_wp2_with (first
      | (go_at_call 159;refine (fU _ _ H6.out _).mono ?_;rintro e w' ⟨rfl,rfl⟩))
     go_roundw
     case rel=>exact ⟨⟨k+1,by omega,by go_num,HF.out⟩,hS.trans (Since.alloc (by assumption) _)⟩
     case measure=>simp [intOf];omega
   ·have HO:Hid (aN d f t l=true):=by
     have:=HN.out
     rw [List.take_of_length_le (by omega)] at this
     unfold Hid aN jV;rw [this,H1.out,H2.out,H3.out];rfl
    clear hc
    go_wp2
    go_end0
    exact ⟨by rw [HO.out];rfl,hS1.trans hS⟩
def qC (d:Wd) (f:Nat) (row:List (List Mg)):Bool:=decide (row.length=d.nodes.length) && (List.range row.length).all fun t=>aN d f t (row[t]?.getD [])
def eG (d:Wd):Bool:=decide (d.wires.length=d.nodes.length) && (List.range d.wires.length).all fun f=>qC d f (d.wires[f]?.getD [])
theorem Pe (w0:World) (x:WV) (d:Wd) (f t:Nat) (a:Option Addr) (cap:Nat) (l:List Mg) (hv:aN d f t l=true) (hW:WAt w0 x d) (hM:dI w0 a l.length l) (w:World) (h:Since w0 w) :
  Calls prog 201 #[.agg #[.slice x.ga x.gl x.gc,.slice x.na x.nl x.nc,.slice x.wa x.wl x.wc],.int .i64 f,.int .i64 t,.slice a l.length cap] w fun e w'=>e=.returned (.tuple #[])/\Since w0 w' :=
 (En x d f t a cap l w (hW.since h) (hM.since h)).mono fun _ _ ⟨he,hw⟩=>⟨by rw [he,hv];rfl,h.trans hw⟩
theorem Pf (w0:World) (x:WV) (d:Wd) (f t:Nat) (a:Option Addr) (cap:Nat) (l:List Mg) (hv:aN d f t l=false) (hW:WAt w0 x d) (hM:dI w0 a l.length l) (w:World) (h:Since w0 w) :
  Calls prog 201 #[.agg #[.slice x.ga x.gl x.gc,.slice x.na x.nl x.nc,.slice x.wa x.wl x.wc],.int .i64 f,.int .i64 t,.slice a l.length cap] w fun e w'=>e=.panicked (pan 1)/\Since w0 w' :=
 (En x d f t a cap l w (hW.since h) (hM.since h)).mono fun _ _ ⟨he,hw⟩=>⟨by rw [he,hv];rfl,h.trans hw⟩
theorem eq_len (a b:Nat):((a:Int) == (b:Int))=decide (a=b):=by rw [Bool.eq_iff_iff];simp;omega
set_option maxRecDepth 4000 in
theorem BI (x:WV) (d:Wd) (w:World) (hW:WAt w x d) :
  Calls prog 162 #[.agg #[.slice x.ga x.gl x.gc,.slice x.na x.nl x.nc,.slice x.wa x.wl x.wc]] w fun e w'=>e=vH 1 (eG d)/\Since w w':=by
 obtain ⟨ga,gl,gc,na,nl,nc,wa,wl,wc⟩:=x
 have hwl:=hW.r.hlen
 have hwm:=hW.r.hmax
 have hnl:=hW.n.hlen
 have hnm:=hW.n.hmax
 dsimp only at hwl hwm hnl hnm ⊢
 subst hwl hnl
 obtain ⟨w1,hw1⟩:∃ w1,w.alloc (.cells #[.slice ga gl gc,.slice na d.nodes.length nc,.slice wa d.wires.length wc] 111)=w1:=⟨_,rfl⟩
 have hS1:=au hw1
 have hsz:w.heap.size < w1.heap.size:=by rw [<-hw1];simp
 have b0:w1.cell? ⟨w.heap.size,0,none⟩=some (.slice ga gl gc):=by rw [<-hw1];simp [go_sem]
 have b1:w1.cell? ⟨w.heap.size,1,none⟩=some (.slice na d.nodes.length nc):=by rw [<-hw1];simp [go_sem]
 have b2:w1.cell? ⟨w.heap.size,2,none⟩=some (.slice wa d.wires.length wc):=by rw [<-hw1];simp [go_sem]
 have hW1:=hW.since hS1
 have hR1:=hW1.r
 have RF:Hid (∀ y,Since w1 y->y.cell? ⟨w.heap.size,0,none⟩=some (.slice ga gl gc)/\y.cell? ⟨w.heap.size,1,none⟩=some (.slice na d.nodes.length nc)/\y.cell? ⟨w.heap.size,2,none⟩=some (.slice wa d.wires.length wc)):=fun y hy =>
  ⟨(hy.cellAt (by omega) _).trans b0,(hy.cellAt (by omega) _).trans b1,(hy.cellAt (by omega) _).trans b2⟩
 cases h1:((d.wires.length:Int) == (d.nodes.length:Int))
 ·have HF:Hid (eG d=false):=by unfold Hid eG;rw [<-eq_len,h1];rfl
  go_enter func162,ntmps162
  go_wp2_with (go_at_call 159;refine (iw _ _ (by first | exact h1 | rfl) _).mono ?_;rintro e w' ⟨rfl,rfl⟩)
  exact ⟨rfl,by rw [HF.out];rfl,hS1.alloc _⟩
 have H1:Hid (((d.wires.length:Int) == (d.nodes.length:Int))=true):=h1
 clear h1
 go_enter func162,ntmps162
 go_wp2_with (go_at_call 159;refine (fU _ _ (by exact H1.out) _).mono ?_;rintro e w' ⟨rfl,hw3⟩;have hS3:Since w1 w':=(by rw [hw3];exact Since.alloc (Since.refl _) _);obtain ⟨g0,g1,g2⟩:=RF.out _ hS3;clear hw3)
 clear hw1
 go_loopw [21] (fun i wr=>(∃ k:Nat,k<=d.wires.length/\i=.int .i64 k/\(List.range k).all (fun f=>qC d f (d.wires[f]?.getD []))=true)/\Since w1 wr) (fun i _=>d.wires.length - (intOf i).toNat)
 case atStart=>exact ⟨⟨0,Nat.zero_le _,rfl,rfl⟩,by assumption⟩
 case round =>
  obtain ⟨⟨k,hk,rfl,hn⟩,hS⟩:=hrel
  have HN:Hid ((List.range k).all (fun f=>qC d f (d.wires[f]?.getD []))=true):=hn
  clear hn
  obtain ⟨f0,f1,f2⟩:=RF.out _ hS
  by_cases hlt:k < d.wires.length
  ·obtain ⟨row,hrow⟩:∃ row,d.wires[k]? = some row:=⟨_,zQ1 hlt⟩
   obtain ⟨bL,oL,rfl,hbL,hcL⟩:=hR1.cells (by omega)
   obtain ⟨v4,k4,ra,rc,rfl,hrc,hR⟩:=hcL k row hrow
   have hRm:=hR.hmax
   have k5:wr.cell? ⟨bL,oL+k,none⟩=_:=(hS.cellAt hbL _).trans k4
   have lF:Hid (d.wires[k]? = some row):=hrow
   have HFR:Hid (qC d k row=false->eG d=false):=by
    intro h
    unfold eG
    rw [mH (p:=fun f=>qC d f (d.wires[f]?.getD [])) hlt (by rw [lF.out];exact h)]
    simp
   clear hcL hrow k4
   cases c3:((row.length:Int) == (d.nodes.length:Int))
   ·have HF:Hid (eG d=false):=HFR.out (by unfold qC;rw [<-eq_len,c3];rfl)
    go_wp2_with (go_at_call 159;refine (iw _ _ (by first | exact c3 | rfl) _).mono ?_;rintro e w' ⟨rfl,rfl⟩)
    exact ⟨rfl,by rw [HF.out];rfl,hS1.trans (hS.alloc _)⟩
   have C3:Hid (((row.length:Int) == (d.nodes.length:Int))=true):=c3
   have HFC:Hid (∀ j v,row[j]? = some v->aN d k j v=false->eG d=false):=by
    intro j v hv h
    refine HFR.out ?_
    unfold qC
    rw [mH (p:=fun t=>aN d k t (row[t]?.getD [])) (zQ2.1 hv).1 (by rw [hv];exact h)]
    simp
   clear c3 HFR
   go_wp2_with (go_at_call 159;refine (fU _ _ (by exact C3.out) _).mono ?_;rintro e w' ⟨rfl,hw3⟩;have hS4:Since w1 w':=(by rw [hw3];exact Since.alloc hS _);obtain ⟨e0,e1,e2⟩:=RF.out _ hS4;clear hw3)
   go_loopw [37] (fun i wr=>(∃ j:Nat,j<=row.length/\i=.int .i64 j/\(List.range j).all (fun t=>aN d k t (row[t]?.getD []))=true)/\Since w1 wr) (fun i _=>row.length - (intOf i).toNat)
   case atStart=>exact ⟨⟨0,Nat.zero_le _,rfl,rfl⟩,by assumption⟩
   case round =>
    obtain ⟨⟨j,hj,rfl,hnj⟩,hSj⟩:=hrel
    have HNJ:Hid ((List.range j).all (fun t=>aN d k t (row[t]?.getD []))=true):=hnj
    clear hnj
    obtain ⟨e0,e1,e2⟩:=RF.out _ hSj
    by_cases hjl:j < row.length
    ·obtain ⟨l,hl⟩:∃ l,row[j]? = some l:=⟨_,zQ1 hjl⟩
     obtain ⟨bR,oR,rfl,hbR,hcR⟩:=hR.cells (by omega)
     obtain ⟨v6,k6,la,lc,rfl,hlc,hM⟩:=hcR j l hl
     have k7:wr.cell? ⟨bR,oR+j,none⟩=_:=(hSj.cellAt hbR _).trans k6
     have HL:Hid (row[j]? = some l):=hl
     clear hcR hl k6
     cases h8:aN d k j l
     ·have HF:Hid (eG d=false):=HFC.out j l HL.out h8
      have H8:Hid (aN d k j l=false):=h8
      clear h8
      go_wp2_with (go_at_call 201;refine (Pf w1 ⟨ga,gl,gc,na,d.nodes.length,nc,_,d.wires.length,wc⟩ d k j _ _ l H8.out hW1 hM _ hSj).mono ?_;rintro e w' ⟨rfl,hS9⟩)
      exact ⟨rfl,by rw [HF.out];rfl,hS1.trans (by assumption)⟩
     ·have H8:Hid (aN d k j l=true):=h8
      clear h8
      go_wp2_with (go_at_call 201;refine (Pe w1 ⟨ga,gl,gc,na,d.nodes.length,nc,_,d.wires.length,wc⟩ d k j _ _ l H8.out hW1 hM _ hSj).mono ?_;rintro e w' ⟨rfl,hS9⟩)
      go_roundw
      case rel=>exact ⟨⟨j+1,by omega,by go_num,jy HNJ.out (by rw [HL.out];exact H8.out)⟩,by assumption⟩
      case measure=>simp [intOf];omega
    ·have HR:Hid (qC d k row=true):=by
      have:=HNJ.out
      rw [show j=row.length from by omega] at this
      unfold Hid qC;rw [this,<-eq_len,C3.out];rfl
     go_wp2_with fail
     go_roundw
     case rel=>exact ⟨⟨k+1,by omega,by go_num,jy HN.out (by rw [lF.out];exact HR.out)⟩,hSj⟩
     case measure=>simp [intOf];omega
  ·have HF:Hid (eG d=true):=by
    have:=HN.out
    rw [show k=d.wires.length from by omega] at this
    unfold Hid eG;rw [this,<-eq_len,H1.out];rfl
   go_wp2
   go_end0
   exact ⟨by rw [HF.out];rfl,hS1.trans hS⟩
attribute [local go_sem] Oper.semAt_some
def pairs (G N:Nat):List (Nat × Nat):=(List.range G).flatMap fun g=>(List.range N).map fun k=>(g,k)
theorem zf (G N:Nat):pairs (G+1) N=pairs G N++(List.range N).map fun k=>(G,k):=by
 simp [pairs,List.range_succ,List.flatMap_append]
theorem j6 (G N:Nat):(pairs G N).length=G*N:=by
 induction G with
 | zero=>simp [pairs]
 | succ G ih=>rw [zf,List.length_append,ih];simp [Nat.succ_mul]
theorem kH {G N g k:Nat} (hg:g < G) (hk:k < N):(pairs G N)[g*N+k]? = some (g,k):=by
 induction G with
 | zero=>omega
 | succ G ih =>
  rw [zf]
  by_cases h:g < G
  ·rw [List.getElem?_append_left (by rw [j6];have:=Nat.mul_le_mul_right N (show g+1<=G from h);rw [Nat.succ_mul] at this;omega)]
   exact ih h
  ·obtain rfl:g=G:=by omega
   rw [List.getElem?_append_right (by rw [j6];omega),j6]
   simp [hk]
theorem Bz {G N i g k:Nat} (h:(pairs G N)[i]? = some (g,k)):g < G/\k < N:=by
 have:=List.mem_of_getElem? h
 simp only [pairs,List.mem_flatMap,List.mem_map,List.mem_range,Prod.mk.injEq] at this
 obtain ⟨g',hg,k',hk,rfl,rfl⟩:=this
 exact ⟨hg,hk⟩
set_option maxRecDepth 100000 in
theorem JR (m:Nat) (Bj n0:Nat) (w:World) (hBj:Bj < n0) (hn0:n0<=w.heap.size) (ga:Option Addr) (gl gc:Nat) (na:Option Addr) (nl nc:Nat) (hgm:gl<=17592186043904) (hnm:nl<=17592186043904)
  (c0:w.cell? ⟨Bj,0,none⟩=some (.slice ga gl gc)) (c1:w.cell? ⟨Bj,1,none⟩=some (.slice na nl nc)) :
  JU prog m 241 #[.pointer (some ⟨Bj,0,none⟩)] (fun p:Nat × Nat=>#[.int .i64 (p.1:Int),.int .i64 (p.2:Int)]) (KX n0 none) (fun i p=>(pairs gl nl)[i]? = some p) (fun _=>False) (gl*nl) w:=by
 intro l J Jp W hW hJ _ hY h0
 have C:∀ W',Below n0 W W'->W'.cell? ⟨Bj,0,none⟩=some (.slice ga gl gc)/\W'.cell? ⟨Bj,1,none⟩=some (.slice na nl nc):=fun W' h =>
  ⟨(h.cell (p:=⟨Bj,0,none⟩) hBj).trans ((hW.below.cell (p:=⟨Bj,0,none⟩) (by show Bj < _;omega)).trans c0),(h.cell (p:=⟨Bj,1,none⟩) hBj).trans ((hW.below.cell (p:=⟨Bj,1,none⟩) (by show Bj < _;omega)).trans c1)⟩
 obtain ⟨d0,d1⟩:=C W (Below.refl _ _)
 refine callsIn_of_wp func241 rfl trivial ?_ rfl
 simp only [ntmps241,List.size_toArray,List.length_cons,List.length_nil,Nat.reduceAdd,Nat.reduceSub,Array.replicate_succ,Array.replicate_zero,List.push_toArray,List.append_toArray,List.nil_append,List.cons_append]
 gi_wp2
 gi_loopw [9] (fun i wr=>∃ g:Nat,g<=gl/\i=.int .i64 g/\J (g*nl) wr/\Below n0 W wr) (fun i _=>gl - (intOf i).toNat)
 case atStart=>exact ⟨0,Nat.zero_le _,rfl,by simpa using h0,Below.refl _ _⟩
 case round =>
  obtain ⟨g,hg,rfl,hJs,hB⟩:=hrel
  obtain ⟨f0,f1⟩:=C wr hB
  by_cases hlt:g < gl
  ·gi_wp2
   gi_loopw [16] (fun i wr=>∃ k:Nat,k<=nl/\i=.int .i64 k/\J (g*nl+k) wr/\Below n0 W wr) (fun i _=>nl - (intOf i).toNat)
   case atStart=>exact ⟨0,Nat.zero_le _,rfl,hJs,hB⟩
   case round =>
    obtain ⟨k,hk,rfl,hJk,hBk⟩:=hrel
    by_cases hkl:k < nl
    ·obtain ⟨fn,tmps,assign,body,hy,hR⟩:=hY _ (g,k) wr hJk (by have:=(zQ2.1 (kH hlt hkl)).1;rw [j6] at this;exact this) (kH hlt hkl)
     clear hY
     gi_wp2
     refine ⟨fun h=>(by cases h), ?_⟩
     refine hR.mono ?_
     rintro e W3 (⟨rfl,hJ3,hk3⟩ | ⟨ch,rfl,hp3⟩)
     ·gi_wp2
      go_roundw
      case rel=>exact ⟨k+1,by omega,by simp,hJ3,hBk.trans hk3.below⟩
      case measure=>simp [intOf];omega
     ·exact ⟨rfl,.inr ⟨ch,rfl,hp3⟩⟩
    ·obtain rfl:k=nl:=by omega
     gi_wp2
     go_roundw
     case rel=>exact ⟨g+1,by omega,by simp,by rw [Nat.succ_mul];exact hJk,hBk⟩
     case measure=>simp [intOf];omega
  ·obtain rfl:g=gl:=by omega
   gi_wp2
   go_end0
   exact .inl ⟨_,rfl,hJs⟩
end Go.Proofs.YtiiifecfdkjmbaaGreat
set_option maxHeartbeats 2000000
namespace Go.Proofs.YtiiifecfdkjmbaaGreat
open _root_.Go.Proofs.Tryz
set_option maxRecDepth 8000
open Go.RowKit Go.Shelf
attribute [local go_sem] Oper.semAt_some
theorem J6 (x:WV) (w:World) :
  Calls prog 221 #[.agg #[.slice x.ga x.gl x.gc,.slice x.na x.nl x.nc,.slice x.wa x.wl x.wc]] w fun e w'=>e=.returned (.func (.func 241) #[] #[.pointer (some ⟨w.heap.size,0,none⟩)])/\w'=w.alloc (.cells #[.slice x.ga x.gl x.gc,.slice x.na x.nl x.nc,.slice x.wa x.wl x.wc] 111):=by
 go_enter func221,ntmps221
 go_wp2
 go_ret
 exact ⟨rfl,rfl⟩
def I6 (d:Wd) (last:List (List Int)):Bool:=(List.range last.length).all fun g=>decide ((last[g]?.getD []).length=d.nodes.length)
def dU (last:List (List Int)) (g k:Nat):Int:=((last[g]?.getD [])[k]?).getD 0
theorem zn (d:Wd) (n:Nat) (last:List (List Int)) (hl:I6 d last=true) :
  d9 d n last=(pairs last.length d.nodes.length).all fun p=>eF d n p.1 p.2 (dU last p.1 p.2):=by
 have hlen:∀ g,g < last.length->(last[g]?.getD []).length=d.nodes.length:=by
  intro g hg
  unfold I6 at hl
  rw [List.all_eq_true] at hl
  simpa using hl g (by simpa using hg)
 rw [Bool.eq_iff_iff]
 unfold d9 lG dU
 simp only [List.all_eq_true,Bool.and_eq_true,decide_eq_true_eq,List.mem_range,pairs,List.mem_flatMap,List.mem_map]
 constructor
 ·rintro h p ⟨g,hg,k,hk,rfl⟩
  exact (h g hg).2 k (by rw [(h g hg).1];exact hk)
 ·intro h g hg
  refine ⟨hlen g hg,fun k hk=>h (g,k) ⟨g,hg,k, ?_,rfl⟩⟩
  rw [<-hlen g hg];exact hk
set_option maxRecDepth 4000 in
theorem EG (x:WV) (d:Wd) (n:Nat) (nd:Nd) (w:World) (hW:WAt w x d) (hn:d.nodes[n]? = some nd) :
  Calls prog 198 #[.agg #[.slice x.ga x.gl x.gc,.slice x.na x.nl x.nc,.slice x.wa x.wl x.wc],.int .i64 n] w fun e w'=>e=vH 1 (decide (nd.last.length=d.groups.length) && d9 d n nd.last)/\Since w w':=by
 have hnl:=(zQ2.1 hn).1
 obtain ⟨ga,gl,gc,na,nl,nc,wa,wl,wc⟩:=x
 have oz:=hW.n.hlen
 have hnm:=hW.n.hmax
 have hgl:=hW.g.hlen
 have hgm:=hW.g.hmax
 dsimp only at oz hnm hgl hgm ⊢
 subst oz hgl
 obtain ⟨bn,on,rfl,hbn,hcn⟩:=hW.n.cells (by dsimp only;omega)
 obtain ⟨k0,⟨v1,k1,la,lc,rfl,hlc,hL⟩,-,-⟩:=hcn n nd hn
 have hlm:=hL.hmax
 obtain ⟨w1,hw1⟩:∃ w1,((w.alloc (.cells #[.slice ga d.groups.length gc,.slice (some ⟨bn,on,none⟩) d.nodes.length nc,.slice wa wl wc] 111)).alloc (.cells #[.int .i64 n] 3)).alloc (.cells #[.slice la nd.last.length lc] 43)=w1:=⟨_,rfl⟩
 have hS1:Since w w1:=by rw [<-hw1];exact (((Since.refl w).alloc _).alloc _).alloc _
 have hsz:w.heap.size+2 < w1.heap.size:=by rw [<-hw1];simp
 have b0:w1.cell? ⟨w.heap.size,0,none⟩=some (.slice ga d.groups.length gc):=by rw [<-hw1];simp [go_sem]
 have b1:w1.cell? ⟨w.heap.size,1,none⟩=some (.slice (some ⟨bn,on,none⟩) d.nodes.length nc):=by rw [<-hw1];simp [go_sem]
 have b2:w1.cell? ⟨w.heap.size,2,none⟩=some (.slice wa wl wc):=by rw [<-hw1];simp [go_sem]
 have b3:w1.cell? ⟨w.heap.size+1,0,none⟩=some (.int .i64 n):=by rw [<-hw1];simp [go_sem]
 have b4:w1.cell? ⟨w.heap.size+2,0,none⟩=some (.slice la nd.last.length lc):=by rw [<-hw1];simp [go_sem]
 refine iF func198 rfl ?_
 simp only [ntmps198,List.size_toArray,List.length_cons,List.length_nil,Nat.reduceAdd,Nat.reduceSub,Array.replicate_succ,Array.replicate_zero,List.push_toArray,List.append_toArray,List.nil_append,List.cons_append]
 refine dK (bE ?_)
 go_wp2
 refine dK (bE ?_)
 go_wp2
 clear hw1 k0 k1 hcn
 have hG1:Ints w1 ga d.groups.length d.groups:=hW.g.since hS1
 have hL1:=hL.since kG hS1
 have RF:Hid (∀ y,Since w1 y->y.cell? ⟨w.heap.size,0,none⟩=some (.slice ga d.groups.length gc)/\y.cell? ⟨w.heap.size,1,none⟩=some (.slice (some ⟨bn,on,none⟩) d.nodes.length nc)/\y.cell? ⟨w.heap.size,2,none⟩=some (.slice wa wl wc)
   /\ y.cell? ⟨w.heap.size+1,0,none⟩=some (.int .i64 n)/\y.cell? ⟨w.heap.size+2,0,none⟩=some (.slice la nd.last.length lc)):=fun y hy =>
  ⟨(hy.cellAt (by omega) _).trans b0,(hy.cellAt (by omega) _).trans b1,(hy.cellAt (by omega) _).trans b2,(hy.cellAt (by omega) _).trans b3,(hy.cellAt (by omega) _).trans b4⟩
 cases h1:((nd.last.length:Int) == (d.groups.length:Int))
 ·have HF:Hid ((decide (nd.last.length=d.groups.length) && d9 d n nd.last)=false):=by unfold Hid;rw [<-eq_len,h1];rfl
  refine dK (bE ?_)
  go_wp2_with (go_at_call 159;refine (iw _ _ (by first | exact h1 | rfl) _).mono ?_;rintro e w' ⟨rfl,rfl⟩)
  exact ⟨by rw [HF.out];rfl,hS1.alloc _⟩
 have H1:Hid (((nd.last.length:Int) == (d.groups.length:Int))=true):=h1
 clear h1
 refine dK (bE ?_)
 go_wp2_with (go_at_call 159;refine (fU _ _ (by exact H1.out) _).mono ?_;rintro e w' ⟨rfl,hw3⟩;have hS3:Since w1 w':=(by rw [hw3];exact Since.alloc (Since.refl _) _);obtain ⟨g0,g1,g2,g3,g4⟩:=RF.out _ hS3;clear hw3)
 refine dK (bE ?_)
 go_wp2_with fail
 go_loopw [28] (fun i wr=>(∃ k:Nat,k<=nd.last.length/\i=.int .i64 k/\(List.range k).all (fun g=>decide ((nd.last[g]?.getD []).length=d.nodes.length))=true)/\Since w1 wr) (fun i _=>nd.last.length - (intOf i).toNat)
 case atStart=>exact ⟨⟨0,Nat.zero_le _,rfl,rfl⟩,by assumption⟩
 case round =>
  obtain ⟨⟨k,hk,rfl,hn⟩,hS⟩:=hrel
  have HN:Hid ((List.range k).all (fun g=>decide ((nd.last[g]?.getD []).length=d.nodes.length))=true):=hn
  clear hn
  obtain ⟨f0,f1,f2,f3,f4⟩:=RF.out _ hS
  by_cases hlt:k < nd.last.length
  ·obtain ⟨row,hrow⟩:∃ row,nd.last[k]? = some row:=⟨_,zQ1 hlt⟩
   obtain ⟨bL,oL,rfl,hbL,hcL⟩:=hL1.cells (by omega)
   obtain ⟨v4,k4,ra,rc,rfl,hrc,hR⟩:=hcL k row hrow
   have k5:wr.cell? ⟨bL,oL+k,none⟩=_:=(hS.cellAt hbL _).trans k4
   have lF:Hid (nd.last[k]? = some row):=hrow
   clear hcL hrow k4
   cases c3:((row.length:Int) == (d.nodes.length:Int))
   ·have HF:Hid ((decide (nd.last.length=d.groups.length) && d9 d n nd.last)=false):=by
     have e:d9 d n nd.last=false:=by
      unfold d9
      refine mH hlt ?_
      rw [lF.out];unfold lG;rw [Option.getD_some,<-eq_len,c3];rfl
     unfold Hid;rw [e];simp
    go_wp2_with (go_at_call 159;refine (iw _ _ (by first | exact c3 | rfl) _).mono ?_;rintro e w' ⟨rfl,rfl⟩)
    exact ⟨by rw [HF.out];rfl,hS1.trans (hS.alloc _)⟩
   have C3:Hid (((row.length:Int) == (d.nodes.length:Int))=true):=c3
   clear c3
   go_wp2_with (go_at_call 159;refine (fU _ _ (by exact C3.out) _).mono ?_;rintro e w' ⟨rfl,rfl⟩)
   go_roundw
   case rel=>exact ⟨⟨k+1,by omega,by go_num,jy HN.out (by rw [lF.out,Option.getD_some,<-eq_len];exact C3.out)⟩,hS.alloc _⟩
   case measure=>simp [intOf];omega
  ·have HLE:Hid (I6 d nd.last=true):=by
    have:=HN.out
    rw [show k=nd.last.length from by omega] at this
    exact this
   clear HN
   go_wp2_with fail
   refine dK (bE ?_)
   go_wp2_with (go_at_call 221;refine (J6 ⟨ga,d.groups.length,gc,_,d.nodes.length,nc,wa,wl,wc⟩ _).mono ?_;rintro e w' ⟨rfl,rfl⟩)
   refine mO ?_
   obtain ⟨w5,hw5⟩:∃ w5,wr.alloc (.cells #[.slice ga d.groups.length gc,.slice (some ⟨bn,on,none⟩) d.nodes.length nc,.slice wa wl wc] 111)=w5:=⟨_,rfl⟩
   have hS5:Since w1 w5:=by rw [<-hw5];exact hS.alloc _
   have z0:w5.cell? ⟨wr.heap.size,0,none⟩=some (.slice ga d.groups.length gc):=by rw [<-hw5];simp [go_sem]
   have z1:w5.cell? ⟨wr.heap.size,1,none⟩=some (.slice (some ⟨bn,on,none⟩) d.nodes.length nc):=by rw [<-hw5];simp [go_sem]
   have hsz5:wr.heap.size < w5.heap.size:=by rw [<-hw5];simp
   rw [hw5]
   clear hw5
   refine wX (m:=1) func198 (gf:=241) (lb:=#[.pointer (some ⟨wr.heap.size,0,none⟩)]) rfl (enters_of func241 (by kernel_rfl) rfl) (Nat.le_refl _)
    (JR 1 wr.heap.size w5.heap.size w5 hsz5 (Nat.le_refl _) ga d.groups.length gc _ d.nodes.length nc hgm (by omega) z0 z1) (fun _=>rfl)
    (fun i W=>Since w1 W/\((pairs d.groups.length d.nodes.length).take i).all (fun p=>eF d n p.1 p.2 (dU nd.last p.1 p.2))=true)
    (fun ch W=>ch=pan 1/\Since w1 W/\d9 d n nd.last=false)
    (fun i A B hA hk=>⟨⟨hA.1.below.trans (hk.below.mono hS5.size)⟩,hA.2⟩) (fun _ _ _ _ h=>h.elim) ⟨hS5,rfl⟩ ?round ?done ?pan
   case done =>
    rintro D W hD ⟨hSW,hall⟩ hK
    have hS9:Since w1 (W.putObj D (.deferred none)):=⟨hSW.below.trans ((KX.put (X:=none) (.deferred none) hK rfl hD).below.mono hS5.size)⟩
    have HB:Hid ((decide (nd.last.length=d.groups.length) && d9 d n nd.last)=true):=by
     have hll:=H1.out
     rw [eq_len] at hll
     have hle:nd.last.length=d.groups.length:=by simpa using hll
     rw [List.take_of_length_le (by rw [j6];exact Nat.le_refl _)] at hall
     unfold Hid;rw [hll,zn d n nd.last HLE.out,hle];exact hall
    refine ⟨by simp,.inl ⟨_,_,rfl,run_takeDeferred hK, ?_⟩⟩
    exact ⟨_,results_none rfl _ _ _,by rw [HB.out];rfl,hS1.trans hS9⟩
   case pan =>
    rintro D ch W hD ⟨rfl,hSW,hF⟩ hK
    have hS9:Since w1 (W.putObj D (.deferred none)):=⟨hSW.below.trans ((KX.put (X:=none) (.deferred none) hK rfl hD).below.mono hS5.size)⟩
    refine ⟨by simp,.inl ⟨_,_,rfl,run_takeDeferred hK, ?_⟩⟩
    exact ⟨by rw [hF];simp [vH],hS1.trans hS9⟩
   case round =>
    rintro l i ⟨g,k⟩ W W' hsz' ⟨hSW,hall⟩ _ hx
    obtain ⟨hgl,hkl⟩:=Bz hx
    have hll:nd.last.length=d.groups.length:=by have:=H1.out;rw [eq_len] at this;simpa using this
    obtain ⟨row,hrow⟩:∃ row,nd.last[g]? = some row:=⟨_,zQ1 (by omega)⟩
    have hrl:row.length=d.nodes.length:=by
     have:=HLE.out
     unfold I6 at this
     rw [List.all_eq_true] at this
     have:=this g (by simp;omega)
     rw [hrow] at this
     simpa using this
    obtain ⟨v,hv⟩:∃ v,row[k]? = some v:=⟨_,zQ1 (by omega)⟩
    obtain ⟨bL,oL,rfl,hbL,hcL⟩:=hL1.cells (by omega)
    obtain ⟨v4,k4,ra,rc,rfl,hrc,hR⟩:=hcL g row hrow
    obtain ⟨bR,oR,rfl,hbR,hcR⟩:=hR.cells (by omega)
    have k5:W'.cell? ⟨bL,oL+g,none⟩=_:=(hSW.cellAt hbL _).trans k4
    have k6:W'.cell? ⟨bR,oR+k,none⟩=some (.int .i64 v):=(hSW.cellAt hbR _).trans (by have:=hcR k (by omega);rw [hv] at this;exact this)
    obtain ⟨e0,e1,e2,e3,e4⟩:=RF.out _ hSW
    have hIW:=hG1.since hSW
    have HLV:Hid (dU nd.last g k=v):=by unfold Hid dU;rw [hrow,Option.getD_some,hv];rfl
    have HX:Hid ((pairs d.groups.length d.nodes.length)[i]? = some (g,k)):=hx
    have HA:Hid (((pairs d.groups.length d.nodes.length).take i).all (fun p=>eF d n p.1 p.2 (dU nd.last p.1 p.2))=true):=hall
    have HLL:Hid (nd.last.length=d.groups.length):=hll
    have g1:(g:Int) < (nd.last.length:Int):=by omega
    have g2:(k:Int) < (row.length:Int):=by omega
    have HC:Hid (eF d n g k v=(inB v 0 1048576 && ((hasB d.groups g n && hasB d.groups g k) || (v == 0)))):=by
     unfold Hid eF vQ;congr 2
    clear hcL hcR hrow hv hall hx k4 hll
    gi_wp2
    refine ⟨trivial, ?_⟩
    have hok:∀ b,eF d n g k v=b->(b=true->((pairs d.groups.length d.nodes.length).take (i+1)).all (fun p=>eF d n p.1 p.2 (dU nd.last p.1 p.2))=true)/\(b=false->d9 d n nd.last=false):=by
     intro b hb
     refine ⟨fun h=>ji HX.out HA.out (by rw [HLV.out,hb];exact h),fun h=>?_⟩
     rw [zn d n nd.last HLE.out,HLL.out]
     exact l9 HX.out (by rw [HLV.out,hb];exact h)
    have HOK:Hid (∀ b,eF d n g k v=b->(b=true->((pairs d.groups.length d.nodes.length).take (i+1)).all (fun p=>eF d n p.1 p.2 (dU nd.last p.1 p.2))=true)/\(b=false->d9 d n nd.last=false)):=hok
    clear hok
    have HIW:Hid (Ints W' ga d.groups.length d.groups):=hIW
    cases h1:hasB d.groups g n
    all_goals cases h2:hasB d.groups g k
    all_goals cases h3:(v == 0)
    all_goals cases h4:inB v 0 1048576
    all_goals
     have HC1:=HC.out
     rw [h1,h2,h3,h4] at HC1
     have HC2:Hid (eF d n g k v=_):=HC1
     clear HC1
     have H2:Hid (hasB d.groups g k=_):=h2
     clear h2
     gi_wp2_with (first
      | (refine ⟨trivial,rfl, ?_⟩;gi_at_call 50;refine (xw (gQ _ _ _ d.groups _ _ _ HIW.out)).mono ?_;(first | rw [h1] | rw [H2.out]);rintro e w' ⟨rfl,hw⟩;obtain rfl:=hw.symm)
      | (refine ⟨trivial,rfl, ?_⟩;gi_at_call 197;refine (xw (nQ _ _)).mono ?_;rw [h4];rintro e w' ⟨rfl,hw⟩;obtain rfl:=hw.symm)
      | (refine ⟨trivial,rfl, ?_⟩;gi_at_call 159;refine (xw (pW _ _ _ (by first | rfl | (rw [h3];rfl)) _)).mono ?_;rintro e w' ⟨rfl,rfl⟩)
      | (refine ⟨trivial,rfl, ?_⟩;gi_at_call 159;refine (xw (pX _ _ _ (by first | rfl | (rw [h3];rfl)) _)).mono ?_;rintro e w' ⟨rfl,rfl⟩)
      | (refine ⟨trivial, ?_⟩;fail_if_success (refine ⟨rfl, ?_⟩)))
     first
     | exact ⟨NC.dD ((Since.refl W').alloc _),KX.dD ((Since.refl W').alloc _) hsz',hSW.alloc _,(HOK.out _ HC2.out).1 rfl⟩
     | exact ⟨rfl,NC.dD ((Since.refl W').alloc _),rfl,hSW.alloc _,(HOK.out _ HC2.out).2 rfl⟩
end Go.Proofs.YtiiifecfdkjmbaaGreat
namespace Go.Proofs.YtiiifecfdkjmbaaGreat
open _root_.Go.Proofs.Tryz
set_option maxRecDepth 8000
open Go.RowKit Go.Shelf
theorem Pq (w0:World) (x:WV) (d:Wd) (n:Nat) (nd:Nd) (hv:(decide (nd.last.length=d.groups.length) && d9 d n nd.last)=true) (hW:WAt w0 x d) (hn:d.nodes[n]? = some nd) (w:World) (h:Since w0 w) :
  Calls prog 198 #[.agg #[.slice x.ga x.gl x.gc,.slice x.na x.nl x.nc,.slice x.wa x.wl x.wc],.int .i64 n] w fun e w'=>e=.returned (.tuple #[])/\Since w0 w' :=
 (EG x d n nd w (hW.since h) hn).mono fun _ _ ⟨he,hw⟩=>⟨by rw [he,hv];rfl,h.trans hw⟩
theorem Pt (w0:World) (x:WV) (d:Wd) (n:Nat) (nd:Nd) (hv:(decide (nd.last.length=d.groups.length) && d9 d n nd.last)=false) (hW:WAt w0 x d) (hn:d.nodes[n]? = some nd) (w:World) (h:Since w0 w) :
  Calls prog 198 #[.agg #[.slice x.ga x.gl x.gc,.slice x.na x.nl x.nc,.slice x.wa x.wl x.wc],.int .i64 n] w fun e w'=>e=.panicked (pan 1)/\Since w0 w' :=
 (EG x d n nd w (hW.since h) hn).mono fun _ _ ⟨he,hw⟩=>⟨by rw [he,hv];rfl,h.trans hw⟩
def jk (d:Wd) (n:Nat) (l:List Mg):Bool:=aL l && (aZ d l n && gu l)
theorem EH (d:Wd) (n:Nat) (nd:Nd):aH d n nd=(inB nd.clock 0 1048576 && ((decide (nd.last.length=d.groups.length) && d9 d n nd.last) && [nd.held,nd.told].all (jk d n))):=by
 unfold aH mF iT jk
 simp only [List.all_cons,List.all_nil,Bool.and_true]
 cases inB nd.clock 0 1048576 <;> cases decide (nd.last.length=d.groups.length) <;> cases d9 d n nd.last <;> cases aL nd.held <;> cases aL nd.told <;> cases gu nd.held <;> cases gu nd.told <;> simp
set_option maxRecDepth 4000 in
theorem EI (x:WV) (d:Wd) (n:Nat) (nd:Nd) (w:World) (hW:WAt w x d) (hn:d.nodes[n]? = some nd) :
  Calls prog 161 #[.agg #[.slice x.ga x.gl x.gc,.slice x.na x.nl x.nc,.slice x.wa x.wl x.wc],.int .i64 n] w fun e w'=>e=vH 1 (aH d n nd)/\Since w w':=by
 have hnl:=(zQ2.1 hn).1
 obtain ⟨ga,gl,gc,na,nl,nc,wa,wl,wc⟩:=x
 have oz:=hW.n.hlen
 have hnm:=hW.n.hmax
 dsimp only at oz hnm ⊢
 subst oz
 obtain ⟨bn,on,rfl,hbn,hcn⟩:=hW.n.cells (by dsimp only;omega)
 obtain ⟨k0,⟨v1,k1,la,lc,rfl,hlc,hL⟩,⟨v2,k2,ha,hc,rfl,hhc,hH⟩,⟨v3,k3,ta,tc,rfl,htc,hT⟩⟩:=hcn n nd hn
 obtain ⟨w1,hw1⟩:∃ w1,(w.alloc (.cells #[.slice ga gl gc,.slice (some ⟨bn,on,none⟩) d.nodes.length nc,.slice wa wl wc] 111)).alloc (.cells #[.int .i64 nd.clock,.slice la nd.last.length lc,.slice ha nd.held.length hc,.slice ta nd.told.length tc] 45)=w1:=⟨_,rfl⟩
 have hS1:Since w w1:=by rw [<-hw1];exact ((Since.refl w).alloc _).alloc _
 have hsz:w.heap.size+1 < w1.heap.size:=by rw [<-hw1];simp
 have b0:w1.cell? ⟨w.heap.size,0,none⟩=some (.slice ga gl gc):=by rw [<-hw1];simp [go_sem]
 have b1:w1.cell? ⟨w.heap.size,1,none⟩=some (.slice (some ⟨bn,on,none⟩) d.nodes.length nc):=by rw [<-hw1];simp [go_sem]
 have b2:w1.cell? ⟨w.heap.size,2,none⟩=some (.slice wa wl wc):=by rw [<-hw1];simp [go_sem]
 have b3:w1.cell? ⟨w.heap.size+1,0,none⟩=some (.int .i64 nd.clock):=by rw [<-hw1];simp [go_sem]
 have b4:w1.cell? ⟨w.heap.size+1,2,none⟩=some (.slice ha nd.held.length hc):=by rw [<-hw1];simp [go_sem]
 have b5:w1.cell? ⟨w.heap.size+1,3,none⟩=some (.slice ta nd.told.length tc):=by rw [<-hw1];simp [go_sem]
 have hW1:=hW.since hS1
 have hH1:=hH.since hS1
 have hT1:=hT.since hS1
 have RF:Hid (∀ y,Since w1 y->y.cell? ⟨w.heap.size,0,none⟩=some (.slice ga gl gc)/\y.cell? ⟨w.heap.size,1,none⟩=some (.slice (some ⟨bn,on,none⟩) d.nodes.length nc)/\y.cell? ⟨w.heap.size,2,none⟩=some (.slice wa wl wc)
   /\ y.cell? ⟨w.heap.size+1,2,none⟩=some (.slice ha nd.held.length hc)/\y.cell? ⟨w.heap.size+1,3,none⟩=some (.slice ta nd.told.length tc)):=fun y hy =>
  ⟨(hy.cellAt (by omega) _).trans b0,(hy.cellAt (by omega) _).trans b1,(hy.cellAt (by omega) _).trans b2,(hy.cellAt (by omega) _).trans b4,(hy.cellAt (by omega) _).trans b5⟩
 have HE:Hid (aH d n nd=(inB nd.clock 0 1048576 && ((decide (nd.last.length=d.groups.length) && d9 d n nd.last) && [nd.held,nd.told].all (jk d n)))):=EH d n nd
 have HN:Hid (d.nodes[n]? = some nd):=hn
 have n1:(n:Int) < (d.nodes.length:Int):=by omega
 clear hcn hn hL hH hT
 cases h1:inB nd.clock 0 1048576
 ·have HF:Hid (aH d n nd=false):=by unfold Hid;rw [HE.out,h1];rfl
  go_enter func161,ntmps161
  go_wp2_with (first
   | (go_at_call 197;refine (nQ _ _).mono ?_;rw [h1];rintro e w' ⟨rfl,hw⟩;obtain rfl:=hw.symm)
   | (go_at_call 159;refine (iw _ _ rfl _).mono ?_;rintro e w' ⟨rfl,rfl⟩))
  exact ⟨rfl,by rw [HF.out];rfl,hS1.alloc _⟩
 cases h2:(decide (nd.last.length=d.groups.length) && d9 d n nd.last)
 ·have HF:Hid (aH d n nd=false):=by unfold Hid;rw [HE.out,h2];simp
  have H2:Hid ((decide (nd.last.length=d.groups.length) && d9 d n nd.last)=false):=h2
  clear h2
  go_enter func161,ntmps161
  go_wp2_with (first
   | (go_at_call 197;refine (nQ _ _).mono ?_;rw [h1];rintro e w' ⟨rfl,hw⟩;obtain rfl:=hw.symm)
   | (go_at_call 159;refine (fU _ _ rfl _).mono ?_;rintro e w' ⟨rfl,hw3⟩;have hS3:Since w1 w':=(by rw [hw3];exact Since.alloc (Since.refl _) _);obtain ⟨g0,g1,g2,g3,g4⟩:=RF.out _ hS3;clear hw3)
   | (go_at_call 198;refine (Pt w1 ⟨ga,gl,gc,_,d.nodes.length,nc,wa,wl,wc⟩ d n nd H2.out hW1 HN.out _ (by assumption)).mono ?_;rintro e w' ⟨rfl,hS4⟩))
  exact ⟨rfl,by rw [HF.out];rfl,hS1.trans (by assumption)⟩
 have H2:Hid ((decide (nd.last.length=d.groups.length) && d9 d n nd.last)=true):=h2
 clear h2
 go_enter func161,ntmps161
 go_wp2_with (first
  | (go_at_call 197;refine (nQ _ _).mono ?_;rw [h1];rintro e w' ⟨rfl,hw⟩;obtain rfl:=hw.symm)
  | (go_at_call 159;refine (fU _ _ rfl _).mono ?_;rintro e w' ⟨rfl,hw3⟩;have hS3:Since w1 w':=(by rw [hw3];exact Since.alloc (Since.refl _) _);obtain ⟨g0,g1,g2,g3,g4⟩:=RF.out _ hS3;clear hw3)
  | (go_at_call 198;refine (Pq w1 ⟨ga,gl,gc,_,d.nodes.length,nc,wa,wl,wc⟩ d n nd H2.out hW1 HN.out _ (by assumption)).mono ?_;rintro e w4 ⟨rfl,hS4⟩;obtain ⟨q0,q1,q2,q3,q4⟩:=RF.out _ hS4))
 obtain ⟨w5,hw5⟩:∃ w5,w4.alloc (.cells #[.slice ha nd.held.length hc,.slice ta nd.told.length tc] 39)=w5:=⟨_,rfl⟩
 have hS5:Since w1 w5:=by rw [<-hw5];exact Since.alloc (by assumption) _
 have hsz5:w4.heap.size < w5.heap.size:=by rw [<-hw5];simp
 have z0:w5.cell? ⟨w4.heap.size,0,none⟩=some (.slice ha nd.held.length hc):=by rw [<-hw5];simp [go_sem]
 have z1:w5.cell? ⟨w4.heap.size,1,none⟩=some (.slice ta nd.told.length tc):=by rw [<-hw5];simp [go_sem]
 rw [hw5]
 clear hw5 hw1
 have HLS:Hid (∀ k:Nat,k < 2->∃ a l c,[nd.held,nd.told][k]? = some l/\w5.cell? ⟨w4.heap.size,0+k,none⟩=some (.slice a l.length c)/\dI w1 a l.length l):=by
  intro k hk
  match k,hk with
  | 0,_=>exact ⟨ha,nd.held,hc,rfl,z0,hH1⟩
  | 1,_=>exact ⟨ta,nd.told,tc,rfl,z1,hT1⟩
 go_loopw [29] (fun i wr=>(∃ k:Nat,k<=2/\i=.int .i64 k/\([nd.held,nd.told].take k).all (jk d n)=true)/\Since w5 wr) (fun i _=>2 - (intOf i).toNat)
 case atStart=>exact ⟨⟨0,Nat.zero_le _,rfl,rfl⟩,Since.refl _⟩
 case round =>
  obtain ⟨⟨k,hk,rfl,hnk⟩,hS⟩:=hrel
  have HNK:Hid (([nd.held,nd.told].take k).all (jk d n)=true):=hnk
  clear hnk
  have vG:=hS5.trans hS
  obtain ⟨f0,f1,f2,f3,f4⟩:=RF.out _ vG
  by_cases hlt:k < 2
  ·obtain ⟨a,l,c,hl,hcell,hM⟩:=HLS.out k hlt
   have hc9:wr.cell? ⟨w4.heap.size,0+k,none⟩=some (.slice a l.length c):=(hS.cellAt hsz5 _).trans hcell
   rw [Nat.zero_add] at hc9
   have HL:Hid ([nd.held,nd.told][k]? = some l):=hl
   have HFL:Hid (jk d n l=false->aH d n nd=false):=by
    intro h
    rw [HE.out,l9 HL.out h];simp
   clear hl hcell
   obtain ⟨_,hlm,hmc⟩:=id hM
   cases h3:aL l
   ·have HF:Hid (aH d n nd=false):=HFL.out (by unfold jk;rw [h3];rfl)
    have H3:Hid (aL l=false):=h3
    clear h3
    go_wp2_with (first
     | (go_at_call 199;refine (qN w1 _ _ _ _ _ H3.out hM _ vG).mono ?_;rintro e w6 ⟨rfl,hS6⟩)
     | (go_at_call 159;refine (iw _ _ rfl _).mono ?_;rintro e w' ⟨rfl,rfl⟩))
    exact ⟨rfl,by rw [HF.out];rfl,hS1.trans (Since.alloc (by assumption) _)⟩
   have H3:Hid (aL l=true):=h3
   clear h3
   cases h4:aZ d l n
   ·have HF:Hid (aH d n nd=false):=HFL.out (by unfold jk;rw [h4];simp)
    have H4:Hid (aZ d l n=false):=h4
    clear h4
    go_wp2_with (first
     | (go_at_call 199;refine (qN w1 _ _ _ _ _ H3.out hM _ vG).mono ?_;rintro e w6 ⟨rfl,hS6⟩)
     | (go_at_call 159;refine (fU _ _ rfl _).mono ?_;rintro e w' ⟨rfl,hw7⟩;have hS7:Since w1 w':=(by rw [hw7];exact Since.alloc hS6 _);obtain ⟨m0,m1,m2,m3,m4⟩:=RF.out _ hS7;clear hw7)
     | (go_at_call 200;refine (IZ w1 ⟨ga,gl,gc,_,d.nodes.length,nc,wa,wl,wc⟩ d _ _ _ l _ H4.out hW1 hM _ (by assumption)).mono ?_;rintro e w' ⟨rfl,hS8⟩))
    exact ⟨rfl,by rw [HF.out];rfl,hS1.trans (by assumption)⟩
   have H4:Hid (aZ d l n=true):=h4
   clear h4
   go_wp2_with (first
    | (go_at_call 199;refine (qN w5 _ _ _ _ _ H3.out (hM.since hS5) _ hS).mono ?_;rintro e w6 ⟨rfl,hS6⟩)
    | (go_at_call 159;refine (fU _ _ rfl _).mono ?_;rintro e w' ⟨rfl,hw7⟩;have hS7:Since w5 w':=(by rw [hw7];exact Since.alloc hS6 _);obtain ⟨m0,m1,m2,m3,m4⟩:=RF.out _ (hS5.trans hS7);clear hw7)
    | (go_at_call 200;refine (IY w5 ⟨ga,gl,gc,_,d.nodes.length,nc,wa,wl,wc⟩ d _ _ _ l _ H4.out (hW1.since hS5) (hM.since hS5) _ (by assumption)).mono ?_;rintro e w8 ⟨rfl,hS8⟩))
   go_loopw [43] (fun i wr=>(∃ j:Nat,j<=l.length/\i=.int .i64 j/\(l.take j).all (fun m=>!m.nul)=true)/\Since w5 wr) (fun i _=>l.length - (intOf i).toNat)
   case atStart=>exact ⟨⟨0,Nat.zero_le _,rfl,rfl⟩,by assumption⟩
   case round =>
    obtain ⟨⟨j,hj,rfl,hnj⟩,hSj⟩:=hrel
    have HNJ:Hid ((l.take j).all (fun m=>!m.nul)=true):=hnj
    clear hnj
    by_cases hjl:j < l.length
    ·obtain ⟨b,off,rfl,hb,hcell⟩:=hmc (by omega)
     obtain ⟨m,hm⟩:∃ m,l[j]? = some m:=⟨_,zQ1 hjl⟩
     have hS0:=hS5.trans hSj
     obtain ⟨d0,d1,d2,d3,d4⟩:=bJ (w:=wr) (fun i u hi=>(hS0.cellAt hb _).trans (hcell i u hi)) j m hm
     have HM:Hid (l[j]? = some m):=hm
     obtain ⟨w9,hw9⟩:∃ w9,wr.alloc (.cells #[.int .i64 m.fr,.int .i64 m.gr,.int .i64 m.st,.bool m.nul,.string m.body] 42)=w9:=⟨_,rfl⟩
     have hS9:Since w5 w9:=by rw [<-hw9];exact hSj.alloc _
     have y3:w9.cell? ⟨wr.heap.size,3,none⟩=some (.bool m.nul):=by rw [<-hw9];simp [go_sem]
     clear hm hcell hmc
     cases h6:!m.nul
     ·have HF:Hid (aH d n nd=false):=HFL.out (by
       have:gu l=false:=l9 HM.out h6
       unfold jk;rw [this];simp)
      go_wp2_with (go_at_call 159;refine (iw _ _ (by first | exact h6 | rfl) _).mono ?_;rintro e w' ⟨rfl,rfl⟩)
      exact ⟨rfl,by rw [HF.out];rfl,hS1.trans (hS5.trans (hS9.alloc _))⟩
     ·have HF:Hid ((l.take (j+1)).all (fun m=>!m.nul)=true):=ji HM.out HNJ.out h6
      go_wp2_with (go_at_call 159;refine (fU _ _ (by first | exact h6 | rfl) _).mono ?_;rintro e w' ⟨rfl,rfl⟩)
      go_roundw
      case rel=>exact ⟨⟨j+1,by omega,by go_num,HF.out⟩,hS9.alloc _⟩
      case measure=>simp [intOf];omega
    ·have HO:Hid (jk d n l=true):=by
      have:=HNJ.out
      rw [List.take_of_length_le (by omega)] at this
      have e:gu l=true:=this
      unfold Hid jk;rw [H3.out,H4.out,e];rfl
     clear hmc
     go_wp2_with fail
     go_roundw
     case rel=>exact ⟨⟨k+1,by omega,by go_num,ji HL.out HNK.out HO.out⟩,hSj⟩
     case measure=>simp [intOf];omega
  ·have HF:Hid (aH d n nd=true):=by
    have:=HNK.out
    rw [List.take_of_length_le (by simp;omega)] at this
    unfold Hid;rw [HE.out,h1,H2.out,this];rfl
   go_wp2
   go_end0
   exact ⟨by rw [HF.out];rfl,hS1.trans (hS5.trans hS)⟩
end Go.Proofs.YtiiifecfdkjmbaaGreat
