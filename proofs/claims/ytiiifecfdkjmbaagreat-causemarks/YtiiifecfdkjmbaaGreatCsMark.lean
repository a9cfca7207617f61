/- Lemmas. -/
import Derived.Test.YtiiifecfdkjmbaaGreatCsDo
import Derived.Test.YtiiifecfdkjmbaaGreatCsAttend
import Derived.Test.YtiiifecfdkjmbaaGreatCsMarks
import Derived.Test.YtiiifecfdkjmbaaGreatAOpen
set_option maxHeartbeats 2000000
namespace Go.Proofs.YtiiifecfdkjmbaaGreat
open _root_.Go.Proofs.Tryz hiding checked
set_option maxRecDepth 8000
open Go.RowKit Go.Shelf
open Pu
set_option linter.unusedVariables false
set_option linter.unusedSimpArgs false
attribute [local go_sem] Oper.semAt_some
def iL (nodes:Int) (l:List Int) (acts:List Ac):List Mg:=if dF nodes l=0/\acts.length<=80 then (scD nodes.toNat l acts).sent else []
def rD (nodes:Int) (l:List Int) (acts:List Ac):List (List Bool):=if dF nodes l=0/\acts.length<=80 then iU (scD nodes.toNat l acts) else []
def yL (nodes:Int) (l:List Int) (acts:List Ac):Int:=if dF nodes l=0 then (if acts.length<=80 then 0 else 2) else dF nodes l
theorem Kv (s:Sc):∀ (acts:List Ac),(fu acts).foldl bT s=acts.foldl bT s:=by
 intro acts
 induction acts generalizing s with
 | nil=>rfl
 | cons x r ih =>
  unfold fu at ih ⊢;rw [List.filter_cons,List.foldl_cons];by_cases h:(x.kind != 4)=true
  ·rw [if_pos h,List.foldl_cons];exact ih _
  ·rw [if_neg h];have h4:x.kind=4:=by simpa using h
   have e:bT s x=s:=by unfold bT;rw [if_pos h4]
   rw [e];exact ih _
theorem QK (s:Sc) (x:Ac):(bT s x).sent.length<=s.sent.length+1:=by
 unfold bT;split
 ·omega
 ·split
  ·omega
  ·split
   ·split
    ·show s.sent.length<=_;omega
    ·omega
   ·show (s.sent++[_]).length<=_;simp
theorem Dm (acts:List Ac):∀ s:Sc,(acts.foldl bT s).sent.length<=s.sent.length+acts.length:=by
 induction acts with
 | nil=>intro s;simp
 | cons x r ih=>intro s;rw [List.foldl_cons];have:=ih (bT s x);have:=QK s x;simp;omega
theorem JD (acts:List Ac):∀ s:Sc,jf s->jf (acts.foldl bT s):=by
 induction acts with
 | nil=>intro s h;exact h
 | cons x r ih=>intro s h;exact ih _ (wM x h)
theorem Cr (acts:List Ac):∀ s:Sc,jf s->(acts.foldl bT s).d.nodes.length=s.d.nodes.length:=by
 induction acts with
 | nil=>intro s h;rfl
 | cons x r ih =>
  intro s h;rw [List.foldl_cons,ih _ (wM x h)];by_cases h4:x.kind=4
  ·have e:bT s x=s:=by unfold bT;rw [if_pos h4]
   rw [e]
  ·cases hd:doD s.d x with
   | error e=>rw [Mr hd]
   | ok d' =>
    rcases Dj hd h4 with hk | hk | hk
    ·obtain ⟨n,_,_,hl,_,hs⟩:=zn h hd (.inl hk);rw [hs];exact hl
    ·obtain ⟨n,_,_,hl,_,hs⟩:=zn h hd (.inr hk);rw [hs];exact hl
    ·obtain ⟨f,t,m,rest,_,_,_,_,_,hl,_,_,hs⟩:=zG h hd hk;rw [hs];exact hl
theorem Hz {L h:List Ac} {x:Ac} (hn:JC (fu L) h x):¬ x.kind=4/\h.length < L.length/\h++[x]=(fu L).take (h.length+1):=by
 have hm:=List.mem_of_getElem? hn.1;unfold fu at hm;have h1:=(List.mem_filter.1 hm).2;have h2:=(zQ2.1 hn.1).1;have h3:(fu L).length<=L.length:=List.length_filter_le _ _;refine ⟨by simpa using h1,by omega, ?_⟩;rw [List.take_add_one,hn.1]
 conv=>lhs;rw [hn.2]
 rfl
theorem EU (nodes:Int) (a:Option Addr) (len cap:Nat) (l:List Int) (ac:Option Addr) (al iV:Nat) (w:World) (hI:Ints w a len l) (hE:¬ dF nodes l=0) :
  Calls prog 71 #[.int .i64 nodes,.slice a len cap,.slice ac al iV] w fun e w'=>e=.returned (.tuple #[.slice none 0 0,.slice none 0 0,.int .i64 (dF nodes l)])/\Since w w':=by
 have hB:=zH nodes a len cap l w hI hE;obtain ⟨er,her⟩:∃ y,dF nodes l=y:=⟨_,rfl⟩;rw [her] at hB hE ⊢;have hb:(er != 0)=true:=by simpa using hE
 clear hE her hI
 go_enter func71,ntmps71
 go_wp2_with fail
 refine hB.mono ?_;rintro e w2 hR2;obtain ⟨rfl,hS⟩:=hR2.out.1 er rfl;dsimp only
 go_wp2_with fail
 refine bodyPost_ret (v:=.tuple #[.slice none 0 0,.slice none 0 0,.int .i64 er]) ?_ rfl ⟨rfl,hS.alloc _⟩;simp [results,results71,go_sem]
theorem Ct (nodes:Nat) (a:Option Addr) (cap:Nat) (l:List Int) (ac:Option Addr) (al iV:Nat) (w:World) (hI:Ints w a l.length l) (hn:nodes<=4) (hl:l.length<=3) (hE:dF (nodes:Int) l=0) (hm:80 < al) :
  Calls prog 71 #[.int .i64 nodes,.slice a l.length cap,.slice ac al iV] w fun e w'=>e=.returned (.tuple #[.slice none 0 0,.slice none 0 0,.int .i64 2])/\Since w w':=by
 have hB:=uM nodes hn l hl a cap w hI hE;have hm1:decide (80 < (al:Int))=true:=by simp;omega
 clear hE hI
 go_enter func71,ntmps71
 go_wp2_with fail
 refine hB.mono ?_;rintro e w2 hR2;obtain ⟨v,rfl,hW2,dn⟩:=EW hR2;dsimp only
 go_wp2_with fail
 refine bodyPost_ret (v:=.tuple #[.slice none 0 0,.slice none 0 0,.int .i64 2]) ?_ rfl ⟨rfl,dn.alloc _⟩;simp [results,results71,go_sem]
theorem EX {W:World} {k o:Nat} {v:Value} (h:W.cell? ⟨k,o,none⟩=some v):k < W.heap.size:=by
 obtain ⟨ob,hb,_⟩:=vv h;exact (zQ3.1 hb).1
structure yM (lo base B:Nat) (w3:World) (p11:Nat) (s0:Sc) (ra0:Nat) (ps0:List Nat) (h:List Ac) (W:World):Prop where
 since:Since w3 W
 cell:W.cell? ⟨p11,0,none⟩=some (.pointer (some ⟨B,0,none⟩))
 raw:∃ x M,fT lo W B x (h.foldl bT s0).d M/\wL (h.foldl bT s0) M/\M.ps=ps0/\M.ra=ra0/\∀ b,M.sl.blk=some b->base<=b
theorem yM.km {lo base B:Nat} {w3:World} {p11:Nat} {s0:Sc} {ra0:Nat} {ps0:List Nat} {h:List Ac} {A W:World} (I:yM lo base B w3 p11 s0 ra0 ps0 h A) (k:KM base A W) (hb:w3.heap.size<=base) (hl:lo<=base):yM lo base B w3 p11 s0 ra0 ps0 h W:=by
 obtain ⟨x,M,hR,hrep,e1,e2,e3⟩:=I.raw;exact ⟨⟨I.since.below.trans (k.below.mono hb)⟩,k.cell I.cell,x,M,hR.km k hl,hrep,e1,e2,e3⟩
set_option maxRecDepth 8000 in
theorem OI (nodes:Nat) (a:Option Addr) (cap:Nat) (l:List Int) (ac:Option Addr) (iV:Nat) (acts:List Ac) (w:World) (hI:Ints w a l.length l) (hA:vk w ac acts.length acts) (hn:nodes<=4) (hl:l.length<=3) (hE:dF (nodes:Int) l=0) (hm:acts.length<=80) :
  Calls prog 71 #[.int .i64 nodes,.slice a l.length cap,.slice ac acts.length iV] w fun e w'=>∃ (sa:Option Addr) (sc:Nat) (sl:Sl) (rs:Nat->Sl),e=.returned (.tuple #[.slice sa (scD nodes l acts).sent.length sc,sl.v (scD nodes l acts).sent.length,.int .i64 0])/\fA w' sa (scD nodes l acts).sent.length (scD nodes l acts).sent/\bC 1 aW w.heap.size w' sl rs (iU (scD nodes l acts))/\Since w w':=by
 have hB:=uM nodes hn l hl a cap w hI hE;have hm1:decide (80 < (acts.length:Int))=false:=by simp;omega
 obtain ⟨s0,Mx⟩:∃ y,mZ nodes l=y:=⟨_,rfl⟩;have QL:Hid (jf s0):=by unfold Hid;rw [<-Mx];exact zI hE []
 have HD0:Hid (s0.d=dw nodes l):=by unfold Hid;rw [<-Mx];rfl
 have HS0:Hid (s0.sent=[]/\(∀ m y,s0.ahead m y=false)/\∀ k y,s0.past k y=false):=by unfold Hid;rw [<-Mx];exact ⟨rfl,fun _ _=>rfl,fun _ _=>rfl⟩
 have HSD:Hid (scD nodes l acts=(fu acts).foldl bT s0):=by unfold Hid;rw [Kv,<-Mx];rfl
 have hbn:(dw nodes l).nodes.length=nodes:=by simp [dw]
 have hlc:(fu acts).length<=80:=zQ5 (List.length_filter_le _ _) hm;obtain ⟨sF,hsF⟩:∃ y,scD nodes l acts=y:=⟨_,rfl⟩;have HSF:Hid ((fu acts).foldl bT s0=sF):=by unfold Hid;rw [<-HSD.out];exact hsF
 rw [hsF];have HBN:=(show Hid _ from hbn);have HLC:=(show Hid _ from hlc);have HM:=(show Hid _ from hm);clear hE hI Mx hsF HSD hbn hlc hm;refine lg func71 rfl ?_;simp only [ntmps71,List.size_toArray,List.length_cons,List.length_nil,Nat.reduceAdd,Nat.reduceSub,Array.replicate_succ,Array.replicate_zero,List.push_toArray,List.append_toArray,List.nil_append,List.cons_append];refine eG (cK ?_)
 go_wp2
 refine eG (cK ?_)
 go_wp2_with fail
 refine hB.mono ?_;rintro e w2 hR2;obtain ⟨v,rfl,hW2,dn⟩:=EW hR2;dsimp only;obtain ⟨w3,hw3⟩:∃ y,w2.alloc (.cells #[.slice v.ga v.gl v.gc,.slice v.na v.nl v.nc,.slice v.wa v.wl v.wc] 26)=y:=⟨_,rfl⟩;have EY:=ay hw3;have p0:w3.cell? ⟨w2.heap.size,0,none⟩=some (.slice v.ga v.gl v.gc):=by rw [<-hw3];simp [go_sem]
 have p1:w3.cell? ⟨w2.heap.size,1,none⟩=some (.slice v.na v.nl v.nc):=by rw [<-hw3];simp [go_sem]
 have p2:w3.cell? ⟨w2.heap.size,2,none⟩=some (.slice v.wa v.wl v.wc):=by rw [<-hw3];simp [go_sem]
 have hS3:=dn.trans EY;have hAt:=Hq v (dw nodes l) w3 (hW2.since EY) (by rw [HBN.out];omega);clear hB hR2 hW2
 go_wp2
 clear hw3;refine eG (cK ?_)
 go_wp2
 refine eG (cK ?_)
 go_wp2
 clear hm1;refine eG (cK ?_)
 go_wp2_with fail
 refine hAt.mono ?_;rintro e w4 ⟨B,M0,rfl,hR4,em0,em1,em2,em3,em4,j4⟩;dsimp only;obtain ⟨w5,hw5⟩:∃ y,w4.alloc (.cells #[.pointer (some ⟨B,0,none⟩)] 150)=y:=⟨_,rfl⟩;have Va:=ay hw5;have d11:w5.cell? ⟨w4.heap.size,0,none⟩=some (.pointer (some ⟨B,0,none⟩)):=by rw [<-hw5];simp [go_sem]
 have hl5:w4.heap.size < w5.heap.size:=by rw [<-hw5];simp
 have hCl:=Dk ac acts.length iV w5;obtain ⟨w6,hw6⟩:∃ y,w5.alloc (.cells #[.slice ac acts.length iV] 50)=y:=⟨_,rfl⟩;rw [hw6] at hCl;have wN:=ay hw6;have d12:w6.cell? ⟨w5.heap.size,0,none⟩=some (.slice ac acts.length iV):=by rw [<-hw6];simp [go_sem]
 have hl6:w5.heap.size < w6.heap.size:=by rw [<-hw6];simp
 have SC:=Va.trans wN;have OJ:=j4.trans SC;have hR6:=hR4.since SC
 have PN:wL s0 M0:=by
  refine ⟨by rw [em1,HS0.out.1],by rw [em2,HS0.out.1];rfl,fun m r hr=>(by rw [em2] at hr;exact absurd hr (by simp)),fun k p hp y=>?_⟩;rw [em4 p (List.mem_of_getElem? hp),HS0.out.2.2];simp
 have hblk:∀ i,SB B M0 i->i < w4.heap.size:=fun i hi=>(hR4.blk hi).2
 have hI0:yM w3.heap.size w6.heap.size B w3 w4.heap.size s0 M0.ra M0.ps [] w6:=by
  refine ⟨OJ,(wN.cellAt hl5 _).trans d11,v,M0, ?_,PN,rfl,rfl,fun b hb=>?_⟩
  ·show fT _ _ _ _ s0.d _;rw [HD0.out];exact hR6
  ·rw [em0] at hb;simp [Sl.blk] at hb
 have eg:∀ args w,(callFunc 176 args).run prog w=.ok (.enter 176 args) w:=enters_of func176 (by kernel_rfl) rfl;have h36:=OJ.size
 have hseq:Qy prog 1 176 #[.pointer (some ⟨w5.heap.size,0,none⟩)] (fun x:Ac=>#[acV x]) (KH w3.heap.size w5.heap.size w6.heap.size) (JC (fu acts)) (fun h=>h=fu acts) w6 :=
  Dl 1 w5.heap.size w3.heap.size w6.heap.size w6 h36 hl6 ac iV acts (fun W' hb=>hA.since (hS3.trans ⟨OJ.below.trans hb⟩)) d12
 have HLT:Hid (B < w4.heap.size/\M0.ra < w4.heap.size/\∀ p,p∈M0.ps->p < w4.heap.size):=⟨hblk B (.inl rfl),hblk _ (.inr (.inl rfl)),fun p hp=>hblk p (.inr (.inr (.inr (.inr (List.mem_append.2 (.inr hp))))))⟩;have HGE:Hid (w3.heap.size<=B/\w3.heap.size<=M0.ra/\∀ p,p∈M0.ps->w3.heap.size<=p):=⟨hR4.bl,hR4.ral,fun p hp=>(hR4.set p (List.mem_append.2 (.inr hp))).1⟩;have HPL:Hid (M0.ps.length=nodes):=by unfold Hid;rw [em3,HBN.out]
 have WX:w4.heap.size<=w5.heap.size:=by omega
 clear hAt hw6 d11 d12 hblk PN hR6 em0 em1 em2 em3 em4 p0 p1 p2 hR4
 go_wp2
 refine eG (eG (cK ?_))
 go_wp2_with fail
 refine hCl.mono ?_;rintro e w' ⟨rfl,hw⟩;obtain rfl:=hw.symm;dsimp only
 go_wp2
 clear hCl hw5;refine ug ?_
 refine G9 (m:=1) (n0:=w3.heap.size) (bj:=w5.heap.size) func71 (gf:=176) (lb:=#[.pointer (some ⟨w5.heap.size,0,none⟩)]) rfl eg h36 hl6 hseq (fun _=>rfl)
  (yM w3.heap.size w6.heap.size B w3 w4.heap.size s0 M0.ra M0.ps)
  (fun _ _=>False)
  (fun h A B hA hk=>hA.km hk h36 h36)
  hI0 ?round ?done ?pan
 case pan =>
  rintro D ch W hD h hK;exact h.elim
 case round =>
  rintro l h x W hsz hIW hx;obtain ⟨hk4,hlh,htk⟩:=Hz hx
  have hlen:(h.foldl bT s0).sent.length<=80:=by
   have h1:=Dm h s0;rw [HS0.out.1] at h1;have h2:=HM.out;simp at h1;omega
  have hinv:=JD h s0 QL.out;have OL:=Cr h s0 QL.out;rw [HD0.out,HBN.out] at OL;have PO:(h++[x]).foldl bT s0=bT (h.foldl bT s0) x:=by rw [List.foldl_append];rfl
  have HSN:=(show Hid _ from PO);obtain ⟨sh,hsh⟩:∃ y,h.foldl bT s0=y:=⟨_,rfl⟩;rw [hsh] at hlen hinv OL;have HSH:Hid (h.foldl bT s0=sh):=hsh;unfold acV
  gi_wp2
  obtain ⟨W1,hW1⟩:∃ y,W.alloc (.cells #[.int .i64 x.kind,.int .i64 x.one,.int .i64 x.two,.string x.body] 58)=y:=⟨_,rfl⟩;have QM:=ay hW1;have z0:W1.cell? ⟨W.heap.size,0,none⟩=some (.int .i64 x.kind):=by rw [<-hW1];simp [go_sem]
  have z1:W1.cell? ⟨W.heap.size,1,none⟩=some (.int .i64 x.one):=by rw [<-hW1];simp [go_sem]
  have z2:W1.cell? ⟨W.heap.size,2,none⟩=some (.int .i64 x.two):=by rw [<-hW1];simp [go_sem]
  have z3:W1.cell? ⟨W.heap.size,3,none⟩=some (.string x.body):=by rw [<-hW1];simp [go_sem]
  have hI1:yM w3.heap.size w6.heap.size B w3 w4.heap.size s0 M0.ra M0.ps h W1:=hIW.km (KM.dR QM hsz) h36 h36;rw [hW1];refine ⟨QM,fun W' hsz' hk=>?_⟩;have hI2:=hI1.km hk h36 h36;obtain ⟨xv,M,hR,hrep,ep,era,esl⟩:=hI2.raw;rw [hsh] at hR hrep;have hDo:=Mq w3.heap.size B xv sh M x W' hR hrep hinv hk4 (by unfold Hid;rw [ep,HPL.out,OL]) (by unfold Hid;rw [hrep.sent];omega);unfold acV at hDo;have f0:=hk.cell z0;have f1:=hk.cell z1;have f2:=hk.cell z2;have f3:=hk.cell z3;have k3:=hI2.cell
  have Dn:Hid (∀ (x':WV) (M':SM) (w':World),fT w3.heap.size w' B x' (bT sh x).d M'->wL (bT sh x) M'->M'.ps=M.ps->M'.ra=M.ra->(M'.sl=M.sl\/∃ b,M'.sl.blk=some b/\W'.heap.size<=b)->Fr (SW B M) W' w'->KH w3.heap.size w5.heap.size w6.heap.size W' w'/\yM w3.heap.size w6.heap.size B w3 w4.heap.size s0 M0.ra M0.ps (h++[x]) w'):=by
   intro x' M' w' g1 g2 g3 g4 g5 g6;obtain ⟨t1,t2,t3⟩:=HLT.out;obtain ⟨u1,u2,u3⟩:=HGE.out
   have hge:∀ i,SW B M i->w3.heap.size<=i:=fun i hi=>by
    rcases hi with hi | hi | hi | hi
    ·omega
    ·rw [era] at hi;omega
    ·have:=esl i hi;omega
    ·rw [ep] at hi;exact u3 i hi
   have hb5:¬ SW B M w5.heap.size:=fun hi=>by
    rcases hi with hi | hi | hi | hi
    ·omega
    ·rw [era] at hi;omega
    ·have:=esl _ hi;omega
    ·rw [ep] at hi;have:=t3 _ hi;omega
   have hb4:¬ SW B M w4.heap.size:=fun hi=>by
    rcases hi with hi | hi | hi | hi
    ·omega
    ·rw [era] at hi;omega
    ·have:=esl _ hi;omega
    ·rw [ep] at hi;have:=t3 _ hi;omega
   have hbel:Below w3.heap.size W' w':=⟨g6.os,g6.tape,g6.output,g6.size,fun i hi=>g6.block i (by omega) (fun hs=>by have:=hge i hs;omega)⟩;refine ⟨⟨⟨hbel,g6.block _ (by omega) hb5⟩,fun i o hi ho hc=>?_⟩,⟨hI2.since.below.trans hbel⟩,(World.cell?_of_block (a:=⟨w4.heap.size,0,none⟩) (g6.block _ (by show w4.heap.size < _;omega) hb4)).trans k3,x',M', ?_, ?_,g3.trans ep,g4.trans era,fun b hb=>?_⟩
   ·have hil:=(zQ3.1 ho).1;by_cases hs:M.sl.blk=some i
    ·obtain ⟨o',ho',hk'⟩:=lS hR.row (by decide) hs;rw [ho] at ho';obtain rfl:=Option.some.inj ho'
     obtain ⟨v',e',_⟩:∃ v':Unit,o.isCells=true/\True:=by
      obtain ⟨hc',_,_,off,e⟩:=hR.row.dJ hs;obtain ⟨b',o2,e2,_,_,hx2,_⟩:=hR.row.body hc';rw [e] at e2;cases e2;obtain ⟨v2,hv2⟩:=Option.isSome_iff_exists.1 (hx2 0 (Nat.mul_pos hc' (by decide))).1;unfold World.cell? at hv2;split at hv2
      ·rename_i hb2;have hb3:W'.heap[i]? = _:=hb2;rw [ho] at hb3;obtain rfl:=Option.some.inj hb3;exact ⟨(),rfl,trivial⟩
      ·cases hv2
     rw [e'] at hc;cases hc
    ·refine (g6.block i hil (fun hi'=>?_)).trans ho;rcases hi' with hi' | hi' | hi' | hi'
     ·omega
     ·rw [era] at hi';omega
     ·exact hs hi'
     ·rw [ep] at hi';have:=t3 _ hi';omega
   ·rw [HSN.out,HSH.out];exact g1
   ·rw [HSN.out,HSH.out];exact g2
   ·rcases g5 with g5 | ⟨b',e',hb'⟩
    ·rw [g5] at hb;exact esl b hb
    ·rw [hb] at e';have:=Option.some.inj e';omega
  obtain ⟨PP,hPP⟩:∃ PP:World->Prop,∀ B',PP B'↔(KH w3.heap.size w5.heap.size w6.heap.size W' B'/\yM w3.heap.size w6.heap.size B w3 w4.heap.size s0 M0.ra M0.ps (h++[x]) B'):=⟨_,fun _=>Iff.rfl⟩;refine wpIn_mono (Q:=Exit.then (fun _ B'=>PP B') (fun _ _ _=>False)) ?_ ?mono
  case mono =>
   intro e1 a1 W5 hp1
   match e1,hp1 with
   | .normal,hp=>exact (hPP W5).1 hp
  have HPP:=(show Hid _ from hPP);clear hPP hW1 z0 z1 z2 z3 hk hI2 hI1 hR hrep ep era esl hinv OL hlen PO hsh htk hx hIW QM hlh
  gi_wp2_with (refine ⟨trivial,rfl, ?_⟩;gi_at_call 132;refine (vw hDo).mono ?_;rintro e w' ⟨rfl,x',M',g1,g2,g3,g4,g5,g6⟩)
  exact (HPP.out _).2 (Dn.out x' M' w' g1 g2 g3 g4 g5 g6)
 case done =>
  rintro D h W hD rfl hIW hK;obtain ⟨xv,M,hR,hrep,ep,era,esl⟩:=hIW.raw;rw [HSF.out] at hR hrep
  have hsl:M.sent.length<=1000:=by
   have h1:=Dm (fu acts) s0;rw [HS0.out.1,HSF.out] at h1;have h2:=HLC.out;rw [hrep.sent];simp at h1;omega
  have HKN:Hid ((M.ks.map Prod.fst).Nodup):=Cm (by rw [<-HSF.out];exact JD _ s0 QL.out) hrep;have hlD:D < W.heap.size:=(zQ3.1 hK).1;have h11:=hIW.cell;have l11:w4.heap.size < W.heap.size:=EX h11;refine cK (Hg ?_)
  go_wp2_with fail
  obtain ⟨W0,hW0⟩:∃ y,W.drew=y:=⟨_,rfl⟩;have hs0:=aQ hW0;obtain ⟨S0,hS0⟩:∃ S0:World->Prop,∀ w',S0 w'↔Since W w':=⟨_,fun _=>Iff.rfl⟩;have c11:∀ y:ak S0,y.w.cell? ⟨w4.heap.size,0,none⟩=some (.pointer (some ⟨B,0,none⟩)):=fun y=>(((hS0 _).1 y.h).cellAt l11 _).trans h11;have c3:∀ y:ak S0,y.w.cell? ⟨B,3,none⟩=some (.slice M.sl.a M.sent.length M.sl.cap):=fun y=>(hR.since ((hS0 _).1 y.h)).c3;have au:=(hS0 W0).2 hs0;have hne:Nonempty (ak S0):=⟨⟨_,au⟩⟩;have dH:=aI w;have hMk:=Kw w3.heap.size B xv sF M W0 (hR.since hs0) hrep HKN hsl;unfold Sl.v at hMk
  have zF:Hid (∀ (sl:Sl) (rs:Nat->Sl) (w':World),bC 1 aW W0.heap.size w' sl rs (iU sF)->Since W0 w'->w'.heap[D]? = some (.deferred (some []))/\fA (w'.putObj D (.deferred none)) M.sl.a sF.sent.length sF.sent/\bC 1 aW w.heap.size (w'.putObj D (.deferred none)) sl rs (iU sF)/\Since w (w'.putObj D (.deferred none))):=by
   intro sl rs w' hO hS;have hK':=(hs0.trans hS).block hK
   have hno:∀ b o,w'.heap[b]? = some o->mI o=true->¬ b=D:=fun b o ho hk e=>by
    subst e;rw [hK'] at ho;obtain rfl:=Option.some.inj ho;cases hk
   have hrow:=((hR.since (hs0.trans hS)).row).fr (Fr.put w' D (.deferred none)) (fun b hb e=>by
    obtain ⟨o,ho,hk⟩:=lS (hR.since (hs0.trans hS)).row (by decide) hb;exact hno b o ho hk e)
   have h6:w.heap.size<=w6.heap.size:=(hS3.trans OJ).size;refine ⟨hK', ?_,(hO.fr (Fr.put w' D (.deferred none)) (fun b hb e=>?_)).mono (zQ5 (hS3.trans hIW.since).size hs0.size), ?_⟩
   ·have:=jv hrow hsl;rw [hrep.sent] at this;exact this
   ·rcases hb with hb | ⟨k,hkl,hb⟩
    ·obtain ⟨o,ho,hk⟩:=lS hO.top (by decide) hb;exact hno b o ho hk e
    ·obtain ⟨o,ho,hk⟩:=lS (hO.rows k _ (zQ1 hkl)) (by decide) hb;exact hno b o ho hk e
   ·exact (Fr.put w' D (.deferred none)).aC ((hS3.trans hIW.since).trans (hs0.trans hS)) (fun i hi e=>by omega)
  have hse:M.sent.length=sF.sent.length:=by rw [hrep.sent]
  rw [hse] at hMk c3;clear hR hrep ep era esl hsl hIW hK h11 hse HKN;refine aK (fun w'=>∃ x:ak S0,w'=x.w) (by kernel_rfl) ?_;rw [hW0];clear hW0;refine tM 0 rfl (aj au) ?_;go_big_quiet_op;refine tW 1 rfl ?_;go_big_quiet_op;refine tW 2 rfl ?_;go_big_quiet_op;refine tM 3 rfl (aj au) ?_;go_big_quiet_op;refine tM 4 rfl (aj au) ?_;go_big_quiet_op;refine aR 5 rfl (by kernel_rfl) ?_;intro K hK;go_simp;refine hMk.mono ?_;rintro e w' ⟨sl,rs,rfl,hO,hSm⟩;dsimp only;refine hK _ _ (fun _ _=>aj ((hS0 _).2 (hs0.trans hSm))) ?_;clear hK K;refine tW 6 rfl ?_;go_big_quiet_op;refine tW 7 rfl ?_;go_big_quiet_op;refine tW 8 rfl ?_;go_big_quiet_op;refine bH (by kernel_rfl) ?_;clear c11 c3 hne au hS0 hMk;obtain ⟨hK',g1,g2,g3⟩:=zF.out sl rs w' hO hSm
  go_wp2
  refine ⟨by simp,.inl ⟨_,_,rfl,run_takeDeferred hK', ?_⟩⟩
  first
   | exact ⟨_,results_tmp3 rfl _ _ _,M.sl.a,M.sl.cap,sl,rfl,g1,⟨rs,g2⟩,g3⟩
   | exact ⟨_,results_tmp3 rfl _ _ _,M.sl.a,M.sl.cap,sl,rs,rfl,g1,g2,g3⟩
theorem MC (nodes:Int) (a:Option Addr) (len cap:Nat) (l:List Int) (ac:Option Addr) (al iV:Nat) (acts:List Ac) (w:World) (hI:Ints w a len l) (hA:vk w ac al acts) :
  Calls prog 71 #[.int .i64 nodes,.slice a len cap,.slice ac al iV] w fun e w'=>∃ (sa:Option Addr) (sc:Nat) (sl:Sl) (rs:Nat->Sl),e=.returned (.tuple #[.slice sa (iL nodes l acts).length sc,sl.v (iL nodes l acts).length,.int .i64 (yL nodes l acts)])/\fA w' sa (iL nodes l acts).length (iL nodes l acts)/\bC 1 aW w.heap.size w' sl rs (rD nodes l acts)/\Since w w':=by
 have ha:=hA.hlen;subst ha;unfold iL rD yL;by_cases hE:dF nodes l=0
 ·obtain ⟨h1,h2,h3,h4⟩:=qj hE;obtain ⟨k,rfl⟩:∃ k:Nat,nodes=(k:Int):=⟨nodes.toNat,by omega⟩;have hl:=hI.hlen;subst hl;by_cases hm:acts.length<=80
  ·have hc:dF (k:Int) l=0/\acts.length<=80:=⟨hE,hm⟩;simp only [if_pos hc,if_pos hE,if_pos hm,Int.toNat_natCast];exact OI k a cap l ac iV acts w hI hA (by omega) h4 hE hm
  ·have hc:¬ (dF (k:Int) l=0/\acts.length<=80):=fun h=>hm h.2;simp only [if_neg hc,if_pos hE,if_neg hm];refine (Ct k a cap l ac acts.length iV w hI (by omega) h4 hE (by omega)).mono fun e w' h=>?_;exact ⟨none,0,⟨none,0⟩,fun _=>⟨none,0⟩,h.1,eY,bC.nil,h.2⟩
 ·have hc:¬ (dF nodes l=0/\acts.length<=80):=fun h=>hE h.1;simp only [if_neg hc,if_neg hE];refine (EU nodes a len cap l ac acts.length iV w hI hE).mono fun e w' h=>?_;exact ⟨none,0,⟨none,0⟩,fun _=>⟨none,0⟩,h.1,eY,bC.nil,h.2⟩
end Go.Proofs.YtiiifecfdkjmbaaGreat
