/- Lemmas. Lemmas. Lemmas. -/
import Derived.Test.YtiiifecfdkjmbaaGreatTCsDo
import Derived.Test.YtiiifecfdkjmbaaGreatTCsAttend
import Derived.Test.YtiiifecfdkjmbaaGreatTCsMarks
import Derived.Test.YtiiifecfdkjmbaaGreatTAOpen
set_option maxHeartbeats 2000000
namespace Go.Proofs.YtiiifecfdkjmbaaGreat
open _root_.Go.Proofs.Tryz hiding checked
set_option maxRecDepth 8000
open Go.RowKit Go.Shelf
open Pu
set_option linter.unusedVariables false
set_option linter.unusedSimpArgs false
attribute [local go_sem] Oper.semAt_some
def jF (nodes:Int) (l:List Int) (acts:List Ac):List Mg:=if bF nodes l=0/\acts.length<=80 then (scD nodes.toNat l acts).sent else []
def qB (nodes:Int) (l:List Int) (acts:List Ac):List (List Bool):=if bF nodes l=0/\acts.length<=80 then kG (scD nodes.toNat l acts) else []
def kW (nodes:Int) (l:List Int) (acts:List Ac):Int:=if bF nodes l=0 then (if acts.length<=80 then 0 else 2) else bF nodes l
theorem F9 (s:Sc):∀ (acts:List Ac),(bK acts).foldl bE s=acts.foldl bE s:=by
 intro acts
 induction acts generalizing s with
 | nil=>rfl
 | cons x r ih =>
  unfold bK at ih ⊢
  rw [List.filter_cons,List.foldl_cons]
  by_cases h:(x.kind != 4)=true
  ·rw [if_pos h,List.foldl_cons];exact ih _
  ·rw [if_neg h]
   have h4:x.kind=4:=by simpa using h
   have e:bE s x=s:=by unfold bE;rw [if_pos h4]
   rw [e];exact ih _
theorem Mt (s:Sc) (x:Ac):(bE s x).sent.length<=s.sent.length+1:=by
 unfold bE
 split
 ·omega
 ·split
  ·omega
  ·split
   ·split
    ·show s.sent.length<=_;omega
    ·omega
   ·show (s.sent++[_]).length<=_;simp
theorem Ar (acts:List Ac):∀ s:Sc,(acts.foldl bE s).sent.length<=s.sent.length+acts.length:=by
 induction acts with
 | nil=>intro s;simp
 | cons x r ih=>intro s;rw [List.foldl_cons];have:=ih (bE s x);have:=Mt s x;simp;omega
theorem EY (acts:List Ac):∀ s:Sc,jP s->jP (acts.foldl bE s):=by
 induction acts with
 | nil=>intro s h;exact h
 | cons x r ih=>intro s h;exact ih _ (Au x h)
theorem Ga (acts:List Ac):∀ s:Sc,jP s->(acts.foldl bE s).d.nodes.length=s.d.nodes.length:=by
 induction acts with
 | nil=>intro s h;rfl
 | cons x r ih =>
  intro s h
  rw [List.foldl_cons,ih _ (Au x h)]
  by_cases h4:x.kind=4
  ·have e:bE s x=s:=by unfold bE;rw [if_pos h4]
   rw [e]
  ·cases hd:doD s.d x with
   | error e=>rw [IG hd]
   | ok d' =>
    rcases EU hd h4 with hk | hk | hk
    ·obtain ⟨n,_,_,hl,_,hs⟩:=Am h hd (.inl hk);rw [hs];exact hl
    ·obtain ⟨n,_,_,hl,_,hs⟩:=Am h hd (.inr hk);rw [hs];exact hl
    ·obtain ⟨f,t,m,rest,_,_,_,_,_,hl,_,_,hs⟩:=BP h hd hk;rw [hs];exact hl
theorem D6 {L h:List Ac} {x:Ac} (hn:EX (bK L) h x):¬ x.kind=4/\h.length < L.length/\h++[x]=(bK L).take (h.length+1):=by
 have hm:=List.mem_of_getElem? hn.1
 unfold bK at hm
 have h1:=(List.mem_filter.1 hm).2
 have h2:=(zQ2.1 hn.1).1
 have h3:(bK L).length<=L.length:=List.length_filter_le _ _
 refine ⟨by simpa using h1,by omega, ?_⟩
 rw [List.take_add_one,hn.1]
 conv=>lhs;rw [hn.2]
 rfl
theorem BU (nodes:Int) (a:Option Addr) (len cap:Nat) (l:List Int) (ac:Option Addr) (al fM:Nat) (w:World) (hI:Ints w a len l) (hE:¬ bF nodes l=0) :
  Calls prog 71 #[.int .i64 nodes,.slice a len cap,.slice ac al fM] w fun e w'=>e=.returned (.tuple #[.slice none 0 0,.slice none 0 0,.int .i64 (bF nodes l)])/\Since w w':=by
 have hB:=oK nodes a len cap l w hI hE
 obtain ⟨er,her⟩:∃ y,bF nodes l=y:=⟨_,rfl⟩
 rw [her] at hB hE ⊢
 have hb:(er != 0)=true:=by simpa using hE
 clear hE her hI
 go_enter func71,ntmps71
 go_wp2_with fail
 refine hB.mono ?_
 rintro e w2 hR2
 obtain ⟨rfl,hS⟩:=hR2.out.1 er rfl
 dsimp only
 go_wp2_with fail
 refine bodyPost_ret (v:=.tuple #[.slice none 0 0,.slice none 0 0,.int .i64 er]) ?_ rfl ⟨rfl,hS.alloc _⟩
 simp [results,results71,go_sem]
theorem zy (nodes:Nat) (a:Option Addr) (cap:Nat) (l:List Int) (ac:Option Addr) (al fM:Nat) (w:World) (hI:Ints w a l.length l) (hn:nodes<=4) (hl:l.length<=3) (hE:bF (nodes:Int) l=0) (hm:80 < al) :
  Calls prog 71 #[.int .i64 nodes,.slice a l.length cap,.slice ac al fM] w fun e w'=>e=.returned (.tuple #[.slice none 0 0,.slice none 0 0,.int .i64 2])/\Since w w':=by
 have hB:=j4 nodes hn l hl a cap w hI hE
 have hm1:decide (80 < (al:Int))=true:=by simp;omega
 clear hE hI
 go_enter func71,ntmps71
 go_wp2_with fail
 refine hB.mono ?_
 rintro e w2 hR2
 obtain ⟨v,rfl,hW2,gJ⟩:=sM hR2
 dsimp only
 go_wp2_with fail
 refine bodyPost_ret (v:=.tuple #[.slice none 0 0,.slice none 0 0,.int .i64 2]) ?_ rfl ⟨rfl,gJ.alloc _⟩
 simp [results,results71,go_sem]
theorem BX {W:World} {k o:Nat} {v:Value} (h:W.cell? ⟨k,o,none⟩=some v):k < W.heap.size:=by
 obtain ⟨ob,hb,_⟩:=qV h
 exact (zQ3.1 hb).1
structure vg (lo base B:Nat) (w3:World) (p11:Nat) (s0:Sc) (ra0:Nat) (ps0:List Nat) (h:List Ac) (W:World):Prop where
 since:Since w3 W
 cell:W.cell? ⟨p11,0,none⟩=some (.pointer (some ⟨B,0,none⟩))
 raw:∃ x M,d9 lo W B x (h.foldl bE s0).d M/\sK (h.foldl bE s0) M/\M.ps=ps0/\M.ra=ra0/\∀ b,M.sl.blk=some b->base<=b
theorem vg.km {lo base B:Nat} {w3:World} {p11:Nat} {s0:Sc} {ra0:Nat} {ps0:List Nat} {h:List Ac} {A W:World} (I:vg lo base B w3 p11 s0 ra0 ps0 h A) (k:KM base A W) (hb:w3.heap.size<=base) (hl:lo<=base):vg lo base B w3 p11 s0 ra0 ps0 h W:=by
 obtain ⟨x,M,hR,hrep,e1,e2,e3⟩:=I.raw
 exact ⟨⟨I.since.below.trans (k.below.mono hb)⟩,k.cell I.cell,x,M,hR.km k hl,hrep,e1,e2,e3⟩
set_option maxRecDepth 8000 in
theorem Kn (nodes:Nat) (a:Option Addr) (cap:Nat) (l:List Int) (ac:Option Addr) (fM:Nat) (acts:List Ac) (w:World) (hI:Ints w a l.length l) (hA:mQ w ac acts.length acts) (hn:nodes<=4) (hl:l.length<=3) (hE:bF (nodes:Int) l=0) (hm:acts.length<=80) :
  Calls prog 71 #[.int .i64 nodes,.slice a l.length cap,.slice ac acts.length fM] w fun e w'=>∃ (sa:Option Addr) (sc:Nat) (sl:Sl) (rs:Nat->Sl),e=.returned (.tuple #[.slice sa (scD nodes l acts).sent.length sc,sl.v (scD nodes l acts).sent.length,.int .i64 0])/\eY w' sa (scD nodes l acts).sent.length (scD nodes l acts).sent/\cK 1 gq w.heap.size w' sl rs (kG (scD nodes l acts))/\Since w w':=by
 have hB:=j4 nodes hn l hl a cap w hI hE
 have hm1:decide (80 < (acts.length:Int))=false:=by simp;omega
 obtain ⟨s0,IL⟩:∃ y,nJ nodes l=y:=⟨_,rfl⟩
 have D7:Hid (jP s0):=by unfold Hid;rw [<-IL];exact IQ hE []
 have HD0:Hid (s0.d=bM nodes l):=by unfold Hid;rw [<-IL];rfl
 have HS0:Hid (s0.sent=[]/\(∀ m y,s0.ahead m y=false)/\∀ k y,s0.past k y=false):=by unfold Hid;rw [<-IL];exact ⟨rfl,fun _ _=>rfl,fun _ _=>rfl⟩
 have HSD:Hid (scD nodes l acts=(bK acts).foldl bE s0):=by unfold Hid;rw [F9,<-IL];rfl
 have hbn:(bM nodes l).nodes.length=nodes:=by simp [bM]
 have hlc:(bK acts).length<=80:=zQ5 (List.length_filter_le _ _) hm
 obtain ⟨sF,hsF⟩:∃ y,scD nodes l acts=y:=⟨_,rfl⟩
 have HSF:Hid ((bK acts).foldl bE s0=sF):=by unfold Hid;rw [<-HSD.out];exact hsF
 rw [hsF]
 have HBN:=(show Hid _ from hbn)
 have HLC:=(show Hid _ from hlc)
 have HM:=(show Hid _ from hm)
 clear hE hI IL hsF HSD hbn hlc hm
 refine jG func71 rfl ?_
 simp only [ntmps71,List.size_toArray,List.length_cons,List.length_nil,Nat.reduceAdd,Nat.reduceSub,Array.replicate_succ,Array.replicate_zero,List.push_toArray,List.append_toArray,List.nil_append,List.cons_append]
 refine dM (bC ?_)
 go_wp2
 refine dM (bC ?_)
 go_wp2_with fail
 refine hB.mono ?_
 rintro e w2 hR2
 obtain ⟨v,rfl,hW2,gJ⟩:=sM hR2
 dsimp only
 obtain ⟨w3,hw3⟩:∃ y,w2.alloc (.cells #[.slice v.ga v.gl v.gc,.slice v.na v.nl v.nc,.slice v.wa v.wl v.wc] 26)=y:=⟨_,rfl⟩
 have BZ:=ay hw3
 have p0:w3.cell? ⟨w2.heap.size,0,none⟩=some (.slice v.ga v.gl v.gc):=by rw [<-hw3];simp [go_sem]
 have p1:w3.cell? ⟨w2.heap.size,1,none⟩=some (.slice v.na v.nl v.nc):=by rw [<-hw3];simp [go_sem]
 have p2:w3.cell? ⟨w2.heap.size,2,none⟩=some (.slice v.wa v.wl v.wc):=by rw [<-hw3];simp [go_sem]
 have hS3:=gJ.trans BZ
 have hAt:=DX v (bM nodes l) w3 (hW2.since BZ) (by rw [HBN.out];omega)
 clear hB hR2 hW2
 go_wp2
 clear hw3
 refine dM (bC ?_)
 go_wp2
 refine dM (bC ?_)
 go_wp2
 clear hm1
 refine dM (bC ?_)
 go_wp2_with fail
 refine hAt.mono ?_
 rintro e w4 ⟨B,M0,rfl,hR4,em0,em1,em2,em3,em4,ql⟩
 dsimp only
 obtain ⟨w5,hw5⟩:∃ y,w4.alloc (.cells #[.pointer (some ⟨B,0,none⟩)] 150)=y:=⟨_,rfl⟩
 have Qg:=ay hw5
 have d11:w5.cell? ⟨w4.heap.size,0,none⟩=some (.pointer (some ⟨B,0,none⟩)):=by rw [<-hw5];simp [go_sem]
 have hl5:w4.heap.size < w5.heap.size:=by rw [<-hw5];simp
 have hCl:=Ap ac acts.length fM w5
 obtain ⟨w6,hw6⟩:∃ y,w5.alloc (.cells #[.slice ac acts.length fM] 50)=y:=⟨_,rfl⟩
 rw [hw6] at hCl
 have Om:=ay hw6
 have d12:w6.cell? ⟨w5.heap.size,0,none⟩=some (.slice ac acts.length fM):=by rw [<-hw6];simp [go_sem]
 have hl6:w5.heap.size < w6.heap.size:=by rw [<-hw6];simp
 have Oo:=Qg.trans Om
 have Ko:=ql.trans Oo
 have hR6:=hR4.since Oo
 have Lr:sK s0 M0:=by
  refine ⟨by rw [em1,HS0.out.1],by rw [em2,HS0.out.1];rfl,fun m r hr=>(by rw [em2] at hr;exact absurd hr (by simp)),fun k p hp y=>?_⟩
  rw [em4 p (List.mem_of_getElem? hp),HS0.out.2.2];simp
 have hblk:∀ i,SB B M0 i->i < w4.heap.size:=fun i hi=>(hR4.blk hi).2
 have hI0:vg w3.heap.size w6.heap.size B w3 w4.heap.size s0 M0.ra M0.ps [] w6:=by
  refine ⟨Ko,(Om.cellAt hl5 _).trans d11,v,M0, ?_,Lr,rfl,rfl,fun b hb=>?_⟩
  ·show d9 _ _ _ _ s0.d _
   rw [HD0.out];exact hR6
  ·rw [em0] at hb;simp [Sl.blk] at hb
 have eg:∀ args w,(callFunc 176 args).run prog w=.ok (.enter 176 args) w:=enters_of func176 (by kernel_rfl) rfl
 have h36:=Ko.size
 have hseq:Md prog 1 176 #[.pointer (some ⟨w5.heap.size,0,none⟩)] (fun x:Ac=>#[acV x]) (KH w3.heap.size w5.heap.size w6.heap.size) (EX (bK acts)) (fun h=>h=bK acts) w6 :=
  Aq 1 w5.heap.size w3.heap.size w6.heap.size w6 h36 hl6 ac fM acts (fun W' hb=>hA.since (hS3.trans ⟨Ko.below.trans hb⟩)) d12
 have HLT:Hid (B < w4.heap.size/\M0.ra < w4.heap.size/\∀ p,p∈M0.ps->p < w4.heap.size):=⟨hblk B (.inl rfl),hblk _ (.inr (.inl rfl)),fun p hp=>hblk p (.inr (.inr (.inr (.inr (List.mem_append.2 (.inr hp))))))⟩
 have HGE:Hid (w3.heap.size<=B/\w3.heap.size<=M0.ra/\∀ p,p∈M0.ps->w3.heap.size<=p):=⟨hR4.bl,hR4.ral,fun p hp=>(hR4.set p (List.mem_append.2 (.inr hp))).1⟩
 have HPL:Hid (M0.ps.length=nodes):=by unfold Hid;rw [em3,HBN.out]
 have Ry:w4.heap.size<=w5.heap.size:=by omega
 clear hAt hw6 d11 d12 hblk Lr hR6 em0 em1 em2 em3 em4 p0 p1 p2 hR4
 go_wp2
 refine dM (dM (bC ?_))
 go_wp2_with fail
 refine hCl.mono ?_
 rintro e w' ⟨rfl,hw⟩
 obtain rfl:=hw.symm
 dsimp only
 go_wp2
 clear hCl hw5
 refine pV ?_
 refine DL (m:=1) (n0:=w3.heap.size) (bj:=w5.heap.size) func71 (gf:=176) (lb:=#[.pointer (some ⟨w5.heap.size,0,none⟩)]) rfl eg h36 hl6 hseq (fun _=>rfl)
  (vg w3.heap.size w6.heap.size B w3 w4.heap.size s0 M0.ra M0.ps)
  (fun _ _=>False)
  (fun h A B hA hk=>hA.km hk h36 h36)
  hI0 ?round ?done ?pan
 case pan =>
  rintro D ch W hD h hK
  exact h.elim
 case round =>
  rintro l h x W hsz hIW hx
  obtain ⟨hk4,hlh,htk⟩:=D6 hx
  have hlen:(h.foldl bE s0).sent.length<=80:=by
   have h1:=Ar h s0
   rw [HS0.out.1] at h1
   have h2:=HM.out
   simp at h1
   omega
  have hinv:=EY h s0 D7.out
  have Kq:=Ga h s0 D7.out
  rw [HD0.out,HBN.out] at Kq
  have Ls:(h++[x]).foldl bE s0=bE (h.foldl bE s0) x:=by rw [List.foldl_append];rfl
  have HSN:=(show Hid _ from Ls)
  obtain ⟨sh,hsh⟩:∃ y,h.foldl bE s0=y:=⟨_,rfl⟩
  rw [hsh] at hlen hinv Kq
  have HSH:Hid (h.foldl bE s0=sh):=hsh
  unfold acV
  gi_wp2
  obtain ⟨W1,hW1⟩:∃ y,W.alloc (.cells #[.int .i64 x.kind,.int .i64 x.one,.int .i64 x.two,.string x.body] 58)=y:=⟨_,rfl⟩
  have Mv:=ay hW1
  have z0:W1.cell? ⟨W.heap.size,0,none⟩=some (.int .i64 x.kind):=by rw [<-hW1];simp [go_sem]
  have z1:W1.cell? ⟨W.heap.size,1,none⟩=some (.int .i64 x.one):=by rw [<-hW1];simp [go_sem]
  have z2:W1.cell? ⟨W.heap.size,2,none⟩=some (.int .i64 x.two):=by rw [<-hW1];simp [go_sem]
  have z3:W1.cell? ⟨W.heap.size,3,none⟩=some (.string x.body):=by rw [<-hW1];simp [go_sem]
  have hI1:vg w3.heap.size w6.heap.size B w3 w4.heap.size s0 M0.ra M0.ps h W1:=hIW.km (KM.cZ Mv hsz) h36 h36
  rw [hW1]
  refine ⟨Mv,fun W' hsz' hk=>?_⟩
  have hI2:=hI1.km hk h36 h36
  obtain ⟨xv,M,hR,hrep,ep,era,esl⟩:=hI2.raw
  rw [hsh] at hR hrep
  have hDo:=IE w3.heap.size B xv sh M x W' hR hrep hinv hk4 (by unfold Hid;rw [ep,HPL.out,Kq]) (by unfold Hid;rw [hrep.sent];omega)
  unfold acV at hDo
  have f0:=hk.cell z0
  have f1:=hk.cell z1
  have f2:=hk.cell z2
  have f3:=hk.cell z3
  have k3:=hI2.cell
  have Mw:Hid (∀ (x':WV) (M':SM) (w':World),d9 w3.heap.size w' B x' (bE sh x).d M'->sK (bE sh x) M'->M'.ps=M.ps->M'.ra=M.ra->(M'.sl=M.sl\/∃ b,M'.sl.blk=some b/\W'.heap.size<=b)->Fr (SW B M) W' w'->KH w3.heap.size w5.heap.size w6.heap.size W' w'/\vg w3.heap.size w6.heap.size B w3 w4.heap.size s0 M0.ra M0.ps (h++[x]) w'):=by
   intro x' M' w' g1 g2 g3 g4 g5 g6
   obtain ⟨t1,t2,t3⟩:=HLT.out
   obtain ⟨u1,u2,u3⟩:=HGE.out
   have hge:∀ i,SW B M i->w3.heap.size<=i:=fun i hi=>by
    rcases hi with hi | hi | hi | hi
    ·omega
    ·rw [era] at hi;omega
    ·have:=esl i hi;omega
    ·rw [ep] at hi;exact u3 i hi
   have hb5:¬ SW B M w5.heap.size:=fun hi=>by
    rcases hi with hi | hi | hi | hi
    ·omega
    ·rw [era] at hi;omega
    ·have:=esl _ hi;omega
    ·rw [ep] at hi;have:=t3 _ hi;omega
   have hb4:¬ SW B M w4.heap.size:=fun hi=>by
    rcases hi with hi | hi | hi | hi
    ·omega
    ·rw [era] at hi;omega
    ·have:=esl _ hi;omega
    ·rw [ep] at hi;have:=t3 _ hi;omega
   have hbel:Below w3.heap.size W' w':=⟨g6.os,g6.tape,g6.output,g6.size,fun i hi=>g6.block i (by omega) (fun hs=>by have:=hge i hs;omega)⟩
   refine ⟨⟨⟨hbel,g6.block _ (by omega) hb5⟩,fun i o hi ho hc=>?_⟩,⟨hI2.since.below.trans hbel⟩,(World.cell?_of_block (a:=⟨w4.heap.size,0,none⟩) (g6.block _ (by show w4.heap.size < _;omega) hb4)).trans k3,x',M', ?_, ?_,g3.trans ep,g4.trans era,fun b hb=>?_⟩
   ·have hil:=(zQ3.1 ho).1
    by_cases hs:M.sl.blk=some i
    ·obtain ⟨o',ho',hk'⟩:=jT hR.row (by decide) hs
     rw [ho] at ho'
     obtain rfl:=Option.some.inj ho'
     obtain ⟨v',e',_⟩:∃ v':Unit,o.isCells=true/\True:=by
      obtain ⟨hc',_,_,off,e⟩:=hR.row.dK hs
      obtain ⟨b',o2,e2,_,_,hx2,_⟩:=hR.row.body hc'
      rw [e] at e2
      cases e2
      obtain ⟨v2,hv2⟩:=Option.isSome_iff_exists.1 (hx2 0 (Nat.mul_pos hc' (by decide))).1
      unfold World.cell? at hv2
      split at hv2
      ·rename_i hb2
       have hb3:W'.heap[i]? = _:=hb2
       rw [ho] at hb3
       obtain rfl:=Option.some.inj hb3
       exact ⟨(),rfl,trivial⟩
      ·cases hv2
     rw [e'] at hc;cases hc
    ·refine (g6.block i hil (fun hi'=>?_)).trans ho
     rcases hi' with hi' | hi' | hi' | hi'
     ·omega
     ·rw [era] at hi';omega
     ·exact hs hi'
     ·rw [ep] at hi';have:=t3 _ hi';omega
   ·rw [HSN.out,HSH.out];exact g1
   ·rw [HSN.out,HSH.out];exact g2
   ·rcases g5 with g5 | ⟨b',e',hb'⟩
    ·rw [g5] at hb;exact esl b hb
    ·rw [hb] at e';have:=Option.some.inj e';omega
  obtain ⟨PP,hPP⟩:∃ PP:World->Prop,∀ B',PP B'↔(KH w3.heap.size w5.heap.size w6.heap.size W' B'/\vg w3.heap.size w6.heap.size B w3 w4.heap.size s0 M0.ra M0.ps (h++[x]) B'):=⟨_,fun _=>Iff.rfl⟩
  refine wpIn_mono (Q:=Exit.then (fun _ B'=>PP B') (fun _ _ _=>False)) ?_ ?mono
  case mono =>
   intro e1 a1 W5 hp1
   match e1,hp1 with
   | .normal,hp=>exact (hPP W5).1 hp
  have HPP:=(show Hid _ from hPP)
  clear hPP hW1 z0 z1 z2 z3 hk hI2 hI1 hR hrep ep era esl hinv Kq hlen Ls hsh htk hx hIW Mv hlh
  gi_wp2_with (refine ⟨trivial,rfl, ?_⟩;gi_at_call 132;refine (qW hDo).mono ?_;rintro e w' ⟨rfl,x',M',g1,g2,g3,g4,g5,g6⟩)
  exact (HPP.out _).2 (Mw.out x' M' w' g1 g2 g3 g4 g5 g6)
 case done =>
  rintro D h W hD rfl hIW hK
  obtain ⟨xv,M,hR,hrep,ep,era,esl⟩:=hIW.raw
  rw [HSF.out] at hR hrep
  have hsl:M.sent.length<=1000:=by
   have h1:=Ar (bK acts) s0
   rw [HS0.out.1,HSF.out] at h1
   have h2:=HLC.out
   rw [hrep.sent]
   simp at h1
   omega
  have HKN:Hid ((M.ks.map Prod.fst).Nodup):=zw (by rw [<-HSF.out];exact EY _ s0 D7.out) hrep
  have hlD:D < W.heap.size:=(zQ3.1 hK).1
  have h11:=hIW.cell
  have l11:w4.heap.size < W.heap.size:=BX h11
  refine bC (DT ?_)
  go_wp2_with fail
  obtain ⟨W0,hW0⟩:∃ y,W.drew=y:=⟨_,rfl⟩
  have hs0:=aO hW0
  obtain ⟨S0,hS0⟩:∃ S0:World->Prop,∀ w',S0 w'↔Since W w':=⟨_,fun _=>Iff.rfl⟩
  have c11:∀ y:aj S0,y.w.cell? ⟨w4.heap.size,0,none⟩=some (.pointer (some ⟨B,0,none⟩)):=fun y=>(((hS0 _).1 y.h).cellAt l11 _).trans h11
  have c3:∀ y:aj S0,y.w.cell? ⟨B,3,none⟩=some (.slice M.sl.a M.sent.length M.sl.cap):=fun y=>(hR.since ((hS0 _).1 y.h)).c3
  have ak:=(hS0 W0).2 hs0
  have hne:Nonempty (aj S0):=⟨⟨_,ak⟩⟩
  have bS:=aH w
  have hMk:=Gb w3.heap.size B xv sF M W0 (hR.since hs0) hrep HKN hsl
  unfold Sl.v at hMk
  have wL:Hid (∀ (sl:Sl) (rs:Nat->Sl) (w':World),cK 1 gq W0.heap.size w' sl rs (kG sF)->Since W0 w'->w'.heap[D]? = some (.deferred (some []))/\eY (w'.putObj D (.deferred none)) M.sl.a sF.sent.length sF.sent/\cK 1 gq w.heap.size (w'.putObj D (.deferred none)) sl rs (kG sF)/\Since w (w'.putObj D (.deferred none))):=by
   intro sl rs w' hO hS
   have hK':=(hs0.trans hS).block hK
   have hno:∀ b o,w'.heap[b]? = some o->kD o=true->¬ b=D:=fun b o ho hk e=>by
    subst e;rw [hK'] at ho;obtain rfl:=Option.some.inj ho;cases hk
   have hrow:=((hR.since (hs0.trans hS)).row).fr (Fr.put w' D (.deferred none)) (fun b hb e=>by
    obtain ⟨o,ho,hk⟩:=jT (hR.since (hs0.trans hS)).row (by decide) hb
    exact hno b o ho hk e)
   have h6:w.heap.size<=w6.heap.size:=(hS3.trans Ko).size
   refine ⟨hK', ?_,(hO.fr (Fr.put w' D (.deferred none)) (fun b hb e=>?_)).mono (zQ5 (hS3.trans hIW.since).size hs0.size), ?_⟩
   ·have:=jH hrow hsl
    rw [hrep.sent] at this;exact this
   ·rcases hb with hb | ⟨k,hkl,hb⟩
    ·obtain ⟨o,ho,hk⟩:=jT hO.top (by decide) hb
     exact hno b o ho hk e
    ·obtain ⟨o,ho,hk⟩:=jT (hO.rows k _ (zQ1 hkl)) (by decide) hb
     exact hno b o ho hk e
   ·exact (Fr.put w' D (.deferred none)).dz ((hS3.trans hIW.since).trans (hs0.trans hS)) (fun i hi e=>by omega)
  have hse:M.sent.length=sF.sent.length:=by rw [hrep.sent]
  rw [hse] at hMk c3
  clear hR hrep ep era esl hsl hIW hK h11 hse HKN
  refine aI (fun w'=>∃ x:aj S0,w'=x.w) (by kernel_rfl) ?_
  rw [hW0]
  clear hW0
  refine tM 0 rfl (ah ak) ?_;go_big_quiet_op
  refine tW 1 rfl ?_;go_big_quiet_op
  refine tW 2 rfl ?_;go_big_quiet_op
  refine tM 3 rfl (ah ak) ?_;go_big_quiet_op
  refine tM 4 rfl (ah ak) ?_;go_big_quiet_op
  refine aK 5 rfl (by kernel_rfl) ?_
  intro K hK
  go_simp
  refine hMk.mono ?_
  rintro e w' ⟨sl,rs,rfl,hO,hSm⟩
  dsimp only
  refine hK _ _ (fun _ _=>ah ((hS0 _).2 (hs0.trans hSm))) ?_
  clear hK K
  refine tW 6 rfl ?_;go_big_quiet_op
  refine tW 7 rfl ?_;go_big_quiet_op
  refine tW 8 rfl ?_;go_big_quiet_op
  refine aW (by kernel_rfl) ?_
  clear c11 c3 hne ak hS0 hMk
  obtain ⟨hK',g1,g2,g3⟩:=wL.out sl rs w' hO hSm
  go_wp2
  refine ⟨by simp,.inl ⟨_,_,rfl,run_takeDeferred hK', ?_⟩⟩
  first
   | exact ⟨_,results_tmp3 rfl _ _ _,M.sl.a,M.sl.cap,sl,rfl,g1,⟨rs,g2⟩,g3⟩
   | exact ⟨_,results_tmp3 rfl _ _ _,M.sl.a,M.sl.cap,sl,rs,rfl,g1,g2,g3⟩
theorem IU (nodes:Int) (a:Option Addr) (len cap:Nat) (l:List Int) (ac:Option Addr) (al fM:Nat) (acts:List Ac) (w:World) (hI:Ints w a len l) (hA:mQ w ac al acts) :
  Calls prog 71 #[.int .i64 nodes,.slice a len cap,.slice ac al fM] w fun e w'=>∃ (sa:Option Addr) (sc:Nat) (sl:Sl) (rs:Nat->Sl),e=.returned (.tuple #[.slice sa (jF nodes l acts).length sc,sl.v (jF nodes l acts).length,.int .i64 (kW nodes l acts)])/\eY w' sa (jF nodes l acts).length (jF nodes l acts)/\cK 1 gq w.heap.size w' sl rs (qB nodes l acts)/\Since w w':=by
 have ha:=hA.hlen
 subst ha
 unfold jF qB kW
 by_cases hE:bF nodes l=0
 ·obtain ⟨h1,h2,h3,h4⟩:=jv hE
  obtain ⟨k,rfl⟩:∃ k:Nat,nodes=(k:Int):=⟨nodes.toNat,by omega⟩
  have hl:=hI.hlen
  subst hl
  by_cases hm:acts.length<=80
  ·have hc:bF (k:Int) l=0/\acts.length<=80:=⟨hE,hm⟩
   simp only [if_pos hc,if_pos hE,if_pos hm,Int.toNat_natCast]
   exact Kn k a cap l ac fM acts w hI hA (by omega) h4 hE hm
  ·have hc:¬ (bF (k:Int) l=0/\acts.length<=80):=fun h=>hm h.2
   simp only [if_neg hc,if_pos hE,if_neg hm]
   refine (zy k a cap l ac acts.length fM w hI (by omega) h4 hE (by omega)).mono fun e w' h=>?_
   exact ⟨none,0,⟨none,0⟩,fun _=>⟨none,0⟩,h.1,gQ,cK.nil,h.2⟩
 ·have hc:¬ (bF nodes l=0/\acts.length<=80):=fun h=>hE h.1
  simp only [if_neg hc,if_neg hE]
  refine (BU nodes a len cap l ac acts.length fM w hI hE).mono fun e w' h=>?_
  exact ⟨none,0,⟨none,0⟩,fun _=>⟨none,0⟩,h.1,gQ,cK.nil,h.2⟩
end Go.Proofs.YtiiifecfdkjmbaaGreat
set_option maxHeartbeats 1000000
namespace Go.Proofs.YtiiifecfdkjmbaaGreat
open _root_.Go.Proofs.Tryz hiding checked
set_option maxRecDepth 8000
open Go.RowKit Go.Shelf
open Pu
set_option linter.unusedVariables false
set_option linter.unusedSimpArgs false
structure Bools (w:World) (a:Option Addr) (len:Nat) (bs:List Bool):Prop where
 hlen:bs.length=len
 hmax:len<=2932031007320
 cells:0 < len->∃ b off,a=some ⟨b,off,none⟩/\b < w.heap.size/\∀ (j:Nat) (u:Bool),bs[j]? = some u->w.cell? ⟨b,off+j,none⟩=some (.bool u)
theorem Bools.since {w W:World} {a:Option Addr} {len:Nat} {bs:List Bool} (h:Bools w a len bs) (k:Since w W):Bools W a len bs :=
 ⟨h.hlen,h.hmax,fun hp=>by
  obtain ⟨b,off,e,hb,hc⟩:=h.cells hp
  exact ⟨b,off,e,zQ4 hb k.size,fun j u hu=>(k.cellAt hb _).trans (hc j u hu)⟩⟩
def jk (w:World) (v:Value) (xs:List Bool):Prop:=∃ a cap,v=.slice a xs.length cap/\xs.length<=cap/\Bools w a xs.length xs
theorem gu:Stable jk:=fun _ _ _ _ k ⟨a,cap,e,hc,h⟩=>⟨a,cap,e,hc,h.since k⟩
theorem Gf {w:World} {lo:Nat} {s:Sl} {bs:List Bool} (h:Row w lo 1 s bs.length (gq bs)) (hm:bs.length<=1000):Bools w s.a bs.length bs:=by
 refine ⟨rfl,by omega,fun hp=>?_⟩
 obtain ⟨b,off,e,_,hb,_,hx⟩:=h.body (by have:=h.cap;omega)
 exact ⟨b,off,e,hb,fun j u hu=>hx j _ (by unfold gq;rw [List.getElem?_map,hu];rfl)⟩
theorem Cb {lo:Nat} {w:World} {s:Sl} {rs:Nat->Sl} {xss:List (List Bool)} (h:cK 1 gq lo w s rs xss) (hm:xss.length<=1000) (hr:∀ xs,xs∈xss->xs.length<=1000):Slices jk w s.a xss.length xss:=by
 refine ⟨rfl,by omega,fun hp=>?_⟩
 obtain ⟨b,off,e,_,hb,_,hx⟩:=h.top.body (by have:=h.top.cap;omega)
 refine ⟨b,off,e,hb,fun i xs hi=>?_⟩
 have hil:=(zQ2.1 hi).1
 refine ⟨(rs i).v xs.length,hx i _ ?_,(rs i).a,(rs i).cap,rfl,(h.rows i xs hi).cap,Gf (h.rows i xs hi) (hr xs (List.mem_of_getElem? hi))⟩
 rw [List.getElem?_map,List.getElem?_range hil]
 simp [hi]
theorem wO (a b:Option Addr) (c e:Nat) (xss:List (List Bool)) (w:World) (h1:Slices jk w a xss.length xss) (h2:Slices jk w b xss.length xss) :
  Calls prog 74 #[.slice a xss.length c,.slice b xss.length e] w fun e w'=>e=.returned (.bool true)/\Since w w':=by
 have hmax:=h1.hmax
 have H1:=(show Hid _ from h1)
 have H2:=(show Hid _ from h2)
 clear h1 h2
 go_enter func74,ntmps74
 go_wp2
 go_loopw [5] (fun i wr=>∃ k:Nat,k<=xss.length/\i=.int .i64 k/\Since w wr) (fun i _=>xss.length - (intOf i).toNat)
 case atStart=>exact ⟨0,Nat.zero_le _,rfl,Since.refl w⟩
 case round =>
  obtain ⟨wo,rfl⟩:∃ wo,wo=wr:=⟨_,rfl⟩
  obtain ⟨k,hk,rfl,hSr⟩:=hrel
  by_cases hlt:k < xss.length
  ·obtain ⟨xs,hxs⟩:∃ m,xss[k]? = some m:=⟨_,zQ1 hlt⟩
   have n1:(k:Int) < (xss.length:Int):=by omega
   obtain ⟨ba,oa,rfl,hba,hca⟩:=(H1.out.since gu hSr).cells (by omega)
   obtain ⟨bb,ob,rfl,hbb,hcb⟩:=(H2.out.since gu hSr).cells (by omega)
   obtain ⟨v1,e1,ra,rc,rfl,_,hB1⟩:=hca k xs hxs
   obtain ⟨v2,e2,rb,rd,rfl,_,hB2⟩:=hcb k xs hxs
   have hxm:=hB1.hmax
   have HB1:=(show Hid _ from hB1)
   have HB2:=(show Hid _ from hB2)
   clear hca hcb hxs hB1 hB2
   go_wp2_with fail
   obtain ⟨W0,hW0⟩:∃ y,wo.drew=y:=⟨_,rfl⟩
   have hs0:=aO hW0
   obtain ⟨S0,hS0⟩:∃ S0:World->Prop,∀ w',S0 w'↔Since wo w':=⟨_,fun _=>Iff.rfl⟩
   have a1:∀ y:aj S0,y.w.cell? ⟨ba,oa+k,none⟩=some (.slice ra xs.length rc):=fun y=>(((hS0 _).1 y.h).cellAt hba _).trans e1
   have a2:∀ y:aj S0,y.w.cell? ⟨bb,ob+k,none⟩=some (.slice rb xs.length rd):=fun y=>(((hS0 _).1 y.h).cellAt hbb _).trans e2
   have ak:=(hS0 W0).2 hs0
   have hne:Nonempty (aj S0):=⟨⟨_,ak⟩⟩
   have bS:=aH w
   refine aI (fun w'=>∃ x:aj S0,w'=x.w) (by kernel_rfl) ?_
   rw [hW0]
   clear hW0
   refine tW 0 rfl ?_;go_big_quiet_op
   refine tW 1 rfl ?_;go_big_quiet_op
   refine tW 2 rfl ?_;go_big_quiet_op
   refine tM 3 rfl (ah ak) ?_;go_big_quiet_op
   refine tM 4 rfl (ah ak) ?_;go_big_quiet_op
   refine tW 5 rfl ?_;go_big_quiet_op
   refine tW 6 rfl ?_;go_big_quiet_op
   refine tW 7 rfl ?_;go_big_quiet_op
   refine tM 8 rfl (ah ak) ?_;go_big_quiet_op
   refine tM 9 rfl (ah ak) ?_;go_big_quiet_op
   refine tW 10 rfl ?_;go_big_quiet_op
   refine aW (by kernel_rfl) ?_
   clear a1 a2 hne ak hS0
   have hS0:=hSr.trans hs0
   have e1:=(hs0.cellAt hba _).trans e1
   have e2:=(hs0.cellAt hbb _).trans e2
   have HB1:=(show Hid _ from HB1.out.since hs0)
   have HB2:=(show Hid _ from HB2.out.since hs0)
   have hba:=zQ4 hba hs0.size
   have hbb:=zQ4 hbb hs0.size
   clear hs0
   go_wp2
   go_loopw [6] (fun i wr=>∃ j:Nat,j<=xs.length/\i=.int .i64 j/\Since W0 wr) (fun i _=>xs.length - (intOf i).toNat)
   case atStart=>exact ⟨0,Nat.zero_le _,rfl,Since.refl W0⟩
   case round =>
    obtain ⟨wi,rfl⟩:∃ wo,wo=wr:=⟨_,rfl⟩
    obtain ⟨j,hj,rfl,hSj⟩:=hrel
    have e1:=(hSj.cellAt hba _).trans e1
    have e2:=(hSj.cellAt hbb _).trans e2
    by_cases hjl:j < xs.length
    ·obtain ⟨u,hu⟩:∃ m,xs[j]? = some m:=⟨_,zQ1 hjl⟩
     have n2:(j:Int) < (xs.length:Int):=by omega
     obtain ⟨bp,op,rfl,hbp,hcp⟩:=(HB1.out.since hSj).cells (by omega)
     obtain ⟨bq,oq,rfl,hbq,hcq⟩:=(HB2.out.since hSj).cells (by omega)
     have g1:=hcp j u hu
     have g2:=hcq j u hu
     have hba:=zQ4 hba hSj.size
     have hbb:=zQ4 hbb hSj.size
     clear hcp hcq hu
     go_wp2_with fail
     obtain ⟨W5,hW0⟩:∃ y,wi.drew=y:=⟨_,rfl⟩
     have hs5:=aO hW0
     obtain ⟨S5,hS5⟩:∃ S0:World->Prop,∀ w',S0 w'↔Since wi w':=⟨_,fun _=>Iff.rfl⟩
     have a1:∀ y:aj S5,y.w.cell? ⟨ba,oa+k,none⟩=some (.slice (some ⟨bp,op,none⟩) xs.length rc):=fun y=>(((hS5 _).1 y.h).cellAt hba _).trans e1
     have a2:∀ y:aj S5,y.w.cell? ⟨bb,ob+k,none⟩=some (.slice (some ⟨bq,oq,none⟩) xs.length rd):=fun y=>(((hS5 _).1 y.h).cellAt hbb _).trans e2
     have a3:∀ y:aj S5,y.w.cell? ⟨bp,op+j,none⟩=some (.bool u):=fun y=>(((hS5 _).1 y.h).cellAt hbp _).trans g1
     have a4:∀ y:aj S5,y.w.cell? ⟨bq,oq+j,none⟩=some (.bool u):=fun y=>(((hS5 _).1 y.h).cellAt hbq _).trans g2
     have lQ:=(hS5 W5).2 hs5
     have hne:Nonempty (aj S5):=⟨⟨_,lQ⟩⟩
     refine aI (fun w'=>∃ x:aj S5,w'=x.w) (by kernel_rfl) ?_
     rw [hW0]
     clear hW0
     refine tW 0 rfl ?_;go_big_quiet_op
     refine tW 1 rfl ?_;go_big_quiet_op
     refine tW 2 rfl ?_;go_big_quiet_op
     refine tM 3 rfl (ah lQ) ?_;go_big_quiet_op
     refine tW 4 rfl ?_;go_big_quiet_op
     refine tW 5 rfl ?_;go_big_quiet_op
     refine tM 6 rfl (ah lQ) ?_;go_big_quiet_op
     refine tW 7 rfl ?_;go_big_quiet_op
     refine tW 8 rfl ?_;go_big_quiet_op
     refine tW 9 rfl ?_;go_big_quiet_op
     refine tM 10 rfl (ah lQ) ?_;go_big_quiet_op
     refine tW 11 rfl ?_;go_big_quiet_op
     refine tW 12 rfl ?_;go_big_quiet_op
     refine tM 13 rfl (ah lQ) ?_;go_big_quiet_op
     refine tW 14 rfl ?_;go_big_quiet_op
     refine aW (by kernel_rfl) ?_
     clear a1 a2 a3 a4 hne lQ hS5
     go_wp2
     go_roundw
     case rel=>exact ⟨j+1,by omega,by go_num,hSj.trans hs5⟩
     case measure=>simp [intOf];omega
    ·obtain rfl:j=xs.length:=by omega
     go_wp2
     go_roundw
     case rel=>exact ⟨k+1,by omega,by go_num,hS0.trans hSj⟩
     case measure=>simp [intOf];omega
  ·obtain rfl:k=xss.length:=by omega
   go_wp2
   go_ret
   exact ⟨rfl,hSr⟩
theorem zB (nodes:Int) (l:List Int) (acts:List Ac):(qB nodes l acts).length=(jF nodes l acts).length:=by
 unfold qB jF
 split
 ·unfold kG;rw [List.length_map]
 ·rfl
theorem zC (nodes:Int) (l:List Int) (acts:List Ac):(jF nodes l acts).length<=80:=by
 unfold jF
 split
 ·rename_i h
  have:=Ar acts (nJ nodes.toNat l)
  unfold scD
  have e:(nJ nodes.toNat l).sent.length=0:=rfl
  omega
 ·simp
theorem wN (nodes:Int) (l:List Int) (acts:List Ac):∀ xs,xs∈qB nodes l acts->xs.length=(jF nodes l acts).length:=by
 unfold qB jF
 split
 ·intro xs hx
  unfold kG at hx
  obtain ⟨m,_,rfl⟩:=List.mem_map.1 hx
  rw [List.length_map]
 ·intro xs hx;cases hx
theorem zD (nodes:Int) (a:Option Addr) (len cap:Nat) (l:List Int) (ac:Option Addr) (al fM:Nat) (acts:List Ac) (w:World) (hI:Ints w a len l) (hA:mQ w ac al acts) :
  Calls prog 71 #[.int .i64 nodes,.slice a len cap,.slice ac al fM] w fun e w'=>∃ (sa:Option Addr) (sc:Nat) (sb:Option Addr) (sd:Nat),e=.returned (.tuple #[.slice sa (jF nodes l acts).length sc,.slice sb (jF nodes l acts).length sd,.int .i64 (kW nodes l acts)])/\eY w' sa (jF nodes l acts).length (jF nodes l acts)/\Slices jk w' sb (jF nodes l acts).length (qB nodes l acts)/\Since w w':=by
 refine (IU nodes a len cap l ac al fM acts w hI hA).mono ?_
 rintro e w' ⟨sa,sc,sl,rs,rfl,hM,hO,hS⟩
 have hx:=zC nodes l acts
 have h:=Cb hO (by rw [zB];omega) (fun xs hxs=>by rw [wN nodes l acts xs hxs];omega)
 rw [zB] at h
 exact ⟨sa,sc,sl.a,sl.cap,rfl,hM,h,hS⟩
end Go.Proofs.YtiiifecfdkjmbaaGreat
