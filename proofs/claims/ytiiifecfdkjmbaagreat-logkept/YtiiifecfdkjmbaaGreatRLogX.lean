/- Contracts of furlongref.SameActs (at lists that are the same), ActBytes, ReplayOf; no condition. Contracts of furlongref.SameActs (at lists that are the same), ActBytes, ReplayOf; no condition. Contracts of log.Replay, furlongref.ReplayOf, log.Write, furlongref.ActBytes, log.Recover, each without a split; conditions: the groups read as ints. Logs as plain data: a log that is cut, and one that goes on; no condition. -/
import Derived.Test.YtiiifecfdkjmbaaGreatSLogX
import Derived.Test.YtiiifecfdkjmbaaGreatSameN
namespace Go.Proofs.YtiiifecfdkjmbaaGreat
set_option maxRecDepth 8000
open Go.RowKit Go.Shelf
open _root_.Go.Proofs.YtiiifecfdkjmbaaGreat.Pure
set_option linter.unusedVariables false
set_option linter.unusedSimpArgs false
attribute [local go_sem] Oper.semAt_some
theorem FD (a:Ac) (w:World):(binOp .neq 58 (.agg #[.int .i64 a.kind,.int .i64 a.one,.int .i64 a.two,.string a.body]) (.agg #[.int .i64 a.kind,.int .i64 a.one,.int .i64 a.two,.string a.body])).run Tryz.prog w=.ok (.bool false) w:=by
 simp [go_sem,Tryz.underlying58,beq_toListBytes]
theorem A9 (a:Option Addr) (len cap:Nat) (xs:List Ac) (a':Option Addr) (len' cap':Nat) (w:World) (hI:kr w a len xs) (hJ:kr w a' len' xs) :
  Calls Tryz.prog 67 #[.slice a len cap,.slice a' len' cap'] w fun e w'=>e=.returned (.bool true)∧Since w w':=by
 obtain ⟨rfl,hm,hc⟩:=hI
 obtain ⟨rfl,hm',hc'⟩:=hJ
 have hb:((xs.length:Int) != (xs.length:Int))=false:=by simp
 go_enter Tryz.func67,Tryz.ntmps67
 go_wp2
 go_loopw [5] (fun i wr=>(∃ k:Nat,k≤xs.length∧i=.int .i64 k)∧Since w wr) (fun i _=>xs.length - (intOf i).toNat)
 case atStart=>exact ⟨⟨0,Nat.zero_le _,rfl⟩,Since.refl _⟩
 case round =>
  obtain ⟨⟨k,hk,rfl⟩,hS⟩:=hrel
  by_cases hlt:k < xs.length
  ·obtain ⟨b,off,rfl,hbb,hcell⟩:=hc (by omega)
   obtain ⟨b',off',rfl,MU,hcell'⟩:=hc' (by omega)
   obtain ⟨m,hx⟩:∃ m,xs[k]? = some m:=⟨_,List.getElem?_eq_getElem hlt⟩
   obtain ⟨d0,d1,d2,d3⟩:=hcell k m hx
   obtain ⟨e0,e1,e2,e3⟩:=hcell' k m hx
   have hnE:Nonempty (Later w):=⟨⟨w,Since.refl w⟩⟩
   have hg:∀ (x:Later w) (o:Nat),x.w.cell? ⟨b,o,none⟩=w.cell? ⟨b,o,none⟩:=fun x o=>x.cell hbb
   have hg':∀ (x:Later w) (o:Nat),x.w.cell? ⟨b',o,none⟩=w.cell? ⟨b',o,none⟩:=fun x o=>x.cell MU
   have hnm:=FD m
   clear hcell hcell' hc hc' hx
   go_wp2_with fail
   refine av (by kernel_rfl) (by kernel_rfl) hS ?_
   repeat (go_big_quiet_step (fail))
   refine wpQuiet_nil ?_
   intro w9 hS9
   go_wp2
   go_roundw
   case rel=>exact ⟨⟨k+1,by omega,by go_num⟩,hS9⟩
   case measure=>simp [intOf];omega
  ·clear hc hc'
   go_wp2
   go_ret
   exact ⟨rfl,hS⟩
set_option maxRecDepth 8000 in
set_option maxHeartbeats 4000000 in
theorem Dn (x:Ac) (w:World) :
  Calls Tryz.prog 64 #[acV x] w fun e w'=>e=.returned (if okA x then .tuple #[.string (aM x),.int .i64 0] else .tuple #[.string ⟨#[]⟩,.int .i64 3])∧Since w w':=by
 obtain ⟨w1,hw1⟩:∃ y,w.alloc (.cells #[.int .i64 x.kind,.int .i64 x.one,.int .i64 x.two,.string x.body] 58)=y:=⟨_,rfl⟩
 have hS1:=ak hw1
 have hB1:dh w1 w.heap.size (.int .i64 x.kind) (.int .i64 x.one) (.int .i64 x.two) (.string x.body):=by rw [←hw1];exact iC w _ _ _ _ _
 obtain ⟨_,q0,q1,q2,q3,_⟩:=hB1
 obtain ⟨rv,hrv⟩:∃ rv,(if okA x then (.tuple #[.string (aM x),.int .i64 0]:Value) else .tuple #[.string ⟨#[]⟩,.int .i64 3])=rv:=⟨_,rfl⟩
 have HRV:Hid ((if okA x then (.tuple #[.string (aM x),.int .i64 0]:Value) else .tuple #[.string ⟨#[]⟩,.int .i64 3])=rv):=hrv
 rw [hrv]
 clear hrv
 unfold acV
 go_enter Tryz.func64,Tryz.ntmps64
 obtain ⟨w3,hw3⟩:∃ y,w1.alloc (.cells #[.int .i64 x.kind,.int .i64 x.one,.int .i64 x.two,.int .i64 x.body.size] 3)=y:=⟨_,rfl⟩
 have hS3:=ak hw3
 go_wp2_with fail
 have hnR:Row w3 w1.heap.size 1 ⟨some ⟨w1.heap.size,0,none⟩,4⟩ 4 ((nE x).map (.int .i64)):=by
  rw [←hw3];exact Hg w1 w1.heap.size 1 4 (Nat.le_refl _) [.int .i64 x.kind,.int .i64 x.one,.int .i64 x.two,.int .i64 x.body.size] rfl (by decide) _
 have lY:=hS3
 have hR3:Row w3 w1.heap.size 1 ⟨none,0⟩ 0 ([]:List Value):=Row.nil _ _ _
 obtain ⟨ns,hns⟩:∃ y,nE x=y:=⟨_,rfl⟩
 have HNS:Hid (nE x=ns):=hns
 have hn4:ns.length=4:=by rw [←hns];rfl
 rw [hns] at hnR
 have OD:¬ Sl.blk ⟨none,0⟩=some w1.heap.size:=by
  unfold Sl.blk;simp
 clear hw1 hw3 q0 q1 q2 hns
 go_loopw [5,6] (fun v i wr=>∃ (k:Nat) (sa:Option Addr) (sc:Nat),k≤4∧i=.int .i64 k∧v=.slice sa k sc∧Row wr w1.heap.size 1 ⟨sa,sc⟩ k ((ns.take k).map (.int .u8))∧Row wr w1.heap.size 1 ⟨some ⟨w1.heap.size,0,none⟩,4⟩ 4 (ns.map (.int .i64))∧(¬ Sl.blk ⟨sa,sc⟩=some w1.heap.size)∧Since w1 wr∧(∀ n,n∈ns.take k→0≤n∧n≤255)) (fun _ i _=>4 - (intOf i).toNat)
 case atStart=>exact ⟨0,_,_,by omega,rfl,rfl,hR3,hnR,OD,lY,by simp⟩
 case round =>
  obtain ⟨wo,rfl⟩:∃ wo,wo=wr:=⟨_,rfl⟩
  obtain ⟨k,sa,sc,hk,rfl,rfl,hR,hN,hap,hSr,hin⟩:=hrel
  by_cases hlt:k < 4
  ·obtain ⟨n,hn⟩:∃ n,ns[k]? = some n:=⟨_,List.getElem?_eq_getElem (by omega)⟩
   obtain ⟨_,_,e,_,_,_,hc⟩:=hN.body (by show 0 < 4;omega)
   cases e
   have c0:wo.cell? ⟨w1.heap.size,0+k,none⟩=some (.int .i64 n):=hc k _ (by rw [List.getElem?_map,hn];rfl)
   rw [Nat.zero_add] at c0
   have n1:(k:Int) < 4:=by omega
   clear hc
   have hmem:n∈ns:=List.mem_of_getElem? hn
   by_cases hbad:n < 0∨255 < n
   ·have HBAD:Hid (okA x=false):=by
     unfold Hid
     have:¬ okA x=true:=fun h=>by
      unfold okA at h
      rw [HNS.out] at h
      have:=List.all_eq_true.1 h n hmem
      simp at this
      omega
     simpa using this
    have hwi:inB n 0 255=false:=by
     unfold inB;rw [decide_eq_false_iff_not];omega
    clear hbad hn hmem
    go_wp2_with (go_at_call 126;refine (aV _ _ _ _).mono ?_;rw [hwi];rintro e w' ⟨rfl,hw⟩;obtain rfl:=hw.symm)
    refine bodyPost_ret (v:=.tuple #[.string ⟨#[]⟩,.int .i64 3]) ?_ rfl ⟨by rw [←HRV.out,HBAD.out];rfl,hS1.trans hSr⟩
    simp [results,Tryz.results64,go_sem]
   ·have hwi:inB n 0 255=true:=by unfold inB;rw [decide_eq_true_iff];omega
    have hw8:IntKind.u8.wrap n=n:=by show n % 256=n;omega
    have HT:Hid (ns.take (k+1)=ns.take k++[n]):=by unfold Hid;rw [List.take_add_one,hn];rfl
    have HIN:Hid (0≤n∧n≤255):=by constructor <;> omega
    have hsrc:=gu (size:=1) (T:=5) (w:=wo) Dp.und [.int .u8 n] rfl (fun u hu=>by simp at hu;subst hu;rfl) 1
    have hlo:w1.heap.size≤wo.heap.size:=hSr.size
    have hRa:=hR.since ((Since.refl wo).alloc (.cells #[.int .u8 n] 5))
    have hNa:=hN.since ((Since.refl wo).alloc (.cells #[.int .u8 n] 5))
    have hSa:Since w1 (wo.alloc (.cells #[.int .u8 n] 5)):=hSr.alloc _
    clear hbad hn hmem
    go_wp2_with (first | (go_at_call 126;refine (aV _ _ _ _).mono ?_;rw [hwi];rintro e w' ⟨rfl,hw⟩;obtain rfl:=hw.symm) | (at_builtin;refine iM Dp rfl _ _ 143 rfl rfl hRa rfl hsrc (by omega) (by simp;omega) ?_;intro sa' sc' W3 hR4 hF4 hB4))
    refine ⟨⟨k+1,sa',sc',by omega,by go_num,rfl, ?_,hNa.fr hF4 ?_, ?_,hF4.aB hSa ?_, ?_⟩,by simp [intOf];omega⟩
    ·rw [HT.out,List.map_append];exact hR4
    ·intro b hb hc
     unfold Sl.blk at hb
     simp at hb
     subst hb
     exact hap hc
    ·rcases hB4 with h | ⟨_,h⟩
     ·rw [h];exact hap
     ·rw [h];intro e
      have e':=Option.some.inj e
      have:=(hN.fE (b:=w1.heap.size) (by unfold Sl.blk;simp)).2.2.1
      simp only [World.size_alloc] at e'
      omega
    ·intro i hi hc
     have:=(hRa.fE hc).2.1
     omega
    ·rw [HT.out]
     intro m hm
     rcases List.mem_append.1 hm with h | h
     ·exact hin m h
     ·simp at h;subst h;exact HIN.out
  ·obtain rfl:k=4:=by omega
   have ht4:ns.take 4=ns:=List.take_of_length_le (by omega)
   rw [ht4] at hR hin
   have HOK:Hid (okA x=true∧headA x=ns.map fun n=>UInt8.ofNat n.toNat):=by
    refine ⟨?_,by unfold headA;rw [HNS.out]⟩
    unfold okA
    rw [HNS.out]
    refine List.all_eq_true.2 fun n hn=>?_
    have:=hin n hn
    simp;omega
   obtain ⟨b,off,e,_,_,_,hx⟩:=hR.body (by have:=hR.cap;omega)
   dsimp only at e
   subst e
   obtain ⟨hl,hhl⟩:∃ y,(ns.map fun n=>UInt8.ofNat n.toNat)=y:=⟨_,rfl⟩
   have hlen:hl.length=4:=by rw [←hhl];simp [hn4]
   have hcv:=run_convert_bytes_back (P:=Tryz.prog) wo 143 9 5 ⟨b,off,none⟩ sc hl (by kernel_rfl) (by kernel_rfl) (by kernel_rfl) (fun j hj=>by
    rw [Addr.add_lit]
    refine hx j _ ?_
    have hj4:j < ns.length:=by omega
    obtain ⟨n,hn⟩:∃ n,ns[j]? = some n:=⟨_,List.getElem?_eq_getElem hj4⟩
    have hb:=hin n (List.mem_of_getElem? hn)
    have e1:hl[j]? = some (UInt8.ofNat n.toNat):=by rw [←hhl,List.getElem?_map,hn];rfl
    have e2:hl[j]=UInt8.ofNat n.toNat:=by rw [List.getElem?_eq_getElem hj] at e1;exact Option.some.inj e1
    rw [List.getElem?_map,hn,e2]
    have e3:((UInt8.ofNat n.toNat).toNat:Int)=n:=by simp;omega
    rw [e3];rfl)
   rw [hlen] at hcv
   have HHL:Hid (headA x=hl):=HOK.out.2.trans hhl
   have r3:=(hSr.cellAt ‹_› _).trans q3
   have hbs:¬ 9223372036854775807 < hl.length+x.body.size:=by
    have hm:(x.body.size:Int)∈ns:=by rw [←HNS.out];unfold nE;simp
    have:=hin _ hm
    omega
   clear hhl hlen hx hin ht4
   go_wp2_with fail
   refine bodyPost_ret (v:=.tuple #[.string (aM x),.int .i64 0]) ?_ rfl ⟨by rw [←HRV.out,HOK.out.1];rfl,hS1.trans hSr⟩
   simp [results,Tryz.results64,go_sem,aM,HHL.out]
end Go.Proofs.YtiiifecfdkjmbaaGreat
namespace Go.Proofs.YtiiifecfdkjmbaaGreat
set_option maxRecDepth 8000
open Go.RowKit Go.Shelf
open _root_.Go.Proofs.YtiiifecfdkjmbaaGreat.Pure
set_option linter.unusedVariables false
set_option linter.unusedSimpArgs false
attribute [local go_sem] Oper.semAt_some
theorem nL {t:ByteArray} {p i:Nat} (h:p+i < t.size):bAt (t.extract p t.size) i=bAt t (p+i):=by
 unfold bAt
 have e:(t.extract p t.size).data=t.data.extract p t.size:=ByteArray.data_extract
 rw [e,Array.getElem?_extract]
 have h1:t.data.size=t.size:=rfl
 rw [if_pos (by omega)]
theorem yw {t:ByteArray} {p:Nat} (hp:p≤t.size) (h:bq (t.extract p t.size)≠0):4≤t.size - p∧4+bAt t (p+3)≤t.size - p∧bq (t.extract p t.size)=4+bAt t (p+3):=by
 have hs:(t.extract p t.size).size=t.size - p:=by rw [ByteArray.size_extract];omega
 unfold bq at h ⊢
 rw [hs] at h ⊢
 by_cases h4:t.size - p < 4
 ·rw [if_pos h4] at h;exact absurd rfl h
 ·rw [if_neg h4] at h ⊢
  rw [nL (by omega)] at h ⊢
  by_cases h5:t.size - p < 4+bAt t (p+3)
  ·rw [if_pos h5] at h;exact absurd rfl h
  ·rw [if_neg h5];omega
theorem FE {t:ByteArray} {p:Nat} (hp:p≤t.size) (h:bq (t.extract p t.size)=0):t.size - p < 4∨(4≤t.size - p∧t.size - p < 4+bAt t (p+3)):=by
 have hs:(t.extract p t.size).size=t.size - p:=by rw [ByteArray.size_extract];omega
 unfold bq at h
 rw [hs] at h
 by_cases h4:t.size - p < 4
 ·exact .inl h4
 ·rw [if_neg h4,nL (by omega)] at h
  by_cases h5:t.size - p < 4+bAt t (p+3)
  ·exact .inr ⟨by omega,h5⟩
  ·rw [if_neg h5] at h;omega
theorem FH {t:ByteArray} {p n3:Nat} (hp:p≤t.size) (h:bq (t.extract p t.size)≠0) (h3:bAt t (p+3)=n3):gH (t.extract p t.size)=⟨bAt t p,bAt t (p+1),bAt t (p+2),t.extract (p+4) (p+4+n3)⟩:=by
 obtain ⟨h4,h5,h6⟩:=yw hp h
 unfold gH
 rw [if_neg h,nL (by omega),nL (by omega),nL (by omega),Nat.add_zero,h6,ByteArray.extract_extract,h3]
 rw [h3] at h5
 congr 2
 omega
def NQ:Value→Nat
 | .slice _ n _=>n
 | _=>0
theorem Bq (t:ByteArray) (ht:4096 < t.size) (w:World) :
  Calls Tryz.prog 66 #[.string t] w fun e w'=>e=.returned (.tuple #[.slice none 0 0,.int .i64 0,.int .i64 2])∧Since w w':=by
 have d1:decide (4096 < (t.size:Int))=true:=by simp;omega
 go_enter Tryz.func66,Tryz.ntmps66
 go_wp2
 refine bodyPost_ret (v:=.tuple #[.slice none 0 0,.int .i64 0,.int .i64 2]) ?_ rfl ⟨rfl,Since.refl w⟩
 simp [results,Tryz.results66,go_sem]
set_option maxRecDepth 8000 in
set_option maxHeartbeats 4000000 in
theorem Dq (t:ByteArray) (ht:t.size≤4096) (w:World) (N EN:Nat) (en:Nat→Nat) (fl:Nat→List Value) (hz:Hid (en 0=0)) (hfz:Hid (fl 0=[])) (hN:N≤80) (hEN:Hid (en N=EN)) (hle:Hid (∀ k,en k≤t.size))
  (HL:Hid (∀ k,k < N→4≤t.size - en k∧4+bAt t (en k+3)≤t.size - en k∧en (k+1)=en k+4+bAt t (en k+3)∧fl (k+1)=fl k++[.int .i64 (bAt t (en k)),.int .i64 (bAt t (en k+1)),.int .i64 (bAt t (en k+2)),.string (t.extract (en k+4) (en k+4+bAt t (en k+3)))]))
  (HE:Hid (N=80∨t.size - en N < 4∨(4≤t.size - en N∧t.size - en N < 4+bAt t (en N+3)))) :
  Calls Tryz.prog 66 #[.string t] w fun e w'=>∃ a c,e=.returned (.tuple #[.slice a N c,.int .i64 EN,.int .i64 0])∧Row w' w.heap.size 4 ⟨a,c⟩ N (fl N)∧Since w w':=by
 have d1:decide (4096 < (t.size:Int))=false:=by simp;omega
 go_enter Tryz.func66,Tryz.ntmps66
 go_wp2
 go_loopw [5,6] (fun v i wr=>∃ (k p:Nat) (sa:Option Addr) (sc:Nat) (xs:List Value),k≤N∧en k=p∧fl k=xs∧i=.int .i64 p∧v=.slice sa k sc∧Row wr w.heap.size 4 ⟨sa,sc⟩ k xs∧Since w wr) (fun v _ _=>80 - NQ v)
 case atStart=>exact ⟨0,0,none,0,[],Nat.zero_le _,hz.out,hfz.out,rfl,rfl,Row.nil _ _ _,Since.refl w⟩
 case round =>
  obtain ⟨wo,rfl⟩:∃ wo,wo=wr:=⟨_,rfl⟩
  obtain ⟨k,p,sa,sc,xs,hk,hpe,hxs,rfl,rfl,hR,hSr⟩:=hrel
  have TB:k≤80:=Nat.le_trans hk hN
  have hp:=hle.out k
  rw [hpe] at hp
  by_cases hlt:k < N
  ·obtain ⟨h4,h5,h6,h7⟩:=HL.out k hlt
   rw [hpe] at h4 h5 h6 h7
   rw [hxs] at h7
   obtain ⟨n3,hn3⟩:∃ n,bAt t (p+3)=n:=⟨_,rfl⟩
   obtain ⟨n0,hn0⟩:∃ n,bAt t p=n:=⟨_,rfl⟩
   obtain ⟨n1,hn1⟩:∃ n,bAt t (p+1)=n:=⟨_,rfl⟩
   obtain ⟨n2,hn2⟩:∃ n,bAt t (p+2)=n:=⟨_,rfl⟩
   rw [hn3] at h5 h6 h7
   rw [hn0,hn1,hn2] at h7
   obtain ⟨bd,hbd⟩:∃ b,t.extract (p+4) (p+4+n3)=b:=⟨_,rfl⟩
   rw [hbd] at h7
   have HNX:Hid (en (k+1)=p+4+n3∧fl (k+1)=xs++[.int .i64 n0,.int .i64 n1,.int .i64 n2,.string bd]):=⟨h6,h7⟩
   have HK1:Hid (k+1≤N):=hlt
   have TD:k < 80:=by omega
   have p0:p < t.size:=by omega
   have p1:p+1 < t.size:=by omega
   have p2:p+2 < t.size:=by omega
   have p3:p+3 < t.size:=by omega
   have l0:n0 < 256:=by rw [←hn0];exact qC t p
   have l1:n1 < 256:=by rw [←hn1];exact qC t (p+1)
   have l2:n2 < 256:=by rw [←hn2];exact qC t (p+2)
   have l3:n3 < 256:=by rw [←hn3];exact qC t (p+3)
   have k1:((k:Int) < 80):=by omega
   have q1:(4:Int)≤(t.size:Int) - (p:Int):=by omega
   have q2:4+(n3:Int)≤(t.size:Int) - (p:Int):=by omega
   have s0:(p:Int) < (t.size:Int):=by omega
   have s1:(p:Int)+1 < (t.size:Int):=by omega
   have s2:(p:Int)+2 < (t.size:Int):=by omega
   have s3:(p:Int)+3 < (t.size:Int):=by omega
   have u1:(p:Int)+4≤(p:Int)+4+(n3:Int):=by omega
   have u2:(p:Int)+4+(n3:Int)≤(t.size:Int):=by omega
   have E:(wrap64 ((t.size:Int) - (p:Int))=(t.size:Int) - (p:Int))∧(wrap64 ((p:Int)+1)=(p:Int)+1)∧(wrap64 ((p:Int)+2)=(p:Int)+2)∧(wrap64 ((p:Int)+3)=(p:Int)+3)∧(wrap64 ((p:Int)+4)=(p:Int)+4)∧(wrap64 (n3:Int)=(n3:Int))∧(wrap64 (4+(n3:Int))=4+(n3:Int))∧(wrap64 ((p:Int)+4+(n3:Int))=(p:Int)+4+(n3:Int)) :=
    ⟨w64 (by omega),w64 (by omega),w64 (by omega),w64 (by omega),w64 (by omega),w64 (by omega),w64 (by omega),w64 (by omega)⟩
   have HEE:Hid (_∧_):=E
   have HG:Hid ((t[p]'p0).toNat=n0∧(t[p+1]'p1).toNat=n1∧(t[p+2]'p2).toNat=n2∧(t[p+3]'p3).toNat=n3):=⟨by rw [mX];exact hn0,by rw [mX];exact hn1,by rw [mX];exact hn2,by rw [mX];exact hn3⟩
   clear E hn0 hn1 hn2 hn3 h6 h7 hlt hxs hpe
   obtain ⟨pe,hpe⟩:∃ y,p+4+n3=y:=⟨_,rfl⟩
   rw [hpe] at hbd
   have Qj:Hid (en (k+1)=pe∧(p:Int)+4+(n3:Int)=(pe:Int)):=⟨by rw [HNX.out.1,hpe],by rw [←hpe];simp⟩
   have u1:(p:Int)+4≤(pe:Int):=by omega
   have u2:(pe:Int)≤(t.size:Int):=by omega
   have HU:Hid ((p:Int) < (t.size:Int)∧(p:Int)+1 < (t.size:Int)∧(p:Int)+2 < (t.size:Int)∧(p:Int)+3 < (t.size:Int)∧(p:Int)+4≤(p:Int)+4+(n3:Int)∧(p:Int)+4+(n3:Int)≤(t.size:Int)∧((p:Int)+4+(n3:Int)).toNat=pe∧((p:Int)+4).toNat=p+4):=⟨s0,s1,s2,s3,by omega,by omega,by omega,by omega⟩
   obtain ⟨df,hdf⟩:∃ df:Int,(t.size:Int) - (p:Int)=df:=⟨_,rfl⟩
   obtain ⟨n4,hn4⟩:∃ n4:Int,4+(n3:Int)=n4:=⟨_,rfl⟩
   obtain ⟨e1,-,-,e4,-,e6,e7,-⟩:=HEE.out
   obtain ⟨-,-,-,g3⟩:=HG.out
   have v7:wrap64 (4+(n3:Int))=n4:=by rw [e7,hn4]
   have v1:wrap64 ((t.size:Int) - (p:Int))=df:=by rw [e1,hdf]
   rw [hdf] at q1 q2
   rw [hn4] at q2
   have q1':decide (4≤df)=true:=by simpa using q1
   have q2':decide (n4≤df)=true:=by simpa using q2
   obtain ⟨p4,hp4⟩:∃ p4:Int,(p:Int)+4=p4:=⟨_,rfl⟩
   have HV8:Hid (wrap64 ((p:Int)+4)=p4∧wrap64 (p4+(n3:Int))=(pe:Int)):=by
    obtain ⟨-,-,-,-,e5,-,-,e8⟩:=HEE.out
    exact ⟨by rw [e5,hp4],by rw [←hp4,e8,←hpe];simp⟩
   clear hdf hn4 hp4 e1 e7 s0 s1 s2 u1 u2 h4 h5 hp q1 q2 hpe
   go_upto_region 6 with fail
   clear v1 v7 q1' q2'
   obtain ⟨v5,v8⟩:=HV8.out
   go_upto_region 7 with fail
   clear v5 v8 e4 e6 g3
   obtain ⟨W0,hW0⟩:∃ y,wo.drew=y:=⟨_,rfl⟩
   have hs0:=bD hW0
   obtain ⟨S0,hS0⟩:∃ S0:World→Prop,∀ w',S0 w'↔Since wo w':=⟨_,fun _=>Iff.rfl⟩
   have au:=(hS0 W0).2 hs0
   have hne:Nonempty (aj S0):=⟨⟨_,au⟩⟩
   have dM:=aR w
   have hR0:=hR.since hs0
   have hsrc:=gu (size:=4) (T:=58) (w:=W0) Jc.und [.int .i64 n0,.int .i64 n1,.int .i64 n2,.string bd] rfl (fun u hu=>by simp at hu;rcases hu with rfl | rfl | rfl | rfl <;> rfl) 1
   have hRA:=hR0.since ((Since.refl W0).alloc (.cells #[.int .i64 n0,.int .i64 n1,.int .i64 n2,.string bd] 58))
   have hSA:Since w (W0.alloc (.cells #[.int .i64 n0,.int .i64 n1,.int .i64 n2,.string bd] 58)):=(hSr.trans hs0).alloc _
   obtain ⟨WA,hWA⟩:∃ y,W0.alloc (.cells #[.int .i64 n0,.int .i64 n1,.int .i64 n2,.string bd] 58)=y:=⟨_,rfl⟩
   rw [hWA] at hsrc hRA hSA
   refine aU (fun w'=>∃ x:aj S0,w'=x.w) (by kernel_rfl) ?_
   rw [hW0]
   clear hW0
   refine tW 0 rfl ?_
   go_big_quiet_op
   refine tW 1 rfl ?_
   go_big_quiet_op
   refine tW 2 rfl ?_
   go_big_quiet_op
   refine tM 3 rfl (ah au) ?_
   obtain ⟨g0,-,-,-⟩:=HG.out
   obtain ⟨s0,-⟩:=HU.out
   have zz1:(0:Int)≤(p:Int)+1:=by omega
   have zz2:(0:Int)≤(p:Int)+2:=by omega
   go_big_quiet_op
   try simp only [g0]
   clear g0 s0 zz1 zz2
   refine tM 4 rfl (ah au) ?_
   refine lN (n:=(n0:Int)) rfl rfl (by omega) ?_
   simp only [Act.put,List.setIfInBounds_toArray,List.set_cons_zero,List.set_cons_succ]
   refine tW 5 rfl ?_
   go_big_quiet_op
   refine tW 6 rfl ?_
   go_big_quiet_op
   refine tW 7 rfl ?_
   obtain ⟨-,e2,-⟩:=HEE.out
   go_big_quiet_op
   clear e2
   refine tM 8 rfl (ah au) ?_
   obtain ⟨-,g1,-,-⟩:=HG.out
   obtain ⟨-,s1,-⟩:=HU.out
   have zz1:(0:Int)≤(p:Int)+1:=by omega
   have zz2:(0:Int)≤(p:Int)+2:=by omega
   go_big_quiet_op
   try simp only [g1]
   clear g1 s1 zz1 zz2
   refine tM 9 rfl (ah au) ?_
   refine lN (n:=(n1:Int)) rfl rfl (by omega) ?_
   simp only [Act.put,List.setIfInBounds_toArray,List.set_cons_zero,List.set_cons_succ]
   refine tW 10 rfl ?_
   go_big_quiet_op
   refine tW 11 rfl ?_
   go_big_quiet_op
   refine tW 12 rfl ?_
   obtain ⟨-,-,e3,-⟩:=HEE.out
   go_big_quiet_op
   clear e3
   refine tM 13 rfl (ah au) ?_
   obtain ⟨-,-,g2,-⟩:=HG.out
   obtain ⟨-,-,s2,-⟩:=HU.out
   have zz1:(0:Int)≤(p:Int)+1:=by omega
   have zz2:(0:Int)≤(p:Int)+2:=by omega
   go_big_quiet_op
   try simp only [g2]
   clear g2 s2 zz1 zz2
   refine tM 14 rfl (ah au) ?_
   refine lN (n:=(n2:Int)) rfl rfl (by omega) ?_
   simp only [Act.put,List.setIfInBounds_toArray,List.set_cons_zero,List.set_cons_succ]
   refine tW 15 rfl ?_
   go_big_quiet_op
   refine tW 16 rfl ?_
   go_big_quiet_op
   refine tW 17 rfl ?_
   obtain ⟨-,-,-,-,e5,-⟩:=HEE.out
   go_big_quiet_op
   clear e5
   refine tW 18 rfl ?_
   go_big_quiet_op
   refine tM 19 rfl (ah au) ?_
   obtain ⟨-,-,-,-,u1,u2,u3,u4⟩:=HU.out
   have zz1:(0:Int)≤(p:Int)+4:=by omega
   have zz2:(0:Int)≤(p:Int)+4+(n3:Int):=by omega
   go_big_quiet_op
   clear u1 u2 u3 u4 zz1 zz2
   refine tW 20 rfl ?_
   go_big_quiet_op
   refine bC 21 rfl (by kernel_rfl) ?_
   intro K hK
   go_simp
   try rw [hWA]
   clear hWA
   refine hK _ _ (fun h=>absurd h (by decide +kernel)) ?_
   clear hK K
   refine bC 22 rfl (by kernel_rfl) ?_
   intro K hK
   refine fG Jc (by rfl) _ _ 50 (by rfl) (by rfl) hRA (by rfl) hsrc (by omega) hSA.size ?_
   intro sa' sc' W3 hR3 hF3 hB3
   refine hK _ _ (fun h=>absurd h (by decide +kernel)) ?_
   clear hK K
   simp only [Act.put,List.setIfInBounds_toArray,List.set_cons_zero,List.set_cons_succ]
   refine tW 23 rfl ?_
   go_big_quiet_op
   refine dI (by kernel_rfl) ?_
   have hSf:Since w W3:=hF3.aB hSA (fun i hi hc=>by have:=(hRA.fE hc).2.1;omega)
   go_wp2_with fail
   refine ⟨⟨k+1,pe,sa',sc',_,HK1.out,Qj.out.1,HNX.out.2,by rw [Qj.out.2],rfl,hR3,hSf⟩,by simp [NQ];omega⟩
  ·obtain rfl:k=N:=by omega
   have LK:=HE.out
   rw [hpe] at LK
   have hfin:∃ a c,(Ending.returned (.tuple #[.slice sa k sc,.int .i64 (p:Int),.int .i64 0]):Ending)=.returned (.tuple #[.slice a k c,.int .i64 EN,.int .i64 0])∧Row wo w.heap.size 4 ⟨a,c⟩ k (fl k)∧Since w wo :=
    ⟨sa,sc,by rw [←hEN.out,hpe],by rw [hxs];exact hR,hSr⟩
   have HF:Hid _:=hfin
   by_cases hk8:k < 80
   ·have k1:(k:Int) < 80:=by omega
    by_cases h4:t.size - p < 4
    ·have q1:¬ (4:Int)≤(t.size:Int) - (p:Int):=by omega
     clear LK hR hfin hpe hxs h4
     go_wp2_with fail
     refine bodyPost_ret (v:=.tuple #[.slice sa k sc,.int .i64 (p:Int),.int .i64 0]) ?_ rfl HF.out
     simp [results,Tryz.results66,go_sem]
    ·obtain ⟨n3,hn3⟩:∃ n,bAt t (p+3)=n:=⟨_,rfl⟩
     have p3:p+3 < t.size:=by omega
     have h5:t.size - p < 4+n3:=by rw [hn3] at LK;omega
     have q1:(4:Int)≤(t.size:Int) - (p:Int):=by omega
     have q2:¬ 4+(n3:Int)≤(t.size:Int) - (p:Int):=by omega
     have s3:(p:Int)+3 < (t.size:Int):=by omega
     have l3:n3 < 256:=by rw [←hn3];exact qC t (p+3)
     have E:(wrap64 ((t.size:Int) - (p:Int))=(t.size:Int) - (p:Int))∧(wrap64 ((p:Int)+3)=(p:Int)+3)∧(wrap64 (n3:Int)=(n3:Int))∧(wrap64 (4+(n3:Int))=4+(n3:Int)):=⟨w64 (by omega),w64 (by omega),w64 (by omega),w64 (by omega)⟩
     have g3:(t[p+3]'p3).toNat=n3:=by rw [mX];exact hn3
     obtain ⟨df,hdf⟩:∃ df:Int,(t.size:Int) - (p:Int)=df:=⟨_,rfl⟩
     obtain ⟨n4,hn4⟩:∃ n4:Int,4+(n3:Int)=n4:=⟨_,rfl⟩
     obtain ⟨e1,e4,e6,e7⟩:=E
     rw [hn4] at e7
     rw [hdf] at e1
     rw [hdf] at q1 q2
     rw [hn4] at q2
     have q1':decide (4≤df)=true:=by simpa using q1
     have q2':decide (n4≤df)=false:=by simpa using q2
     have HC:Hid (¬ 4+(n3:Int)≤(t.size:Int) - (p:Int)):=by unfold Hid;rw [hdf,hn4];exact q2
     clear LK hR hfin hpe hxs h4 h5 hn3 hdf hn4 hp q1 q2
     go_wp2_with fail
     ·exact absurd ‹4+(n3:Int)≤(t.size:Int) - (p:Int)› (Int.not_le.2 HC.out)
     refine bodyPost_ret (v:=.tuple #[.slice sa k sc,.int .i64 (p:Int),.int .i64 0]) ?_ rfl HF.out
     simp [results,Tryz.results66,go_sem]
   ·have k1:¬ (k:Int) < 80:=by omega
    clear LK hR hfin hpe hxs
    go_wp2_with fail
    refine bodyPost_ret (v:=.tuple #[.slice sa k sc,.int .i64 (p:Int),.int .i64 0]) ?_ rfl HF.out
    simp [results,Tryz.results66,go_sem]
theorem FI (t:ByteArray) (ht:t.size≤4096) (w:World) :
  Calls Tryz.prog 66 #[.string t] w fun e w'=>∃ a c,e=.returned (.tuple #[.slice a (gJ t) c,.int .i64 (jZ t (gJ t)),.int .i64 0])∧kr w' a (gJ t) (gI t)∧Since w w':=by
 refine (Dq t ht w (gJ t) (jZ t (gJ t)) (jZ t) (fun k=>((gI t).take k).flatMap iO) rfl rfl (qm t) rfl (qD t) ?_ ?_).mono ?_
 ·intro k hk
  have hnz:=Jd hk
  have hp:=qD t k
  unfold gP at hnz
  obtain ⟨h4,h5,h6⟩:=yw hp hnz
  refine ⟨h4,h5, ?_, ?_⟩
  ·rw [sZ];unfold gP;rw [h6];omega
  ·rw [Cg hk];unfold gP;rw [FH hp hnz rfl];rfl
 ·rcases FJ t with h | h
  ·exact .inl h
  ·right
   unfold gP at h
   exact FE (qD t _) h
 ·rintro e w' ⟨a,c,he,hR,hS⟩
  refine ⟨a,c,he, ?_,hS⟩
  have e1:(gI t).take (gJ t)=gI t:=List.take_of_length_le (by rw [dL];omega)
  rw [e1,←dL] at hR
  have:=FK hR (by rw [dL];have:=qm t;omega)
  rwa [dL] at this
end Go.Proofs.YtiiifecfdkjmbaaGreat
namespace Go.Proofs.YtiiifecfdkjmbaaGreat
set_option maxRecDepth 8000
open Go.RowKit Go.Shelf
open _root_.Go.Proofs.YtiiifecfdkjmbaaGreat.Pure
set_option linter.unusedVariables false
set_option linter.unusedSimpArgs false
def l9 (t:ByteArray):List Ac:=if t.size≤4096 then gI t else []
def uH (t:ByteArray):Nat:=if t.size≤4096 then jZ t (gJ t) else 0
def nD (t:ByteArray):Int:=if t.size≤4096 then 0 else 2
theorem FL (w:World):kr w none 0 []:=⟨rfl,by simp,fun h=>absurd h (by simp)⟩
theorem uI (t:ByteArray) (w:World) :
  Calls Tryz.prog 65 #[.string t] w fun e w'=>∃ a c,e=.returned (.tuple #[.slice a (l9 t).length c,.int .i64 (uH t),.int .i64 (nD t)])∧kr w' a (l9 t).length (l9 t)∧Since w w':=by
 unfold l9 uH nD
 by_cases h:t.size≤4096
 ·rw [if_pos h,if_pos h,if_pos h,dL]
  exact (xJ t h w).mono fun e w' ⟨a,c,he,hA,hS,_⟩=>⟨a,c,he,hA,hS⟩
 ·rw [if_neg h,if_neg h,if_neg h]
  exact (yx t (by omega) w).mono fun e w' ⟨he,hS⟩=>⟨none,0,he,FL w',hS⟩
theorem vR (t:ByteArray) (w:World) :
  Calls Tryz.prog 66 #[.string t] w fun e w'=>∃ a c,e=.returned (.tuple #[.slice a (l9 t).length c,.int .i64 (uH t),.int .i64 (nD t)])∧kr w' a (l9 t).length (l9 t)∧Since w w':=by
 unfold l9 uH nD
 by_cases h:t.size≤4096
 ·rw [if_pos h,if_pos h,if_pos h,dL]
  exact (FI t h w).mono fun e w' ⟨a,c,he,hA,hS⟩=>⟨a,c,he,hA,hS⟩
 ·rw [if_neg h,if_neg h,if_neg h]
  exact (Bq t (by omega) w).mono fun e w' ⟨he,hS⟩=>⟨none,0,he,FL w',hS⟩
def wrS (x:Ac):ByteArray:=if okA x then aM x else ⟨#[]⟩
def wrE (x:Ac):Int:=if okA x then 0 else 3
theorem sS (x:Ac) (w:World):Calls Tryz.prog 63 #[acV x] w fun e w'=>e=.returned (.tuple #[.string (wrS x),.int .i64 (wrE x)])∧Since w w':=by
 refine (xK x w).mono fun e w' ⟨he,hS⟩=>⟨he.trans ?_,hS⟩
 unfold wrS wrE
 cases okA x <;> rfl
theorem CQ (x:Ac) (w:World):Calls Tryz.prog 64 #[acV x] w fun e w'=>e=.returned (.tuple #[.string (wrS x),.int .i64 (wrE x)])∧Since w w':=by
 refine (Dn x w).mono fun e w' ⟨he,hS⟩=>⟨he.trans ?_,hS⟩
 unfold wrS wrE
 cases okA x <;> rfl
def lC (nodes:Int) (g:List Int) (t:ByteArray):Int:=if dB nodes g=0 then nD t else dB nodes g
def tK (nodes:Int) (g:List Int) (t:ByteArray):Wd:=if lC nodes g t=0 then doneD nodes.toNat g (gI t) else ⟨[],[],[]⟩
def ru (nodes:Int) (g:List Int) (t:ByteArray):Nat:=if lC nodes g t=0 then gJ t else 0
theorem ql {nodes:Int} {g:List Int} (h:dB nodes g=0):1≤nodes∧nodes≤4∧1≤g.length∧g.length≤3:=by
 unfold dB at h
 split at h
 ·cases h
 ·split at h
  ·cases h
  ·omega
theorem lZ (nodes:Int) (a:Option Addr) (len cap:Nat) (l:List Int) (t:ByteArray) (w:World) (hI:Ints w a len l) :
  Calls Tryz.prog 68 #[.int .i64 nodes,.slice a len cap,.string t] w fun e w'=>∃ v:WV,e=.returned (.tuple #[.agg #[.slice v.ga v.gl v.gc,.slice v.na v.nl v.nc,.slice v.wa v.wl v.wc],.int .i64 (ru nodes l t),.int .i64 (lC nodes l t)])∧WAt w' v (tK nodes l t)∧Since w w':=by
 obtain rfl:l.length=len:=hI.hlen
 by_cases hN:dB nodes l=0
 ·obtain ⟨h1,h2,h3,h4⟩:=ql hN
  obtain ⟨n,rfl⟩:∃ n:Nat,nodes=(n:Int):=⟨nodes.toNat,by omega⟩
  by_cases ht:t.size≤4096
  ·have hE:lC n l t=0:=by unfold lC nD;rw [if_pos hN,if_pos ht]
   unfold tK ru
   rw [if_pos hE,if_pos hE,hE]
   exact (zZ n a cap l t w hI (by omega) h4 hN ht)
  ·have hE:lC n l t=2:=by unfold lC nD;rw [if_pos hN,if_neg ht]
   unfold tK ru
   rw [if_neg (by rw [hE];decide),if_neg (by rw [hE];decide),hE]
   exact (Dr n a cap l t w hI (by omega) h4 hN (by omega)).mono fun e w' ⟨he,hS⟩=>⟨⟨none,0,0,none,0,0,none,0,0⟩,he,qo w',hS⟩
 ·have hE:lC nodes l t=dB nodes l:=by unfold lC;rw [if_neg hN]
  unfold tK ru
  rw [if_neg (by rw [hE];exact hN),if_neg (by rw [hE];exact hN),hE]
  exact (FM nodes a l.length cap l t w hI hN).mono fun e w' ⟨he,hS⟩=>⟨⟨none,0,0,none,0,0,none,0,0⟩,he,qo w',hS⟩
def doE (d:Wd) (ac:Ac):Int:=match doD d ac with | .error e=>e | .ok _=>0
def doW (d:Wd) (ac:Ac):Wd:=match doD d ac with | .error _=>⟨[],[],[]⟩ | .ok d'=>d'
theorem Oj (x:WV) (d:Wd) (ac:Ac) (w:World) (hW:WAt w x d) :
  Calls Tryz.prog 53 #[.agg #[.slice x.ga x.gl x.gc,.slice x.na x.nl x.nc,.slice x.wa x.wl x.wc],acV ac] w fun e w'=>∃ v:WV,e=.returned (.tuple #[.agg #[.slice v.ga v.gl v.gc,.slice v.na v.nl v.nc,.slice v.wa v.wl v.wc],.int .i64 (doE d ac)])∧WAt w' v (doW d ac)∧Since w w':=by
 refine (ig x d ac w hW).mono ?_
 intro e w' h
 unfold doE doW
 cases hr:doD d ac with
 | error er =>
  rw [hr] at h
  obtain ⟨he,hS⟩:=h.out.1 er rfl
  exact ⟨⟨none,0,0,none,0,0,none,0,0⟩,he,qo w',hS⟩
 | ok d' =>
  rw [hr] at h
  obtain ⟨v,he,hv,hS⟩:=Fw h
  exact ⟨v,he,hv,hS⟩
theorem Ol {d:Wd} {ac:Ac} (h:doE d ac≠0):eY d ac=d:=by
 unfold doE at h
 unfold eY
 cases hr:doD d ac with
 | error er=>rfl
 | ok d'=>rw [hr] at h;exact absurd rfl h
theorem PL {d:Wd} {ac:Ac} (h:doE d ac=0):eY d ac=doW d ac:=by
 unfold doE at h
 unfold eY doW
 cases hr:doD d ac with
 | error er=>rw [hr] at h;exact absurd h (yM hr)
 | ok d'=>rfl
end Go.Proofs.YtiiifecfdkjmbaaGreat
namespace Go.Proofs.YtiiifecfdkjmbaaGreat
set_option maxRecDepth 8000
open _root_.Go.Proofs.YtiiifecfdkjmbaaGreat.Pure
theorem LM (t:ByteArray) {i k:Nat} (h:t.size≤k):t.extract i k=t.extract i t.size:=by
 refine ByteArray.ext ?_
 rw [ByteArray.data_extract,ByteArray.data_extract]
 refine Array.ext_getElem? fun j=>?_
 have:t.data.size=t.size:=rfl
 rw [Array.getElem?_extract,Array.getElem?_extract]
 by_cases h1:j < t.size - i
 ·rw [if_pos (by omega),if_pos (by omega)]
 ·rw [if_neg (by omega),if_neg (by omega)]
def kC:Nat→ByteArray→List Ac
 | 0,_=>[]
 | n+1,t=>if bq t=0 then [] else gH t::kC n (t.extract (bq t) t.size)
def uY:Nat→ByteArray→Nat
 | 0,_=>0
 | n+1,t=>if bq t=0 then 0 else bq t+uY n (t.extract (bq t) t.size)
theorem Aa (t:ByteArray) (k:Nat):gP t (k+1)=(gP t k).extract (bq (gP t k)) (gP t k).size:=by
 have h:=qD t k
 unfold gP
 rw [sZ,ByteArray.extract_extract,ByteArray.size_extract]
 unfold gP
 congr 1
 omega
theorem yA (t:ByteArray):∀ n k,(List.range (pX t n k)).map (fun i=>gH (gP t (k+i)))=kC n (gP t k)
 | 0,k=>by simp [pX,kC]
 | n+1,k=>by
  unfold pX kC
  by_cases hz:bq (gP t k)=0
  ·rw [if_pos hz,if_pos hz];rfl
  ·rw [if_neg hz,if_neg hz,List.range_succ_eq_map,List.map_cons,List.map_map,←Aa,←yA t n (k+1)]
   rw [Nat.add_zero]
   have:∀ i,((fun i=>gH (gP t (k+i))) ∘ Nat.succ) i=gH (gP t (k+1+i)):=fun i=>by
    rw [Function.comp_apply,show k+Nat.succ i=k+1+i from by omega]
   rw [List.map_congr_left fun i _=>this i]
theorem Ch (t:ByteArray):∀ n k,jZ t (k+pX t n k)=jZ t k+uY n (gP t k)
 | 0,k=>by simp [pX,uY]
 | n+1,k=>by
  unfold pX uY
  by_cases hz:bq (gP t k)=0
  ·rw [if_pos hz,if_pos hz];rfl
  ·rw [if_neg hz,if_neg hz,←Aa,show k+(pX t n (k+1)+1)=k+1+pX t n (k+1) from by omega,Ch t n (k+1),sZ]
   omega
theorem Ab (t:ByteArray):gP t 0=t:=by
 unfold gP jZ;exact ByteArray.extract_zero_size
theorem nX (t:ByteArray):gI t=kC 80 t:=by
 have:=yA t 80 0
 rw [Ab] at this
 rw [←this]
 unfold gI gJ
 refine List.map_congr_left fun i _=>?_
 rw [Nat.zero_add]
theorem GH (t:ByteArray):jZ t (gJ t)=uY 80 t:=by
 have:=Ch t 80 0
 rw [Ab,Nat.zero_add] at this
 rw [show jZ t 0=0 from rfl,Nat.zero_add] at this
 exact this
theorem lX {a b:ByteArray} {i:Nat} (h:i < a.size):bAt (a++b) i=bAt a i:=by
 unfold bAt
 rw [ByteArray.data_append,Array.getElem?_append_left h]
theorem Ng {a:ByteArray} {k i:Nat} (h:i < k):bAt (a.extract 0 k) i=bAt a i:=by
 unfold bAt
 rw [ByteArray.data_extract,Array.getElem?_extract]
 by_cases h1:i < a.data.size
 ·rw [if_pos (by omega),Nat.zero_add]
 ·rw [if_neg (by omega),Array.getElem?_eq_none (by omega)]
theorem lK (x:Ac):(aM x).size=4+x.body.size:=by
 unfold aM;rw [ByteArray.size_append];rfl
theorem wJ {x:Ac} (h:okA x=true) {i:Nat} {n:Int} (hn:(nE x)[i]? = some n):(bAt (aM x) i:Int)=n:=by
 have hi:i < 4:=(List.getElem?_eq_some_iff.1 hn).1
 have hb:bAt (aM x) i=bAt ⟨(headA x).toArray⟩ i:=by
  unfold aM;exact lX (by show i < (headA x).toArray.size;simpa [headA,nE] using hi)
 rw [hb]
 unfold bAt headA
 have hr:0≤n∧n≤255:=by
  unfold okA at h
  have:=List.all_eq_true.1 h n (List.mem_of_getElem? hn)
  simpa using this
 have:((nE x).map fun n=>UInt8.ofNat n.toNat).toArray[i]? = some (UInt8.ofNat n.toNat):=by
  rw [List.getElem?_toArray,List.getElem?_map,hn];rfl
 rw [this]
 simp
 omega
theorem OE {a b:Ac} (h1:a.kind=b.kind) (h2:a.one=b.one) (h3:a.two=b.two) (h4:a.body=b.body):a=b:=by
 cases a;cases b;simp_all
theorem Ci {x:Ac} (h:okA x=true) (r:ByteArray):bq (aM x++r)=(aM x).size∧gH (aM x++r)=x:=by
 have hs:=lK x
 have b0:=wJ h (i:=0) (n:=x.kind) rfl
 have b1:=wJ h (i:=1) (n:=x.one) rfl
 have b2:=wJ h (i:=2) (n:=x.two) rfl
 have b3:=wJ h (i:=3) (n:=(x.body.size:Int)) rfl
 have b3':bAt (aM x) 3=x.body.size:=by omega
 have hN:bq (aM x++r)=(aM x).size:=by
  unfold bq
  rw [ByteArray.size_append,lX (by omega),b3',if_neg (by omega),if_neg (by omega),hs]
 refine ⟨hN, ?_⟩
 unfold gH
 rw [if_neg (by omega),hN,lX (by omega),lX (by omega),lX (by omega)]
 refine OE b0 b1 b2 ?_
 show (aM x++r).extract 4 (aM x).size=x.body
 rw [ByteArray.extract_append,show (aM x).size - (aM x).size=0 from by omega]
 have:r.extract (4 - (aM x).size) 0=ByteArray.empty:=ByteArray.extract_eq_empty_iff.2 (by omega)
 rw [this,ByteArray.append_empty]
 unfold aM
 exact ByteArray.extract_append_eq_right rfl (by rw [ByteArray.size_append])
theorem Kc {x:Ac} (h:okA x=true) (r:ByteArray) {k:Nat} (hk:k < (aM x).size):bq ((aM x++r).extract 0 k)=0:=by
 have hs:=lK x
 have b3:=wJ h (i:=3) (n:=(x.body.size:Int)) rfl
 have b3':bAt (aM x) 3=x.body.size:=by omega
 unfold bq
 rw [ByteArray.size_extract,ByteArray.size_append]
 by_cases h4:k < 4
 ·rw [if_pos (by omega)]
 ·rw [if_neg (by omega),Ng (by omega),lX (by omega),b3',if_pos (by omega)]
theorem FN:bq ByteArray.empty=0:=by decide
theorem yB (n:Nat):kC n ByteArray.empty=[]:=by
 cases n with
 | zero=>rfl
 | succ n=>unfold kC;rw [if_pos FN]
def encR:List Ac→ByteArray
 | []=>ByteArray.empty
 | x::r=>aM x++encR r
theorem Ke (l:List Ac) (x:Ac):encR (l++[x])=encR l++aM x:=by
 induction l with
 | nil=>show aM x++ByteArray.empty=ByteArray.empty++aM x;rw [ByteArray.append_empty,ByteArray.empty_append]
 | cons y r ih=>show aM y++encR (r++[x])=aM y++encR r++aM x;rw [ih,ByteArray.append_assoc]
theorem JJ {l:List Ac} {k:Nat} {x:Ac} (h:l[k]? = some x):encR (l.take (k+1))=encR (l.take k)++aM x:=by
 rw [List.take_add_one,h];exact Ke _ x
theorem BO:∀ (l:List Ac) (n j k:Nat),(∀ x∈l,okA x=true)→l.length≤n→k≤(encR l).size→(encR (l.take j)).size≤k→j≤l.length→(j=l.length∨k < (encR (l.take (j+1))).size) →
  kC n ((encR l).extract 0 k)=l.take j
 | [],n,j,k,_,_,_,_,_,_=>by
  have:(encR []).extract 0 k=ByteArray.empty:=ByteArray.extract_eq_empty_iff.2 (by show min k 0≤0;omega)
  rw [this,yB];simp
 | x::r,n,j,k,hok,hn,hk,hj,hjl,hend=>by
  cases n with
  | zero=>simp at hn
  | succ n =>
   have hx:=hok x (by simp)
   have hbs:=lK x
   cases j with
   | zero =>
    have hlt:k < (aM x).size:=by
     rcases hend with h | h
     ·simp at h
     ·simpa [encR] using h
    unfold kC
    rw [show encR (x::r)=aM x++encR r from rfl,if_pos (Kc hx _ hlt)]
    rfl
   | succ j =>
    rw [List.take_succ_cons,show encR (x::r.take j)=aM x++encR (r.take j) from rfl,ByteArray.size_append] at hj
    rw [show encR (x::r)=aM x++encR r from rfl,ByteArray.size_append] at hk
    have he:(aM x++encR r).extract 0 k=aM x++(encR r).extract 0 (k - (aM x).size):=by
     rw [ByteArray.extract_append,show 0 - (aM x).size=0 from by omega]
     congr 1
     have e1:(aM x).extract 0 k=(aM x).extract 0 (aM x).size:=by
      exact LM _ (by omega)
     rw [e1,ByteArray.extract_zero_size]
    obtain ⟨f1,f2⟩:=Ci hx ((encR r).extract 0 (k - (aM x).size))
    unfold kC
    rw [show encR (x::r)=aM x++encR r from rfl,he,if_neg (by omega),f1,f2,List.take_succ_cons]
    congr 1
    have e2:(aM x++(encR r).extract 0 (k - (aM x).size)).extract (aM x).size (aM x++(encR r).extract 0 (k - (aM x).size)).size=(encR r).extract 0 (k - (aM x).size) :=
     ByteArray.extract_append_eq_right rfl (by rw [ByteArray.size_append])
    rw [e2]
    refine BO r n j (k - (aM x).size) (fun y hy=>hok y (by simp [hy])) (by simpa using hn) (by omega) (by omega) (by simpa using hjl) ?_
    rcases hend with h | h
    ·left;simpa using h
    ·right
     rw [List.take_succ_cons,show encR (x::r.take (j+1))=aM x++encR (r.take (j+1)) from rfl,ByteArray.size_append] at h
     omega
theorem Kg {t b:ByteArray} (h:bq t≠0):bq (t++b)=bq t∧gH (t++b)=gH t:=by
 have hle:bq t≤t.size:=by
  unfold bq
  split
  ·omega
  ·split <;> omega
 have h4:¬ t.size < 4:=fun h4=>h (by unfold bq;rw [if_pos h4])
 have h5:¬ t.size < 4+bAt t 3:=fun h5=>h (by unfold bq;rw [if_neg h4,if_pos h5])
 have hN:bq (t++b)=bq t:=by
  unfold bq
  rw [ByteArray.size_append,lX (by omega),if_neg (by omega),if_neg (by omega),if_neg h4,if_neg h5]
 refine ⟨hN, ?_⟩
 unfold gH
 rw [hN,if_neg h,if_neg h,lX (by omega),lX (by omega),lX (by omega),ByteArray.extract_append]
 have:b.extract (4 - t.size) (bq t - t.size)=ByteArray.empty:=ByteArray.extract_eq_empty_iff.2 (by omega)
 rw [this,ByteArray.append_empty]
theorem zn {x:Ac} (hx:okA x=true):∀ (n:Nat) (t:ByteArray),uY n t=t.size→(kC n t).length < n→kC n (t++aM x)=kC n t++[x]
 | 0,t,_,h=>absurd h (by simp)
 | n+1,t,he,hl=>by
  unfold uY at he
  unfold kC at hl ⊢
  by_cases hz:bq t=0
  ·rw [if_pos hz] at he ⊢
   obtain rfl:t=ByteArray.empty:=ByteArray.size_eq_zero_iff.1 he.symm
   obtain ⟨f1,f2⟩:=Ci hx ByteArray.empty
   have hbs:=lK x
   rw [ByteArray.empty_append]
   rw [ByteArray.append_empty] at f1 f2
   rw [if_neg (by omega),f1,f2,ByteArray.extract_same,yB]
   rfl
  ·rw [if_neg hz] at he hl ⊢
   obtain ⟨f1,f2⟩:=Kg (b:=aM x) hz
   have hle:bq t≤t.size:=Cj t
   have e1:(t++aM x).extract (bq t) (t++aM x).size=t.extract (bq t) t.size++aM x:=by
    rw [ByteArray.extract_append,ByteArray.size_append,show bq t - t.size=0 from by omega,show t.size+(aM x).size - t.size=(aM x).size from by omega,ByteArray.extract_zero_size]
    rw [LM t (by omega)]
   rw [f1,if_neg hz,f2,e1,zn hx n (t.extract (bq t) t.size) (by rw [ByteArray.size_extract];omega) (by simpa using hl)]
   rfl
theorem IX {x:Ac} (h:okA x=true):(aM x).size≤259:=by
 have hb:=lK x
 have:(x.body.size:Int)≤255:=by
  unfold okA at h
  have:=List.all_eq_true.1 h (x.body.size:Int) (by unfold nE;simp)
  simp at this
  omega
 omega
end Go.Proofs.YtiiifecfdkjmbaaGreat
