/- Lemmas. -/
import Derived.Test.YtiiifecfdkjmbaaCsRead
import Derived.Test.YtiiifecfdkjmbaaMsg
set_option maxHeartbeats 2000000
namespace Go.Proofs.Ytiiifecfdkjmbaa
open _root_.Go.Proofs.Try
set_option maxRecDepth 8000
open Go.RowKit Go.Shelf
open Pu
set_option linter.unusedVariables false
set_option linter.unusedSimpArgs false
theorem y9 (nodes:Int) (a:Option Addr) (len cap:Nat) (l:List Int) (ac:Option Addr) (al gG:Nat) (acts:List Ac) (i j k:Int) (w:World) (hI:Ints w a len l) (hA:qJ w ac al acts) (hN:¬ qU nodes l acts=0\/(gF nodes l acts).length=0) (hCB:∀ y,Calls prog 33 #[] y fun e w'=>e=.returned (.bool true)/\Since y w') :
  Calls prog 10 #[.int .i64 nodes,.slice a len cap,.slice ac al gG,.int .i64 i,.int .i64 j,.int .i64 k] w fun e w'=>e=.returned (.bool true)/\Since w w':=by
 have hMk:=sw nodes a len cap l ac al gG acts w hI hA
 obtain ⟨er,her⟩:∃ y,qU nodes l acts=y:=⟨_,rfl⟩
 obtain ⟨n,hn⟩:∃ y,(gF nodes l acts).length=y:=⟨_,rfl⟩
 rw [her,hn] at hMk hN
 clear her hn hI hA
 go_enter func10,ntmps10
 go_wp2_with fail
 refine hMk.mono ?_
 rintro e w2 ⟨sa,sc,sb,sd,rfl,hM,hB,hS2⟩
 dsimp only
 clear hMk
 by_cases he:er=0
 ·have hz:n=0:=hN.resolve_left (fun h=>h he)
  subst he hz
  clear hM hB hN
  go_wp2_with (go_at_call 33;refine (hCB w2).mono ?_;rintro e w8 ⟨rfl,hS8⟩)
  go_ret
  exact ⟨by simp,hS2.trans hS8⟩
 ·have hb:(er != 0)=true:=by simpa using he
  clear hM hB hN he
  go_wp2_with (go_at_call 33;refine (hCB w2).mono ?_;rintro e w8 ⟨rfl,hS8⟩)
  go_ret
  exact ⟨by simp,hS2.trans hS8⟩
theorem xD (nodes:Int) (a:Option Addr) (len cap:Nat) (ac:Option Addr) (al gG:Nat) (ia ib ic n:Nat) (ma mb:Mg) (baa bab bbc bac:Bool) (ci cj ck:Int) (xs:List Mg) (rows:List (List Bool)) (ra rb rc:List Bool) (w:World)
  (hMk:Calls prog 32 #[.int .i64 nodes,.slice a len cap,.slice ac al gG] w fun e w'=>∃ (sa:Option Addr) (sc:Nat) (sb:Option Addr) (sd:Nat),e=.returned (.tuple #[.slice sa n sc,.slice sb n sd,.int .i64 0])/\fO w' sa n xs/\Slices iK w' sb n rows/\Since w w')
  (hCa:∀ y,Calls prog 34 #[.int .i64 ci,.int .i64 n] y fun e w'=>e=.returned (.int .i64 ia)/\w'=y)
  (hCb:∀ y,Calls prog 34 #[.int .i64 cj,.int .i64 n] y fun e w'=>e=.returned (.int .i64 ib)/\w'=y)
  (hCc:∀ y,Calls prog 34 #[.int .i64 ck,.int .i64 n] y fun e w'=>e=.returned (.int .i64 ic)/\w'=y)
  (ha:ia < n) (hb:ib < n) (hc:ic < n) (hn:n<=80) (Ha:Hid (xs[ia]? = some ma)) (Hb:Hid (xs[ib]? = some mb)) (HRa:Hid (rows[ia]? = some ra/\ra.length=n)) (HRb:Hid (rows[ib]? = some rb/\rb.length=n)) (HRc:Hid (rows[ic]? = some rc/\rc.length=n))
  (Haa:Hid (ra[ia]? = some baa)) (Hab:Hid (ra[ib]? = some bab)) (Hbc:Hid (rb[ic]? = some bbc)) (Hac:Hid (ra[ic]? = some bac)) (K1:Hid (baa=false)) (K2:Hid (bab=true->bbc=true->bac=true)) (K3:Hid (bab=true->mb.st < ma.st)) (K4:Hid (ma.fr=mb.fr->bab=decide (ib < ia))) (hCB:∀ y,Calls prog 33 #[] y fun e w'=>e=.returned (.bool true)/\Since y w') :
  Calls prog 10 #[.int .i64 nodes,.slice a len cap,.slice ac al gG,.int .i64 ci,.int .i64 cj,.int .i64 ck] w fun e w'=>e=.returned (.bool true)/\Since w w':=by
 have n0:decide ((n:Int)=0)=false:=by simp;omega
 have n0':((n:Int) == 0)=false:=by simp;omega
 have na:(ia:Int) < (n:Int):=by omega
 have nb:(ib:Int) < (n:Int):=by omega
 have nc:(ic:Int) < (n:Int):=by omega
 go_enter func10,ntmps10
 go_wp2_with fail
 refine hMk.mono ?_
 rintro e w2 ⟨sa,sc,sb,sd,rfl,hM,hB,hS2⟩
 dsimp only
 clear hMk
 obtain ⟨bm,om,rfl,hbm,hcm⟩:=hM.cells (by omega)
 have ka:=bZ hcm ia ma Ha.out
 have kb:=bZ hcm ib mb Hb.out
 obtain ⟨br,oR,rfl,hbr,hcR⟩:=hB.cells (by omega)
 obtain ⟨va,qa,aa,ca,rfl,_,hBa⟩:=hcR ia ra HRa.out.1
 rw [HRa.out.2] at qa hBa
 obtain ⟨ba,oa,rfl,hba,hca⟩:=hBa.cells (by omega)
 obtain ⟨va,qb,aa,cb,rfl,_,hBb⟩:=hcR ib rb HRb.out.1
 rw [HRb.out.2] at qb hBb
 obtain ⟨bb,ob,rfl,hbb,hcb⟩:=hBb.cells (by omega)
 obtain ⟨va,qc,aa,cc,rfl,_,hBc⟩:=hcR ic rc HRc.out.1
 rw [HRc.out.2] at qc hBc
 obtain ⟨bc,oc,rfl,hbc,hcc⟩:=hBc.cells (by omega)
 have qaa:=hca ia _ Haa.out
 have qab:=hca ib _ Hab.out
 have qbc:=hcb ic _ Hbc.out
 have qac:=hca ic _ Hac.out
 clear hM hB hcm hcR hBa hBb hBc hca hcb hcc Ha Hb HRa HRb HRc Haa Hab Hbc Hac
 go_wp2_with (first
  | (go_at_call_of 34 (Value.int .i64 ci);refine (hCa w2).mono ?_;rintro e w' ⟨rfl,hw⟩;obtain rfl:=hw.symm)
  | (go_at_call_of 34 (Value.int .i64 cj);refine (hCb w2).mono ?_;rintro e w' ⟨rfl,hw⟩;obtain rfl:=hw.symm)
  | (go_at_call_of 34 (Value.int .i64 ck);refine (hCc w2).mono ?_;rintro e w' ⟨rfl,hw⟩;obtain rfl:=hw.symm))
 obtain ⟨W0,hW0⟩:∃ y,w2.drew=y:=⟨_,rfl⟩
 have hs0:=aJ hW0
 obtain ⟨S0,hS0⟩:∃ S0:World->Prop,∀ w',S0 w'↔Since w2 w':=⟨_,fun _=>Iff.rfl⟩
 have ra:∀ y:aj S0,y.w.cell? ⟨br,oR+ia,none⟩=some (.slice (some ⟨ba,oa,none⟩) n ca):=fun y=>(((hS0 _).1 y.h).cellAt hbr _).trans qa
 have rb:∀ y:aj S0,y.w.cell? ⟨br,oR+ib,none⟩=some (.slice (some ⟨bb,ob,none⟩) n cb):=fun y=>(((hS0 _).1 y.h).cellAt hbr _).trans qb
 have rc:∀ y:aj S0,y.w.cell? ⟨br,oR+ic,none⟩=some (.slice (some ⟨bc,oc,none⟩) n cc):=fun y=>(((hS0 _).1 y.h).cellAt hbr _).trans qc
 have vaa:∀ y:aj S0,y.w.cell? ⟨ba,oa+ia,none⟩=some (.bool baa):=fun y=>(((hS0 _).1 y.h).cellAt hba _).trans qaa
 have vab:∀ y:aj S0,y.w.cell? ⟨ba,oa+ib,none⟩=some (.bool bab):=fun y=>(((hS0 _).1 y.h).cellAt hba _).trans qab
 have vbc:∀ y:aj S0,y.w.cell? ⟨bb,ob+ic,none⟩=some (.bool bbc):=fun y=>(((hS0 _).1 y.h).cellAt hbb _).trans qbc
 have vac:∀ y:aj S0,y.w.cell? ⟨ba,oa+ic,none⟩=some (.bool bac):=fun y=>(((hS0 _).1 y.h).cellAt hba _).trans qac
 have sa:∀ y:aj S0,y.w.cell? ⟨bm,om+ia*5+2,none⟩=some (.int .i64 ma.st):=fun y=>(((hS0 _).1 y.h).cellAt hbm _).trans ka.c2
 have sb:∀ y:aj S0,y.w.cell? ⟨bm,om+ib*5+2,none⟩=some (.int .i64 mb.st):=fun y=>(((hS0 _).1 y.h).cellAt hbm _).trans kb.c2
 have ak:=(hS0 W0).2 hs0
 have hne:Nonempty (aj S0):=⟨⟨_,ak⟩⟩
 have bG:=aG w
 have e1:=K1.out
 subst e1
 have hsplit:(bab=false)\/(bab=true/\bbc=false)\/(bab=true/\bbc=true/\bac=true):=by
  have:=K2.out
  cases bab
  ·exact .inl rfl
  ·cases bbc
   ·exact .inr (.inl ⟨rfl,rfl⟩)
   ·exact .inr (.inr ⟨rfl,rfl,this rfl rfl⟩)
 have h3:bab=true->decide (ma.st<=mb.st)=false:=fun h=>by have:=K3.out h;simp;omega
 clear K1 K2 K3
 rcases hsplit with rfl | ⟨rfl,rfl⟩ | ⟨rfl,rfl,rfl⟩
 case' inl =>
  clear h3
  refine aF (fun w'=>∃ x:aj S0,w'=x.w) (by kernel_rfl) ?_
  rw [hW0]
  clear hW0
  refine tW 0 rfl ?_;go_big_quiet_op
  refine tW 1 rfl ?_;go_big_quiet_op
  refine tW 2 rfl ?_;go_big_quiet_op
  refine tM 3 rfl (ah ak) ?_;go_big_quiet_op
  refine tW 4 rfl ?_;go_big_quiet_op
  refine tW 5 rfl ?_;go_big_quiet_op
  refine tM 6 rfl (ah ak) ?_;go_big_quiet_op
  refine tW 7 rfl ?_;go_big_quiet_op
  refine tW 8 rfl ?_;go_big_quiet_op
  refine tW 9 rfl ?_;go_big_quiet_op
  refine tW 10 rfl ?_;go_big_quiet_op
  refine tM 11 rfl (ah ak) ?_;go_big_quiet_op
  refine tW 12 rfl ?_;go_big_quiet_op
  refine tW 13 rfl ?_;go_big_quiet_op
  refine tM 14 rfl (ah ak) ?_;go_big_quiet_op
  refine tW 15 rfl ?_;go_big_quiet_op
  refine aK 16 rfl (by kernel_rfl) (fun _=>ah ak) (fun _ _ _ _ h=>h) (by rfl) ?_
  simp only [Act.put,zQ7,zQ8,zQ9]
  refine aK 17 rfl (by kernel_rfl) (fun _=>ah ak) (fun _ _ _ _ h=>h) (by rfl) ?_
  simp only [Act.put,zQ7,zQ8,zQ9]
  refine aK 18 rfl (by kernel_rfl) (fun _=>ah ak) (fun _ _ _ _ h=>h) (by rfl) ?_
  simp only [Act.put,zQ7,zQ8,zQ9]
  refine aK 19 rfl (by kernel_rfl) (fun _=>ah ak) (fun _ _ _ _ h=>h) (by rfl) ?_
  simp only [Act.put,zQ7,zQ8,zQ9]
  refine aK 20 rfl (by kernel_rfl) (fun _=>ah ak) (fun _ _ _ _ h=>h) (by rfl) ?_
  simp only [Act.put,zQ7,zQ8,zQ9]
  refine aK 21 rfl (by kernel_rfl) (fun _=>ah ak) (fun _ _ _ _ h=>h) (by rfl) ?_
  simp only [Act.put,zQ7,zQ8,zQ9]
  refine aK 22 rfl (by kernel_rfl) (fun _=>ah ak) (fun _ _ _ _ h=>h) (by rfl) ?_
  simp only [Act.put,zQ7,zQ8,zQ9]
  refine tW 23 rfl ?_;go_big_quiet_op
  refine tW 24 rfl ?_;go_big_quiet_op
  refine aK 25 rfl (by kernel_rfl) (fun _=>ah ak) (fun _ _ _ _ h=>h) (by rfl) ?_
  simp only [Act.put,zQ7,zQ8,zQ9]
  refine aK 26 rfl (by kernel_rfl) (fun _=>ah ak) (fun _ _ _ _ h=>h) (by rfl) ?_
  simp only [Act.put,zQ7,zQ8,zQ9]
  refine aK 27 rfl (by kernel_rfl) (fun _=>ah ak) (fun _ _ _ _ h=>h) (by rfl) ?_
  simp only [Act.put,zQ7,zQ8,zQ9]
  refine aK 28 rfl (by kernel_rfl) (fun _=>ah ak) (fun _ _ _ _ h=>h) (by rfl) ?_
  simp only [Act.put,zQ7,zQ8,zQ9]
  refine aK 29 rfl (by kernel_rfl) (fun _=>ah ak) (fun _ _ _ _ h=>h) (by rfl) ?_
  simp only [Act.put,zQ7,zQ8,zQ9]
  refine aK 30 rfl (by kernel_rfl) (fun _=>ah ak) (fun _ _ _ _ h=>h) (by rfl) ?_
  simp only [Act.put,zQ7,zQ8,zQ9]
  refine aK 31 rfl (by kernel_rfl) (fun _=>ah ak) (fun _ _ _ _ h=>h) (by rfl) ?_
  simp only [Act.put,zQ7,zQ8,zQ9]
  refine aK 32 rfl (by kernel_rfl) (fun _=>ah ak) (fun _ _ _ _ h=>h) (by rfl) ?_
  simp only [Act.put,zQ7,zQ8,zQ9]
  refine tW 33 rfl ?_;go_big_quiet_op
  refine tW 34 rfl ?_;go_big_quiet_op
  refine tW 35 rfl ?_;go_big_quiet_op
  refine tW 36 rfl ?_;go_big_quiet_op
  refine tW 37 rfl ?_;go_big_quiet_op
  refine tW 38 rfl ?_;go_big_quiet_op
  refine tM 39 rfl (ah ak) ?_;go_big_quiet_op
  refine tW 40 rfl ?_;go_big_quiet_op
  refine tW 41 rfl ?_;go_big_quiet_op
  refine tM 42 rfl (ah ak) ?_;go_big_quiet_op
  refine tW 43 rfl ?_;go_big_quiet_op
  refine aK 44 rfl (by kernel_rfl) (fun _=>ah ak) (fun _ _ _ _ h=>h) (by rfl) ?_
  simp only [Act.put,zQ7,zQ8,zQ9]
  refine aK 45 rfl (by kernel_rfl) (fun _=>ah ak) (fun _ _ _ _ h=>h) (by rfl) ?_
  simp only [Act.put,zQ7,zQ8,zQ9]
  refine aK 46 rfl (by kernel_rfl) (fun _=>ah ak) (fun _ _ _ _ h=>h) (by rfl) ?_
  simp only [Act.put,zQ7,zQ8,zQ9]
  refine aK 47 rfl (by kernel_rfl) (fun _=>ah ak) (fun _ _ _ _ h=>h) (by rfl) ?_
  simp only [Act.put,zQ7,zQ8,zQ9]
  refine aK 48 rfl (by kernel_rfl) (fun _=>ah ak) (fun _ _ _ _ h=>h) (by rfl) ?_
  simp only [Act.put,zQ7,zQ8,zQ9]
  refine aK 49 rfl (by kernel_rfl) (fun _=>ah ak) (fun _ _ _ _ h=>h) (by rfl) ?_
  simp only [Act.put,zQ7,zQ8,zQ9]
  refine aK 50 rfl (by kernel_rfl) (fun _=>ah ak) (fun _ _ _ _ h=>h) (by rfl) ?_
  simp only [Act.put,zQ7,zQ8,zQ9]
  refine aK 51 rfl (by kernel_rfl) (fun _=>ah ak) (fun _ _ _ _ h=>h) (by rfl) ?_
  simp only [Act.put,zQ7,zQ8,zQ9]
  refine aK 52 rfl (by kernel_rfl) (fun _=>ah ak) (fun _ _ _ _ h=>h) (by rfl) ?_
  simp only [Act.put,zQ7,zQ8,zQ9]
  refine aK 53 rfl (by kernel_rfl) (fun _=>ah ak) (fun _ _ _ _ h=>h) (by rfl) ?_
  simp only [Act.put,zQ7,zQ8,zQ9]
  refine aK 54 rfl (by kernel_rfl) (fun _=>ah ak) (fun _ _ _ _ h=>h) (by rfl) ?_
  simp only [Act.put,zQ7,zQ8,zQ9]
  refine tW 55 rfl ?_;go_big_quiet_op
  refine tW 56 rfl ?_;go_big_quiet_op
  refine aM (by kernel_rfl) ?_
  clear ra rb rc vaa vab vbc vac sa sb hne ak hS0
 case' inr.inl =>
  have h3:=h3 rfl
  refine aF (fun w'=>∃ x:aj S0,w'=x.w) (by kernel_rfl) ?_
  rw [hW0]
  clear hW0
  refine tW 0 rfl ?_;go_big_quiet_op
  refine tW 1 rfl ?_;go_big_quiet_op
  refine tW 2 rfl ?_;go_big_quiet_op
  refine tM 3 rfl (ah ak) ?_;go_big_quiet_op
  refine tW 4 rfl ?_;go_big_quiet_op
  refine tW 5 rfl ?_;go_big_quiet_op
  refine tM 6 rfl (ah ak) ?_;go_big_quiet_op
  refine tW 7 rfl ?_;go_big_quiet_op
  refine tW 8 rfl ?_;go_big_quiet_op
  refine tW 9 rfl ?_;go_big_quiet_op
  refine tW 10 rfl ?_;go_big_quiet_op
  refine tM 11 rfl (ah ak) ?_;go_big_quiet_op
  refine tW 12 rfl ?_;go_big_quiet_op
  refine tW 13 rfl ?_;go_big_quiet_op
  refine tM 14 rfl (ah ak) ?_;go_big_quiet_op
  refine tW 15 rfl ?_;go_big_quiet_op
  refine tW 16 rfl ?_;go_big_quiet_op
  refine tW 17 rfl ?_;go_big_quiet_op
  refine tW 18 rfl ?_;go_big_quiet_op
  refine tM 19 rfl (ah ak) ?_;go_big_quiet_op
  refine tW 20 rfl ?_;go_big_quiet_op
  refine tW 21 rfl ?_;go_big_quiet_op
  refine tM 22 rfl (ah ak) ?_;go_big_quiet_op
  refine tW 23 rfl ?_;go_big_quiet_op
  refine tW 24 rfl ?_;go_big_quiet_op
  refine aK 25 rfl (by kernel_rfl) (fun _=>ah ak) (fun _ _ _ _ h=>h) (by rfl) ?_
  simp only [Act.put,zQ7,zQ8,zQ9]
  refine aK 26 rfl (by kernel_rfl) (fun _=>ah ak) (fun _ _ _ _ h=>h) (by rfl) ?_
  simp only [Act.put,zQ7,zQ8,zQ9]
  refine aK 27 rfl (by kernel_rfl) (fun _=>ah ak) (fun _ _ _ _ h=>h) (by rfl) ?_
  simp only [Act.put,zQ7,zQ8,zQ9]
  refine aK 28 rfl (by kernel_rfl) (fun _=>ah ak) (fun _ _ _ _ h=>h) (by rfl) ?_
  simp only [Act.put,zQ7,zQ8,zQ9]
  refine aK 29 rfl (by kernel_rfl) (fun _=>ah ak) (fun _ _ _ _ h=>h) (by rfl) ?_
  simp only [Act.put,zQ7,zQ8,zQ9]
  refine aK 30 rfl (by kernel_rfl) (fun _=>ah ak) (fun _ _ _ _ h=>h) (by rfl) ?_
  simp only [Act.put,zQ7,zQ8,zQ9]
  refine aK 31 rfl (by kernel_rfl) (fun _=>ah ak) (fun _ _ _ _ h=>h) (by rfl) ?_
  simp only [Act.put,zQ7,zQ8,zQ9]
  refine aK 32 rfl (by kernel_rfl) (fun _=>ah ak) (fun _ _ _ _ h=>h) (by rfl) ?_
  simp only [Act.put,zQ7,zQ8,zQ9]
  refine tW 33 rfl ?_;go_big_quiet_op
  refine tW 34 rfl ?_;go_big_quiet_op
  refine tW 35 rfl ?_;go_big_quiet_op
  refine tW 36 rfl ?_;go_big_quiet_op
  refine tW 37 rfl ?_;go_big_quiet_op
  refine tW 38 rfl ?_;go_big_quiet_op
  refine tM 39 rfl (ah ak) ?_;go_big_quiet_op
  refine tW 40 rfl ?_;go_big_quiet_op
  refine tW 41 rfl ?_;go_big_quiet_op
  refine tM 42 rfl (ah ak) ?_;go_big_quiet_op
  refine tW 43 rfl ?_;go_big_quiet_op
  refine tW 44 rfl ?_;go_big_quiet_op
  refine tW 45 rfl ?_;go_big_quiet_op
  refine tW 46 rfl ?_;go_big_quiet_op
  refine tW 47 rfl ?_;go_big_quiet_op
  refine tM 48 rfl (ah ak) ?_;go_big_quiet_op
  refine tW 49 rfl ?_;go_big_quiet_op
  refine tW 50 rfl ?_;go_big_quiet_op
  refine tW 51 rfl ?_;go_big_quiet_op
  refine tW 52 rfl ?_;go_big_quiet_op
  refine tM 53 rfl (ah ak) ?_;go_big_quiet_op
  refine tW 54 rfl ?_;go_big_quiet_op
  refine tW 55 rfl ?_;go_big_quiet_op
  refine tW 56 rfl ?_;go_big_quiet_op
  refine aM (by kernel_rfl) ?_
  clear ra rb rc vaa vab vbc vac sa sb hne ak hS0
  clear h3
 case' inr.inr =>
  have h3:=h3 rfl
  refine aF (fun w'=>∃ x:aj S0,w'=x.w) (by kernel_rfl) ?_
  rw [hW0]
  clear hW0
  refine tW 0 rfl ?_;go_big_quiet_op
  refine tW 1 rfl ?_;go_big_quiet_op
  refine tW 2 rfl ?_;go_big_quiet_op
  refine tM 3 rfl (ah ak) ?_;go_big_quiet_op
  refine tW 4 rfl ?_;go_big_quiet_op
  refine tW 5 rfl ?_;go_big_quiet_op
  refine tM 6 rfl (ah ak) ?_;go_big_quiet_op
  refine tW 7 rfl ?_;go_big_quiet_op
  refine tW 8 rfl ?_;go_big_quiet_op
  refine tW 9 rfl ?_;go_big_quiet_op
  refine tW 10 rfl ?_;go_big_quiet_op
  refine tM 11 rfl (ah ak) ?_;go_big_quiet_op
  refine tW 12 rfl ?_;go_big_quiet_op
  refine tW 13 rfl ?_;go_big_quiet_op
  refine tM 14 rfl (ah ak) ?_;go_big_quiet_op
  refine tW 15 rfl ?_;go_big_quiet_op
  refine tW 16 rfl ?_;go_big_quiet_op
  refine tW 17 rfl ?_;go_big_quiet_op
  refine tW 18 rfl ?_;go_big_quiet_op
  refine tM 19 rfl (ah ak) ?_;go_big_quiet_op
  refine tW 20 rfl ?_;go_big_quiet_op
  refine tW 21 rfl ?_;go_big_quiet_op
  refine tM 22 rfl (ah ak) ?_;go_big_quiet_op
  refine tW 23 rfl ?_;go_big_quiet_op
  refine tW 24 rfl ?_;go_big_quiet_op
  refine tW 25 rfl ?_;go_big_quiet_op
  refine tW 26 rfl ?_;go_big_quiet_op
  refine tW 27 rfl ?_;go_big_quiet_op
  refine tM 28 rfl (ah ak) ?_;go_big_quiet_op
  refine tW 29 rfl ?_;go_big_quiet_op
  refine tW 30 rfl ?_;go_big_quiet_op
  refine tM 31 rfl (ah ak) ?_;go_big_quiet_op
  refine tW 32 rfl ?_;go_big_quiet_op
  refine tW 33 rfl ?_;go_big_quiet_op
  refine tW 34 rfl ?_;go_big_quiet_op
  refine tW 35 rfl ?_;go_big_quiet_op
  refine tW 36 rfl ?_;go_big_quiet_op
  refine tW 37 rfl ?_;go_big_quiet_op
  refine tW 38 rfl ?_;go_big_quiet_op
  refine tM 39 rfl (ah ak) ?_;go_big_quiet_op
  refine tW 40 rfl ?_;go_big_quiet_op
  refine tW 41 rfl ?_;go_big_quiet_op
  refine tM 42 rfl (ah ak) ?_;go_big_quiet_op
  refine tW 43 rfl ?_;go_big_quiet_op
  refine tW 44 rfl ?_;go_big_quiet_op
  refine tW 45 rfl ?_;go_big_quiet_op
  refine tW 46 rfl ?_;go_big_quiet_op
  refine tW 47 rfl ?_;go_big_quiet_op
  refine tM 48 rfl (ah ak) ?_;go_big_quiet_op
  refine tW 49 rfl ?_;go_big_quiet_op
  refine tW 50 rfl ?_;go_big_quiet_op
  refine tW 51 rfl ?_;go_big_quiet_op
  refine tW 52 rfl ?_;go_big_quiet_op
  refine tM 53 rfl (ah ak) ?_;go_big_quiet_op
  refine tW 54 rfl ?_;go_big_quiet_op
  refine tW 55 rfl ?_;go_big_quiet_op
  refine tW 56 rfl ?_;go_big_quiet_op
  refine aM (by kernel_rfl) ?_
  clear ra rb rc vaa vab vbc vac sa sb hne ak hS0
  clear h3
 all_goals
  have hS0:=hS2.trans hs0
  have qa:=(hs0.cellAt hbr _).trans qa
  have qab:=(hs0.cellAt hba _).trans qab
  have ka0:=(hs0.cellAt hbm _).trans ka.c0
  have kb0:=(hs0.cellAt hbm _).trans kb.c0
  have hbr:=zQ4 hbr hs0.size
  have hba:=zQ4 hba hs0.size
  have hbm:=zQ4 hbm hs0.size
  clear hs0 hS2 ka kb qb qc qaa qbc qac hCa hCb hCc hbb hbc n0 n0'
  go_wp2_with fail
  obtain ⟨W5,hW0⟩:∃ y,W0.drew=y:=⟨_,rfl⟩
  have hs5:=aJ hW0
  obtain ⟨S5,hS5⟩:∃ S0:World->Prop,∀ w',S0 w'↔Since W0 w':=⟨_,fun _=>Iff.rfl⟩
  have r5:∀ y:aj S5,y.w.cell? ⟨br,oR+ia,none⟩=some (.slice (some ⟨ba,oa,none⟩) n ca):=fun y=>(((hS5 _).1 y.h).cellAt hbr _).trans qa
  have u5:∀ y:aj S5,y.w.cell? ⟨bm,om+ia*5,none⟩=some (.int .i64 ma.fr):=fun y=>(((hS5 _).1 y.h).cellAt hbm _).trans ka0
  have w5:∀ y:aj S5,y.w.cell? ⟨bm,om+ib*5,none⟩=some (.int .i64 mb.fr):=fun y=>(((hS5 _).1 y.h).cellAt hbm _).trans kb0
  have kT:=(hS5 W5).2 hs5
  have hne:Nonempty (aj S5):=⟨⟨_,kT⟩⟩
  have v5:=fun y:aj S5=>(((hS5 _).1 y.h).cellAt hba _).trans qab
  have Mj:=hCB W5
  clear qa qab ka0 kb0
  by_cases hfr:ma.fr=mb.fr
  ·have hne1:(ma.fr != mb.fr)=false:=by simpa using hfr
   have hd:decide ((ib:Int) < (ia:Int))=decide (ib < ia):=by congr 1;simp
   rw [<-K4.out hfr] at hd
   clear hfr K4
   refine aF (fun w'=>∃ x:aj S5,w'=x.w) (by kernel_rfl) ?_
   rw [hW0]
   clear hW0
   refine aI 0 rfl (by kernel_rfl) ?_
   intro K hK
   go_simp
   refine Mj.mono ?_
   rintro e w9 ⟨rfl,hS9⟩
   dsimp only
   refine hK _ _ (fun _ _=>ah ((hS5 _).2 (hs5.trans hS9))) ?_
   clear hK K
   refine tW 1 rfl ?_;go_big_quiet_op
   refine tW 2 rfl ?_;go_big_quiet_op
   refine tW 3 rfl ?_;go_big_quiet_op
   refine tW 4 rfl ?_;go_big_quiet_op
   refine tW 5 rfl ?_;go_big_quiet_op
   refine tM 6 rfl (ah ((hS5 _).2 (hs5.trans hS9))) ?_
   go_big_quiet_op
   refine tW 7 rfl ?_;go_big_quiet_op
   refine tW 8 rfl ?_;go_big_quiet_op
   refine tW 9 rfl ?_;go_big_quiet_op
   refine tW 10 rfl ?_;go_big_quiet_op
   refine tM 11 rfl (ah ((hS5 _).2 (hs5.trans hS9))) ?_
   go_big_quiet_op
   refine tW 12 rfl ?_;go_big_quiet_op
   refine tW 13 rfl ?_;go_big_quiet_op
   refine tW 14 rfl ?_;go_big_quiet_op
   refine tW 15 rfl ?_;go_big_quiet_op
   refine tW 16 rfl ?_;go_big_quiet_op
   refine tM 17 rfl (ah ((hS5 _).2 (hs5.trans hS9))) ?_
   go_big_quiet_op
   refine tW 18 rfl ?_;go_big_quiet_op
   refine tW 19 rfl ?_;go_big_quiet_op
   refine tM 20 rfl (ah ((hS5 _).2 (hs5.trans hS9))) ?_
   go_big_quiet_op
   refine tW 21 rfl ?_;go_big_quiet_op
   refine tW 22 rfl ?_;go_big_quiet_op
   refine tW 23 rfl ?_;go_big_quiet_op
   refine tW 24 rfl ?_;go_big_quiet_op
   refine tW 25 rfl ?_;go_big_quiet_op
   refine tW 26 rfl ?_;go_big_quiet_op
   refine tW 27 rfl ?_;go_big_quiet_op
   refine aM (by kernel_rfl) ?_
   clear r5 u5 w5 v5 hne kT hS5
   go_wp2
   go_ret
   refine ⟨?_,hS0.trans (hs5.trans hS9)⟩
   simp at hd ⊢
   omega
  ·have hne1:(ma.fr != mb.fr)=true:=by simpa using hfr
   clear hfr K4
   refine aF (fun w'=>∃ x:aj S5,w'=x.w) (by kernel_rfl) ?_
   rw [hW0]
   clear hW0
   refine aI 0 rfl (by kernel_rfl) ?_
   intro K hK
   go_simp
   refine Mj.mono ?_
   rintro e w9 ⟨rfl,hS9⟩
   dsimp only
   refine hK _ _ (fun _ _=>ah ((hS5 _).2 (hs5.trans hS9))) ?_
   clear hK K
   refine tW 1 rfl ?_;go_big_quiet_op
   refine tW 2 rfl ?_;go_big_quiet_op
   refine tW 3 rfl ?_;go_big_quiet_op
   refine tW 4 rfl ?_;go_big_quiet_op
   refine tW 5 rfl ?_;go_big_quiet_op
   refine tM 6 rfl (ah ((hS5 _).2 (hs5.trans hS9))) ?_
   go_big_quiet_op
   refine tW 7 rfl ?_;go_big_quiet_op
   refine tW 8 rfl ?_;go_big_quiet_op
   refine tW 9 rfl ?_;go_big_quiet_op
   refine tW 10 rfl ?_;go_big_quiet_op
   refine tM 11 rfl (ah ((hS5 _).2 (hs5.trans hS9))) ?_
   go_big_quiet_op
   refine tW 12 rfl ?_;go_big_quiet_op
   refine tW 13 rfl ?_;go_big_quiet_op
   refine aK 14 rfl (by kernel_rfl) (fun _=>ah ((hS5 _).2 (hs5.trans hS9))) (fun _ _ _ _ h=>h) (by rfl) ?_
   simp only [Act.put,zQ7,zQ8,zQ9]
   refine aK 15 rfl (by kernel_rfl) (fun _=>ah ((hS5 _).2 (hs5.trans hS9))) (fun _ _ _ _ h=>h) (by rfl) ?_
   simp only [Act.put,zQ7,zQ8,zQ9]
   refine aK 16 rfl (by kernel_rfl) (fun _=>ah ((hS5 _).2 (hs5.trans hS9))) (fun _ _ _ _ h=>h) (by rfl) ?_
   simp only [Act.put,zQ7,zQ8,zQ9]
   refine aK 17 rfl (by kernel_rfl) (fun _=>ah ((hS5 _).2 (hs5.trans hS9))) (fun _ _ _ _ h=>h) (by rfl) ?_
   simp only [Act.put,zQ7,zQ8,zQ9]
   refine aK 18 rfl (by kernel_rfl) (fun _=>ah ((hS5 _).2 (hs5.trans hS9))) (fun _ _ _ _ h=>h) (by rfl) ?_
   simp only [Act.put,zQ7,zQ8,zQ9]
   refine aK 19 rfl (by kernel_rfl) (fun _=>ah ((hS5 _).2 (hs5.trans hS9))) (fun _ _ _ _ h=>h) (by rfl) ?_
   simp only [Act.put,zQ7,zQ8,zQ9]
   refine aK 20 rfl (by kernel_rfl) (fun _=>ah ((hS5 _).2 (hs5.trans hS9))) (fun _ _ _ _ h=>h) (by rfl) ?_
   simp only [Act.put,zQ7,zQ8,zQ9]
   refine aK 21 rfl (by kernel_rfl) (fun _=>ah ((hS5 _).2 (hs5.trans hS9))) (fun _ _ _ _ h=>h) (by rfl) ?_
   simp only [Act.put,zQ7,zQ8,zQ9]
   refine aK 22 rfl (by kernel_rfl) (fun _=>ah ((hS5 _).2 (hs5.trans hS9))) (fun _ _ _ _ h=>h) (by rfl) ?_
   simp only [Act.put,zQ7,zQ8,zQ9]
   refine aK 23 rfl (by kernel_rfl) (fun _=>ah ((hS5 _).2 (hs5.trans hS9))) (fun _ _ _ _ h=>h) (by rfl) ?_
   simp only [Act.put,zQ7,zQ8,zQ9]
   refine aK 24 rfl (by kernel_rfl) (fun _=>ah ((hS5 _).2 (hs5.trans hS9))) (fun _ _ _ _ h=>h) (by rfl) ?_
   simp only [Act.put,zQ7,zQ8,zQ9]
   refine tW 25 rfl ?_;go_big_quiet_op
   refine tW 26 rfl ?_;go_big_quiet_op
   refine tW 27 rfl ?_;go_big_quiet_op
   refine aM (by kernel_rfl) ?_
   clear r5 u5 w5 v5 hne kT hS5
   go_wp2
   go_ret
   refine ⟨?_,hS0.trans (hs5.trans hS9)⟩
   simp
theorem vv (nodes:Int) (a:Option Addr) (len cap:Nat) (l:List Int) (ac:Option Addr) (al gG:Nat) (acts:List Ac) (i j k:Int) (w:World) (hI:Ints w a len l) (hA:qJ w ac al acts) (hi:I64 i) (hj:I64 j) (hk:I64 k) (hCB:∀ y,Calls prog 33 #[] y fun e w'=>e=.returned (.bool true)/\Since y w') :
  Calls prog 10 #[.int .i64 nodes,.slice a len cap,.slice ac al gG,.int .i64 i,.int .i64 j,.int .i64 k] w fun e w'=>e=.returned (.bool true)/\Since w w':=by
 by_cases hN:¬ qU nodes l acts=0\/(gF nodes l acts).length=0
 ·exact y9 nodes a len cap l ac al gG acts i j k w hI hA hN hCB
 ·have hE:qU nodes l acts=0:=Decidable.byContradiction fun h=>hN (.inl h)
  have hL:¬ (gF nodes l acts).length=0:=fun h=>hN (.inr h)
  have hMk:=sw nodes a len cap l ac al gG acts w hI hA
  have hx:=xX nodes l acts
  have hcond:dJ nodes l=0/\acts.length<=80:=by
   unfold qU at hE
   split at hE
   ·rename_i h
    split at hE
    ·rename_i h2;exact ⟨h,h2⟩
    ·cases hE
   ·rename_i h;exact absurd hE h
  have hX:gF nodes l acts=(scD nodes.toNat l acts).sent:=by unfold gF;rw [if_pos hcond]
  have hY:oU nodes l acts=iX (scD nodes.toNat l acts):=by unfold oU;rw [if_pos hcond]
  have hnn:dJ (nodes.toNat:Int) l=0:=by
   obtain ⟨h1,h2,_,_⟩:=nX hcond.1
   rw [Int.toNat_of_nonneg (by omega)];exact hcond.1
  have I:=F4 hnn acts
  rw [hE] at hMk
  rw [hX] at hMk hx hL
  rw [hY] at hMk
  obtain ⟨s,hs⟩:∃ y,scD nodes.toNat l acts=y:=⟨_,rfl⟩
  rw [hs] at hMk hx hL I
  have hpos:0 < s.sent.length:=by omega
  have la:=jV i hpos
  have lb:=jV j hpos
  have lc:=jV k hpos
  obtain ⟨ma,hma⟩:∃ m,s.sent[fA i s.sent.length]? = some m:=⟨_,zQ1 la⟩
  obtain ⟨mb,hmb⟩:∃ m,s.sent[fA j s.sent.length]? = some m:=⟨_,zQ1 lb⟩
  obtain ⟨mc,hmc⟩:∃ m,s.sent[fA k s.sent.length]? = some m:=⟨_,zQ1 lc⟩
  have hrow:∀ (q:Nat) (m:Mg),s.sent[q]? = some m->(iX s)[q]? = some (s.sent.map fun o=>s.ahead m o)/\(s.sent.map fun o=>s.ahead m o).length=s.sent.length:=fun q m hm=>by
   unfold iX;rw [List.getElem?_map,hm];exact ⟨rfl,by simp⟩
  have hbit:∀ (m:Mg) (q:Nat) (o:Mg),s.sent[q]? = some o->(s.sent.map fun o=>s.ahead m o)[q]? = some (s.ahead m o):=fun m q o ho=>by rw [List.getElem?_map,ho];rfl
  exact xD nodes a len cap ac al gG (fA i s.sent.length) (fA j s.sent.length) (fA k s.sent.length) s.sent.length ma mb (s.ahead ma ma) (s.ahead ma mb) (s.ahead mb mc) (s.ahead ma mc) i j k s.sent (iX s) _ _ _ w hMk
   (fun y=>vk i _ hi hpos (by omega) y) (fun y=>vk j _ hj hpos (by omega) y) (fun y=>vk k _ hk hpos (by omega) y) la lb lc hx hma hmb (hrow _ _ hma) (hrow _ _ hmb) (hrow _ _ hmc)
   (hbit ma _ _ hma) (hbit ma _ _ hmb) (hbit mb _ _ hmc) (hbit ma _ _ hmc) (Ez I ma) (fun h1 h2=>I.trans ma mb mc h1 h2) (fun h=>(I.qj ma mb h).2.2) (fun h=>EA I hma hmb h) hCB
end Go.Proofs.Ytiiifecfdkjmbaa
