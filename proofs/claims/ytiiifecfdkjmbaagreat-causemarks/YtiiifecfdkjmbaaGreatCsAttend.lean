/- Lemmas. Lemmas. Lemmas. -/
import Derived.Shelf.SlMaps.Clone
import Derived.Test.YtiiifecfdkjmbaaGreatCsMem
import Derived.Test.YtiiifecfdkjmbaaGreatRegM
set_option maxHeartbeats 4000000
namespace Go.Proofs.YtiiifecfdkjmbaaGreat
open _root_.Go.Proofs.Tryz hiding checked
set_option maxRecDepth 8000
open Go.RowKit Go.Shelf
open Go.ChangeMaps (setBlock)
set_option linter.unusedVariables false
set_option linter.unusedSimpArgs false
attribute [local go_sem] Oper.semAt_some
theorem zB:prog.underlying 199=some (.map 42 123):=by kernel_rfl
theorem yK (w:World) (r:Nat) (ms:List Mg) (h:iN w r ms) (m:Mg) (w':World) (hw:w.putObj r (.map (ents (gP ms m)) (gP ms m).length)=w') :
  (Instr.mapUpdate 199 (.map (some r)) (.agg #[.int .i64 m.fr,.int .i64 m.gr,.int .i64 m.st,.bool m.nul,.string m.body]) (.agg #[])).run prog w=.ok () w':=by
 rw [<-hw];exact wG zB h m
theorem EM (ms:List Mg) (m y:Mg):y∈gP ms m↔y∈ms\/y=m:=by
 unfold gP;split
 ·rename_i h;rw [nK] at h;exact ⟨.inl,fun a=>a.elim id (fun e=>e ▸ h)⟩
 ·simp
theorem EN (l:List Mg):∀ (ms:List Mg) (y:Mg),y∈l.foldl gP ms↔y∈ms\/y∈l:=by
 induction l with
 | nil=>intro ms y;simp
 | cons a r ih =>
  intro ms y;rw [List.foldl_cons,ih,EM,List.mem_cons]
  exact ⟨fun h=>by rcases h with (h | h) | h <;> simp [h],fun h=>by rcases h with h | h | h <;> simp [h]⟩
theorem zC {w:World} {r:Nat} {ms:List Mg} (h:iN w r ms):(Instr.range 199 (.map (some r))).run prog w=.ok (.pointer (some ⟨w.heap.size,0,none⟩)) (w.alloc (.mapIter (some r) ms.length #[] ms.length)) :=
 run_range_map w _ _ _ r _ _ zB h
set_option maxRecDepth 100000 in
theorem Ml (p r:Nat) (A ms:List Mg) (w:World) (hp:iN w p A) (hr:iN w r ms) (hne:p≠r) :
  Calls prog 209 #[.map (some p),.map (some r)] w fun e w'=>e=.returned (.tuple #[])/\∃ A',iN w' p A'/\(∀ y,y∈A'↔y∈A\/y∈ms)/\Fr (fun i=>i=p) w w':=by
 have hpl:=(zQ3.1 hp).1;have hrl:=(zQ3.1 hr).1;have hrg:=zC hr;obtain ⟨W0,hW0⟩:∃ y,w.alloc (.mapIter (some r) ms.length #[] ms.length)=y:=⟨_,rfl⟩;rw [hW0] at hrg;have hS0:=ay hW0;have Sy:W0.heap[w.heap.size]? = some (.mapIter (some r) ms.length #[] ms.length):=by rw [<-hW0];exact World.alloc_heap_new w _
 have hp0:iN W0 p A:=(hS0.below.block p hpl).trans hp;have hF0:Fr (fun i=>i=p) w W0:=hS0.fr _;have C:∀ y,Fr (fun i=>i=p) w y->iN y r ms:=fun y h=>(h.block r hrl (Ne.symm hne)).trans hr;have HC:=(show Hid _ from C);clear hr hp hW0 C
 go_enter func209,ntmps209
 go_wp2
 clear hrg
 go_loopw [8] (fun _ wr=>∃ seen:Array Nat,wr.heap[w.heap.size]? = some (.mapIter (some r) ms.length seen ms.length)/\Seen ms seen/\iN wr p ((pq ms seen).foldl gP A)/\Fr (fun i=>i=p) w wr) (fun _ wr=>zy ms.length w.heap.size wr)
 case atStart=>exact ⟨#[],Sy,⟨by simp,by simp⟩,hp0,hF0⟩
 case round =>
  obtain ⟨wo,rfl⟩:∃ wo,wo=wr:=⟨_,rfl⟩;obtain ⟨seen,hit,hsn,hps,hF⟩:=hrel;have hst:=HC.out wo hF;clear Sy hp0 hF0 hS0;rcases run_next_at (P:=prog) wo 0 w.heap.size r ms.length ms.length seen (ents ms) ms.length hit hst (Me ms) (Nat.le_refl _) with ⟨hz,hrun⟩ | ⟨e,he,w1,hw1,hrun⟩
  ·have hperm:=Mf hsn (Kl hz);have HF:Hid (∃ A',iN wo p A'/\(∀ y,y∈A'↔y∈A\/y∈ms)/\Fr (fun i=>i=p) w wo):=⟨_,hps,fun y=>by rw [EN,hperm.mem_iff],hF⟩;clear hz hperm hps hsn hit hst hF
   go_wp2
   go_end0
   exact ⟨rfl,HF.out⟩
  ·obtain ⟨i,x,hx,rfl,hin,hmem⟩:=Mh he;have hi:=(zQ2.1 hx).1;have QE:=Kj hsn hi hin;have hsz2:=Ki QE;rw [Array.size_push] at hsz2;have hcm:=Kk (seen:=seen) hx;dsimp only at hrun;obtain ⟨w2,hw2⟩:∃ y,setBlock w1 w.heap.size (.mapIter (some r) ms.length (seen.push i) ms.length)=y:=⟨_,rfl⟩;rw [hw2] at hrun
   have hsz1:w1.heap=wo.heap/\w1.os=wo.os/\w1.tape=wo.tape/\w1.output=wo.output:=by rcases hw1 with rfl | rfl <;> exact ⟨rfl,rfl,rfl,rfl⟩
   have hil:w.heap.size < wo.heap.size:=(zQ3.1 hit).1
   have hob:∀ k,k≠w.heap.size->w2.heap[k]? = wo.heap[k]?:=fun k hk=>by
    rw [<-hw2,mJ,World.putObj_heap_other hk,hsz1.1]
   have hs2:w2.heap.size=wo.heap.size:=by rw [<-hw2,mJ,World.putObj_size,hsz1.1]
   have hit2:w2.heap[w.heap.size]? = some (.mapIter (some r) ms.length (seen.push i) ms.length):=by
    rw [<-hw2,mJ];exact World.putObj_heap_same (by rw [hsz1.1];exact hil)
   have ho2:w2.os=wo.os/\w2.tape=wo.tape/\w2.output=wo.output:=by rw [<-hw2];exact hsz1.2
   have hF2:Fr (fun i=>i=p) w w2:=⟨ho2.1.trans hF.os,ho2.2.1.trans hF.tape,ho2.2.2.trans hF.output,by rw [hs2];exact hF.size,fun k hk hne=>(hob k (by omega)).trans (hF.block k hk hne)⟩;have Hr:iN w2 r ms:=HC.out w2 hF2;have Sz:iN w2 p ((pq ms seen).foldl gP A):=(hob p (by omega)).trans hps
   have hen:(Instr.entry (.pointer (some ⟨w.heap.size,0,none⟩))).run prog w2=.ok (.tuple #[mgV x,.agg #[]]) w2 :=
    run_entry_at (P:=prog) w2 w.heap.size r ms.length seen (ents ms) ms.length ⟨mgV x,.agg #[],i⟩ hit2 Hr hmem (by rw [Kh];exact List.nodup_range)
   obtain ⟨W3,hW3⟩:∃ y,w2.alloc (.cells #[.int .i64 x.fr,.int .i64 x.gr,.int .i64 x.st,.bool x.nul,.string x.body] 42)=y:=⟨_,rfl⟩;obtain ⟨W4,hW4⟩:∃ y,W3.alloc (.cells #[] 123)=y:=⟨_,rfl⟩;have hS3:=ay hW3;have j4:=ay hW4;have hS4:=hS3.trans j4;have hl3:w2.heap.size < W3.heap.size:=by rw [<-hW3];simp
   have z0:W4.cell? ⟨w2.heap.size,0,none⟩=some (.int .i64 x.fr):=(j4.cellAt hl3 _).trans (by rw [<-hW3];simp [go_sem]);have z1:W4.cell? ⟨w2.heap.size,1,none⟩=some (.int .i64 x.gr):=(j4.cellAt hl3 _).trans (by rw [<-hW3];simp [go_sem]);have z2:W4.cell? ⟨w2.heap.size,2,none⟩=some (.int .i64 x.st):=(j4.cellAt hl3 _).trans (by rw [<-hW3];simp [go_sem]);have z3:W4.cell? ⟨w2.heap.size,3,none⟩=some (.bool x.nul):=(j4.cellAt hl3 _).trans (by rw [<-hW3];simp [go_sem]);have z4:W4.cell? ⟨w2.heap.size,4,none⟩=some (.string x.body):=(j4.cellAt hl3 _).trans (by rw [<-hW3];simp [go_sem]);have OC:iN W4 p ((pq ms seen).foldl gP A):=(hS4.below.block p (by omega)).trans Sz;obtain ⟨cf,hcf⟩:∃ y,(pq ms seen).foldl gP A=y:=⟨_,rfl⟩;rw [hcf] at OC;obtain ⟨W5,hW5⟩:∃ y,W4.putObj p (.map (ents (gP cf x)) (gP cf x).length)=y:=⟨_,rfl⟩;have hmu:=yK W4 p cf OC x W5 hW5
   have QG:W5.heap[w.heap.size]? = some (.mapIter (some r) ms.length (seen.push i) ms.length):=by
    rw [<-hW5];exact (World.putObj_heap_other (by omega)).trans (hS4.block hit2)
   have H5:=Ch (n:=ms.length) QG;have HIT:=Ch (n:=ms.length) hit
   have HM5:Hid (zy ms.length w.heap.size W5 < zy ms.length w.heap.size wo):=by
    unfold Hid;rw [H5,HIT,Array.size_push];omega
   have hF5:Fr (fun i=>i=p) w W5:=by
    rw [<-hW5];exact (hF2.trans (hS4.fr fun _=>False) (fun _ _ h=>h) (fun _ _ f=>f.elim)).trans (Fr.put _ _ _) (fun _ _ h=>h) (fun _ _ h=>h)
   have oo:Hid (∃ seen:Array Nat,W5.heap[w.heap.size]? = some (.mapIter (some r) ms.length seen ms.length)/\Seen ms seen/\iN W5 p ((pq ms seen).foldl gP A)/\Fr (fun i=>i=p) w W5) :=
    ⟨_,QG,QE,by rw [hcm,List.foldl_append,hcf,<-hW5];exact Cg OC,hF5⟩
   simp only [mgV] at hen hrun;clear hw2 hob hs2 hit2 QG ho2 Hr hst hit hcm hsn QE hsz2 HIT hmem hx hsz1 hw1 hin he hS3 j4 hS4 hps Sz OC hF hF2 hF5 H5 hcf hl3
   go_wp2
   go_roundw
   case rel=>exact oo.out
   case measure=>exact HM5.out
theorem Kt (b:Nat) (es:Array MapEntry) (clock:Nat) (w:World) (hb:w.heap[b]? = some (.map es clock)) :
  Calls prog 208 #[.map (some b)] w fun e w'=>e=.returned (.map (some w.heap.size))/\w'=w.alloc (.map es clock):=by
 have hq:=fun w=>run_eql_map_nil_sl (P:=prog) w 199 _ _ (some b) zB
 go_enter func208,ntmps208
 go_wp2
 rw [run_callFunc_extern func234 (by kernel_rfl) (by kernel_rfl) (by kernel_rfl) (e:=Extern.MapsClone.clone) (by kernel_rfl),run_maps_clone_sl w 199 hb];simp only [Result.andThen];rw [Oper.upon_value]
 go_wp2
 rw [run_typeAssert_map_sl _ 199 20 _ _ _ zB];simp only [Result.andThen];rw [Oper.upon_value]
 go_wp2
 go_ret
 exact ⟨rfl,rfl⟩
end Go.Proofs.YtiiifecfdkjmbaaGreat
set_option maxHeartbeats 4000000
namespace Go.Proofs.YtiiifecfdkjmbaaGreat
open _root_.Go.Proofs.Tryz hiding checked
set_option maxRecDepth 8000
open Go.RowKit Go.Shelf
open Pu
set_option linter.unusedVariables false
set_option linter.unusedSimpArgs false
theorem Hy:prog.underlying 156=some (.map 42 199):=by kernel_rfl
structure j5 (w:World) (b:Nat) (m:Mg):Prop where
 lt:b < w.heap.size
 at0:bF w b 0 m
theorem j5.since {w w':World} {b:Nat} {m:Mg} (h:j5 w b m) (k:Since w w'):bF w' b 0 m :=
 ⟨(k.cellAt h.lt _).trans h.at0.c0,(k.cellAt h.lt _).trans h.at0.c1,(k.cellAt h.lt _).trans h.at0.c2,(k.cellAt h.lt _).trans h.at0.c3,(k.cellAt h.lt _).trans h.at0.c4⟩
theorem j5.fr {X:Nat->Prop} {w w':World} {b:Nat} {m:Mg} (h:j5 w b m) (k:Fr X w w') (hX:¬ X b):j5 w' b m :=
 ⟨zQ4 h.lt k.size,(k.cell (p:=⟨b,0,none⟩) h.lt hX).trans h.at0.c0,(k.cell (p:=⟨b,0+1,none⟩) h.lt hX).trans h.at0.c1,(k.cell (p:=⟨b,0+2,none⟩) h.lt hX).trans h.at0.c2,(k.cell (p:=⟨b,0+3,none⟩) h.lt hX).trans h.at0.c3,(k.cell (p:=⟨b,0+4,none⟩) h.lt hX).trans h.at0.c4⟩
theorem j5.new (w:World) (T:TypeId) (m:Mg):j5 (w.alloc (.cells #[.int .i64 m.fr,.int .i64 m.gr,.int .i64 m.st,.bool m.nul,.string m.body] T)) w.heap.size m :=
 ⟨by simp,by constructor <;> simp [go_sem]⟩
theorem Cq (lo B n:Nat) (x:WV) (d:Wd) (M:SM) (m:Mg) (p r:Nat) (w:World) (h:fT lo w B x d M) (hn:M.ps[n]? = some p) (hm:(m,r)∈M.ks) (hk:(M.ks.map Prod.fst).Nodup) :
  Calls prog 178 #[.pointer (some ⟨B,0,none⟩),.int .i64 n,.agg #[.int .i64 m.fr,.int .i64 m.gr,.int .i64 m.st,.bool m.nul,.string m.body]] w fun e w'=>e=.returned (.tuple #[])/\∃ A',(∀ y,y∈A'↔(y∈M.cont p\/y∈M.cont r)\/y=m)/\fT lo w' B x d { M with cont:=fun i=>if i=p then A' else M.cont i }/\Fr (fun i=>i=p) w w':=by
 have hnl:=(zQ2.1 hn).1;have hcap:=h.pow.cap;obtain ⟨pb,po,hpa,_,hpb,hpc,hpx⟩:=h.pow.body (by omega);have hpS:p∈M.sets:=List.mem_append.2 (.inr (List.mem_of_getElem? hn));have hrS:r∈M.sets:=List.mem_append.2 (.inl (List.mem_map.2 ⟨_,hm,rfl⟩));have hpr:p≠r:=fun e=>(List.nodup_append.1 h.nd).2.2 r (List.mem_map.2 ⟨_,hm,rfl⟩) p (List.mem_of_getElem? hn) e.symm;have HPA:Hid (M.pl.a=some ⟨pb,po,none⟩):=hpa
 have HPN:Hid (∀ y,Row y lo 1 M.pl M.ps.length (M.ps.map fun p=>.map (some p))->y.cell? ⟨pb,po+n,none⟩=some (.map (some p))):=fun y hy=>by
  obtain ⟨b',o',e',_,_,_,hx'⟩:=hy.body (by omega);rw [hpa] at e'
  injection e' with e'
  injection e' with e1 e2 _
  subst e1 e2;exact hx' n _ (by rw [List.getElem?_map,hn];rfl)
 have n1:(n:Int) < (M.ps.length:Int):=by omega
 obtain ⟨w1,hw1⟩:∃ y,w.alloc (.cells #[.int .i64 m.fr,.int .i64 m.gr,.int .i64 m.st,.bool m.nul,.string m.body] 42)=y:=⟨_,rfl⟩;have hM1:j5 w1 w.heap.size m:=by rw [<-hw1];exact j5.new w _ m
 have hS1:=ay hw1;have hR1:=h.since hS1;have hPB:Hid (p < w.heap.size/\¬ w.heap.size=p):=⟨h.oC hpS,fun e=>by have:=h.oC hpS;omega⟩;clear hpa hpx hpc hcap hnl hn h
 go_enter func178,ntmps178
 go_wp2_with fail
 clear hw1;obtain ⟨W0,hW0⟩:∃ y,w1.drew=y:=⟨_,rfl⟩;have hs0:=aQ hW0;obtain ⟨S0,hS0⟩:∃ S0:World->Prop,∀ w',S0 w'↔Since w1 w':=⟨_,fun _=>Iff.rfl⟩;have c4:∀ y:ak S0,y.w.cell? ⟨B,4,none⟩=some (.map (some M.ra)):=fun y=>(hR1.since ((hS0 _).1 y.h)).c4;have c5:∀ y:ak S0,y.w.cell? ⟨B,5,none⟩=some (.slice (some ⟨pb,po,none⟩) M.ps.length M.pl.cap):=fun y=>(((hR1.since ((hS0 _).1 y.h)).c5).trans (by show some (Value.slice M.pl.a M.ps.length M.pl.cap)=_;rw [HPA.out]));have cp:∀ y:ak S0,y.w.cell? ⟨pb,po+n,none⟩=some (.map (some p)):=fun y=>HPN.out _ (hR1.since ((hS0 _).1 y.h)).pow;have m0:∀ y:ak S0,y.w.cell? ⟨w.heap.size,0,none⟩=some (.int .i64 m.fr):=fun y=>(hM1.since ((hS0 _).1 y.h)).c0;have m1:∀ y:ak S0,y.w.cell? ⟨w.heap.size,1,none⟩=some (.int .i64 m.gr):=fun y=>(hM1.since ((hS0 _).1 y.h)).c1;have m2:∀ y:ak S0,y.w.cell? ⟨w.heap.size,2,none⟩=some (.int .i64 m.st):=fun y=>(hM1.since ((hS0 _).1 y.h)).c2;have m3:∀ y:ak S0,y.w.cell? ⟨w.heap.size,3,none⟩=some (.bool m.nul):=fun y=>(hM1.since ((hS0 _).1 y.h)).c3;have m4:∀ y:ak S0,y.w.cell? ⟨w.heap.size,4,none⟩=some (.string m.body):=fun y=>(hM1.since ((hS0 _).1 y.h)).c4;have au:=(hS0 W0).2 hs0;have hne:Nonempty (ak S0):=⟨⟨_,au⟩⟩;have dH:=aI w;have hR0:=hR1.since hs0;have hlk:=uL Hy hR0.map hk hm;have hCp:=Ml p r (M.cont p) (M.cont r) W0 (hR0.set p hpS).2 (hR0.set r hrS).2 hpr;unfold mgV at hlk;clear hm hk;refine aK (fun w'=>∃ x:ak S0,w'=x.w) (by kernel_rfl) ?_;rw [hW0];clear hW0;refine tW 0 rfl ?_;go_big_quiet_op;refine tW 1 rfl ?_;go_big_quiet_op;refine tW 2 rfl ?_;go_big_quiet_op;refine tM 3 rfl (aj au) ?_;go_big_quiet_op;refine tW 4 rfl ?_;go_big_quiet_op;refine tW 5 rfl ?_;go_big_quiet_op;refine tM 6 rfl (aj au) ?_;go_big_quiet_op;refine tW 7 rfl ?_;go_big_quiet_op;refine tW 8 rfl ?_;go_big_quiet_op;refine tW 9 rfl ?_;go_big_quiet_op;refine tM 10 rfl (aj au) ?_;go_big_quiet_op;refine tM 11 rfl (aj au) ?_;go_big_quiet_op;refine aR 12 rfl (by kernel_rfl) ?_;intro K hK;go_simp;refine hK _ _ (fun _ _=>aj au) ?_;clear hK K;refine aR 13 rfl (by kernel_rfl) ?_;intro K hK;go_simp;refine hCp.mono ?_;rintro e w2 ⟨rfl,A1,hA1,hmem,hF2⟩;dsimp only;refine hK _ _ (fun h=>absurd h (by decide +kernel)) ?_;clear hK K;refine bH (by kernel_rfl) ?_;clear c4 c5 cp m0 m1 m2 m3 m4 hne au hS0 hlk hCp;have hR2:=hR0.Mv hpS A1 hF2 hA1;have hM2:j5 w2 w.heap.size m:=j5.fr (hM1.fr (hs0.fr fun _=>False) (fun f=>f)) hF2 hPB.out.2;have BI:Fr (fun i=>i=p) w w2:=((hS1.trans hs0).fr fun _=>False).trans hF2 (fun _ _ f=>f.elim) (fun _ _ f=>f)
 obtain ⟨M2,OH⟩:∃ y:SM,y={ M with cont:=fun i=>if i=p then A1 else M.cont i }:=⟨_,rfl⟩
 rw [<-OH] at hR2
 have E1:Hid (M2.ra=M.ra/\M2.ps=M.ps/\M2.pl=M.pl/\M2.sets=M.sets/\M2.cont p=A1):=by
  unfold Hid;subst OH;exact ⟨rfl,rfl,rfl,rfl,if_pos rfl⟩
 have E2:Hid (M2={ M with cont:=fun i=>if i=p then A1 else M.cont i }):=OH
 clear OH hR1 hR0 hs0 hA1;obtain ⟨W4,hW0⟩:∃ y,w2.drew=y:=⟨_,rfl⟩;have hs4:=aQ hW0;obtain ⟨S4,hS4⟩:∃ S0:World->Prop,∀ w',S0 w'↔Since w2 w':=⟨_,fun _=>Iff.rfl⟩;have c5:∀ y:ak S4,y.w.cell? ⟨B,5,none⟩=some (.slice (some ⟨pb,po,none⟩) M.ps.length M.pl.cap):=fun y=>((hR2.since ((hS4 _).1 y.h)).c5).trans (by rw [E1.out.2.2.1,E1.out.2.1,HPA.out]);have cp:∀ y:ak S4,y.w.cell? ⟨pb,po+n,none⟩=some (.map (some p)):=fun y=>HPN.out _ (by have:=(hR2.since ((hS4 _).1 y.h)).pow;rw [E1.out.2.2.1,E1.out.2.1] at this;exact this);have m0:∀ y:ak S4,y.w.cell? ⟨w.heap.size,0,none⟩=some (.int .i64 m.fr):=fun y=>(hM2.since ((hS4 _).1 y.h)).c0;have m1:∀ y:ak S4,y.w.cell? ⟨w.heap.size,1,none⟩=some (.int .i64 m.gr):=fun y=>(hM2.since ((hS4 _).1 y.h)).c1;have m2:∀ y:ak S4,y.w.cell? ⟨w.heap.size,2,none⟩=some (.int .i64 m.st):=fun y=>(hM2.since ((hS4 _).1 y.h)).c2;have m3:∀ y:ak S4,y.w.cell? ⟨w.heap.size,3,none⟩=some (.bool m.nul):=fun y=>(hM2.since ((hS4 _).1 y.h)).c3;have m4:∀ y:ak S4,y.w.cell? ⟨w.heap.size,4,none⟩=some (.string m.body):=fun y=>(hM2.since ((hS4 _).1 y.h)).c4;have BJ:=(hS4 W4).2 hs4;have hne:Nonempty (ak S4):=⟨⟨_,BJ⟩⟩;have hR4:=hR2.since hs4;have Mw:iN W4 p A1:=by have:=(hR4.set p (by rw [E1.out.2.2.2.1];exact hpS)).2;rw [E1.out.2.2.2.2] at this;exact this
 obtain ⟨W5,hW5⟩:∃ y,W4.putObj p (.map (ents (gP A1 m)) (gP A1 m).length)=y:=⟨_,rfl⟩;have hmu:=yK W4 p A1 Mw m W5 hW5;have hF5:Fr (fun i=>i=p) W4 W5:=by rw [<-hW5];exact Fr.put _ _ _
 have hR5:=hR4.Mv (r:=p) (by rw [E1.out.2.2.2.1];exact hpS) (gP A1 m) hF5 (by rw [<-hW5];exact Cg Mw)
 have zF:Hid (∃ A',(∀ y,y∈A'↔(y∈M.cont p\/y∈M.cont r)\/y=m)/\fT lo W5 B x d { M with cont:=fun i=>if i=p then A' else M.cont i }/\Fr (fun i=>i=p) w W5):=by
  refine ⟨gP A1 m,fun y=>by rw [EM,hmem], ?_,BI.trans ((hs4.fr fun _=>False).trans hF5 (fun _ _ f=>f.elim) (fun _ _ f=>f)) (fun _ _ f=>f) (fun _ _ f=>f)⟩
  have e:({ M2 with cont:=fun i=>if i=p then gP A1 m else M2.cont i }:SM)={ M with cont:=fun i=>if i=p then gP A1 m else M.cont i }:=by
   rw [E2.out]
   congr 1
   funext i
   by_cases hi:i=p
   ·simp [hi]
   ·simp [hi]
  rw [e] at hR5;exact hR5
 clear hW5 hR5 hF5 Mw hR4 hR2 hM2 E1 E2 BI hmem
 go_wp2_with fail
 refine aK (fun w'=>∃ x:ak S4,w'=x.w) (by kernel_rfl) ?_;rw [hW0];clear hW0;refine tW 0 rfl ?_;go_big_quiet_op;refine tW 1 rfl ?_;go_big_quiet_op;refine tW 2 rfl ?_;go_big_quiet_op;refine tM 3 rfl (aj BJ) ?_;go_big_quiet_op;refine tW 4 rfl ?_;go_big_quiet_op;refine tW 5 rfl ?_;go_big_quiet_op;refine tM 6 rfl (aj BJ) ?_;go_big_quiet_op;refine tM 7 rfl (aj BJ) ?_;go_big_quiet_op;refine tW 8 rfl ?_;go_big_quiet_op;refine aR 9 rfl (by kernel_rfl) ?_;intro K hK;go_simp;refine hK _ _ (fun h=>absurd h (by decide +kernel)) ?_;clear hK K;refine bH (by kernel_rfl) ?_;clear c5 cp m0 m1 m2 m3 m4 hne BJ hS4 hmu
 go_wp2
 go_end0
 exact ⟨rfl,zF.out⟩
end Go.Proofs.YtiiifecfdkjmbaaGreat
set_option maxHeartbeats 4000000
namespace Go.Proofs.YtiiifecfdkjmbaaGreat
open _root_.Go.Proofs.Tryz hiding checked
set_option maxRecDepth 8000
open Go.RowKit Go.Shelf
open Pu
set_option linter.unusedVariables false
set_option linter.unusedSimpArgs false
theorem Mj:ET 157 199 1 8:=wJ (z:=.map none) (by kernel_rfl) (by kernel_rfl) rfl
section
variable {lo:Nat} {W W':World} {B:Nat} {x:WV} {d:Wd} {M:SM}
theorem fT.Mk (h:fT lo W B x d M) {W1 W3:World} (hS:Since W W1) {q:Nat} (hq:W.heap.size<=q) (hset:iN W1 q []) (hlo:lo<=W.heap.size) {pl':Sl} (hR:Row W3 lo 1 pl' (M.ps.length+1) ((M.ps.map fun p=>.map (some p))++[.map (some q)])) (hF:Fr (fun i=>M.pl.blk=some i) W1 W3)
  (hB:pl'=M.pl\/∃ b,pl'.blk=some b/\W1.heap.size<=b) (h2:W3.setCell ⟨B,5,none⟩ (.slice pl'.a (M.ps.length+1) pl'.cap)=W'):fT lo W' B x d { M with pl:=pl',ps:=M.ps++[q],cont:=fun i=>if i=q then [] else M.cont i }:=by
 have hq1:q < W1.heap.size:=(zQ3.1 hset).1;have k2:Fr (fun i=>i=B) W3 W':=by rw [<-h2];exact (Fr.refl _ _).setCell ⟨B,5,none⟩ _ (fun _=>rfl)
 have k1:Fr (fun i=>M.pl.blk=some i) W W3:=(hS.fr fun _=>False).trans hF (fun _ _ f=>f.elim) (fun _ _ f=>f);have k:Fr (fun i=>i=B\/M.pl.blk=some i) W W':=k1.trans k2 (fun _ _ a=>.inr a) (fun _ _ a=>.inl a);have hBs:¬ M.pl.blk=some B:=fun e=>(h.pne B e).1 rfl;have c1:∀ o,W3.cell? ⟨B,o,none⟩=W.cell? ⟨B,o,none⟩:=fun o=>k1.cell (p:=⟨B,o,none⟩) h.bh hBs;have c:∀ o,o≠5->W'.cell? ⟨B,o,none⟩=W.cell? ⟨B,o,none⟩:=fun o ho=>by rw [<-h2,bJ _ _ _ (Ne.symm ho)];exact c1 o
 have f:∀ o,W'.frozen? ⟨B,o,none⟩=W.frozen? ⟨B,o,none⟩:=fun o=>by rw [<-h2,World.frozen?_setCell];exact k1.frozen (p:=⟨B,o,none⟩) h.bh hBs
 have EL:=(zQ3.1 h.map).1;have e:∀ i,i≠B->M.pl.blk≠some i->i < W.heap.size->W'.heap[i]? = W.heap[i]?:=fun i h1 h2 hl=>k.block i hl (fun a=>a.elim h1 h2)
 have hnew:∀ b,pl'.blk=some b->M.pl.blk=some b\/W1.heap.size<=b:=by
  intro b hb;rcases hB with rfl | ⟨b',hb',hle⟩
  ·exact .inl hb
  ·right;rw [hb] at hb';have:=Option.some.inj hb';omega
 have hW1:=hS.size;have Sv:∀ b,M.pl.blk=some b->b < W.heap.size:=fun b hb=>(h.pow.dJ hb).2.2.1
 have hnb:pl'.blk≠some B:=by
  intro e;rcases hnew B e with h1 | h1
  ·exact hBs h1
  ·have:=h.bh;omega
 have hmem:∀ r,r∈SM.sets { M with pl:=pl',ps:=M.ps++[q],cont:=fun i=>if i=q then [] else M.cont i }↔r∈M.sets\/r=q:=by
  intro r;unfold SM.sets;simp only [List.mem_append,List.mem_singleton,or_assoc]
 have hnot:∀ r,r∈M.sets->r≠q:=fun r hr e=>by have:=h.oC hr;omega
 have Sw:iN W' q []:=by
  have h3:W3.heap[q]? = W1.heap[q]?:=hF.block q hq1 (fun hc=>by have:=Sv q hc;omega);have h4:W'.heap[q]? = W3.heap[q]?:=k2.block q (zQ4 hq1 hF.size) (fun e=>by have:=h.bh;have e':q=B:=e;omega);exact h4.trans (h3.trans hset)
 refine ⟨h.bl,zQ4 h.bh k.size,(c 0 (by decide)).trans h.c0,(c 1 (by decide)).trans h.c1,(c 2 (by decide)).trans h.c2,(c 3 (by decide)).trans h.c3,(c 4 (by decide)).trans h.c4, ?_,fun o ho=>(f o).trans (h.z o ho),
  ?_, ?_,h.ral,(e _ (Ne.symm h.bne.1) (fun hs=>(h.pne _ hs).2.1 rfl) EL).trans h.map,fun r hr=>?_, ?_,fun hc=>?_,fun b hb=>?_,fun b hb=>?_,⟨h.bne.1,fun hc=>?_⟩,fun W'' k'=>h.wat W'' (frS k k' (fun i _ hi=>?_) (fun i hl hi=>?_))⟩
 ·rw [<-h2];have:=kK W3 B 5 (.slice pl'.a (M.ps.length+1) pl'.cap) ((c1 5).trans h.c5);rw [this];simp
 ·exact h.row.fr k (fun b hb hc=>hc.elim (h.sne b hb).1 (h.sne b hb).2.2.2)
 ·show Row W' lo 1 pl' (M.ps++[q]).length ((M.ps++[q]).map fun p=>.map (some p));rw [List.length_append,List.map_append];exact hR.fr k2 (fun b hb he=>hnb (he ▸ hb))
 ·rcases (hmem r).1 hr with hr | rfl
  ·refine ⟨(h.set r hr).1, ?_⟩;simp only [hnot r hr,if_false];exact (e r (fun e=>h.bne.2 (e ▸ hr)) (fun hs=>(h.pne _ hs).2.2 hr) (h.oC hr)).trans (h.set r hr).2
  ·simp only [if_true];exact ⟨zQ5 hlo hq,Sw⟩
 ·have hnd:=h.nd;unfold SM.sets at hnd ⊢;rw [<-List.append_assoc,List.nodup_append];refine ⟨hnd,by simp,fun a ha b hb=>?_⟩;rw [List.mem_singleton] at hb;subst hb;exact hnot a ha
 ·rcases (hmem _).1 hc with hc | hc
  ·exact h.hra hc
  ·have hc':M.ra=q:=hc;omega
 ·obtain ⟨q1,q2,q3,q4⟩:=h.sne b hb;have hbl:=(h.row.dJ hb).2.2.1;refine ⟨q1,q2,fun hc=>?_,fun hc=>?_⟩
  ·rcases (hmem _).1 hc with hc | hc
   ·exact q3 hc
   ·omega
  ·rcases hnew b hc with hc | hc
   ·exact q4 hc
   ·omega
 ·have hb':pl'.blk=some b:=hb;refine ⟨fun e=>hnb (e ▸ hb'), ?_⟩;rcases hnew b hb' with hs | hge
  ·refine ⟨(h.pne b hs).2.1,fun hc=>?_⟩;rcases (hmem _).1 hc with hc | hc
   ·exact (h.pne b hs).2.2 hc
   ·have:=Sv b hs;omega
  ·refine ⟨fun e=>by have e':b=M.ra:=e;omega,fun hc=>?_⟩;rcases (hmem _).1 hc with hc | hc
   ·have:=h.oC hc;omega
   ·omega
 ·rcases (hmem _).1 hc with hc | hc
  ·exact h.bne.2 hc
  ·have:=h.bh;omega
 ·rcases hi with hi | hi
  ·exact .inl hi
  ·exact .inr (.inr (.inl hi))
 ·rcases hi with hi | hi | hi | hi | hi
  ·exact .inl hi
  ·exact .inr (.inl hi)
  ·rcases hnew i hi with hs | hge
   ·exact .inr (.inr (.inl hs))
   ·omega
  ·exact .inr (.inr (.inr (.inl hi)))
  ·rcases (hmem _).1 hi with hc | hc
   ·exact .inr (.inr (.inr (.inr hc)))
   ·omega
end
theorem Hq (x:WV) (d:Wd) (w:World) (hW:WAt w x d) (hn:d.nodes.length<=1000) :
  Calls prog 130 #[.agg #[.slice x.ga x.gl x.gc,.slice x.na x.nl x.nc,.slice x.wa x.wl x.wc]] w fun e w'=>∃ (B:Nat) (M:SM),e=.returned (.pointer (some ⟨B,0,none⟩))/\fT w.heap.size w' B x d M/\M.sl=⟨none,0⟩/\M.sent=[]/\M.ks=[]/\M.ps.length=d.nodes.length/\(∀ p,p∈M.ps->M.cont p=[])/\Since w w':=by
 obtain ⟨ga,gl,gc,na,nl,nc,wa,wl,wc⟩:=x;have hlen:=hW.n.hlen;dsimp only at hlen ⊢;subst hlen;obtain ⟨w1,hw1⟩:∃ wp,w.alloc (.cells #[.slice ga gl gc,.slice na d.nodes.length nc,.slice wa wl wc] 26)=wp:=⟨_,rfl⟩;have hP1:aO w1 w.heap.size ⟨ga,gl,gc,na,d.nodes.length,nc,wa,wl,wc⟩:=by rw [<-hw1];exact aO.new w ⟨ga,gl,gc,na,d.nodes.length,nc,wa,wl,wc⟩ _
 have hS1:=ay hw1;obtain ⟨_,p0,p1,p2⟩:=hP1;dsimp only at p0 p1 p2;obtain ⟨w2,hw2⟩:∃ y,w1.alloc (.map #[] 0)=y:=⟨_,rfl⟩;have hS2:=ay hw2;have hmk:(Instr.makeMap 156 none).run prog w1=.ok (.map (some w1.heap.size)) w2:=by rw [<-hw2];rfl
 have QD:∀ y:World,(Instr.makeMap 199 none).run prog y=.ok (.map (some y.heap.size)) (y.alloc (.map #[] 0)):=fun y=>rfl;obtain ⟨w3,hw3⟩:∃ y,w2.alloc (.cells #[.slice ga gl gc,.slice na d.nodes.length nc,.slice wa wl wc,.slice none 0 0,.map (some w1.heap.size),.slice none 0 0] 159)=y:=⟨_,rfl⟩;have hS3:=ay hw3;have hl2:w1.heap.size < w2.heap.size:=by rw [<-hw2];simp
 have hl1:w.heap.size < w1.heap.size:=by rw [<-hw1];simp
 have hR3:fT w.heap.size w3 w2.heap.size ⟨ga,gl,gc,na,d.nodes.length,nc,wa,wl,wc⟩ d ⟨⟨none,0⟩,[],w1.heap.size,[],⟨none,0⟩,[],fun _=>[]⟩:=by
  refine ⟨by omega,by rw [<-hw3];simp,by rw [<-hw3];simp [go_sem],by rw [<-hw3];simp [go_sem],by rw [<-hw3];simp [go_sem],by rw [<-hw3];simp [go_sem],by rw [<-hw3];simp [go_sem],by rw [<-hw3];simp [go_sem],fun o ho=>?_,Row.nil _ _ _,Row.nil _ _ _,by show w.heap.size<=w1.heap.size;omega, ?_,fun r hr=>?_,by simp [SM.sets],by simp [SM.sets],fun b hb=>?_,fun b hb=>?_,⟨by show w2.heap.size≠w1.heap.size;omega,by simp [SM.sets]⟩,fun W' hF=>hW.since ?_⟩
  ·have ho':o=0\/o=1\/o=2\/o=3\/o=4\/o=5:=by omega
   rw [<-hw3]
   rcases ho' with rfl | rfl | rfl | rfl | rfl | rfl <;> simp [go_sem]
  ·exact (hS3.below.block _ hl2).trans (by rw [<-hw2];exact World.alloc_heap_new w1 _)
  ·simp [SM.sets] at hr
  ·simp [Sl.blk] at hb
  ·simp [Sl.blk] at hb
  ·refine hF.aC (hS1.trans (hS2.trans hS3)) (fun i hi hs=>?_);rcases hs with (hs | hs | hs | hs | hs) | hs
   ·omega
   ·have hs':i=w1.heap.size:=hs;omega
   ·simp [Sl.blk] at hs
   ·simp [Sl.blk] at hs
   ·simp [SM.sets] at hs
   ·have:=hs.1;omega
 have c1:=hR3.c1;dsimp only at c1;have qg:=hS1.trans (hS2.trans hS3)
 go_enter func130,ntmps130
 go_wp2
 clear p0 p1 p2 hw1 hw2 hw3 hmk c1
 go_loopw [14] (fun i wr=>∃ (k:Nat) (M:SM),k<=d.nodes.length/\i=.int .i64 k/\fT w.heap.size wr w2.heap.size ⟨ga,gl,gc,na,d.nodes.length,nc,wa,wl,wc⟩ d M/\M.sl=⟨none,0⟩/\M.sent=[]/\M.ks=[]/\M.ps.length=k/\(∀ p,p∈M.ps->M.cont p=[])/\Since w wr) (fun i _=>d.nodes.length - (intOf i).toNat)
 case atStart=>exact ⟨0,_,Nat.zero_le _,rfl,hR3,rfl,rfl,rfl,rfl,fun p hp=>by simp at hp,qg⟩
 case round =>
  obtain ⟨wo,rfl⟩:∃ wo,wo=wr:=⟨_,rfl⟩;obtain ⟨k,M,hk,rfl,hR,he0,he1,he2,he3,hc0,hSr⟩:=hrel;clear hR3;subst he3;have HE0:=(show Hid _ from he0);clear he0;by_cases hlt:M.ps.length < d.nodes.length
  ·have n1:(M.ps.length:Int) < (d.nodes.length:Int):=by omega
   have b5:=hR.c5;obtain ⟨wA,hwA⟩:∃ y,wo.alloc (.map #[] 0)=y:=⟨_,rfl⟩;have hsA:=ay hwA;have hlA:wo.heap.size < wA.heap.size:=by rw [<-hwA];simp
   have PI:iN wA wo.heap.size []:=by rw [<-hwA];exact World.alloc_heap_new wo _
   obtain ⟨wB,hwB⟩:∃ y,wA.alloc (.cells #[.map (some wo.heap.size)] 199)=y:=⟨_,rfl⟩;have hsB:=ay hwB
   have hsrc:Src prog 1 157 (.slice (some ⟨wA.heap.size,0,none⟩) 1 1) 1 [.map (some wo.heap.size)] wB:=by
    rw [<-hwB];exact fM (size:=1) Mj.und [.map (some wo.heap.size)] rfl (fun u hu=>by simp at hu;subst hu;rfl) 1
   have hRB:=hR.since (hsA.trans hsB);have U6:=hRB.pow;have U7:w.heap.size<=wB.heap.size:=zQ5 hSr.size (hsA.trans hsB).size;have PK:iN wB wo.heap.size []:=(hsB.below.block _ hlA).trans PI;have U8:=(show Hid _ from PK);clear PI PK hsB
   go_wp2_with (at_builtin;refine gQ Mj rfl _ _ 157 rfl rfl U6 rfl hsrc (by omega) U7 ?_;intro sa' sc' w8 hR8 hF8 hB8;have hnB:¬ M.pl.blk=some w2.heap.size:=fun e=>(hRB.pne _ e).1 rfl;have y5:=(hF8.cell (p:=⟨w2.heap.size,5,none⟩) hRB.bh hnB).trans hRB.c5;have z5:=(hF8.frozen (p:=⟨w2.heap.size,5,none⟩) hRB.bh hnB).trans (hRB.z 5 (by decide)))
   go_roundw
   case rel =>
    have hP:=hR.Mk (pl':=⟨sa',sc'⟩) (hsA.trans ⟨(show Since wA wB from by rw [<-hwB];exact (Since.refl wA).alloc _).below⟩) (Nat.le_refl _) U8.out hSr.size hR8 hF8 (hB8.imp (fun e=>e) (fun e=>⟨_,e.2,Nat.le_refl _⟩)) rfl;refine ⟨M.ps.length+1,_,by omega,by go_num,hP,HE0.out,he1,he2,by simp,fun p hp=>?_, ?_⟩
    ·show (if p=wo.heap.size then [] else M.cont p)=[];split
     ·rfl
     ·rename_i hne;have hp':p∈M.ps++[wo.heap.size]:=hp;rw [List.mem_append,List.mem_singleton] at hp';exact hc0 p (hp'.resolve_right hne)
    ·have hF:Fr (fun i=>i=w2.heap.size\/M.pl.blk=some i) wo (w8.setCell ⟨w2.heap.size,5,none⟩ (.slice sa' (M.ps.length+1) sc')) :=
      (((hsA.trans (show Since wA wB from by rw [<-hwB];exact (Since.refl wA).alloc _)).fr fun _=>False).trans hF8 (fun _ _ f=>f.elim) (fun _ _ f=>.inr f)).setCell ⟨w2.heap.size,5,none⟩ _ (fun _=>.inl rfl)
     exact hF.aC hSr (fun i hi hs=>by
      rcases hs with hs | hs
      ·have:=hR.bl;omega
      ·have:=(hR.pow.dJ hs).2.1;omega)
   case measure=>simp [intOf];omega
  ·have hkn:M.ps.length=d.nodes.length:=by omega
   have n1:¬ (M.ps.length:Int) < (d.nodes.length:Int):=by omega
   have oo:=(show Hid _ from (⟨hR,HE0.out,he1,he2,hkn,hc0,hSr⟩:fT w.heap.size wo w2.heap.size ⟨ga,gl,gc,na,d.nodes.length,nc,wa,wl,wc⟩ d M/\M.sl=⟨none,0⟩/\M.sent=[]/\M.ks=[]/\M.ps.length=d.nodes.length/\(∀ p,p∈M.ps->M.cont p=[])/\Since w wo));clear hR he1 he2 hc0 hkn
   go_wp2
   go_ret
   first
    | exact ⟨_,rfl,M,oo.out⟩
    | exact ⟨_,M,rfl,oo.out⟩
end Go.Proofs.YtiiifecfdkjmbaaGreat
