/- Lemmas. Lemmas. -/
import Derived.Shelf.SlMaps.Clone
import Derived.Test.YtiiifecfdkjmbaaCsMem
import Derived.Test.YtiiifecfdkjmbaaRegM
set_option maxHeartbeats 4000000
namespace Go.Proofs.Ytiiifecfdkjmbaa
open _root_.Go.Proofs.Try
set_option maxRecDepth 8000
open Go.RowKit Go.Shelf
open Go.ChangeMaps (setBlock)
set_option linter.unusedVariables false
set_option linter.unusedSimpArgs false
attribute [local go_sem] Oper.semAt_some
theorem uN:prog.underlying 138=some (.map 48 142):=by kernel_rfl
theorem tC (w:World) (r:Nat) (ms:List Mg) (h:fM w r ms) (m:Mg) (w':World) (hw:w.putObj r (.map (ents (eu ms m)) (eu ms m).length)=w') :
  (Instr.mapUpdate 138 (.map (some r)) (.agg #[.int .i64 m.fr,.int .i64 m.gr,.int .i64 m.st,.bool m.nul,.string m.body]) (.agg #[])).run prog w=.ok () w':=by
 rw [<-hw];exact qN uN h m
theorem uO (ms:List Mg) (m y:Mg):y∈eu ms m↔y∈ms\/y=m:=by
 unfold eu
 split
 ·rename_i h
  rw [jR] at h
  exact ⟨.inl,fun a=>a.elim id (fun e=>e ▸ h)⟩
 ·simp
theorem zT (l:List Mg):∀ (ms:List Mg) (y:Mg),y∈l.foldl eu ms↔y∈ms\/y∈l:=by
 induction l with
 | nil=>intro ms y;simp
 | cons a r ih =>
  intro ms y
  rw [List.foldl_cons,ih,uO,List.mem_cons]
  exact ⟨fun h=>by rcases h with (h | h) | h <;> simp [h],fun h=>by rcases h with h | h | h <;> simp [h]⟩
theorem uP {w:World} {r:Nat} {ms:List Mg} (h:fM w r ms):(Instr.range 138 (.map (some r))).run prog w=.ok (.pointer (some ⟨w.heap.size,0,none⟩)) (w.alloc (.mapIter (some r) ms.length #[] ms.length)) :=
 run_range_map w _ _ _ r _ _ uN h
set_option maxRecDepth 100000 in
theorem FT (p r:Nat) (A ms:List Mg) (w:World) (hp:fM w p A) (hr:fM w r ms) (hne:p≠r) :
  Calls prog 127 #[.map (some p),.map (some r)] w fun e w'=>e=.returned (.tuple #[])/\∃ A',fM w' p A'/\(∀ y,y∈A'↔y∈A\/y∈ms)/\Fr (fun i=>i=p) w w':=by
 have hpl:=(zQ3.1 hp).1
 have hrl:=(zQ3.1 hr).1
 have hrg:=uP hr
 obtain ⟨W0,hW0⟩:∃ y,w.alloc (.mapIter (some r) ms.length #[] ms.length)=y:=⟨_,rfl⟩
 rw [hW0] at hrg
 have hS0:=av hW0
 have LH:W0.heap[w.heap.size]? = some (.mapIter (some r) ms.length #[] ms.length):=by rw [<-hW0];exact World.alloc_heap_new w _
 have hp0:fM W0 p A:=(hS0.below.block p hpl).trans hp
 have hF0:Fr (fun i=>i=p) w W0:=hS0.fr _
 have C:∀ y,Fr (fun i=>i=p) w y->fM y r ms:=fun y h=>(h.block r hrl (Ne.symm hne)).trans hr
 have HC:=(show Hid _ from C)
 clear hr hp hW0 C
 go_enter func127,ntmps127
 go_wp2
 clear hrg
 go_loopw [8] (fun _ wr=>∃ seen:Array Nat,wr.heap[w.heap.size]? = some (.mapIter (some r) ms.length seen ms.length)/\Seen ms seen/\fM wr p ((kR ms seen).foldl eu A)/\Fr (fun i=>i=p) w wr) (fun _ wr=>uK ms.length w.heap.size wr)
 case atStart=>exact ⟨#[],LH,⟨by simp,by simp⟩,hp0,hF0⟩
 case round =>
  obtain ⟨wo,rfl⟩:∃ wo,wo=wr:=⟨_,rfl⟩
  obtain ⟨seen,hit,hsn,hps,hF⟩:=hrel
  have hst:=HC.out wo hF
  clear LH hp0 hF0 hS0
  rcases run_next_at (P:=prog) wo 0 w.heap.size r ms.length ms.length seen (ents ms) ms.length hit hst (FK ms) (Nat.le_refl _) with ⟨hz,hrun⟩ | ⟨e,he,w1,hw1,hrun⟩
  ·have hperm:=FL hsn (DZ hz)
   have HF:Hid (∃ A',fM wo p A'/\(∀ y,y∈A'↔y∈A\/y∈ms)/\Fr (fun i=>i=p) w wo):=⟨_,hps,fun y=>by rw [zT,hperm.mem_iff],hF⟩
   clear hz hperm hps hsn hit hst hF
   go_wp2
   go_end0
   exact ⟨rfl,HF.out⟩
  ·obtain ⟨i,x,hx,rfl,hin,hmem⟩:=FM he
   have hi:=(zQ2.1 hx).1
   have J3:=DX hsn hi hin
   have hsz2:=DW J3
   rw [Array.size_push] at hsz2
   have hcm:=DY (seen:=seen) hx
   dsimp only at hrun
   obtain ⟨w2,hw2⟩:∃ y,setBlock w1 w.heap.size (.mapIter (some r) ms.length (seen.push i) ms.length)=y:=⟨_,rfl⟩
   rw [hw2] at hrun
   have hsz1:w1.heap=wo.heap/\w1.os=wo.os/\w1.tape=wo.tape/\w1.output=wo.output:=by rcases hw1 with rfl | rfl <;> exact ⟨rfl,rfl,rfl,rfl⟩
   have hil:w.heap.size < wo.heap.size:=(zQ3.1 hit).1
   have hob:∀ k,k≠w.heap.size->w2.heap[k]? = wo.heap[k]?:=fun k hk=>by
    rw [<-hw2,jF,World.putObj_heap_other hk,hsz1.1]
   have hs2:w2.heap.size=wo.heap.size:=by rw [<-hw2,jF,World.putObj_size,hsz1.1]
   have hit2:w2.heap[w.heap.size]? = some (.mapIter (some r) ms.length (seen.push i) ms.length):=by
    rw [<-hw2,jF];exact World.putObj_heap_same (by rw [hsz1.1];exact hil)
   have ho2:w2.os=wo.os/\w2.tape=wo.tape/\w2.output=wo.output:=by rw [<-hw2];exact hsz1.2
   have hF2:Fr (fun i=>i=p) w w2:=⟨ho2.1.trans hF.os,ho2.2.1.trans hF.tape,ho2.2.2.trans hF.output,by rw [hs2];exact hF.size,fun k hk hne=>(hob k (by omega)).trans (hF.block k hk hne)⟩
   have Cj:fM w2 r ms:=HC.out w2 hF2
   have LJ:fM w2 p ((kR ms seen).foldl eu A):=(hob p (by omega)).trans hps
   have hen:(Instr.entry (.pointer (some ⟨w.heap.size,0,none⟩))).run prog w2=.ok (.tuple #[mgV x,.agg #[]]) w2 :=
    run_entry_at (P:=prog) w2 w.heap.size r ms.length seen (ents ms) ms.length ⟨mgV x,.agg #[],i⟩ hit2 Cj hmem (by rw [DV];exact List.nodup_range)
   obtain ⟨W3,hW3⟩:∃ y,w2.alloc (.cells #[.int .i64 x.fr,.int .i64 x.gr,.int .i64 x.st,.bool x.nul,.string x.body] 48)=y:=⟨_,rfl⟩
   obtain ⟨W4,hW4⟩:∃ y,W3.alloc (.cells #[] 142)=y:=⟨_,rfl⟩
   have hS3:=av hW3
   have r9:=av hW4
   have hS4:=hS3.trans r9
   have hl3:w2.heap.size < W3.heap.size:=by rw [<-hW3];simp
   have z0:W4.cell? ⟨w2.heap.size,0,none⟩=some (.int .i64 x.fr):=(r9.cellAt hl3 _).trans (by rw [<-hW3];simp [go_sem])
   have z1:W4.cell? ⟨w2.heap.size,1,none⟩=some (.int .i64 x.gr):=(r9.cellAt hl3 _).trans (by rw [<-hW3];simp [go_sem])
   have z2:W4.cell? ⟨w2.heap.size,2,none⟩=some (.int .i64 x.st):=(r9.cellAt hl3 _).trans (by rw [<-hW3];simp [go_sem])
   have z3:W4.cell? ⟨w2.heap.size,3,none⟩=some (.bool x.nul):=(r9.cellAt hl3 _).trans (by rw [<-hW3];simp [go_sem])
   have z4:W4.cell? ⟨w2.heap.size,4,none⟩=some (.string x.body):=(r9.cellAt hl3 _).trans (by rw [<-hW3];simp [go_sem])
   have Ii:fM W4 p ((kR ms seen).foldl eu A):=(hS4.below.block p (by omega)).trans LJ
   obtain ⟨cf,hcf⟩:∃ y,(kR ms seen).foldl eu A=y:=⟨_,rfl⟩
   rw [hcf] at Ii
   obtain ⟨W5,hW5⟩:∃ y,W4.putObj p (.map (ents (eu cf x)) (eu cf x).length)=y:=⟨_,rfl⟩
   have hmu:=tC W4 p cf Ii x W5 hW5
   have J4:W5.heap[w.heap.size]? = some (.mapIter (some r) ms.length (seen.push i) ms.length):=by
    rw [<-hW5];exact (World.putObj_heap_other (by omega)).trans (hS4.block hit2)
   have H5:=xL (n:=ms.length) J4
   have HIT:=xL (n:=ms.length) hit
   have HM5:Hid (uK ms.length w.heap.size W5 < uK ms.length w.heap.size wo):=by
    unfold Hid
    rw [H5,HIT,Array.size_push];omega
   have hF5:Fr (fun i=>i=p) w W5:=by
    rw [<-hW5];exact (hF2.trans (hS4.fr fun _=>False) (fun _ _ h=>h) (fun _ _ f=>f.elim)).trans (Fr.put _ _ _) (fun _ _ h=>h) (fun _ _ h=>h)
   have mZ:Hid (∃ seen:Array Nat,W5.heap[w.heap.size]? = some (.mapIter (some r) ms.length seen ms.length)/\Seen ms seen/\fM W5 p ((kR ms seen).foldl eu A)/\Fr (fun i=>i=p) w W5) :=
    ⟨_,J4,J3,by rw [hcm,List.foldl_append,hcf,<-hW5];exact xK Ii,hF5⟩
   simp only [mgV] at hen hrun
   clear hw2 hob hs2 hit2 J4 ho2 Cj hst hit hcm hsn J3 hsz2 HIT hmem hx hsz1 hw1 hin he hS3 r9 hS4 hps LJ Ii hF hF2 hF5 H5 hcf hl3
   go_wp2
   go_roundw
   case rel=>exact mZ.out
   case measure=>exact HM5.out
theorem Ec (b:Nat) (es:Array MapEntry) (clock:Nat) (w:World) (hb:w.heap[b]? = some (.map es clock)) :
  Calls prog 126 #[.map (some b)] w fun e w'=>e=.returned (.map (some w.heap.size))/\w'=w.alloc (.map es clock):=by
 have hq:=fun w=>run_eql_map_nil_sl (P:=prog) w 138 _ _ (some b) uN
 go_enter func126,ntmps126
 go_wp2
 rw [run_callFunc_extern func150 (by kernel_rfl) (by kernel_rfl) (by kernel_rfl) (e:=Extern.MapsClone.clone) (by kernel_rfl),run_maps_clone_sl w 138 hb]
 simp only [Result.andThen]
 rw [Oper.upon_value]
 go_wp2
 rw [run_typeAssert_map_sl _ 138 20 _ _ _ uN]
 simp only [Result.andThen]
 rw [Oper.upon_value]
 go_wp2
 go_ret
 exact ⟨rfl,rfl⟩
end Go.Proofs.Ytiiifecfdkjmbaa
set_option maxHeartbeats 4000000
namespace Go.Proofs.Ytiiifecfdkjmbaa
open _root_.Go.Proofs.Try
set_option maxRecDepth 8000
open Go.RowKit Go.Shelf
open Pu
set_option linter.unusedVariables false
set_option linter.unusedSimpArgs false
theorem Co:prog.underlying 109=some (.map 48 138):=by kernel_rfl
structure jT (w:World) (b:Nat) (m:Mg):Prop where
 lt:b < w.heap.size
 at0:aZ w b 0 m
theorem jT.since {w w':World} {b:Nat} {m:Mg} (h:jT w b m) (k:Since w w'):aZ w' b 0 m :=
 ⟨(k.cellAt h.lt _).trans h.at0.c0,(k.cellAt h.lt _).trans h.at0.c1,(k.cellAt h.lt _).trans h.at0.c2,(k.cellAt h.lt _).trans h.at0.c3,(k.cellAt h.lt _).trans h.at0.c4⟩
theorem jT.fr {X:Nat->Prop} {w w':World} {b:Nat} {m:Mg} (h:jT w b m) (k:Fr X w w') (hX:¬ X b):jT w' b m :=
 ⟨zQ4 h.lt k.size,(k.cell (p:=⟨b,0,none⟩) h.lt hX).trans h.at0.c0,(k.cell (p:=⟨b,0+1,none⟩) h.lt hX).trans h.at0.c1,(k.cell (p:=⟨b,0+2,none⟩) h.lt hX).trans h.at0.c2,(k.cell (p:=⟨b,0+3,none⟩) h.lt hX).trans h.at0.c3,(k.cell (p:=⟨b,0+4,none⟩) h.lt hX).trans h.at0.c4⟩
theorem jT.new (w:World) (T:TypeId) (m:Mg):jT (w.alloc (.cells #[.int .i64 m.fr,.int .i64 m.gr,.int .i64 m.st,.bool m.nul,.string m.body] T)) w.heap.size m :=
 ⟨by simp,by constructor <;> simp [go_sem]⟩
theorem xS (lo B n:Nat) (x:WV) (d:Wd) (M:SM) (m:Mg) (p r:Nat) (w:World) (h:dQ lo w B x d M) (hn:M.ps[n]? = some p) (hm:(m,r)∈M.ks) (hk:(M.ks.map Prod.fst).Nodup) :
  Calls prog 97 #[.pointer (some ⟨B,0,none⟩),.int .i64 n,.agg #[.int .i64 m.fr,.int .i64 m.gr,.int .i64 m.st,.bool m.nul,.string m.body]] w fun e w'=>e=.returned (.tuple #[])/\∃ A',(∀ y,y∈A'↔(y∈M.cont p\/y∈M.cont r)\/y=m)/\dQ lo w' B x d { M with cont:=fun i=>if i=p then A' else M.cont i }/\Fr (fun i=>i=p) w w':=by
 have hnl:=(zQ2.1 hn).1
 have hcap:=h.pow.cap
 obtain ⟨pb,po,hpa,_,hpb,hpc,hpx⟩:=h.pow.body (by omega)
 have hpS:p∈M.sets:=List.mem_append.2 (.inr (List.mem_of_getElem? hn))
 have hrS:r∈M.sets:=List.mem_append.2 (.inl (List.mem_map.2 ⟨_,hm,rfl⟩))
 have hpr:p≠r:=fun e=>(List.nodup_append.1 h.nd).2.2 r (List.mem_map.2 ⟨_,hm,rfl⟩) p (List.mem_of_getElem? hn) e.symm
 have HPA:Hid (M.pl.a=some ⟨pb,po,none⟩):=hpa
 have HPN:Hid (∀ y,Row y lo 1 M.pl M.ps.length (M.ps.map fun p=>.map (some p))->y.cell? ⟨pb,po+n,none⟩=some (.map (some p))):=fun y hy=>by
  obtain ⟨b',o',e',_,_,_,hx'⟩:=hy.body (by omega)
  rw [hpa] at e'
  injection e' with e'
  injection e' with e1 e2 _
  subst e1 e2
  exact hx' n _ (by rw [List.getElem?_map,hn];rfl)
 have n1:(n:Int) < (M.ps.length:Int):=by omega
 obtain ⟨w1,hw1⟩:∃ y,w.alloc (.cells #[.int .i64 m.fr,.int .i64 m.gr,.int .i64 m.st,.bool m.nul,.string m.body] 48)=y:=⟨_,rfl⟩
 have hM1:jT w1 w.heap.size m:=by rw [<-hw1];exact jT.new w _ m
 have hS1:=av hw1
 have hR1:=h.since hS1
 have hPB:Hid (p < w.heap.size/\¬ w.heap.size=p):=⟨h.kD hpS,fun e=>by have:=h.kD hpS;omega⟩
 clear hpa hpx hpc hcap hnl hn h
 go_enter func97,ntmps97
 go_wp2_with fail
 clear hw1
 obtain ⟨W0,hW0⟩:∃ y,w1.drew=y:=⟨_,rfl⟩
 have hs0:=aJ hW0
 obtain ⟨S0,hS0⟩:∃ S0:World->Prop,∀ w',S0 w'↔Since w1 w':=⟨_,fun _=>Iff.rfl⟩
 have c4:∀ y:aj S0,y.w.cell? ⟨B,4,none⟩=some (.map (some M.ra)):=fun y=>(hR1.since ((hS0 _).1 y.h)).c4
 have c5:∀ y:aj S0,y.w.cell? ⟨B,5,none⟩=some (.slice (some ⟨pb,po,none⟩) M.ps.length M.pl.cap):=fun y=>(((hR1.since ((hS0 _).1 y.h)).c5).trans (by show some (Value.slice M.pl.a M.ps.length M.pl.cap)=_;rw [HPA.out]))
 have cp:∀ y:aj S0,y.w.cell? ⟨pb,po+n,none⟩=some (.map (some p)):=fun y=>HPN.out _ (hR1.since ((hS0 _).1 y.h)).pow
 have m0:∀ y:aj S0,y.w.cell? ⟨w.heap.size,0,none⟩=some (.int .i64 m.fr):=fun y=>(hM1.since ((hS0 _).1 y.h)).c0
 have m1:∀ y:aj S0,y.w.cell? ⟨w.heap.size,1,none⟩=some (.int .i64 m.gr):=fun y=>(hM1.since ((hS0 _).1 y.h)).c1
 have m2:∀ y:aj S0,y.w.cell? ⟨w.heap.size,2,none⟩=some (.int .i64 m.st):=fun y=>(hM1.since ((hS0 _).1 y.h)).c2
 have m3:∀ y:aj S0,y.w.cell? ⟨w.heap.size,3,none⟩=some (.bool m.nul):=fun y=>(hM1.since ((hS0 _).1 y.h)).c3
 have m4:∀ y:aj S0,y.w.cell? ⟨w.heap.size,4,none⟩=some (.string m.body):=fun y=>(hM1.since ((hS0 _).1 y.h)).c4
 have ak:=(hS0 W0).2 hs0
 have hne:Nonempty (aj S0):=⟨⟨_,ak⟩⟩
 have bG:=aG w
 have hR0:=hR1.since hs0
 have hlk:=oQ Co hR0.map hk hm
 have hCp:=FT p r (M.cont p) (M.cont r) W0 (hR0.set p hpS).2 (hR0.set r hrS).2 hpr
 unfold mgV at hlk
 clear hm hk
 refine aF (fun w'=>∃ x:aj S0,w'=x.w) (by kernel_rfl) ?_
 rw [hW0]
 clear hW0
 refine tW 0 rfl ?_;go_big_quiet_op
 refine tW 1 rfl ?_;go_big_quiet_op
 refine tW 2 rfl ?_;go_big_quiet_op
 refine tM 3 rfl (ah ak) ?_;go_big_quiet_op
 refine tW 4 rfl ?_;go_big_quiet_op
 refine tW 5 rfl ?_;go_big_quiet_op
 refine tM 6 rfl (ah ak) ?_;go_big_quiet_op
 refine tW 7 rfl ?_;go_big_quiet_op
 refine tW 8 rfl ?_;go_big_quiet_op
 refine tW 9 rfl ?_;go_big_quiet_op
 refine tM 10 rfl (ah ak) ?_;go_big_quiet_op
 refine tM 11 rfl (ah ak) ?_;go_big_quiet_op
 refine aI 12 rfl (by kernel_rfl) ?_
 intro K hK
 go_simp
 refine hK _ _ (fun _ _=>ah ak) ?_
 clear hK K
 refine aI 13 rfl (by kernel_rfl) ?_
 intro K hK
 go_simp
 refine hCp.mono ?_
 rintro e w2 ⟨rfl,A1,hA1,hmem,hF2⟩
 dsimp only
 refine hK _ _ (fun h=>absurd h (by decide +kernel)) ?_
 clear hK K
 refine aM (by kernel_rfl) ?_
 clear c4 c5 cp m0 m1 m2 m3 m4 hne ak hS0 hlk hCp
 have hR2:=hR0.FY hpS A1 hF2 hA1
 have hM2:jT w2 w.heap.size m:=jT.fr (hM1.fr (hs0.fr fun _=>False) (fun f=>f)) hF2 hPB.out.2
 have Ee:Fr (fun i=>i=p) w w2:=((hS1.trans hs0).fr fun _=>False).trans hF2 (fun _ _ f=>f.elim) (fun _ _ f=>f)
 obtain ⟨M2,Io⟩:∃ y:SM,y={ M with cont:=fun i=>if i=p then A1 else M.cont i }:=⟨_,rfl⟩
 rw [<-Io] at hR2
 have E1:Hid (M2.ra=M.ra/\M2.ps=M.ps/\M2.pl=M.pl/\M2.sets=M.sets/\M2.cont p=A1):=by
  unfold Hid;subst Io;exact ⟨rfl,rfl,rfl,rfl,if_pos rfl⟩
 have E2:Hid (M2={ M with cont:=fun i=>if i=p then A1 else M.cont i }):=Io
 clear Io hR1 hR0 hs0 hA1
 obtain ⟨W4,hW0⟩:∃ y,w2.drew=y:=⟨_,rfl⟩
 have hs4:=aJ hW0
 obtain ⟨S4,hS4⟩:∃ S0:World->Prop,∀ w',S0 w'↔Since w2 w':=⟨_,fun _=>Iff.rfl⟩
 have c5:∀ y:aj S4,y.w.cell? ⟨B,5,none⟩=some (.slice (some ⟨pb,po,none⟩) M.ps.length M.pl.cap):=fun y=>((hR2.since ((hS4 _).1 y.h)).c5).trans (by rw [E1.out.2.2.1,E1.out.2.1,HPA.out])
 have cp:∀ y:aj S4,y.w.cell? ⟨pb,po+n,none⟩=some (.map (some p)):=fun y=>HPN.out _ (by have:=(hR2.since ((hS4 _).1 y.h)).pow;rw [E1.out.2.2.1,E1.out.2.1] at this;exact this)
 have m0:∀ y:aj S4,y.w.cell? ⟨w.heap.size,0,none⟩=some (.int .i64 m.fr):=fun y=>(hM2.since ((hS4 _).1 y.h)).c0
 have m1:∀ y:aj S4,y.w.cell? ⟨w.heap.size,1,none⟩=some (.int .i64 m.gr):=fun y=>(hM2.since ((hS4 _).1 y.h)).c1
 have m2:∀ y:aj S4,y.w.cell? ⟨w.heap.size,2,none⟩=some (.int .i64 m.st):=fun y=>(hM2.since ((hS4 _).1 y.h)).c2
 have m3:∀ y:aj S4,y.w.cell? ⟨w.heap.size,3,none⟩=some (.bool m.nul):=fun y=>(hM2.since ((hS4 _).1 y.h)).c3
 have m4:∀ y:aj S4,y.w.cell? ⟨w.heap.size,4,none⟩=some (.string m.body):=fun y=>(hM2.since ((hS4 _).1 y.h)).c4
 have xk:=(hS4 W4).2 hs4
 have hne:Nonempty (aj S4):=⟨⟨_,xk⟩⟩
 have hR4:=hR2.since hs4
 have FZ:fM W4 p A1:=by have:=(hR4.set p (by rw [E1.out.2.2.2.1];exact hpS)).2;rw [E1.out.2.2.2.2] at this;exact this
 obtain ⟨W5,hW5⟩:∃ y,W4.putObj p (.map (ents (eu A1 m)) (eu A1 m).length)=y:=⟨_,rfl⟩
 have hmu:=tC W4 p A1 FZ m W5 hW5
 have hF5:Fr (fun i=>i=p) W4 W5:=by rw [<-hW5];exact Fr.put _ _ _
 have hR5:=hR4.FY (r:=p) (by rw [E1.out.2.2.2.1];exact hpS) (eu A1 m) hF5 (by rw [<-hW5];exact xK FZ)
 have uR:Hid (∃ A',(∀ y,y∈A'↔(y∈M.cont p\/y∈M.cont r)\/y=m)/\dQ lo W5 B x d { M with cont:=fun i=>if i=p then A' else M.cont i }/\Fr (fun i=>i=p) w W5):=by
  refine ⟨eu A1 m,fun y=>by rw [uO,hmem], ?_,Ee.trans ((hs4.fr fun _=>False).trans hF5 (fun _ _ f=>f.elim) (fun _ _ f=>f)) (fun _ _ f=>f) (fun _ _ f=>f)⟩
  have e:({ M2 with cont:=fun i=>if i=p then eu A1 m else M2.cont i }:SM)={ M with cont:=fun i=>if i=p then eu A1 m else M.cont i }:=by
   rw [E2.out]
   congr 1
   funext i
   by_cases hi:i=p
   ·simp [hi]
   ·simp [hi]
  rw [e] at hR5
  exact hR5
 clear hW5 hR5 hF5 FZ hR4 hR2 hM2 E1 E2 Ee hmem
 go_wp2_with fail
 refine aF (fun w'=>∃ x:aj S4,w'=x.w) (by kernel_rfl) ?_
 rw [hW0]
 clear hW0
 refine tW 0 rfl ?_;go_big_quiet_op
 refine tW 1 rfl ?_;go_big_quiet_op
 refine tW 2 rfl ?_;go_big_quiet_op
 refine tM 3 rfl (ah xk) ?_;go_big_quiet_op
 refine tW 4 rfl ?_;go_big_quiet_op
 refine tW 5 rfl ?_;go_big_quiet_op
 refine tM 6 rfl (ah xk) ?_;go_big_quiet_op
 refine tM 7 rfl (ah xk) ?_;go_big_quiet_op
 refine tW 8 rfl ?_;go_big_quiet_op
 refine aI 9 rfl (by kernel_rfl) ?_
 intro K hK
 go_simp
 refine hK _ _ (fun h=>absurd h (by decide +kernel)) ?_
 clear hK K
 refine aM (by kernel_rfl) ?_
 clear c5 cp m0 m1 m2 m3 m4 hne xk hS4 hmu
 go_wp2
 go_end0
 exact ⟨rfl,uR.out⟩
end Go.Proofs.Ytiiifecfdkjmbaa
