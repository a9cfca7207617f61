/- Lemmas. -/
import Derived.Test.YtiiifecfdkjmbaaGreatTSTellX
set_option maxHeartbeats 1000000
namespace Go.Proofs.YtiiifecfdkjmbaaGreat
open _root_.Go.Proofs.Tryz hiding checked
set_option maxRecDepth 8000
open Go.RowKit Go.Shelf
open Pu
set_option linter.unusedVariables false
set_option linter.unusedSimpArgs false
theorem O9 (lo p:Nat) (m:Mg) (d:Wd) (L:Lay) (w:World) (k:Int) (hB:aY lo w p d L k) (hb1:(decide (0<=m.fr) && decide (m.fr < (d.nodes.length:Int)))=false) :
  Calls prog 142 #[.pointer (some ⟨p,0,none⟩),.agg #[.int .i64 m.fr,.int .i64 m.gr,.int .i64 m.st,.bool m.nul,.string m.body]] w fun e w'=>e=.panicked (pan 4)/\Since w w':=by
 have hpl:=hB.made.box.lt
 have b0:=hB.made.box.c0
 have hG:Ints w (L (0,0,0)).a d.groups.length d.groups:=hB.made.own.wat.g
 obtain ⟨w1,hw1⟩:∃ y,w.alloc (.cells #[.int .i64 m.fr,.int .i64 m.gr,.int .i64 m.st,.bool m.nul,.string m.body] 42)=y:=⟨_,rfl⟩
 have hS1:=ay hw1
 have hMb:aZ w1 w.heap.size 0 m:=by rw [<-hw1];constructor <;> simp [go_sem]
 have hl1:w.heap.size < w1.heap.size:=by rw [<-hw1];simp
 obtain ⟨S0,hS0⟩:∃ S0:World->Prop,∀ w',S0 w'↔Since w1 w':=⟨_,fun _=>Iff.rfl⟩
 have bS:=aH w
 have x0:∀ y:aj S0,y.w.cell? ⟨p,0,none⟩=some (.slice (L (0,0,0)).a d.groups.length (L (0,0,0)).cap):=fun y=>((hS1.trans ((hS0 _).1 y.h)).cellAt hpl _).trans b0
 have m0:∀ y:aj S0,y.w.cell? ⟨w.heap.size,0,none⟩=some (.int .i64 m.fr):=fun y=>(((hS0 _).1 y.h).cellAt hl1 _).trans hMb.c0
 have m1:∀ y:aj S0,y.w.cell? ⟨w.heap.size,1,none⟩=some (.int .i64 m.gr):=fun y=>(((hS0 _).1 y.h).cellAt hl1 _).trans hMb.c1
 have m2:∀ y:aj S0,y.w.cell? ⟨w.heap.size,2,none⟩=some (.int .i64 m.st):=fun y=>(((hS0 _).1 y.h).cellAt hl1 _).trans hMb.c2
 have m3:∀ y:aj S0,y.w.cell? ⟨w.heap.size,3,none⟩=some (.bool m.nul):=fun y=>(((hS0 _).1 y.h).cellAt hl1 _).trans hMb.c3
 have m4:∀ y:aj S0,y.w.cell? ⟨w.heap.size,4,none⟩=some (.string m.body):=fun y=>(((hS0 _).1 y.h).cellAt hl1 _).trans hMb.c4
 have uY:∀ y,Since w1 y->Since w y:=fun y hy=>hS1.trans hy
 have b1:=hB.made.box.c1
 have x1:∀ y:aj S0,y.w.cell? ⟨p,1,none⟩=some (.slice (L (1,0,0)).a d.nodes.length (L (1,0,0)).cap):=fun y=>((hS1.trans ((hS0 _).1 y.h)).cellAt hpl _).trans b1
 clear hMb
 go_enter func142,ntmps142
 go_wp2_with fail
 obtain ⟨W0,hW0⟩:∃ y,w1.drew=y:=⟨_,rfl⟩
 have hs0:=aO hW0
 have ak:=(hS0 W0).2 hs0
 have hne:Nonempty (aj S0):=⟨⟨_,ak⟩⟩
 refine aI (fun w'=>∃ x:aj S0,w'=x.w) (by kernel_rfl) ?_
 rw [hW0]
 clear hW0
 refine tW 0 rfl ?_;go_big_quiet_op
 refine tW 1 rfl ?_;go_big_quiet_op
 refine tM 2 rfl (ah ak) ?_;go_big_quiet_op
 refine aK 3 rfl (by kernel_rfl) ?_
 intro K hK
 go_simp
 refine (fH p m.fr _ _ _ W0 (x1 ⟨_,ak⟩)).mono ?_
 rw [hb1]
 rintro e w' ⟨rfl,hw'⟩
 obtain rfl:=hw'.symm
 dsimp only
 refine hK _ _ (fun _ _=>ah ak) ?_
 clear hK K
 refine tW 4 rfl ?_;go_big_quiet_op
 refine fG 5 rfl (by kernel_rfl) (fun _=>ah ak) (fun _ _ _ _ h=>h) (by rfl) ?_
 simp only [Act.put,zQ7,zQ8,zQ9]
 refine fG 6 rfl (by kernel_rfl) (fun _=>ah ak) (fun _ _ _ _ h=>h) (by rfl) ?_
 simp only [Act.put,zQ7,zQ8,zQ9]
 refine fG 7 rfl (by kernel_rfl) (fun _=>ah ak) (fun _ _ _ _ h=>h) (by rfl) ?_
 simp only [Act.put,zQ7,zQ8,zQ9]
 refine tW 8 rfl ?_;go_big_quiet_op
 refine tW 9 rfl ?_;go_big_quiet_op
 refine fG 10 rfl (by kernel_rfl) (fun _=>ah ak) (fun _ _ _ _ h=>h) (by rfl) ?_
 simp only [Act.put,zQ7,zQ8,zQ9]
 refine fG 11 rfl (by kernel_rfl) (fun _=>ah ak) (fun _ _ _ _ h=>h) (by rfl) ?_
 simp only [Act.put,zQ7,zQ8,zQ9]
 refine fG 12 rfl (by kernel_rfl) (fun _=>ah ak) (fun _ _ _ _ h=>h) (by rfl) ?_
 simp only [Act.put,zQ7,zQ8,zQ9]
 refine fG 13 rfl (by kernel_rfl) (fun _=>ah ak) (fun _ _ _ _ h=>h) (by rfl) ?_
 simp only [Act.put,zQ7,zQ8,zQ9]
 refine fG 14 rfl (by kernel_rfl) (fun _=>ah ak) (fun _ _ _ _ h=>h) (by rfl) ?_
 simp only [Act.put,zQ7,zQ8,zQ9]
 refine fG 15 rfl (by kernel_rfl) (fun _=>ah ak) (fun _ _ _ _ h=>h) (by rfl) ?_
 simp only [Act.put,zQ7,zQ8,zQ9]
 refine fG 16 rfl (by kernel_rfl) (fun _=>ah ak) (fun _ _ _ _ h=>h) (by rfl) ?_
 simp only [Act.put,zQ7,zQ8,zQ9]
 refine fG 17 rfl (by kernel_rfl) (fun _=>ah ak) (fun _ _ _ _ h=>h) (by rfl) ?_
 simp only [Act.put,zQ7,zQ8,zQ9]
 refine fG 18 rfl (by kernel_rfl) (fun _=>ah ak) (fun _ _ _ _ h=>h) (by rfl) ?_
 simp only [Act.put,zQ7,zQ8,zQ9]
 refine tW 19 rfl ?_;go_big_quiet_op
 refine aK 20 rfl (by kernel_rfl) ?_
 intro K hK
 go_simp
 refine (eG 4 _).mono ?_
 rintro e w' ⟨rfl,hw'⟩
 obtain rfl:=hw'.symm
 dsimp only
 exact ⟨rfl,rfl,uY _ (by first | assumption | exact hs0 | exact hs1 | exact hs2)⟩
theorem Pb (lo p:Nat) (m:Mg) (d:Wd) (L:Lay) (w:World) (k:Int) (hB:aY lo w p d L k) (hb1:(decide (0<=m.fr) && decide (m.fr < (d.nodes.length:Int)))=true) (hb2:decide (0<=m.gr)=false) :
  Calls prog 142 #[.pointer (some ⟨p,0,none⟩),.agg #[.int .i64 m.fr,.int .i64 m.gr,.int .i64 m.st,.bool m.nul,.string m.body]] w fun e w'=>e=.panicked (pan 4)/\Since w w':=by
 have hpl:=hB.made.box.lt
 have b0:=hB.made.box.c0
 have hG:Ints w (L (0,0,0)).a d.groups.length d.groups:=hB.made.own.wat.g
 obtain ⟨w1,hw1⟩:∃ y,w.alloc (.cells #[.int .i64 m.fr,.int .i64 m.gr,.int .i64 m.st,.bool m.nul,.string m.body] 42)=y:=⟨_,rfl⟩
 have hS1:=ay hw1
 have hMb:aZ w1 w.heap.size 0 m:=by rw [<-hw1];constructor <;> simp [go_sem]
 have hl1:w.heap.size < w1.heap.size:=by rw [<-hw1];simp
 obtain ⟨S0,hS0⟩:∃ S0:World->Prop,∀ w',S0 w'↔Since w1 w':=⟨_,fun _=>Iff.rfl⟩
 have bS:=aH w
 have x0:∀ y:aj S0,y.w.cell? ⟨p,0,none⟩=some (.slice (L (0,0,0)).a d.groups.length (L (0,0,0)).cap):=fun y=>((hS1.trans ((hS0 _).1 y.h)).cellAt hpl _).trans b0
 have m0:∀ y:aj S0,y.w.cell? ⟨w.heap.size,0,none⟩=some (.int .i64 m.fr):=fun y=>(((hS0 _).1 y.h).cellAt hl1 _).trans hMb.c0
 have m1:∀ y:aj S0,y.w.cell? ⟨w.heap.size,1,none⟩=some (.int .i64 m.gr):=fun y=>(((hS0 _).1 y.h).cellAt hl1 _).trans hMb.c1
 have m2:∀ y:aj S0,y.w.cell? ⟨w.heap.size,2,none⟩=some (.int .i64 m.st):=fun y=>(((hS0 _).1 y.h).cellAt hl1 _).trans hMb.c2
 have m3:∀ y:aj S0,y.w.cell? ⟨w.heap.size,3,none⟩=some (.bool m.nul):=fun y=>(((hS0 _).1 y.h).cellAt hl1 _).trans hMb.c3
 have m4:∀ y:aj S0,y.w.cell? ⟨w.heap.size,4,none⟩=some (.string m.body):=fun y=>(((hS0 _).1 y.h).cellAt hl1 _).trans hMb.c4
 have uY:∀ y,Since w1 y->Since w y:=fun y hy=>hS1.trans hy
 have b1:=hB.made.box.c1
 have x1:∀ y:aj S0,y.w.cell? ⟨p,1,none⟩=some (.slice (L (1,0,0)).a d.nodes.length (L (1,0,0)).cap):=fun y=>((hS1.trans ((hS0 _).1 y.h)).cellAt hpl _).trans b1
 clear hMb
 go_enter func142,ntmps142
 go_wp2_with fail
 obtain ⟨W0,hW0⟩:∃ y,w1.drew=y:=⟨_,rfl⟩
 have hs0:=aO hW0
 have ak:=(hS0 W0).2 hs0
 have hne:Nonempty (aj S0):=⟨⟨_,ak⟩⟩
 refine aI (fun w'=>∃ x:aj S0,w'=x.w) (by kernel_rfl) ?_
 rw [hW0]
 clear hW0
 refine tW 0 rfl ?_;go_big_quiet_op
 refine tW 1 rfl ?_;go_big_quiet_op
 refine tM 2 rfl (ah ak) ?_;go_big_quiet_op
 refine aK 3 rfl (by kernel_rfl) ?_
 intro K hK
 go_simp
 refine (fH p m.fr _ _ _ W0 (x1 ⟨_,ak⟩)).mono ?_
 rw [hb1]
 rintro e w' ⟨rfl,hw'⟩
 obtain rfl:=hw'.symm
 dsimp only
 refine hK _ _ (fun _ _=>ah ak) ?_
 clear hK K
 refine tW 4 rfl ?_;go_big_quiet_op
 refine tW 5 rfl ?_;go_big_quiet_op
 refine tM 6 rfl (ah ak) ?_;go_big_quiet_op
 refine tW 7 rfl ?_;go_big_quiet_op
 refine tW 8 rfl ?_;go_big_quiet_op
 refine tW 9 rfl ?_;go_big_quiet_op
 refine fG 10 rfl (by kernel_rfl) (fun _=>ah ak) (fun _ _ _ _ h=>h) (by rfl) ?_
 simp only [Act.put,zQ7,zQ8,zQ9]
 refine fG 11 rfl (by kernel_rfl) (fun _=>ah ak) (fun _ _ _ _ h=>h) (by rfl) ?_
 simp only [Act.put,zQ7,zQ8,zQ9]
 refine fG 12 rfl (by kernel_rfl) (fun _=>ah ak) (fun _ _ _ _ h=>h) (by rfl) ?_
 simp only [Act.put,zQ7,zQ8,zQ9]
 refine fG 13 rfl (by kernel_rfl) (fun _=>ah ak) (fun _ _ _ _ h=>h) (by rfl) ?_
 simp only [Act.put,zQ7,zQ8,zQ9]
 refine fG 14 rfl (by kernel_rfl) (fun _=>ah ak) (fun _ _ _ _ h=>h) (by rfl) ?_
 simp only [Act.put,zQ7,zQ8,zQ9]
 refine fG 15 rfl (by kernel_rfl) (fun _=>ah ak) (fun _ _ _ _ h=>h) (by rfl) ?_
 simp only [Act.put,zQ7,zQ8,zQ9]
 refine fG 16 rfl (by kernel_rfl) (fun _=>ah ak) (fun _ _ _ _ h=>h) (by rfl) ?_
 simp only [Act.put,zQ7,zQ8,zQ9]
 refine fG 17 rfl (by kernel_rfl) (fun _=>ah ak) (fun _ _ _ _ h=>h) (by rfl) ?_
 simp only [Act.put,zQ7,zQ8,zQ9]
 refine fG 18 rfl (by kernel_rfl) (fun _=>ah ak) (fun _ _ _ _ h=>h) (by rfl) ?_
 simp only [Act.put,zQ7,zQ8,zQ9]
 refine tW 19 rfl ?_;go_big_quiet_op
 refine aK 20 rfl (by kernel_rfl) ?_
 intro K hK
 go_simp
 refine (eG 4 _).mono ?_
 rintro e w' ⟨rfl,hw'⟩
 obtain rfl:=hw'.symm
 dsimp only
 exact ⟨rfl,rfl,uY _ (by first | assumption | exact hs0 | exact hs1 | exact hs2)⟩
theorem Pd (lo p:Nat) (m:Mg) (d:Wd) (L:Lay) (w:World) (k:Int) (hB:aY lo w p d L k) (hb1:(decide (0<=m.fr) && decide (m.fr < (d.nodes.length:Int)))=true) (hb2:decide (0<=m.gr)=true) (hb3:decide (m.gr < (d.groups.length:Int))=false) :
  Calls prog 142 #[.pointer (some ⟨p,0,none⟩),.agg #[.int .i64 m.fr,.int .i64 m.gr,.int .i64 m.st,.bool m.nul,.string m.body]] w fun e w'=>e=.panicked (pan 4)/\Since w w':=by
 have hpl:=hB.made.box.lt
 have b0:=hB.made.box.c0
 have hG:Ints w (L (0,0,0)).a d.groups.length d.groups:=hB.made.own.wat.g
 obtain ⟨w1,hw1⟩:∃ y,w.alloc (.cells #[.int .i64 m.fr,.int .i64 m.gr,.int .i64 m.st,.bool m.nul,.string m.body] 42)=y:=⟨_,rfl⟩
 have hS1:=ay hw1
 have hMb:aZ w1 w.heap.size 0 m:=by rw [<-hw1];constructor <;> simp [go_sem]
 have hl1:w.heap.size < w1.heap.size:=by rw [<-hw1];simp
 obtain ⟨S0,hS0⟩:∃ S0:World->Prop,∀ w',S0 w'↔Since w1 w':=⟨_,fun _=>Iff.rfl⟩
 have bS:=aH w
 have x0:∀ y:aj S0,y.w.cell? ⟨p,0,none⟩=some (.slice (L (0,0,0)).a d.groups.length (L (0,0,0)).cap):=fun y=>((hS1.trans ((hS0 _).1 y.h)).cellAt hpl _).trans b0
 have m0:∀ y:aj S0,y.w.cell? ⟨w.heap.size,0,none⟩=some (.int .i64 m.fr):=fun y=>(((hS0 _).1 y.h).cellAt hl1 _).trans hMb.c0
 have m1:∀ y:aj S0,y.w.cell? ⟨w.heap.size,1,none⟩=some (.int .i64 m.gr):=fun y=>(((hS0 _).1 y.h).cellAt hl1 _).trans hMb.c1
 have m2:∀ y:aj S0,y.w.cell? ⟨w.heap.size,2,none⟩=some (.int .i64 m.st):=fun y=>(((hS0 _).1 y.h).cellAt hl1 _).trans hMb.c2
 have m3:∀ y:aj S0,y.w.cell? ⟨w.heap.size,3,none⟩=some (.bool m.nul):=fun y=>(((hS0 _).1 y.h).cellAt hl1 _).trans hMb.c3
 have m4:∀ y:aj S0,y.w.cell? ⟨w.heap.size,4,none⟩=some (.string m.body):=fun y=>(((hS0 _).1 y.h).cellAt hl1 _).trans hMb.c4
 have uY:∀ y,Since w1 y->Since w y:=fun y hy=>hS1.trans hy
 have b1:=hB.made.box.c1
 have x1:∀ y:aj S0,y.w.cell? ⟨p,1,none⟩=some (.slice (L (1,0,0)).a d.nodes.length (L (1,0,0)).cap):=fun y=>((hS1.trans ((hS0 _).1 y.h)).cellAt hpl _).trans b1
 clear hMb
 go_enter func142,ntmps142
 go_wp2_with fail
 obtain ⟨W0,hW0⟩:∃ y,w1.drew=y:=⟨_,rfl⟩
 have hs0:=aO hW0
 have ak:=(hS0 W0).2 hs0
 have hne:Nonempty (aj S0):=⟨⟨_,ak⟩⟩
 refine aI (fun w'=>∃ x:aj S0,w'=x.w) (by kernel_rfl) ?_
 rw [hW0]
 clear hW0
 refine tW 0 rfl ?_;go_big_quiet_op
 refine tW 1 rfl ?_;go_big_quiet_op
 refine tM 2 rfl (ah ak) ?_;go_big_quiet_op
 refine aK 3 rfl (by kernel_rfl) ?_
 intro K hK
 go_simp
 refine (fH p m.fr _ _ _ W0 (x1 ⟨_,ak⟩)).mono ?_
 rw [hb1]
 rintro e w' ⟨rfl,hw'⟩
 obtain rfl:=hw'.symm
 dsimp only
 refine hK _ _ (fun _ _=>ah ak) ?_
 clear hK K
 refine tW 4 rfl ?_;go_big_quiet_op
 refine tW 5 rfl ?_;go_big_quiet_op
 refine tM 6 rfl (ah ak) ?_;go_big_quiet_op
 refine tW 7 rfl ?_;go_big_quiet_op
 refine tW 8 rfl ?_;go_big_quiet_op
 refine tW 9 rfl ?_;go_big_quiet_op
 refine tW 10 rfl ?_;go_big_quiet_op
 refine tM 11 rfl (ah ak) ?_;go_big_quiet_op
 refine tW 12 rfl ?_;go_big_quiet_op
 refine tW 13 rfl ?_;go_big_quiet_op
 refine tW 14 rfl ?_;go_big_quiet_op
 refine tW 15 rfl ?_;go_big_quiet_op
 refine tM 16 rfl (ah ak) ?_;go_big_quiet_op
 refine tM 17 rfl (ah ak) ?_;go_big_quiet_op
 refine tW 18 rfl ?_;go_big_quiet_op
 refine tW 19 rfl ?_;go_big_quiet_op
 refine aK 20 rfl (by kernel_rfl) ?_
 intro K hK
 go_simp
 refine (eG 4 _).mono ?_
 rintro e w' ⟨rfl,hw'⟩
 obtain rfl:=hw'.symm
 dsimp only
 exact ⟨rfl,rfl,uY _ (by first | assumption | exact hs0 | exact hs1 | exact hs2)⟩
theorem Pe (lo p:Nat) (m:Mg) (d:Wd) (L:Lay) (w:World) (k:Int) (hB:aY lo w p d L k) (hb1:(decide (0<=m.fr) && decide (m.fr < (d.nodes.length:Int)))=true) (hb2:decide (0<=m.gr)=true) (hb3:decide (m.gr < (d.groups.length:Int))=true) (hb4:hasB d.groups m.gr m.fr=false) :
  Calls prog 142 #[.pointer (some ⟨p,0,none⟩),.agg #[.int .i64 m.fr,.int .i64 m.gr,.int .i64 m.st,.bool m.nul,.string m.body]] w fun e w'=>e=.panicked (pan 5)/\Since w w':=by
 have hpl:=hB.made.box.lt
 have b0:=hB.made.box.c0
 have hG:Ints w (L (0,0,0)).a d.groups.length d.groups:=hB.made.own.wat.g
 obtain ⟨w1,hw1⟩:∃ y,w.alloc (.cells #[.int .i64 m.fr,.int .i64 m.gr,.int .i64 m.st,.bool m.nul,.string m.body] 42)=y:=⟨_,rfl⟩
 have hS1:=ay hw1
 have hMb:aZ w1 w.heap.size 0 m:=by rw [<-hw1];constructor <;> simp [go_sem]
 have hl1:w.heap.size < w1.heap.size:=by rw [<-hw1];simp
 obtain ⟨S0,hS0⟩:∃ S0:World->Prop,∀ w',S0 w'↔Since w1 w':=⟨_,fun _=>Iff.rfl⟩
 have bS:=aH w
 have x0:∀ y:aj S0,y.w.cell? ⟨p,0,none⟩=some (.slice (L (0,0,0)).a d.groups.length (L (0,0,0)).cap):=fun y=>((hS1.trans ((hS0 _).1 y.h)).cellAt hpl _).trans b0
 have m0:∀ y:aj S0,y.w.cell? ⟨w.heap.size,0,none⟩=some (.int .i64 m.fr):=fun y=>(((hS0 _).1 y.h).cellAt hl1 _).trans hMb.c0
 have m1:∀ y:aj S0,y.w.cell? ⟨w.heap.size,1,none⟩=some (.int .i64 m.gr):=fun y=>(((hS0 _).1 y.h).cellAt hl1 _).trans hMb.c1
 have m2:∀ y:aj S0,y.w.cell? ⟨w.heap.size,2,none⟩=some (.int .i64 m.st):=fun y=>(((hS0 _).1 y.h).cellAt hl1 _).trans hMb.c2
 have m3:∀ y:aj S0,y.w.cell? ⟨w.heap.size,3,none⟩=some (.bool m.nul):=fun y=>(((hS0 _).1 y.h).cellAt hl1 _).trans hMb.c3
 have m4:∀ y:aj S0,y.w.cell? ⟨w.heap.size,4,none⟩=some (.string m.body):=fun y=>(((hS0 _).1 y.h).cellAt hl1 _).trans hMb.c4
 have uY:∀ y,Since w1 y->Since w y:=fun y hy=>hS1.trans hy
 have b1:=hB.made.box.c1
 have x1:∀ y:aj S0,y.w.cell? ⟨p,1,none⟩=some (.slice (L (1,0,0)).a d.nodes.length (L (1,0,0)).cap):=fun y=>((hS1.trans ((hS0 _).1 y.h)).cellAt hpl _).trans b1
 clear hMb
 go_enter func142,ntmps142
 go_wp2_with fail
 obtain ⟨W0,hW0⟩:∃ y,w1.drew=y:=⟨_,rfl⟩
 have hs0:=aO hW0
 have ak:=(hS0 W0).2 hs0
 have hne:Nonempty (aj S0):=⟨⟨_,ak⟩⟩
 refine aI (fun w'=>∃ x:aj S0,w'=x.w) (by kernel_rfl) ?_
 rw [hW0]
 clear hW0
 refine tW 0 rfl ?_;go_big_quiet_op
 refine tW 1 rfl ?_;go_big_quiet_op
 refine tM 2 rfl (ah ak) ?_;go_big_quiet_op
 refine aK 3 rfl (by kernel_rfl) ?_
 intro K hK
 go_simp
 refine (fH p m.fr _ _ _ W0 (x1 ⟨_,ak⟩)).mono ?_
 rw [hb1]
 rintro e w' ⟨rfl,hw'⟩
 obtain rfl:=hw'.symm
 dsimp only
 refine hK _ _ (fun _ _=>ah ak) ?_
 clear hK K
 refine tW 4 rfl ?_;go_big_quiet_op
 refine tW 5 rfl ?_;go_big_quiet_op
 refine tM 6 rfl (ah ak) ?_;go_big_quiet_op
 refine tW 7 rfl ?_;go_big_quiet_op
 refine tW 8 rfl ?_;go_big_quiet_op
 refine tW 9 rfl ?_;go_big_quiet_op
 refine tW 10 rfl ?_;go_big_quiet_op
 refine tM 11 rfl (ah ak) ?_;go_big_quiet_op
 refine tW 12 rfl ?_;go_big_quiet_op
 refine tW 13 rfl ?_;go_big_quiet_op
 refine tW 14 rfl ?_;go_big_quiet_op
 refine tW 15 rfl ?_;go_big_quiet_op
 refine tM 16 rfl (ah ak) ?_;go_big_quiet_op
 refine tM 17 rfl (ah ak) ?_;go_big_quiet_op
 refine tW 18 rfl ?_;go_big_quiet_op
 refine tW 19 rfl ?_;go_big_quiet_op
 refine aK 20 rfl (by kernel_rfl) ?_
 intro K hK
 go_simp
 refine (bG 4 _).mono ?_
 rintro e w' ⟨rfl,hw'⟩
 obtain rfl:=hw'.symm
 dsimp only
 refine hK _ _ (fun h=>absurd h (by decide +kernel)) ?_
 clear hK K
 refine aW (by kernel_rfl) ?_
 go_wp2_with fail
 obtain ⟨W1,hW0⟩:∃ y,W0.drew=y:=⟨_,rfl⟩
 have hs1:Since w1 W1:=by rw [<-hW0];exact Since.drew hs0
 have ak:=(hS0 W1).2 hs1
 refine aI (fun w'=>∃ x:aj S0,w'=x.w) (by kernel_rfl) ?_
 rw [hW0]
 clear hW0
 refine tW 0 rfl ?_;go_big_quiet_op
 refine tW 1 rfl ?_;go_big_quiet_op
 refine tW 2 rfl ?_;go_big_quiet_op
 refine tW 3 rfl ?_;go_big_quiet_op
 refine tM 4 rfl (ah ak) ?_;go_big_quiet_op
 refine tW 5 rfl ?_;go_big_quiet_op
 refine tM 6 rfl (ah ak) ?_;go_big_quiet_op
 refine tW 7 rfl ?_;go_big_quiet_op
 refine tM 8 rfl (ah ak) ?_;go_big_quiet_op
 refine aK 9 rfl (by kernel_rfl) ?_
 intro K hK
 go_simp
 refine (fJ _ _ _ d.groups _ _ W1 (hG.since (hS1.trans hs1))).mono ?_
 rw [hb4]
 rintro e w' ⟨rfl,hw'⟩
 obtain rfl:=hw'.symm
 dsimp only
 refine hK _ _ (fun h=>absurd h (by decide +kernel)) ?_
 clear hK K
 refine aK 10 rfl (by kernel_rfl) ?_
 intro K hK
 go_simp
 refine (eG 5 _).mono ?_
 rintro e w' ⟨rfl,hw'⟩
 obtain rfl:=hw'.symm
 dsimp only
 exact ⟨rfl,rfl,uY _ (by first | assumption | exact hs0 | exact hs1 | exact hs2)⟩
theorem Pf (lo p:Nat) (m:Mg) (d:Wd) (L:Lay) (w:World) (k:Int) (hB:aY lo w p d L k) (hb1:(decide (0<=m.fr) && decide (m.fr < (d.nodes.length:Int)))=true) (hb2:decide (0<=m.gr)=true) (hb3:decide (m.gr < (d.groups.length:Int))=true) (hb4:hasB d.groups m.gr m.fr=true) (hb5:decide ((m.body.size:Int)<=8)=false) :
  Calls prog 142 #[.pointer (some ⟨p,0,none⟩),.agg #[.int .i64 m.fr,.int .i64 m.gr,.int .i64 m.st,.bool m.nul,.string m.body]] w fun e w'=>e=.panicked (pan 1)/\Since w w':=by
 have hpl:=hB.made.box.lt
 have b0:=hB.made.box.c0
 have hG:Ints w (L (0,0,0)).a d.groups.length d.groups:=hB.made.own.wat.g
 obtain ⟨w1,hw1⟩:∃ y,w.alloc (.cells #[.int .i64 m.fr,.int .i64 m.gr,.int .i64 m.st,.bool m.nul,.string m.body] 42)=y:=⟨_,rfl⟩
 have hS1:=ay hw1
 have hMb:aZ w1 w.heap.size 0 m:=by rw [<-hw1];constructor <;> simp [go_sem]
 have hl1:w.heap.size < w1.heap.size:=by rw [<-hw1];simp
 obtain ⟨S0,hS0⟩:∃ S0:World->Prop,∀ w',S0 w'↔Since w1 w':=⟨_,fun _=>Iff.rfl⟩
 have bS:=aH w
 have x0:∀ y:aj S0,y.w.cell? ⟨p,0,none⟩=some (.slice (L (0,0,0)).a d.groups.length (L (0,0,0)).cap):=fun y=>((hS1.trans ((hS0 _).1 y.h)).cellAt hpl _).trans b0
 have m0:∀ y:aj S0,y.w.cell? ⟨w.heap.size,0,none⟩=some (.int .i64 m.fr):=fun y=>(((hS0 _).1 y.h).cellAt hl1 _).trans hMb.c0
 have m1:∀ y:aj S0,y.w.cell? ⟨w.heap.size,1,none⟩=some (.int .i64 m.gr):=fun y=>(((hS0 _).1 y.h).cellAt hl1 _).trans hMb.c1
 have m2:∀ y:aj S0,y.w.cell? ⟨w.heap.size,2,none⟩=some (.int .i64 m.st):=fun y=>(((hS0 _).1 y.h).cellAt hl1 _).trans hMb.c2
 have m3:∀ y:aj S0,y.w.cell? ⟨w.heap.size,3,none⟩=some (.bool m.nul):=fun y=>(((hS0 _).1 y.h).cellAt hl1 _).trans hMb.c3
 have m4:∀ y:aj S0,y.w.cell? ⟨w.heap.size,4,none⟩=some (.string m.body):=fun y=>(((hS0 _).1 y.h).cellAt hl1 _).trans hMb.c4
 have uY:∀ y,Since w1 y->Since w y:=fun y hy=>hS1.trans hy
 have b1:=hB.made.box.c1
 have x1:∀ y:aj S0,y.w.cell? ⟨p,1,none⟩=some (.slice (L (1,0,0)).a d.nodes.length (L (1,0,0)).cap):=fun y=>((hS1.trans ((hS0 _).1 y.h)).cellAt hpl _).trans b1
 clear hMb
 go_enter func142,ntmps142
 go_wp2_with fail
 obtain ⟨W0,hW0⟩:∃ y,w1.drew=y:=⟨_,rfl⟩
 have hs0:=aO hW0
 have ak:=(hS0 W0).2 hs0
 have hne:Nonempty (aj S0):=⟨⟨_,ak⟩⟩
 refine aI (fun w'=>∃ x:aj S0,w'=x.w) (by kernel_rfl) ?_
 rw [hW0]
 clear hW0
 refine tW 0 rfl ?_;go_big_quiet_op
 refine tW 1 rfl ?_;go_big_quiet_op
 refine tM 2 rfl (ah ak) ?_;go_big_quiet_op
 refine aK 3 rfl (by kernel_rfl) ?_
 intro K hK
 go_simp
 refine (fH p m.fr _ _ _ W0 (x1 ⟨_,ak⟩)).mono ?_
 rw [hb1]
 rintro e w' ⟨rfl,hw'⟩
 obtain rfl:=hw'.symm
 dsimp only
 refine hK _ _ (fun _ _=>ah ak) ?_
 clear hK K
 refine tW 4 rfl ?_;go_big_quiet_op
 refine tW 5 rfl ?_;go_big_quiet_op
 refine tM 6 rfl (ah ak) ?_;go_big_quiet_op
 refine tW 7 rfl ?_;go_big_quiet_op
 refine tW 8 rfl ?_;go_big_quiet_op
 refine tW 9 rfl ?_;go_big_quiet_op
 refine tW 10 rfl ?_;go_big_quiet_op
 refine tM 11 rfl (ah ak) ?_;go_big_quiet_op
 refine tW 12 rfl ?_;go_big_quiet_op
 refine tW 13 rfl ?_;go_big_quiet_op
 refine tW 14 rfl ?_;go_big_quiet_op
 refine tW 15 rfl ?_;go_big_quiet_op
 refine tM 16 rfl (ah ak) ?_;go_big_quiet_op
 refine tM 17 rfl (ah ak) ?_;go_big_quiet_op
 refine tW 18 rfl ?_;go_big_quiet_op
 refine tW 19 rfl ?_;go_big_quiet_op
 refine aK 20 rfl (by kernel_rfl) ?_
 intro K hK
 go_simp
 refine (bG 4 _).mono ?_
 rintro e w' ⟨rfl,hw'⟩
 obtain rfl:=hw'.symm
 dsimp only
 refine hK _ _ (fun h=>absurd h (by decide +kernel)) ?_
 clear hK K
 refine aW (by kernel_rfl) ?_
 go_wp2_with fail
 obtain ⟨W1,hW0⟩:∃ y,W0.drew=y:=⟨_,rfl⟩
 have hs1:Since w1 W1:=by rw [<-hW0];exact Since.drew hs0
 have ak:=(hS0 W1).2 hs1
 refine aI (fun w'=>∃ x:aj S0,w'=x.w) (by kernel_rfl) ?_
 rw [hW0]
 clear hW0
 refine tW 0 rfl ?_;go_big_quiet_op
 refine tW 1 rfl ?_;go_big_quiet_op
 refine tW 2 rfl ?_;go_big_quiet_op
 refine tW 3 rfl ?_;go_big_quiet_op
 refine tM 4 rfl (ah ak) ?_;go_big_quiet_op
 refine tW 5 rfl ?_;go_big_quiet_op
 refine tM 6 rfl (ah ak) ?_;go_big_quiet_op
 refine tW 7 rfl ?_;go_big_quiet_op
 refine tM 8 rfl (ah ak) ?_;go_big_quiet_op
 refine aK 9 rfl (by kernel_rfl) ?_
 intro K hK
 go_simp
 refine (fJ _ _ _ d.groups _ _ W1 (hG.since (hS1.trans hs1))).mono ?_
 rw [hb4]
 rintro e w' ⟨rfl,hw'⟩
 obtain rfl:=hw'.symm
 dsimp only
 refine hK _ _ (fun h=>absurd h (by decide +kernel)) ?_
 clear hK K
 refine aK 10 rfl (by kernel_rfl) ?_
 intro K hK
 go_simp
 refine (bG 5 _).mono ?_
 rintro e w' ⟨rfl,hw'⟩
 obtain rfl:=hw'.symm
 dsimp only
 refine hK _ _ (fun h=>absurd h (by decide +kernel)) ?_
 clear hK K
 refine aW (by kernel_rfl) ?_
 have mb:W1.cell? ⟨w.heap.size,4,none⟩=some (.string m.body):=m4 ⟨_,ak⟩
 go_wp2_with (go_at_call 88;refine (eG 1 _).mono ?_;rintro e w' ⟨rfl,hw'⟩;obtain rfl:=hw'.symm)
 exact ⟨rfl,rfl,uY _ hs1⟩
theorem Pg (lo p:Nat) (n:Nat) (gr st:Int) (nul:Bool) (body:ByteArray) (x:Nd) (d:Wd) (L:Lay) (w:World) (k:Int) (hB:aY lo w p d L k) (hx:d.nodes[n]? = some x) (hb1:(decide (0<=(n:Int)) && decide ((n:Int) < (d.nodes.length:Int)))=true) (hb2:decide (0<=gr)=true) (hb3:decide (gr < (d.groups.length:Int))=true) (hb4:hasB d.groups gr (n:Int)=true) (hb5:decide ((body.size:Int)<=8)=true) (hb6:decide (x.clock < 1048576)=false) :
  Calls prog 142 #[.pointer (some ⟨p,0,none⟩),.agg #[.int .i64 (n:Int),.int .i64 gr,.int .i64 st,.bool nul,.string body]] w fun e w'=>e=.panicked (pan 3)/\Since w w':=by
 have hpl:=hB.made.box.lt
 have b0:=hB.made.box.c0
 have hG:Ints w (L (0,0,0)).a d.groups.length d.groups:=hB.made.own.wat.g
 obtain ⟨w1,hw1⟩:∃ y,w.alloc (.cells #[.int .i64 (n:Int),.int .i64 gr,.int .i64 st,.bool nul,.string body] 42)=y:=⟨_,rfl⟩
 have hS1:=ay hw1
 have hMb:aZ w1 w.heap.size 0 ⟨(n:Int),gr,st,nul,body⟩:=by rw [<-hw1];constructor <;> simp [go_sem]
 have hl1:w.heap.size < w1.heap.size:=by rw [<-hw1];simp
 obtain ⟨S0,hS0⟩:∃ S0:World->Prop,∀ w',S0 w'↔Since w1 w':=⟨_,fun _=>Iff.rfl⟩
 have bS:=aH w
 have x0:∀ y:aj S0,y.w.cell? ⟨p,0,none⟩=some (.slice (L (0,0,0)).a d.groups.length (L (0,0,0)).cap):=fun y=>((hS1.trans ((hS0 _).1 y.h)).cellAt hpl _).trans b0
 have m0:∀ y:aj S0,y.w.cell? ⟨w.heap.size,0,none⟩=some (.int .i64 (n:Int)):=fun y=>(((hS0 _).1 y.h).cellAt hl1 _).trans hMb.c0
 have m1:∀ y:aj S0,y.w.cell? ⟨w.heap.size,1,none⟩=some (.int .i64 gr):=fun y=>(((hS0 _).1 y.h).cellAt hl1 _).trans hMb.c1
 have m2:∀ y:aj S0,y.w.cell? ⟨w.heap.size,2,none⟩=some (.int .i64 st):=fun y=>(((hS0 _).1 y.h).cellAt hl1 _).trans hMb.c2
 have m3:∀ y:aj S0,y.w.cell? ⟨w.heap.size,3,none⟩=some (.bool nul):=fun y=>(((hS0 _).1 y.h).cellAt hl1 _).trans hMb.c3
 have m4:∀ y:aj S0,y.w.cell? ⟨w.heap.size,4,none⟩=some (.string body):=fun y=>(((hS0 _).1 y.h).cellAt hl1 _).trans hMb.c4
 have uY:∀ y,Since w1 y->Since w y:=fun y hy=>hS1.trans hy
 have hn:=bU hx
 obtain ⟨bn,on,cn,hL1,_,hbn,_,_⟩:=hB.made.own.lies (ix:=(1,0,0)) ⟨rfl,rfl⟩ (by show 0 < d.nodes.length;omega)
 obtain ⟨k0,_,_,_,_⟩:=hB.made.own.cells hx hL1
 have b1:=hB.made.box.c1
 rw [hL1] at b1
 dsimp only at b1
 clear hL1
 have x1:∀ y:aj S0,y.w.cell? ⟨p,1,none⟩=some (.slice (some ⟨bn,on,none⟩) d.nodes.length cn):=fun y=>((hS1.trans ((hS0 _).1 y.h)).cellAt hpl _).trans b1
 have x2:∀ y:aj S0,y.w.cell? ⟨bn,on+n*4,none⟩=some (.int .i64 x.clock):=fun y=>((hS1.trans ((hS0 _).1 y.h)).cellAt hbn _).trans k0
 have n1:(n:Int) < (d.nodes.length:Int):=by omega
 clear hMb
 go_enter func142,ntmps142
 go_wp2_with fail
 obtain ⟨W0,hW0⟩:∃ y,w1.drew=y:=⟨_,rfl⟩
 have hs0:=aO hW0
 have ak:=(hS0 W0).2 hs0
 have hne:Nonempty (aj S0):=⟨⟨_,ak⟩⟩
 refine aI (fun w'=>∃ x:aj S0,w'=x.w) (by kernel_rfl) ?_
 rw [hW0]
 clear hW0
 refine tW 0 rfl ?_;go_big_quiet_op
 refine tW 1 rfl ?_;go_big_quiet_op
 refine tM 2 rfl (ah ak) ?_;go_big_quiet_op
 refine aK 3 rfl (by kernel_rfl) ?_
 intro K hK
 go_simp
 refine (fH p (n:Int) _ _ _ W0 (x1 ⟨_,ak⟩)).mono ?_
 rw [hb1]
 rintro e w' ⟨rfl,hw'⟩
 obtain rfl:=hw'.symm
 dsimp only
 refine hK _ _ (fun _ _=>ah ak) ?_
 clear hK K
 refine tW 4 rfl ?_;go_big_quiet_op
 refine tW 5 rfl ?_;go_big_quiet_op
 refine tM 6 rfl (ah ak) ?_;go_big_quiet_op
 refine tW 7 rfl ?_;go_big_quiet_op
 refine tW 8 rfl ?_;go_big_quiet_op
 refine tW 9 rfl ?_;go_big_quiet_op
 refine tW 10 rfl ?_;go_big_quiet_op
 refine tM 11 rfl (ah ak) ?_;go_big_quiet_op
 refine tW 12 rfl ?_;go_big_quiet_op
 refine tW 13 rfl ?_;go_big_quiet_op
 refine tW 14 rfl ?_;go_big_quiet_op
 refine tW 15 rfl ?_;go_big_quiet_op
 refine tM 16 rfl (ah ak) ?_;go_big_quiet_op
 refine tM 17 rfl (ah ak) ?_;go_big_quiet_op
 refine tW 18 rfl ?_;go_big_quiet_op
 refine tW 19 rfl ?_;go_big_quiet_op
 refine aK 20 rfl (by kernel_rfl) ?_
 intro K hK
 go_simp
 refine (bG 4 _).mono ?_
 rintro e w' ⟨rfl,hw'⟩
 obtain rfl:=hw'.symm
 dsimp only
 refine hK _ _ (fun h=>absurd h (by decide +kernel)) ?_
 clear hK K
 refine aW (by kernel_rfl) ?_
 go_wp2_with fail
 obtain ⟨W1,hW0⟩:∃ y,W0.drew=y:=⟨_,rfl⟩
 have hs1:Since w1 W1:=by rw [<-hW0];exact Since.drew hs0
 have ak:=(hS0 W1).2 hs1
 refine aI (fun w'=>∃ x:aj S0,w'=x.w) (by kernel_rfl) ?_
 rw [hW0]
 clear hW0
 refine tW 0 rfl ?_;go_big_quiet_op
 refine tW 1 rfl ?_;go_big_quiet_op
 refine tW 2 rfl ?_;go_big_quiet_op
 refine tW 3 rfl ?_;go_big_quiet_op
 refine tM 4 rfl (ah ak) ?_;go_big_quiet_op
 refine tW 5 rfl ?_;go_big_quiet_op
 refine tM 6 rfl (ah ak) ?_;go_big_quiet_op
 refine tW 7 rfl ?_;go_big_quiet_op
 refine tM 8 rfl (ah ak) ?_;go_big_quiet_op
 refine aK 9 rfl (by kernel_rfl) ?_
 intro K hK
 go_simp
 refine (fJ _ _ _ d.groups _ _ W1 (hG.since (hS1.trans hs1))).mono ?_
 rw [hb4]
 rintro e w' ⟨rfl,hw'⟩
 obtain rfl:=hw'.symm
 dsimp only
 refine hK _ _ (fun h=>absurd h (by decide +kernel)) ?_
 clear hK K
 refine aK 10 rfl (by kernel_rfl) ?_
 intro K hK
 go_simp
 refine (bG 5 _).mono ?_
 rintro e w' ⟨rfl,hw'⟩
 obtain rfl:=hw'.symm
 dsimp only
 refine hK _ _ (fun h=>absurd h (by decide +kernel)) ?_
 clear hK K
 refine aW (by kernel_rfl) ?_
 have mb:W1.cell? ⟨w.heap.size,4,none⟩=some (.string body):=m4 ⟨_,ak⟩
 go_wp2_with (go_at_call 88;refine (bG 1 _).mono ?_;rintro e w' ⟨rfl,hw'⟩;obtain rfl:=hw'.symm)
 obtain ⟨W2,hW0⟩:∃ y,W1.drew=y:=⟨_,rfl⟩
 have hs2:Since w1 W2:=by rw [<-hW0];exact Since.drew hs1
 have ak:=(hS0 W2).2 hs2
 refine aI (fun w'=>∃ x:aj S0,w'=x.w) (by kernel_rfl) ?_
 rw [hW0]
 clear hW0
 refine tW 0 rfl ?_;go_big_quiet_op
 refine tW 1 rfl ?_;go_big_quiet_op
 refine tW 2 rfl ?_;go_big_quiet_op
 refine tW 3 rfl ?_;go_big_quiet_op
 refine tM 4 rfl (ah ak) ?_;go_big_quiet_op
 refine tW 5 rfl ?_;go_big_quiet_op
 refine tM 6 rfl (ah ak) ?_;go_big_quiet_op
 refine tW 7 rfl ?_;go_big_quiet_op
 refine tW 8 rfl ?_;go_big_quiet_op
 refine tM 9 rfl (ah ak) ?_;go_big_quiet_op
 refine tW 10 rfl ?_;go_big_quiet_op
 refine aK 11 rfl (by kernel_rfl) ?_
 intro K hK
 go_simp
 refine (eG 3 _).mono ?_
 rintro e w' ⟨rfl,hw'⟩
 obtain rfl:=hw'.symm
 dsimp only
 exact ⟨rfl,rfl,uY _ (by first | assumption | exact hs0 | exact hs1 | exact hs2)⟩
theorem Ph (lo p:Nat) (n:Nat) (gr st:Int) (nul:Bool) (body:ByteArray) (x:Nd) (d:Wd) (L:Lay) (w:World) (k:Int) (hB:aY lo w p d L k) (hx:d.nodes[n]? = some x) (hb1:(decide (0<=(n:Int)) && decide ((n:Int) < (d.nodes.length:Int)))=true) (hb2:decide (0<=gr)=true) (hb3:decide (gr < (d.groups.length:Int))=true) (hb4:hasB d.groups gr (n:Int)=true) (hb5:decide ((body.size:Int)<=8)=true) (hb6:decide (x.clock < 1048576)=true) :
  Calls prog 142 #[.pointer (some ⟨p,0,none⟩),.agg #[.int .i64 (n:Int),.int .i64 gr,.int .i64 st,.bool nul,.string body]] w fun e w'=>e=.returned (.tuple #[])/\Since w w':=by
 have hpl:=hB.made.box.lt
 have b0:=hB.made.box.c0
 have hG:Ints w (L (0,0,0)).a d.groups.length d.groups:=hB.made.own.wat.g
 obtain ⟨w1,hw1⟩:∃ y,w.alloc (.cells #[.int .i64 (n:Int),.int .i64 gr,.int .i64 st,.bool nul,.string body] 42)=y:=⟨_,rfl⟩
 have hS1:=ay hw1
 have hMb:aZ w1 w.heap.size 0 ⟨(n:Int),gr,st,nul,body⟩:=by rw [<-hw1];constructor <;> simp [go_sem]
 have hl1:w.heap.size < w1.heap.size:=by rw [<-hw1];simp
 obtain ⟨S0,hS0⟩:∃ S0:World->Prop,∀ w',S0 w'↔Since w1 w':=⟨_,fun _=>Iff.rfl⟩
 have bS:=aH w
 have x0:∀ y:aj S0,y.w.cell? ⟨p,0,none⟩=some (.slice (L (0,0,0)).a d.groups.length (L (0,0,0)).cap):=fun y=>((hS1.trans ((hS0 _).1 y.h)).cellAt hpl _).trans b0
 have m0:∀ y:aj S0,y.w.cell? ⟨w.heap.size,0,none⟩=some (.int .i64 (n:Int)):=fun y=>(((hS0 _).1 y.h).cellAt hl1 _).trans hMb.c0
 have m1:∀ y:aj S0,y.w.cell? ⟨w.heap.size,1,none⟩=some (.int .i64 gr):=fun y=>(((hS0 _).1 y.h).cellAt hl1 _).trans hMb.c1
 have m2:∀ y:aj S0,y.w.cell? ⟨w.heap.size,2,none⟩=some (.int .i64 st):=fun y=>(((hS0 _).1 y.h).cellAt hl1 _).trans hMb.c2
 have m3:∀ y:aj S0,y.w.cell? ⟨w.heap.size,3,none⟩=some (.bool nul):=fun y=>(((hS0 _).1 y.h).cellAt hl1 _).trans hMb.c3
 have m4:∀ y:aj S0,y.w.cell? ⟨w.heap.size,4,none⟩=some (.string body):=fun y=>(((hS0 _).1 y.h).cellAt hl1 _).trans hMb.c4
 have uY:∀ y,Since w1 y->Since w y:=fun y hy=>hS1.trans hy
 have hn:=bU hx
 obtain ⟨bn,on,cn,hL1,_,hbn,_,_⟩:=hB.made.own.lies (ix:=(1,0,0)) ⟨rfl,rfl⟩ (by show 0 < d.nodes.length;omega)
 obtain ⟨k0,_,_,_,_⟩:=hB.made.own.cells hx hL1
 have b1:=hB.made.box.c1
 rw [hL1] at b1
 dsimp only at b1
 clear hL1
 have x1:∀ y:aj S0,y.w.cell? ⟨p,1,none⟩=some (.slice (some ⟨bn,on,none⟩) d.nodes.length cn):=fun y=>((hS1.trans ((hS0 _).1 y.h)).cellAt hpl _).trans b1
 have x2:∀ y:aj S0,y.w.cell? ⟨bn,on+n*4,none⟩=some (.int .i64 x.clock):=fun y=>((hS1.trans ((hS0 _).1 y.h)).cellAt hbn _).trans k0
 have n1:(n:Int) < (d.nodes.length:Int):=by omega
 clear hMb
 go_enter func142,ntmps142
 go_wp2_with fail
 obtain ⟨W0,hW0⟩:∃ y,w1.drew=y:=⟨_,rfl⟩
 have hs0:=aO hW0
 have ak:=(hS0 W0).2 hs0
 have hne:Nonempty (aj S0):=⟨⟨_,ak⟩⟩
 refine aI (fun w'=>∃ x:aj S0,w'=x.w) (by kernel_rfl) ?_
 rw [hW0]
 clear hW0
 refine tW 0 rfl ?_;go_big_quiet_op
 refine tW 1 rfl ?_;go_big_quiet_op
 refine tM 2 rfl (ah ak) ?_;go_big_quiet_op
 refine aK 3 rfl (by kernel_rfl) ?_
 intro K hK
 go_simp
 refine (fH p (n:Int) _ _ _ W0 (x1 ⟨_,ak⟩)).mono ?_
 rw [hb1]
 rintro e w' ⟨rfl,hw'⟩
 obtain rfl:=hw'.symm
 dsimp only
 refine hK _ _ (fun _ _=>ah ak) ?_
 clear hK K
 refine tW 4 rfl ?_;go_big_quiet_op
 refine tW 5 rfl ?_;go_big_quiet_op
 refine tM 6 rfl (ah ak) ?_;go_big_quiet_op
 refine tW 7 rfl ?_;go_big_quiet_op
 refine tW 8 rfl ?_;go_big_quiet_op
 refine tW 9 rfl ?_;go_big_quiet_op
 refine tW 10 rfl ?_;go_big_quiet_op
 refine tM 11 rfl (ah ak) ?_;go_big_quiet_op
 refine tW 12 rfl ?_;go_big_quiet_op
 refine tW 13 rfl ?_;go_big_quiet_op
 refine tW 14 rfl ?_;go_big_quiet_op
 refine tW 15 rfl ?_;go_big_quiet_op
 refine tM 16 rfl (ah ak) ?_;go_big_quiet_op
 refine tM 17 rfl (ah ak) ?_;go_big_quiet_op
 refine tW 18 rfl ?_;go_big_quiet_op
 refine tW 19 rfl ?_;go_big_quiet_op
 refine aK 20 rfl (by kernel_rfl) ?_
 intro K hK
 go_simp
 refine (bG 4 _).mono ?_
 rintro e w' ⟨rfl,hw'⟩
 obtain rfl:=hw'.symm
 dsimp only
 refine hK _ _ (fun h=>absurd h (by decide +kernel)) ?_
 clear hK K
 refine aW (by kernel_rfl) ?_
 go_wp2_with fail
 obtain ⟨W1,hW0⟩:∃ y,W0.drew=y:=⟨_,rfl⟩
 have hs1:Since w1 W1:=by rw [<-hW0];exact Since.drew hs0
 have ak:=(hS0 W1).2 hs1
 refine aI (fun w'=>∃ x:aj S0,w'=x.w) (by kernel_rfl) ?_
 rw [hW0]
 clear hW0
 refine tW 0 rfl ?_;go_big_quiet_op
 refine tW 1 rfl ?_;go_big_quiet_op
 refine tW 2 rfl ?_;go_big_quiet_op
 refine tW 3 rfl ?_;go_big_quiet_op
 refine tM 4 rfl (ah ak) ?_;go_big_quiet_op
 refine tW 5 rfl ?_;go_big_quiet_op
 refine tM 6 rfl (ah ak) ?_;go_big_quiet_op
 refine tW 7 rfl ?_;go_big_quiet_op
 refine tM 8 rfl (ah ak) ?_;go_big_quiet_op
 refine aK 9 rfl (by kernel_rfl) ?_
 intro K hK
 go_simp
 refine (fJ _ _ _ d.groups _ _ W1 (hG.since (hS1.trans hs1))).mono ?_
 rw [hb4]
 rintro e w' ⟨rfl,hw'⟩
 obtain rfl:=hw'.symm
 dsimp only
 refine hK _ _ (fun h=>absurd h (by decide +kernel)) ?_
 clear hK K
 refine aK 10 rfl (by kernel_rfl) ?_
 intro K hK
 go_simp
 refine (bG 5 _).mono ?_
 rintro e w' ⟨rfl,hw'⟩
 obtain rfl:=hw'.symm
 dsimp only
 refine hK _ _ (fun h=>absurd h (by decide +kernel)) ?_
 clear hK K
 refine aW (by kernel_rfl) ?_
 have mb:W1.cell? ⟨w.heap.size,4,none⟩=some (.string body):=m4 ⟨_,ak⟩
 go_wp2_with (go_at_call 88;refine (bG 1 _).mono ?_;rintro e w' ⟨rfl,hw'⟩;obtain rfl:=hw'.symm)
 obtain ⟨W2,hW0⟩:∃ y,W1.drew=y:=⟨_,rfl⟩
 have hs2:Since w1 W2:=by rw [<-hW0];exact Since.drew hs1
 have ak:=(hS0 W2).2 hs2
 refine aI (fun w'=>∃ x:aj S0,w'=x.w) (by kernel_rfl) ?_
 rw [hW0]
 clear hW0
 refine tW 0 rfl ?_;go_big_quiet_op
 refine tW 1 rfl ?_;go_big_quiet_op
 refine tW 2 rfl ?_;go_big_quiet_op
 refine tW 3 rfl ?_;go_big_quiet_op
 refine tM 4 rfl (ah ak) ?_;go_big_quiet_op
 refine tW 5 rfl ?_;go_big_quiet_op
 refine tM 6 rfl (ah ak) ?_;go_big_quiet_op
 refine tW 7 rfl ?_;go_big_quiet_op
 refine tW 8 rfl ?_;go_big_quiet_op
 refine tM 9 rfl (ah ak) ?_;go_big_quiet_op
 refine tW 10 rfl ?_;go_big_quiet_op
 refine aK 11 rfl (by kernel_rfl) ?_
 intro K hK
 go_simp
 refine (bG 3 _).mono ?_
 rintro e w' ⟨rfl,hw'⟩
 obtain rfl:=hw'.symm
 dsimp only
 refine hK _ _ (fun h=>absurd h (by decide +kernel)) ?_
 clear hK K
 refine aW (by kernel_rfl) ?_
 clear x0 x1 x2 m0 m1 m2 m3 m4 hne bS
 go_end0
 exact ⟨rfl,uY _ hs2⟩
theorem nU (lo p:Nat) (m:Mg) (d:Wd) (L:Lay) (w:World) (k:Int) (hB:aY lo w p d L k) (R:Right d) :
  Calls prog 142 #[.pointer (some ⟨p,0,none⟩),.agg #[.int .i64 m.fr,.int .i64 m.gr,.int .i64 m.st,.bool m.nul,.string m.body]] w fun e w' =>
   Hid ((bQ d m.fr m.gr m.body.size=0->e=.returned (.tuple #[]))/\(¬ bQ d m.fr m.gr m.body.size=0->e=.panicked (pan (bQ d m.fr m.gr m.body.size)))/\Since w w'):=by
 cases b1:(decide (0<=m.fr) && decide (m.fr < (d.nodes.length:Int)))
 ·have e:bQ d m.fr m.gr m.body.size=4:=by
   unfold bQ
   rw [if_pos (.inl (by cases h:inB m.fr 0 ((d.nodes.length:Int) - 1);rfl;(have:0<=m.fr/\m.fr<=(d.nodes.length:Int) - 1:=by simpa [inB] using h);simp at b1;omega))]
  exact (O9 lo p m d L w k hB b1).mono fun _ _ ⟨he,hS⟩=>⟨fun h=>(by rw [e] at h;cases h),fun _=>by rw [e];exact he,hS⟩
 ·have hn1:0<=m.fr/\m.fr < (d.nodes.length:Int):=by simpa using b1
  cases b2:decide (0<=m.gr)
  ·have e:bQ d m.fr m.gr m.body.size=4:=by
    unfold bQ
    rw [if_pos (.inr (by cases h:inB m.gr 0 ((d.groups.length:Int) - 1);rfl;(have:0<=m.gr/\m.gr<=(d.groups.length:Int) - 1:=by simpa [inB] using h);simp at b2;omega))]
   exact (Pb lo p m d L w k hB b1 b2).mono fun _ _ ⟨he,hS⟩=>⟨fun h=>(by rw [e] at h;cases h),fun _=>by rw [e];exact he,hS⟩
  ·cases b3:decide (m.gr < (d.groups.length:Int))
   ·have e:bQ d m.fr m.gr m.body.size=4:=by
     unfold bQ
     rw [if_pos (.inr (by cases h:inB m.gr 0 ((d.groups.length:Int) - 1);rfl;(have:0<=m.gr/\m.gr<=(d.groups.length:Int) - 1:=by simpa [inB] using h);simp at b3;omega))]
    exact (Pd lo p m d L w k hB b1 b2 b3).mono fun _ _ ⟨he,hS⟩=>⟨fun h=>(by rw [e] at h;cases h),fun _=>by rw [e];exact he,hS⟩
   ·have h0:¬ (inB m.fr 0 ((d.nodes.length:Int) - 1)=false\/inB m.gr 0 ((d.groups.length:Int) - 1)=false):=by
     simp at b2 b3
     simp [inB];omega
    cases b4:hasB d.groups m.gr m.fr
    ·have e:bQ d m.fr m.gr m.body.size=5:=by unfold bQ;rw [if_neg h0,if_pos b4]
     exact (Pe lo p m d L w k hB b1 b2 b3 b4).mono fun _ _ ⟨he,hS⟩=>⟨fun h=>(by rw [e] at h;cases h),fun _=>by rw [e];exact he,hS⟩
    ·cases b5:decide ((m.body.size:Int)<=8)
     ·have e:bQ d m.fr m.gr m.body.size=1:=by unfold bQ;rw [if_neg h0,if_neg (by rw [b4];simp),if_pos (by simp at b5;omega)]
      exact (Pf lo p m d L w k hB b1 b2 b3 b4 b5).mono fun _ _ ⟨he,hS⟩=>⟨fun h=>(by rw [e] at h;cases h),fun _=>by rw [e];exact he,hS⟩
     ·obtain ⟨n,hn⟩:∃ n:Nat,m.fr=(n:Int):=⟨m.fr.toNat,by omega⟩
      obtain ⟨fr,gr,st,nul,body⟩:=m
      dsimp only at *
      subst hn
      obtain ⟨x,hx⟩:=jL (d:=d) (n:=n) (by omega)
      have hck:aF d n=x.clock:=(dD hx).1
      have hcl:=R.clk n
      rw [hck] at hcl
      cases b6:decide (x.clock < 1048576)
      ·have e:bQ d (n:Int) gr body.size=3:=by unfold bQ;rw [if_neg h0,if_neg (by rw [b4];simp),if_neg (by simp at b5;omega),if_pos (by rw [Int.toNat_natCast,hck];simp at b6;omega)]
       exact (Pg lo p n gr st nul body x d L w k hB hx b1 b2 b3 b4 b5 b6).mono fun _ _ ⟨he,hS⟩=>⟨fun h=>(by rw [e] at h;cases h),fun _=>by rw [e];exact he,hS⟩
      ·have e:bQ d (n:Int) gr body.size=0:=by unfold bQ;rw [if_neg h0,if_neg (by rw [b4];simp),if_neg (by simp at b5;omega),if_neg (by rw [Int.toNat_natCast,hck];simp at b6;omega)]
       exact (Ph lo p n gr st nul body x d L w k hB hx b1 b2 b3 b4 b5 b6).mono fun _ _ ⟨he,hS⟩=>⟨fun _=>he,fun h=>absurd e h,hS⟩
theorem Dq (w0:World) (a:Option Addr) (len cap:Nat) (xs:List Int) (g n:Int) (v:Bool) (hv:hasB xs g n=v) (hI:Ints w0 a len xs) (w:World) (h:Since w0 w) :
  Calls prog 50 #[.slice a len cap,.int .i64 g,.int .i64 n] w fun e w'=>e=.returned (.bool v)/\Since w0 w' :=
 (fJ a len cap xs g n w (hI.since h)).mono fun _ _ ⟨he,hw⟩=>⟨by rw [<-hv];exact he,by rw [hw];exact h⟩
theorem nC (lo p n:Nat) (gr st:Int) (nul:Bool) (body:ByteArray) (d:Wd) (L:Lay) (w:World) (c:Int) (hB:aY lo w p d L c) (Pj:dU d) (hn:n < d.nodes.length) (hN:d.nodes.length<=1000) (Pk:∀ f t,(au d f t).length<=40) (hlo:lo<=w.heap.size) (Post:Ending->World->Prop)
  (nA:∀ er,fE ⟨(n:Int),gr,st,nul,body⟩ n d d.nodes.length=.error er->∀ w',Fr (Up lo fun _=>False) w w'->Post (.panicked (pan er)) w')
  (hOk:∀ d' L' w',fE ⟨(n:Int),gr,st,nul,body⟩ n d d.nodes.length=.ok d'->aY lo w' p d' L' c->Fr (Up lo fun _=>False) w w'->Post (.returned (.tuple #[])) w') :
  Calls prog 143 #[.pointer (some ⟨p,0,none⟩),.agg #[.int .i64 n,.int .i64 gr,.int .i64 st,.bool nul,.string body]] w fun e w'=>Hid (Post e w'):=by
 have qo:=(show Hid _ from nA)
 have HOK:=(show Hid _ from hOk)
 have QT:Hid (∀ f t,(au d f t).length<=40):=Pk
 have HR0:Hid (dU d):=Pj
 clear nA hOk Pk Pj
 have b1:=hB.made.box.c1
 obtain ⟨w1,hw1⟩:∃ y,w.alloc (.cells #[.int .i64 n,.int .i64 gr,.int .i64 st,.bool nul,.string body] 42)=y:=⟨_,rfl⟩
 have hS1:=ay hw1
 have hMb:aZ w1 w.heap.size 0 ⟨(n:Int),gr,st,nul,body⟩:=by rw [<-hw1];constructor <;> simp [go_sem]
 have hl1:w.heap.size < w1.heap.size:=by rw [<-hw1];simp
 have hB1:=hB.since hS1
 have b1:=hB1.made.box.c1
 have Pm:¬ fU d L w.heap.size:=fun hb=>by have:=(hB.made.own.blk hb).2;omega
 go_enter func143,ntmps143
 go_wp2_with fail
 clear b1 hw1
 go_loopw [12] (fun i wr=>∃ (k:Nat) (dk:Wd) (Lk:Lay),k<=d.nodes.length/\i=.int .i64 k/\fE ⟨(n:Int),gr,st,nul,body⟩ n d k=.ok dk/\aY lo wr p dk Lk c/\aZ wr w.heap.size 0 ⟨(n:Int),gr,st,nul,body⟩/\¬ fU dk Lk w.heap.size/\w.heap.size < wr.heap.size/\Fr (Up lo fun _=>False) w wr) (fun i _=>d.nodes.length - (intOf i).toNat)
 case atStart=>exact ⟨0,d,L,Nat.zero_le _,rfl,rfl,hB1,hMb,Pm,hl1,hS1.up _ _⟩
 case round =>
  clear hB1 hMb Pm hl1
  obtain ⟨wo,rfl⟩:∃ wo,wo=wr:=⟨_,rfl⟩
  obtain ⟨k,dk,Lk,hk,rfl,jq,hSB,hMk,Hl,hltk,hUp⟩:=hrel
  have HL:Hid (fE ⟨(n:Int),gr,st,nul,body⟩ n d k=.ok dk):=jq
  have HSB:Hid (aY lo wo p dk Lk c):=hSB
  have HST:=(show Hid _ from nu HR0.out hn k dk hk jq)
  have HRK:Hid (dU dk/\dk.nodes.length=d.nodes.length):=⟨HST.out.alike.rows HR0.out,HST.out.alike.n⟩
  have hlow:lo<=wo.heap.size:=zQ5 hlo hUp.size
  clear jq
  by_cases hlt:k < d.nodes.length
  ·have hpl:=hSB.made.box.lt
   have c0:=hSB.made.box.c0
   have hG:Ints wo (Lk (0,0,0)).a dk.groups.length dk.groups:=hSB.made.own.wat.g
   have hne:Nonempty (Later wo):=⟨⟨wo,Since.refl wo⟩⟩
   have o1:∀ y:Later wo,y.w.cell? ⟨w.heap.size,0,none⟩=some (.int .i64 n):=fun y=>(aB hMk hltk y.h).c0
   have o2:∀ y:Later wo,y.w.cell? ⟨w.heap.size,1,none⟩=some (.int .i64 gr):=fun y=>(aB hMk hltk y.h).c1
   have o3:∀ y:Later wo,y.w.cell? ⟨p,0,none⟩=some (.slice (Lk (0,0,0)).a dk.groups.length (Lk (0,0,0)).cap):=fun y=>(y.h.cellAt hpl _).trans c0
   have HLO:Hid (fE ⟨(n:Int),gr,st,nul,body⟩ n d (k+1)=jM ⟨(n:Int),gr,st,nul,body⟩ n dk k):=by unfold Hid;rw [lD,HL.out];rfl
   cases e1:((k:Int) == (n:Int))
   ·have hkn:k≠n:=by intro e;subst e;simp at e1
    cases e2:hasB dk.groups gr k
    ·have HL2:Hid (fE ⟨(n:Int),gr,st,nul,body⟩ n d (k+1)=.ok dk):=by unfold Hid;rw [HLO.out];unfold jM;rw [if_pos (.inr e2)]
     go_wp2_with fail
     refine av (by kernel_rfl) (by kernel_rfl) (Since.refl wo) ?_
     repeat (go_big_quiet_step ((go_at_call 50;exact Later.call (Dq wo _ _ _ dk.groups gr k _ e2 hG))))
     refine wpQuiet_nil ?_
     intro w9 hS9
     clear o1 o2 o3 hne
     go_wp2
     go_roundw
     case rel=>exact ⟨k+1,dk,Lk,by omega,by go_num,HL2.out,HSB.out.since hS9,aB hMk hltk hS9,Hl,zQ4 hltk hS9.size,hUp.aD (hS9.up _ _)⟩
     case measure=>simp [intOf];omega
    ·obtain ⟨bw,ow,cw,br,oR,cr,hHD⟩:=hSB.made.rQ HRK.out.1 (f:=n) (t:=k) (by have:=HRK.out.2;omega) (by have:=HRK.out.2;omega)
     obtain ⟨l,hl⟩:∃ l,au dk n k=l:=⟨_,rfl⟩
     have HW:Hid (au dk n k=l):=hl
     have Nl:Hid (okI dk (8,n,k)):=by
      obtain ⟨row,hr,hrl⟩:=row_of HRK.out.1 (f:=n) (by have:=HRK.out.2;omega)
      exact ⟨by rw [HRK.out.1.1];have:=HRK.out.2;omega,by rw [dF hr];have:=HRK.out.2;omega⟩
     rw [hl] at hHD
     have RI:l.length<=40:=by
      have h1:=HST.out.wire n k
      rw [hl] at h1
      rw [if_neg (fun h=>by have:=h.2.1;omega)] at h1
      rw [h1];exact QT.out n k
     have Ae:Row wo lo 5 (Lk (8,n,k)) (eU dk n k).length (flat (eU dk n k)):=hSB.made.own.row (8,n,k) Nl.out
     have LX:Row wo lo 5 (Lk (8,n,k)) l.length (flat l):=by rw [<-hl];exact Ae
     obtain ⟨sa,sc,hL8⟩:∃ a c,Lk (8,n,k)=⟨a,c⟩:=⟨_,_,rfl⟩
     have HM8:Hid (Lk (8,n,k)=⟨sa,sc⟩):=hL8
     have HHD:Hid (mK wo p dk Lk n k l bw ow cw br oR cr):=hHD
     have uM:=LX
     rw [hL8] at uM
     have hc8:=hHD.cell
     rw [hL8] at hc8
     dsimp only [Sl.v] at hc8
     have o4:∀ y:Later wo,y.w.cell? ⟨p,2,none⟩=some (.slice (some ⟨bw,ow,none⟩) dk.wires.length cw):=fun y=>(y.h.cellAt hHD.lt _).trans hHD.top
     have o5:∀ y:Later wo,y.w.cell? ⟨bw,ow+n,none⟩=some (.slice (some ⟨br,oR,none⟩) dk.nodes.length cr):=fun y=>(y.h.cellAt hHD.ltw _).trans hHD.row
     have o6:∀ y:Later wo,y.w.cell? ⟨br,oR+k,none⟩=some (.slice sa l.length sc):=fun y=>(y.h.cellAt hHD.ltr _).trans hc8
     have n1:(n:Int) < (dk.wires.length:Int):=by have:=HRK.out.1.1;have:=HRK.out.2;omega
     have n2:(k:Int) < (dk.nodes.length:Int):=by have:=HRK.out.2;omega
     have K3:Hid (fE ⟨(n:Int),gr,st,nul,body⟩ n d (k+1)=if l.length=40 then .error 2 else if vE ⟨(n:Int),gr,st,nul,body⟩ l then .error 1 else .ok (aR dk n k (l++[⟨(n:Int),gr,st,nul,body⟩]))):=by
      unfold Hid;rw [HLO.out];unfold jM;rw [if_neg (by rintro (h | h);exact hkn h;rw [e2] at h;cases h),HW.out]
     clear hl hL8 Ae LX hHD hSB HLO
     cases e3:decide ((l.length:Int) < 40)
     ·have HL1:Hid (fE ⟨(n:Int),gr,st,nul,body⟩ n d (k+1)=.error 2):=by unfold Hid;rw [K3.out,if_pos (by simp at e3;omega)]
      go_wp2_with fail
      refine av (by kernel_rfl) (by kernel_rfl) (Since.refl wo) ?_
      repeat (go_big_quiet_step ((go_at_call 50;exact Later.call (Dq wo _ _ _ dk.groups gr k _ e2 hG))))
      refine wpQuiet_nil ?_
      intro w9 hS9
      go_wp2_with fail
      refine av (by kernel_rfl) (by kernel_rfl) hS9 ?_
      repeat (go_big_quiet_step (fail))
      refine wpQuiet_nil ?_
      intro w8 hS8
      clear o1 o2 o3 o4 o5 o6 hne
      go_wp2_with (go_at_call 88;refine (eG 2 _).mono ?_;rintro e w' ⟨rfl,hw'⟩;obtain rfl:=hw'.symm)
      exact ⟨rfl,qo.out 2 (rR _ (k+1) (by omega) HL1.out) _ (hUp.aD (hS8.up _ _))⟩
     ·have h40:¬ l.length=40:=by simp at e3;omega
      by_cases hz:l.length=0
      ·have hz':((l.length:Int) == 0)=true:=by simp [hz]
       have HL2:Hid (fE ⟨(n:Int),gr,st,nul,body⟩ n d (k+1)=.ok (aR dk n k (l++[⟨(n:Int),gr,st,nul,body⟩]))):=by
        have hn0:l=[]:=zQ6 hz
        unfold Hid;rw [K3.out,if_neg h40,if_neg (by rw [hn0];simp [vE])]
       clear hz
       go_wp2_with fail
       refine av (by kernel_rfl) (by kernel_rfl) (Since.refl wo) ?_
       repeat (go_big_quiet_step ((go_at_call 50;exact Later.call (Dq wo _ _ _ dk.groups gr k _ e2 hG))))
       refine wpQuiet_nil ?_
       intro w9 hS9
       go_wp2_with fail
       refine av (by kernel_rfl) (by kernel_rfl) hS9 ?_
       repeat (go_big_quiet_step (fail))
       refine wpQuiet_nil ?_
       intro w8 hS8
       clear o1 o2 o3 o4 o5 o6 hne
       go_wp2_with (go_at_call 88;refine (bG 2 _).mono ?_;rintro e w' ⟨rfl,hw'⟩;obtain rfl:=hw'.symm)
       obtain ⟨V0,hW0⟩:∃ y,w8.drew=y:=⟨_,rfl⟩
       have hs7:=aO hW0
       obtain ⟨S7,hS7⟩:∃ S0:World->Prop,∀ w',S0 w'↔Since wo w':=⟨_,fun _=>Iff.rfl⟩
       have ak:=(hS7 V0).2 (hS8.trans hs7)
       have hne:Nonempty (aj S7):=⟨⟨_,ak⟩⟩
       have bS:=aH w
       refine aI (fun w'=>∃ x:aj S7,w'=x.w) (by kernel_rfl) ?_
       rw [hW0]
       clear hW0
       refine tW 0 rfl ?_;go_big_quiet_op
       refine tM 1 rfl (ah ak) ?_;go_big_quiet_op
       refine tW 2 rfl ?_;go_big_quiet_op
       refine tW 3 rfl ?_;go_big_quiet_op
       refine fG 4 rfl (by kernel_rfl) (fun _=>ah ak) (fun _ _ _ _ h=>h) (by rfl) ?_
       simp only [Act.put,zQ7,zQ8,zQ9]
       refine fG 5 rfl (by kernel_rfl) (fun _=>ah ak) (fun _ _ _ _ h=>h) (by rfl) ?_
       simp only [Act.put,zQ7,zQ8,zQ9]
       refine fG 6 rfl (by kernel_rfl) (fun _=>ah ak) (fun _ _ _ _ h=>h) (by rfl) ?_
       simp only [Act.put,zQ7,zQ8,zQ9]
       refine fG 7 rfl (by kernel_rfl) (fun _=>ah ak) (fun _ _ _ _ h=>h) (by rfl) ?_
       simp only [Act.put,zQ7,zQ8,zQ9]
       refine fG 8 rfl (by kernel_rfl) (fun _=>ah ak) (fun _ _ _ _ h=>h) (by rfl) ?_
       simp only [Act.put,zQ7,zQ8,zQ9]
       refine fG 9 rfl (by kernel_rfl) (fun _=>ah ak) (fun _ _ _ _ h=>h) (by rfl) ?_
       simp only [Act.put,zQ7,zQ8,zQ9]
       refine fG 10 rfl (by kernel_rfl) (fun _=>ah ak) (fun _ _ _ _ h=>h) (by rfl) ?_
       simp only [Act.put,zQ7,zQ8,zQ9]
       refine fG 11 rfl (by kernel_rfl) (fun _=>ah ak) (fun _ _ _ _ h=>h) (by rfl) ?_
       simp only [Act.put,zQ7,zQ8,zQ9]
       refine fG 12 rfl (by kernel_rfl) (fun _=>ah ak) (fun _ _ _ _ h=>h) (by rfl) ?_
       simp only [Act.put,zQ7,zQ8,zQ9]
       refine fG 13 rfl (by kernel_rfl) (fun _=>ah ak) (fun _ _ _ _ h=>h) (by rfl) ?_
       simp only [Act.put,zQ7,zQ8,zQ9]
       refine tW 14 rfl ?_;go_big_quiet_op
       refine aK 15 rfl (by kernel_rfl) ?_
       intro K hK
       go_simp
       refine (bG 1 _).mono ?_
       rintro e w' ⟨rfl,hw'⟩
       obtain rfl:=hw'.symm
       dsimp only
       refine hK _ _ (fun h=>absurd h (by decide +kernel)) ?_
       clear hK K
       refine aW (by kernel_rfl) ?_
       clear hne bS
       go_wp2_with fail
       obtain ⟨W0,hW0⟩:∃ y,V0.drew=y:=⟨_,rfl⟩
       have hs0:Since wo W0:=by rw [<-hW0];exact Since.drew (hS8.trans hs7)
       obtain ⟨S0,hS0⟩:∃ S0:World->Prop,∀ w',S0 w'↔(mK w' p dk Lk n k l bw ow cw br oR cr/\aZ w' w.heap.size 0 ⟨(n:Int),gr,st,nul,body⟩):=⟨_,fun _=>Iff.rfl⟩
       have bS:=aH w
       have c1:∀ y:aj S0,y.w.cell? ⟨p,2,none⟩=some (.slice (some ⟨bw,ow,none⟩) dk.wires.length cw):=fun y=>((hS0 _).1 y.h).1.top
       have c2:∀ y:aj S0,y.w.cell? ⟨bw,ow+n,none⟩=some (.slice (some ⟨br,oR,none⟩) dk.nodes.length cr):=fun y=>((hS0 _).1 y.h).1.row
       have m0:∀ y:aj S0,y.w.cell? ⟨w.heap.size,0,none⟩=some (.int .i64 n):=fun y=>((hS0 _).1 y.h).2.c0
       have m1:∀ y:aj S0,y.w.cell? ⟨w.heap.size,1,none⟩=some (.int .i64 gr):=fun y=>((hS0 _).1 y.h).2.c1
       have m2:∀ y:aj S0,y.w.cell? ⟨w.heap.size,2,none⟩=some (.int .i64 st):=fun y=>((hS0 _).1 y.h).2.c2
       have m3:∀ y:aj S0,y.w.cell? ⟨w.heap.size,3,none⟩=some (.bool nul):=fun y=>((hS0 _).1 y.h).2.c3
       have m4:∀ y:aj S0,y.w.cell? ⟨w.heap.size,4,none⟩=some (.string body):=fun y=>((hS0 _).1 y.h).2.c4
       have hMW:=aB hMk hltk hs0
       have hqW:w.heap.size < W0.heap.size:=zQ4 hltk hs0.size
       have ak:=(hS0 W0).2 ⟨HHD.out.since hs0,hMW⟩
       have hne:Nonempty (aj S0):=⟨⟨_,ak⟩⟩
       obtain ⟨WA,hWA⟩:∃ y,W0.alloc (.cells #[.int .i64 n,.int .i64 gr,.int .i64 st,.bool nul,.string body] 42)=y:=⟨_,rfl⟩
       have hsA:=ay hWA
       have hoA:=hs0.trans hsA
       have Cv:=(hS0 WA).2 ⟨HHD.out.since hoA,aB hMW hqW hsA⟩
       have hsrc:=kN (size:=5) (T:=42) (w:=W0) qC.und (flat [⟨(n:Int),gr,st,nul,body⟩]) (by simp [cB]) (fun u hu=>fC u _ hu) 1
       rw [show (W0.alloc (.cells (flat [⟨(n:Int),gr,st,nul,body⟩]).toArray 42))=WA from hWA] at hsrc
       have hRA:=uM.since hoA
       have Np:lo<=WA.heap.size:=zQ5 hlow hoA.size
       have HH0:=(show Hid _ from HHD.out.since hoA)
       refine aI (fun w'=>∃ x:aj S0,w'=x.w) (by kernel_rfl) ?_
       rw [hW0]
       clear hW0
       refine tW 0 rfl ?_;go_big_quiet_op
       refine tW 1 rfl ?_;go_big_quiet_op
       refine tW 2 rfl ?_;go_big_quiet_op
       refine tW 3 rfl ?_;go_big_quiet_op
       refine tM 4 rfl (ah ak) ?_;go_big_quiet_op
       refine tW 5 rfl ?_;go_big_quiet_op
       refine tM 6 rfl (ah ak) ?_;go_big_quiet_op
       refine tW 7 rfl ?_;go_big_quiet_op
       refine tM 8 rfl (ah ak) ?_;go_big_quiet_op
       refine tW 9 rfl ?_;go_big_quiet_op
       refine tW 10 rfl ?_;go_big_quiet_op
       refine tM 11 rfl (ah ak) ?_;go_big_quiet_op
       refine aK 12 rfl (by kernel_rfl) ?_
       intro K hK
       go_simp
       refine hK _ _ (fun _ _=>ah Cv) ?_
       clear hK K
       refine aK 13 rfl (by kernel_rfl) ?_
       intro K hK
       refine mR qC (by rfl) _ _ 39 (by rfl) (by rfl) hRA (by rfl) hsrc (by omega) Np ?_
       intro a' c' wB hRB hFB hBB
       have hHB:=HH0.out.fr (HSB.out.made.since hoA) HRK.out.1 (by have:=HRK.out.2;omega) (by have:=HRK.out.2;omega) (by rw [HM8.out];exact hFB)
       have hnq:¬ (Lk (8,n,k)).blk=some w.heap.size:=fun e=>Hl ⟨(8,n,k),Nl.out,e⟩
       have hMB:aZ wB w.heap.size 0 ⟨(n:Int),gr,st,nul,body⟩:=bH (aB hMW hqW hsA) (hFB.block _ (by have:=hsA.size;omega) (by rw [HM8.out] at hnq;exact hnq))
       have Nq:=(hS0 wB).2 ⟨hHB,hMB⟩
       have fB:=hHB.free
       have gB:=hHB.cell
       have lB:=hHB.ltr
       rw [HM8.out] at gB
       dsimp only [Sl.v] at gB
       refine hK _ _ (fun _ _=>ah Nq) ?_
       clear hK K
       simp only [Act.put,zQ7,zQ8,zQ9]
       refine tW 14 rfl ?_;go_big_quiet_op
       refine aK 15 rfl (by kernel_rfl) ?_
       intro K hK
       go_simp
       refine hK _ _ (fun h=>absurd h (by decide +kernel)) ?_
       clear hK K
       refine aW (by kernel_rfl) ?_
       have hgw:=HSB.out.made.Dk (m:=⟨(n:Int),gr,st,nul,body⟩) (a':=a') (c':=c') (w1:=WA) (w2:=wB) HRK.out.1 (f:=n) (t:=k) (by have:=HRK.out.2;omega) (by have:=HRK.out.2;omega) HHD.out.lay hlow hoA (by rw [HW.out];omega) (by rw [HW.out];exact hRB) (by rw [HM8.out];exact hFB) (by rw [HM8.out];exact hBB)
       rw [HW.out] at hgw
       obtain ⟨hMf,Bf⟩:=hgw
       have ED:=HSB.out.step hMf Bf
       obtain ⟨Nr,Ns⟩:=Bf.beside (q:=w.heap.size) hltk Hl
       have Nt:=zQ4 hltk Bf.fr.size
       have hUf:=hUp.aD (Bf.up HSB.out.made.own (fun _=>False))
       have Nu:=bH hMk Nr
       clear c1 c2 m0 m1 m2 m3 m4 hne bS gB fB
       go_wp2
       exact ⟨⟨k+1,_,_,by omega,by go_num,HL2.out,ED,Nu,Ns,Nt,hUf⟩,by simp [intOf];omega⟩
      ·have hz':((l.length:Int) == 0)=false:=by rw [beq_eq_false_iff_ne];omega
       obtain ⟨j,hj1,hj2,hj3⟩:∃ j:Nat,(l.length:Int) - 1=(j:Int)/\j < l.length/\l.length=j+1:=⟨l.length - 1,by omega,by omega,by omega⟩
       obtain ⟨ml,hml⟩:∃ ml,l[j]? = some ml:=⟨_,zQ1 hj2⟩
       have hgl:l.getLast? = some ml:=by rw [List.getLast?_eq_getElem?,hj3];exact hml
       obtain ⟨bl,ol,rfl,hbl,hcl⟩:=(jH uM (by omega)).cells (by omega)
       have Pn:=(bJ hcl j ml hml).c2
       have hwj:IntKind.i64.wrap (j:Int)=(j:Int):=IntWalk.i64_in _ (by omega)
       have hjl:(j:Int) < (l.length:Int):=by omega
       have HLT:Hid (vE ⟨(n:Int),gr,st,nul,body⟩ l=decide (st<=ml.st)):=by unfold Hid vE;rw [hgl]
       clear hz hml hgl hcl hj3
       cases e4:decide (ml.st < st)
       ·have HL1:Hid (fE ⟨(n:Int),gr,st,nul,body⟩ n d (k+1)=.error 1):=by
         unfold Hid;rw [K3.out,if_neg h40,if_pos (by rw [HLT.out];simp at e4 ⊢;omega)]
        go_wp2_with fail
        refine av (by kernel_rfl) (by kernel_rfl) (Since.refl wo) ?_
        repeat (go_big_quiet_step ((go_at_call 50;exact Later.call (Dq wo _ _ _ dk.groups gr k _ e2 hG))))
        refine wpQuiet_nil ?_
        intro w9 hS9
        go_wp2_with fail
        refine av (by kernel_rfl) (by kernel_rfl) hS9 ?_
        repeat (go_big_quiet_step (fail))
        refine wpQuiet_nil ?_
        intro w8 hS8
        clear o1 o2 o3 o4 o5 o6 hne
        go_wp2_with (go_at_call 88;refine (bG 2 _).mono ?_;rintro e w' ⟨rfl,hw'⟩;obtain rfl:=hw'.symm)
        obtain ⟨V0,hW0⟩:∃ y,w8.drew=y:=⟨_,rfl⟩
        have hs7:=aO hW0
        obtain ⟨S7,hS7⟩:∃ S0:World->Prop,∀ w',S0 w'↔Since wo w':=⟨_,fun _=>Iff.rfl⟩
        have ak:=(hS7 V0).2 (hS8.trans hs7)
        have hne:Nonempty (aj S7):=⟨⟨_,ak⟩⟩
        have bS:=aH w
        have g1:∀ y:aj S7,y.w.cell? ⟨bl,ol+j*5+2,none⟩=some (.int .i64 ml.st):=fun y=>(((hS7 _).1 y.h).cellAt hbl _).trans Pn
        have g2:∀ y:aj S7,y.w.cell? ⟨w.heap.size,2,none⟩=some (.int .i64 st):=fun y=>(aB hMk hltk ((hS7 _).1 y.h)).c2
        refine aI (fun w'=>∃ x:aj S7,w'=x.w) (by kernel_rfl) ?_
        rw [hW0]
        clear hW0
        refine tW 0 rfl ?_;go_big_quiet_op
        refine tM 1 rfl (ah ak) ?_;go_big_quiet_op
        refine tW 2 rfl ?_;go_big_quiet_op
        refine tW 3 rfl ?_;go_big_quiet_op
        refine tW 4 rfl ?_;go_big_quiet_op
        refine tW 5 rfl ?_;go_big_quiet_op
        refine tM 6 rfl (ah ak) ?_;go_big_quiet_op
        refine tW 7 rfl ?_;go_big_quiet_op
        refine tW 8 rfl ?_;go_big_quiet_op
        refine tW 9 rfl ?_;go_big_quiet_op
        refine tM 10 rfl (ah ak) ?_;go_big_quiet_op
        refine tW 11 rfl ?_;go_big_quiet_op
        refine tM 12 rfl (ah ak) ?_;go_big_quiet_op
        refine tW 13 rfl ?_;go_big_quiet_op
        refine tW 14 rfl ?_;go_big_quiet_op
        refine aK 15 rfl (by kernel_rfl) ?_
        intro K hK
        go_simp
        refine (eG 1 _).mono ?_
        rintro e w' ⟨rfl,hw'⟩
        obtain rfl:=hw'.symm
        dsimp only
        exact ⟨rfl,qo.out 1 (rR _ (k+1) (by omega) HL1.out) _ (hUp.aD ((hS8.trans hs7).up _ _))⟩
       ·have HL2:Hid (fE ⟨(n:Int),gr,st,nul,body⟩ n d (k+1)=.ok (aR dk n k (l++[⟨(n:Int),gr,st,nul,body⟩]))):=by
         unfold Hid;rw [K3.out,if_neg h40,if_neg (by rw [HLT.out];simp at e4 ⊢;omega)]
        go_wp2_with fail
        refine av (by kernel_rfl) (by kernel_rfl) (Since.refl wo) ?_
        repeat (go_big_quiet_step ((go_at_call 50;exact Later.call (Dq wo _ _ _ dk.groups gr k _ e2 hG))))
        refine wpQuiet_nil ?_
        intro w9 hS9
        go_wp2_with fail
        refine av (by kernel_rfl) (by kernel_rfl) hS9 ?_
        repeat (go_big_quiet_step (fail))
        refine wpQuiet_nil ?_
        intro w8 hS8
        clear o1 o2 o3 o4 o5 o6 hne
        go_wp2_with (go_at_call 88;refine (bG 2 _).mono ?_;rintro e w' ⟨rfl,hw'⟩;obtain rfl:=hw'.symm)
        obtain ⟨V0,hW0⟩:∃ y,w8.drew=y:=⟨_,rfl⟩
        have hs7:=aO hW0
        obtain ⟨S7,hS7⟩:∃ S0:World->Prop,∀ w',S0 w'↔Since wo w':=⟨_,fun _=>Iff.rfl⟩
        have ak:=(hS7 V0).2 (hS8.trans hs7)
        have hne:Nonempty (aj S7):=⟨⟨_,ak⟩⟩
        have bS:=aH w
        have g1:∀ y:aj S7,y.w.cell? ⟨bl,ol+j*5+2,none⟩=some (.int .i64 ml.st):=fun y=>(((hS7 _).1 y.h).cellAt hbl _).trans Pn
        have g2:∀ y:aj S7,y.w.cell? ⟨w.heap.size,2,none⟩=some (.int .i64 st):=fun y=>(aB hMk hltk ((hS7 _).1 y.h)).c2
        refine aI (fun w'=>∃ x:aj S7,w'=x.w) (by kernel_rfl) ?_
        rw [hW0]
        clear hW0
        refine tW 0 rfl ?_;go_big_quiet_op
        refine tM 1 rfl (ah ak) ?_;go_big_quiet_op
        refine tW 2 rfl ?_;go_big_quiet_op
        refine tW 3 rfl ?_;go_big_quiet_op
        refine tW 4 rfl ?_;go_big_quiet_op
        refine tW 5 rfl ?_;go_big_quiet_op
        refine tM 6 rfl (ah ak) ?_;go_big_quiet_op
        refine tW 7 rfl ?_;go_big_quiet_op
        refine tW 8 rfl ?_;go_big_quiet_op
        refine tW 9 rfl ?_;go_big_quiet_op
        refine tM 10 rfl (ah ak) ?_;go_big_quiet_op
        refine tW 11 rfl ?_;go_big_quiet_op
        refine tM 12 rfl (ah ak) ?_;go_big_quiet_op
        refine tW 13 rfl ?_;go_big_quiet_op
        refine tW 14 rfl ?_;go_big_quiet_op
        refine aK 15 rfl (by kernel_rfl) ?_
        intro K hK
        go_simp
        refine (bG 1 _).mono ?_
        rintro e w' ⟨rfl,hw'⟩
        obtain rfl:=hw'.symm
        dsimp only
        refine hK _ _ (fun h=>absurd h (by decide +kernel)) ?_
        clear hK K
        refine aW (by kernel_rfl) ?_
        clear hne bS g1 g2
        go_wp2_with fail
        obtain ⟨W0,hW0⟩:∃ y,V0.drew=y:=⟨_,rfl⟩
        have hs0:Since wo W0:=by rw [<-hW0];exact Since.drew (hS8.trans hs7)
        obtain ⟨S0,hS0⟩:∃ S0:World->Prop,∀ w',S0 w'↔(mK w' p dk Lk n k l bw ow cw br oR cr/\aZ w' w.heap.size 0 ⟨(n:Int),gr,st,nul,body⟩):=⟨_,fun _=>Iff.rfl⟩
        have bS:=aH w
        have c1:∀ y:aj S0,y.w.cell? ⟨p,2,none⟩=some (.slice (some ⟨bw,ow,none⟩) dk.wires.length cw):=fun y=>((hS0 _).1 y.h).1.top
        have c2:∀ y:aj S0,y.w.cell? ⟨bw,ow+n,none⟩=some (.slice (some ⟨br,oR,none⟩) dk.nodes.length cr):=fun y=>((hS0 _).1 y.h).1.row
        have m0:∀ y:aj S0,y.w.cell? ⟨w.heap.size,0,none⟩=some (.int .i64 n):=fun y=>((hS0 _).1 y.h).2.c0
        have m1:∀ y:aj S0,y.w.cell? ⟨w.heap.size,1,none⟩=some (.int .i64 gr):=fun y=>((hS0 _).1 y.h).2.c1
        have m2:∀ y:aj S0,y.w.cell? ⟨w.heap.size,2,none⟩=some (.int .i64 st):=fun y=>((hS0 _).1 y.h).2.c2
        have m3:∀ y:aj S0,y.w.cell? ⟨w.heap.size,3,none⟩=some (.bool nul):=fun y=>((hS0 _).1 y.h).2.c3
        have m4:∀ y:aj S0,y.w.cell? ⟨w.heap.size,4,none⟩=some (.string body):=fun y=>((hS0 _).1 y.h).2.c4
        have hMW:=aB hMk hltk hs0
        have hqW:w.heap.size < W0.heap.size:=zQ4 hltk hs0.size
        have ak:=(hS0 W0).2 ⟨HHD.out.since hs0,hMW⟩
        have hne:Nonempty (aj S0):=⟨⟨_,ak⟩⟩
        obtain ⟨WA,hWA⟩:∃ y,W0.alloc (.cells #[.int .i64 n,.int .i64 gr,.int .i64 st,.bool nul,.string body] 42)=y:=⟨_,rfl⟩
        have hsA:=ay hWA
        have hoA:=hs0.trans hsA
        have Cv:=(hS0 WA).2 ⟨HHD.out.since hoA,aB hMW hqW hsA⟩
        have hsrc:=kN (size:=5) (T:=42) (w:=W0) qC.und (flat [⟨(n:Int),gr,st,nul,body⟩]) (by simp [cB]) (fun u hu=>fC u _ hu) 1
        rw [show (W0.alloc (.cells (flat [⟨(n:Int),gr,st,nul,body⟩]).toArray 42))=WA from hWA] at hsrc
        have hRA:=uM.since hoA
        have Np:lo<=WA.heap.size:=zQ5 hlow hoA.size
        have HH0:=(show Hid _ from HHD.out.since hoA)
        refine aI (fun w'=>∃ x:aj S0,w'=x.w) (by kernel_rfl) ?_
        rw [hW0]
        clear hW0
        refine tW 0 rfl ?_;go_big_quiet_op
        refine tW 1 rfl ?_;go_big_quiet_op
        refine tW 2 rfl ?_;go_big_quiet_op
        refine tW 3 rfl ?_;go_big_quiet_op
        refine tM 4 rfl (ah ak) ?_;go_big_quiet_op
        refine tW 5 rfl ?_;go_big_quiet_op
        refine tM 6 rfl (ah ak) ?_;go_big_quiet_op
        refine tW 7 rfl ?_;go_big_quiet_op
        refine tM 8 rfl (ah ak) ?_;go_big_quiet_op
        refine tW 9 rfl ?_;go_big_quiet_op
        refine tW 10 rfl ?_;go_big_quiet_op
        refine tM 11 rfl (ah ak) ?_;go_big_quiet_op
        refine aK 12 rfl (by kernel_rfl) ?_
        intro K hK
        go_simp
        refine hK _ _ (fun _ _=>ah Cv) ?_
        clear hK K
        refine aK 13 rfl (by kernel_rfl) ?_
        intro K hK
        refine mR qC (by rfl) _ _ 39 (by rfl) (by rfl) hRA (by rfl) hsrc (by omega) Np ?_
        intro a' c' wB hRB hFB hBB
        have hHB:=HH0.out.fr (HSB.out.made.since hoA) HRK.out.1 (by have:=HRK.out.2;omega) (by have:=HRK.out.2;omega) (by rw [HM8.out];exact hFB)
        have hnq:¬ (Lk (8,n,k)).blk=some w.heap.size:=fun e=>Hl ⟨(8,n,k),Nl.out,e⟩
        have hMB:aZ wB w.heap.size 0 ⟨(n:Int),gr,st,nul,body⟩:=bH (aB hMW hqW hsA) (hFB.block _ (by have:=hsA.size;omega) (by rw [HM8.out] at hnq;exact hnq))
        have Nq:=(hS0 wB).2 ⟨hHB,hMB⟩
        have fB:=hHB.free
        have gB:=hHB.cell
        have lB:=hHB.ltr
        rw [HM8.out] at gB
        dsimp only [Sl.v] at gB
        refine hK _ _ (fun _ _=>ah Nq) ?_
        clear hK K
        simp only [Act.put,zQ7,zQ8,zQ9]
        refine tW 14 rfl ?_;go_big_quiet_op
        refine aK 15 rfl (by kernel_rfl) ?_
        intro K hK
        go_simp
        refine hK _ _ (fun h=>absurd h (by decide +kernel)) ?_
        clear hK K
        refine aW (by kernel_rfl) ?_
        have hgw:=HSB.out.made.Dk (m:=⟨(n:Int),gr,st,nul,body⟩) (a':=a') (c':=c') (w1:=WA) (w2:=wB) HRK.out.1 (f:=n) (t:=k) (by have:=HRK.out.2;omega) (by have:=HRK.out.2;omega) HHD.out.lay hlow hoA (by rw [HW.out];omega) (by rw [HW.out];exact hRB) (by rw [HM8.out];exact hFB) (by rw [HM8.out];exact hBB)
        rw [HW.out] at hgw
        obtain ⟨hMf,Bf⟩:=hgw
        have ED:=HSB.out.step hMf Bf
        obtain ⟨Nr,Ns⟩:=Bf.beside (q:=w.heap.size) hltk Hl
        have Nt:=zQ4 hltk Bf.fr.size
        have hUf:=hUp.aD (Bf.up HSB.out.made.own (fun _=>False))
        have Nu:=bH hMk Nr
        clear c1 c2 m0 m1 m2 m3 m4 hne bS gB fB
        go_wp2
        exact ⟨⟨k+1,_,_,by omega,by go_num,HL2.out,ED,Nu,Ns,Nt,hUf⟩,by simp [intOf];omega⟩
   ·have hkn:k=n:=by have:=beq_iff_eq.1 e1;omega
    have HL2:Hid (fE ⟨(n:Int),gr,st,nul,body⟩ n d (k+1)=.ok dk):=by unfold Hid;rw [HLO.out];unfold jM;rw [if_pos (.inl hkn)]
    clear hkn
    go_wp2_with fail
    refine av (by kernel_rfl) (by kernel_rfl) (Since.refl wo) ?_
    repeat (go_big_quiet_step (fail))
    refine wpQuiet_nil ?_
    intro w9 hS9
    clear o1 o2 o3 hne
    go_wp2
    go_roundw
    case rel=>exact ⟨k+1,dk,Lk,by omega,by go_num,HL2.out,HSB.out.since hS9,aB hMk hltk hS9,Hl,zQ4 hltk hS9.size,hUp.aD (hS9.up _ _)⟩
    case measure=>simp [intOf];omega
  ·obtain rfl:k=d.nodes.length:=by omega
   go_wp2
   go_end0
   exact HOK.out _ _ _ HL.out HSB.out hUp
theorem nV (lo p n:Nat) (m:Mg) (d:Wd) (L:Lay) (w:World) (x:Nd) (c:Int) (hB:aY lo w p d L c) (hx:d.nodes[n]? = some x) (Ho:m.nul=true) :
  Calls prog 144 #[.pointer (some ⟨p,0,none⟩),.int .i64 n,.agg #[.int .i64 m.fr,.int .i64 m.gr,.int .i64 m.st,.bool m.nul,.string m.body]] w fun e w'=>e=.returned (.tuple #[])/\Since w w':=by
 have hn:=bU hx
 have hpl:=hB.made.box.lt
 obtain ⟨w1,hw1⟩:∃ y,w.alloc (.cells #[.int .i64 m.fr,.int .i64 m.gr,.int .i64 m.st,.bool m.nul,.string m.body] 42)=y:=⟨_,rfl⟩
 have hS1:=ay hw1
 have hMb:aZ w1 w.heap.size 0 m:=by rw [<-hw1];constructor <;> simp [go_sem]
 have hl1:w.heap.size < w1.heap.size:=by rw [<-hw1];simp
 have m3:w1.cell? ⟨w.heap.size,3,none⟩=some (.bool true):=by rw [<-Ho];exact hMb.c3
 have RJ:Hid (m.nul=true):=Ho
 clear Ho hMb
 go_enter func144,ntmps144
 go_wp2
 refine bodyPost_ret (results_none rfl _ _ _) rfl ?_
 exact ⟨rfl,hS1⟩
theorem kC (lo p n:Nat) (m:Mg) (d:Wd) (L:Lay) (w:World) (x:Nd) (c:Int) (hB:aY lo w p d L c) (hx:d.nodes[n]? = some x) (Ho:m.nul=false) (hlo:lo<=w.heap.size) (pe:Int) (pl:List Mg) (hpe:fA m x.held=pe) (hpl':iJ m x.held=pl) (Post:Ending->World->Prop)
  (nA:pe≠0->∀ w',Since w w'->Post (.panicked (pan pe)) w')
  (hOk:pe=0->∀ w' L',aY lo w' p (setNode d n { x with held:=pl }) L' c->Fr (Up lo fun _=>False) w w'->Post (.returned (.tuple #[])) w') :
  Calls prog 144 #[.pointer (some ⟨p,0,none⟩),.int .i64 n,.agg #[.int .i64 m.fr,.int .i64 m.gr,.int .i64 m.st,.bool m.nul,.string m.body]] w fun e w'=>Hid (Post e w'):=by
 have qo:=(show Hid _ from nA)
 have HOK:=(show Hid _ from hOk)
 have HPE:Hid (fA m x.held=pe):=hpe
 have HPL:Hid (iJ m x.held=pl):=hpl'
 clear nA hOk
 have hn:=bU hx
 have hpl:=hB.made.box.lt
 obtain ⟨w1,hw1⟩:∃ y,w.alloc (.cells #[.int .i64 m.fr,.int .i64 m.gr,.int .i64 m.st,.bool m.nul,.string m.body] 42)=y:=⟨_,rfl⟩
 have hS1:=ay hw1
 have hMb:aZ w1 w.heap.size 0 m:=by rw [<-hw1];constructor <;> simp [go_sem]
 have hl1:w.heap.size < w1.heap.size:=by rw [<-hw1];simp
 obtain ⟨bn,on,cn,hL1,_,hbn,hbk,hcn⟩:=hB.made.own.lies (ix:=(1,0,0)) ⟨rfl,rfl⟩ (by show 0 < d.nodes.length;omega)
 obtain ⟨k0,k1,k2,k3,kz⟩:=hB.made.own.cells hx hL1
 obtain ⟨ha,hc,e1,hcap,hH⟩:=hB.made.own.LM hx
 obtain ⟨sh,_⟩:=hB.made.own.KO hx
 rw [e1] at k2
 have b1:=hB.made.box.c1
 rw [hL1] at b1
 dsimp only at b1
 have HL1:Hid (L (1,0,0)=⟨some ⟨bn,on,none⟩,cn⟩):=hL1
 have hput:=fun (y:World) (hy:Since w y)=>JI ha x.held.length hc x.held m y (hH.since hy) hcap
 rw [hpe,hpl'] at hput
 have m3:w1.cell? ⟨w.heap.size,3,none⟩=some (.bool false):=by rw [<-Ho];exact hMb.c3
 obtain ⟨S0,hS0⟩:∃ S0:World->Prop,∀ w',S0 w'↔Since w1 w':=⟨_,fun _=>Iff.rfl⟩
 have bS:=aH w
 have c1:∀ y:aj S0,y.w.cell? ⟨p,1,none⟩=some (.slice (some ⟨bn,on,none⟩) d.nodes.length cn):=fun y=>(((hS1.trans ((hS0 _).1 y.h)).cellAt hpl _)).trans b1
 have c2:∀ y:aj S0,y.w.cell? ⟨bn,on+n*4+2,none⟩=some (.slice ha x.held.length hc):=fun y=>((hS1.trans ((hS0 _).1 y.h)).cellAt hbn _).trans k2
 have m0:∀ y:aj S0,y.w.cell? ⟨w.heap.size,0,none⟩=some (.int .i64 m.fr):=fun y=>(((hS0 _).1 y.h).cellAt hl1 _).trans hMb.c0
 have m1:∀ y:aj S0,y.w.cell? ⟨w.heap.size,1,none⟩=some (.int .i64 m.gr):=fun y=>(((hS0 _).1 y.h).cellAt hl1 _).trans hMb.c1
 have m2:∀ y:aj S0,y.w.cell? ⟨w.heap.size,2,none⟩=some (.int .i64 m.st):=fun y=>(((hS0 _).1 y.h).cellAt hl1 _).trans hMb.c2
 have m3':∀ y:aj S0,y.w.cell? ⟨w.heap.size,3,none⟩=some (.bool m.nul):=fun y=>(((hS0 _).1 y.h).cellAt hl1 _).trans hMb.c3
 have m4:∀ y:aj S0,y.w.cell? ⟨w.heap.size,4,none⟩=some (.string m.body):=fun y=>(((hS0 _).1 y.h).cellAt hl1 _).trans hMb.c4
 have n1:(n:Int) < (d.nodes.length:Int):=by omega
 clear hL1 e1 hpe hpl' Ho hMb
 go_enter func144,ntmps144
 go_wp2_with fail
 obtain ⟨W0,hW0⟩:∃ y,w1.drew=y:=⟨_,rfl⟩
 have hs0:=aO hW0
 have ak:=(hS0 W0).2 hs0
 have hne:Nonempty (aj S0):=⟨⟨_,ak⟩⟩
 refine aI (fun w'=>∃ x:aj S0,w'=x.w) (by kernel_rfl) ?_
 rw [hW0]
 clear hW0
 refine tW 0 rfl ?_;go_big_quiet_op
 refine tW 1 rfl ?_;go_big_quiet_op
 refine tW 2 rfl ?_;go_big_quiet_op
 refine tW 3 rfl ?_;go_big_quiet_op
 refine tM 4 rfl (ah ak) ?_;go_big_quiet_op
 refine tW 5 rfl ?_;go_big_quiet_op
 refine tW 6 rfl ?_;go_big_quiet_op
 refine tW 7 rfl ?_;go_big_quiet_op
 refine tM 8 rfl (ah ak) ?_;go_big_quiet_op
 refine tM 9 rfl (ah ak) ?_;go_big_quiet_op
 refine aK 10 rfl (by kernel_rfl) ?_
 intro K hK
 go_simp
 refine (hput W0 (hS1.trans hs0)).mono ?_
 rintro e w2 ⟨a',len',cap',rfl,hMs,QU,hS2⟩
 dsimp only
 have hs2:=hs0.trans hS2
 refine hK _ _ (fun h=>absurd h (by decide +kernel)) ?_
 clear hK K
 refine tW 11 rfl ?_;go_big_quiet_op
 refine tW 12 rfl ?_;go_big_quiet_op
 refine tW 13 rfl ?_;go_big_quiet_op
 refine tW 14 rfl ?_;go_big_quiet_op
 refine tW 15 rfl ?_;go_big_quiet_op
 refine aW (by kernel_rfl) ?_
 have Hq:=hS1.trans hs2
 have d1:=(Hq.cellAt hpl _).trans b1
 have d2:=(Hq.cellAt hbn _).trans k2
 have d3:=(Hq.below.frozen (p:=⟨bn,on+n*4+2,none⟩) hbn).trans (kz 2 (by omega))
 clear c1 c2 m0 m1 m2 m3' m4 hne bS m3
 cases hE:(pe == 0)
 ·have HE:Hid (pe≠0):=by unfold Hid;simpa using hE
  go_wp2_with (go_at_call 149;refine (qg pe hE _).mono ?_;rintro e w' ⟨rfl,hw'⟩;obtain rfl:=hw'.symm)
  exact ⟨rfl,qo.out HE.out _ Hq⟩
 ·have Nv:pe=0:=by simpa using hE
  subst Nv
  have hlen:len'=pl.length:=hMs.hlen.symm
  have Ae:=Er QU (by rw [HPL.out];exact hlen)
  rw [HPL.out] at Ae
  have hge:∀ b,Sl.blk ⟨a',cap'⟩=some b->w.heap.size<=b:=fun b e=>zQ5 (hS1.trans hs0).size (Ae.iV b e)
  have sp:pl.length<=1000:=by
   have h0:=HPE.out
   have h1:=mW m x.held h0
   rw [HPL.out] at h1
   have:¬ 40<=x.held.length:=fun h=>by unfold fA at h0;split at h0 <;> simp_all
   omega
  have hO2:=hB.made.own.since Hq
  have LY:=hO2.Fv hx HL1.out (Ae.mono (zQ5 hlo (hS1.trans hs0).size)) sp (hB.made.own.fresh hge (5,n,0))
  have hst:=uO (d':=setNode d n { x with held:=pl }) (L:=L) Hq (iB hx rfl) (5,n,0) ⟨a',cap'⟩ (fun b e=>.inr (hge b e)) (off:=on+n*4+2) (Sl.v ⟨a',cap'⟩ pl.length) (d:=d) ⟨(1,0,0),⟨rfl,rfl⟩,hbk⟩
  have hMm:=hB.made.step LY hst rfl rfl rfl rfl (by simp [setNode]) rfl
  have ED:=hB.step hMm hst
  have hUf:=hst.up hB.made.own (fun _=>False)
  unfold Sl.v at ED hUf
  dsimp only at ED hUf
  clear LY hst hMm
  go_wp2_with (go_at_call 149;refine (qh _).mono ?_;rintro e w' ⟨rfl,hw'⟩;obtain rfl:=hw'.symm)
  go_end0
  exact HOK.out (by first | rfl | trivial) _ _ ED hUf
theorem aY.fr {B:Nat->Prop} {lo:Nat} {w w':World} {p:Nat} {d:Wd} {L:Lay} {c:Int} (h:aY lo w p d L c) (k:Fr B w w') (hB:∀ b,fU d L b->¬ B b) (hp:¬ B p):aY lo w' p d L c :=
 ⟨⟨h.made.own.fr k hB,h.made.box.fr k hp,h.made.off⟩,h.lop,(k.cell (p:=⟨p,3,none⟩) h.made.box.lt hp).trans h.cm,(k.frozen (p:=⟨p,3,none⟩) h.made.box.lt hp).trans h.zm⟩
theorem EF (lo p q k:Nat) (g st:Int) (nul:Bool) (body:ByteArray) (d d1:Wd) (L:Lay) (w:World) (x:Nd) (hB:aY lo w p d L 0) (R:Right d) (hq:q < lo) (hMq:aZ w q 0 ⟨(k:Int),g,0,nul,body⟩) (hqz:w.frozen? ⟨q,2,none⟩=false) (hx:d.nodes[k]? = some x) (hE:bQ d k g body.size=0) (hst:x.clock+1=st) (hd1:setNode d k { x with clock:=st }=d1) (hlo:lo<=w.heap.size) (er:Int) (hR1:dU d1) (hW1':∀ f t,(au d1 f t).length<=40) (hN:d1.nodes.length<=1000) (hk1:k < d1.nodes.length) (jq:fE ⟨(k:Int),g,st,nul,body⟩ k d1 d1.nodes.length=.error er) :
  Calls prog 141 #[.pointer (some ⟨p,0,none⟩),.pointer (some ⟨q,0,none⟩)] w fun e w'=>e=.panicked (pan er)/\Fr (Up lo fun i=>i=q) w w':=by
 have pJ:=hMq
 have pK:=(show Hid _ from jq)
 have HR1:Hid (dU d1):=hR1
 have HW1:Hid (∀ f t,(au d1 f t).length<=40):=hW1'
 clear jq hR1 hW1'
 have hk:=bU hx
 have hpl:=hB.made.box.lt
 have uW:=hB.lop
 have hqw:q < w.heap.size:=by omega
 obtain ⟨bn,on,cn,hL1,hlb,hbn,hbk,hcn⟩:=hB.made.own.lies (ix:=(1,0,0)) ⟨rfl,rfl⟩ (by show 0 < d.nodes.length;omega)
 obtain ⟨k0,_,_,_,kz⟩:=hB.made.own.cells hx hL1
 have kz0:=kz 0 (by omega)
 rw [Nat.add_zero] at kz0
 have b1:=hB.made.box.c1
 rw [hL1] at b1
 dsimp only at b1
 have HL1:Hid (L (1,0,0)=⟨some ⟨bn,on,none⟩,cn⟩):=hL1
 have hcl:=R.clk k
 rw [(dD hx).1] at hcl
 have yC:¬ x.clock=1048576:=by
  intro e
  have hE':=hE
  unfold bQ at hE'
  rw [Int.toNat_natCast,(dD hx).1,e] at hE'
  split at hE';cases hE';split at hE';cases hE';split at hE';cases hE';simp at hE'
 have hst':IntKind.i64.wrap (x.clock+1)=st:=by rw [hst];exact IntWalk.i64_in _ (by omega)
 have n1:(k:Int) < (d.nodes.length:Int):=by omega
 have mO:=nU lo p ⟨(k:Int),g,0,nul,body⟩ d L w 0 hB R
 dsimp only at mO
 obtain ⟨q0,q1,q2,q3,q4⟩:=hMq
 simp only [Nat.zero_add] at q0 q1 q2 q3 q4
 have HST:Hid (x.clock+1=st):=hst
 have HD1:Hid (setNode d k { x with clock:=st }=d1):=hd1
 have HE:Hid (bQ d k g body.size=0):=hE
 have hqo:¬ fU d L q:=fun hb=>by have:=(hB.made.own.blk hb).1;omega
 clear hL1 hst hd1 hE kz yC
 go_enter func141,ntmps141
 go_wp2_with (go_at_call 142;refine mO.mono ?_;rintro e w2 hR;obtain ⟨h1,_,hS2⟩:=hR.out;obtain rfl:=h1 HE.out;clear h1 hR)
 clear q0 q1 q2 q3 q4
 have QF:Hid (∀ y,Since w y->aZ y q 0 ⟨(k:Int),g,0,nul,body⟩/\y.frozen? ⟨q,2,none⟩=false):=fun y hy=>⟨aB pJ hqw hy,(hy.below.frozen (p:=⟨q,2,none⟩) hqw).trans hqz⟩
 obtain ⟨S0,hS0⟩:∃ S0:World->Prop,∀ w',S0 w'↔Since w w':=⟨_,fun _=>Iff.rfl⟩
 have bS:=aH w
 have x1:∀ y:aj S0,y.w.cell? ⟨p,1,none⟩=some (.slice (some ⟨bn,on,none⟩) d.nodes.length cn):=fun y=>(((hS0 _).1 y.h).cellAt hpl _).trans b1
 have x2:∀ y:aj S0,y.w.cell? ⟨bn,on+k*4,none⟩=some (.int .i64 x.clock):=fun y=>(((hS0 _).1 y.h).cellAt hbn _).trans k0
 have m0:∀ y:aj S0,y.w.cell? ⟨q,0,none⟩=some (.int .i64 k):=fun y=>((QF.out _ ((hS0 _).1 y.h)).1).c0
 obtain ⟨W0,hW0⟩:∃ y,w2.drew=y:=⟨_,rfl⟩
 have hs0:Since w W0:=by rw [<-hW0];exact Since.drew hS2
 have ak:=(hS0 W0).2 hs0
 have hne:Nonempty (aj S0):=⟨⟨_,ak⟩⟩
 have y1:=x2 ⟨_,ak⟩
 have y2:=(hs0.below.frozen (p:=⟨bn,on+k*4,none⟩) hbn).trans kz0
 dsimp only at y1
 obtain ⟨W1,hW1⟩:∃ y,W0.setCell ⟨bn,on+k*4,none⟩ (.int .i64 st)=y:=⟨_,rfl⟩
 obtain ⟨hM1,fI⟩:=hB.made.rT hx HL1.out hs0 st
 rw [hW1,HD1.out] at hM1 fI
 have hB1:=hB.step hM1 fI
 have hU1:=fI.up hB.made.own (fun i=>i=q)
 have hQ1:W1.heap[q]? = w.heap[q]?:=(fI.beside hqw hqo).1
 have yD:=(fI.beside hqw hqo).2
 have hx1:d1.nodes[k]? = some { x with clock:=st }:=by rw [<-HD1.out,dB _ hx,if_pos rfl]
 have hn1:d1.nodes.length=d.nodes.length:=by rw [<-HD1.out];simp [setNode]
 refine aI (fun w'=>∃ x:aj S0,w'=x.w) (by kernel_rfl) ?_
 rw [hW0]
 clear hW0
 refine tW 0 rfl ?_;go_big_quiet_op
 refine tW 1 rfl ?_;go_big_quiet_op
 refine tW 2 rfl ?_;go_big_quiet_op
 refine tW 3 rfl ?_;go_big_quiet_op
 refine tM 4 rfl (ah ak) ?_;go_big_quiet_op
 refine tW 5 rfl ?_;go_big_quiet_op
 refine tM 6 rfl (ah ak) ?_;go_big_quiet_op
 refine tW 7 rfl ?_;go_big_quiet_op
 refine tW 8 rfl ?_;go_big_quiet_op
 refine tM 9 rfl (ah ak) ?_;go_big_quiet_op
 refine tW 10 rfl ?_;go_big_quiet_op
 refine tW 11 rfl ?_;go_big_quiet_op
 refine tW 12 rfl ?_;go_big_quiet_op
 refine aK 13 rfl (by kernel_rfl) ?_
 intro K hK
 go_simp
 refine hK _ _ (fun h=>absurd h (by decide +kernel)) ?_
 clear hK K
 refine aW (by kernel_rfl) ?_
 clear x1 x2 m0 hne y1 y2
 have hbW:bn < W1.heap.size:=zQ4 hbn fI.fr.size
 obtain ⟨k0',_,_,_,_⟩:=hB1.made.own.cells hx1 HL1.out
 have b1':=hB1.made.box.c1
 rw [HL1.out] at b1'
 dsimp only at b1' k0'
 have iE:q < W1.heap.size:=zQ4 hqw fI.fr.size
 have lI:aZ W1 q 0 ⟨(k:Int),g,0,nul,body⟩:=bH pJ hQ1
 have yE:W1.frozen? ⟨q,2,none⟩=false:=(World.frozen?_of_block (a:=⟨q,2,none⟩) hQ1).trans hqz
 go_wp2_with fail
 obtain ⟨S2,iX⟩:∃ S0:World->Prop,∀ w',S0 w'↔Since W1 w':=⟨_,fun _=>Iff.rfl⟩
 have x1:∀ y:aj S2,y.w.cell? ⟨p,1,none⟩=some (.slice (some ⟨bn,on,none⟩) d1.nodes.length cn):=fun y=>(((iX _).1 y.h).cellAt hB1.made.box.lt _).trans b1'
 have x2:∀ y:aj S2,y.w.cell? ⟨bn,on+k*4,none⟩=some (.int .i64 st):=fun y=>(((iX _).1 y.h).cellAt hbW _).trans k0'
 have m0:∀ y:aj S2,y.w.cell? ⟨q,0,none⟩=some (.int .i64 k):=fun y=>(aB lI iE ((iX _).1 y.h)).c0
 obtain ⟨V0,hW0⟩:∃ y,W1.drew=y:=⟨_,rfl⟩
 have hv0:=aO hW0
 have ak:=(iX V0).2 hv0
 have hne:Nonempty (aj S2):=⟨⟨_,ak⟩⟩
 have n1':(k:Int) < (d1.nodes.length:Int):=by omega
 have z1:=(aB lI iE hv0).c2
 have z2:=(hv0.below.frozen (p:=⟨q,2,none⟩) iE).trans yE
 dsimp only [Nat.zero_add] at z1
 simp only [Nat.zero_add] at z1
 obtain ⟨W3,hW3⟩:∃ y,V0.setCell ⟨q,2,none⟩ (.int .i64 st)=y:=⟨_,rfl⟩
 have hF3:Fr (fun i=>i=q) V0 W3:=by rw [<-hW3];exact (Fr.refl (fun i=>i=q) V0).setCell ⟨q,2,none⟩ _ (fun _=>rfl)
 have hB3:=(hB1.since hv0).fr hF3 (fun b hb e=>yD (e ▸ hb)) (by omega)
 have pO:aZ W3 q 0 ⟨(k:Int),g,st,nul,body⟩:=by
  have hm:=aB lI iE hv0
  obtain ⟨a0,a1,a2,a3,a4⟩:=hm
  rw [<-hW3]
  exact ⟨(bB _ _ _ (by decide)).trans a0,(bB _ _ _ (by decide)).trans a1,jD _ _ _ _ a2,(bB _ _ _ (by decide)).trans a3,(bB _ _ _ (by decide)).trans a4⟩
 have rV:q < W3.heap.size:=zQ4 iE (zQ5 hv0.size hF3.size)
 have hU3:Fr (Up lo fun i=>i=q) w W3:=(hU1.aD (hv0.up _ _)).aD (hF3.mono (fun i _ e=>.inr e))
 have hlo3:lo<=W3.heap.size:=zQ5 hlo hU3.size
 refine aI (fun w'=>∃ x:aj S2,w'=x.w) (by kernel_rfl) ?_
 rw [hW0]
 clear hW0
 refine tW 0 rfl ?_;go_big_quiet_op
 refine tW 1 rfl ?_;go_big_quiet_op
 refine tW 2 rfl ?_;go_big_quiet_op
 refine tW 3 rfl ?_;go_big_quiet_op
 refine tM 4 rfl (ah ak) ?_;go_big_quiet_op
 refine tW 5 rfl ?_;go_big_quiet_op
 refine tM 6 rfl (ah ak) ?_;go_big_quiet_op
 refine tW 7 rfl ?_;go_big_quiet_op
 refine tW 8 rfl ?_;go_big_quiet_op
 refine tM 9 rfl (ah ak) ?_;go_big_quiet_op
 refine tW 10 rfl ?_;go_big_quiet_op
 refine aK 11 rfl (by kernel_rfl) ?_
 intro K hK
 go_simp
 refine hK _ _ (fun h=>absurd h (by decide +kernel)) ?_
 clear hK K
 refine aW (by kernel_rfl) ?_
 clear x1 x2 m0 hne bS z1 z2 b1' k0' hW3
 have QF3:Hid (∀ y,Fr (Up lo fun _=>False) W3 y->aZ y q 0 ⟨(k:Int),g,st,nul,body⟩):=fun y hy=>bH pO (hy.block q rV (by rintro (h | h);exact h hq;exact h))
 obtain ⟨q0,q1,q2,q3,q4⟩:=pO
 simp only [Nat.zero_add] at q0 q1 q2 q3 q4
 have hUU:Hid (∀ y,Fr (Up lo fun _=>False) W3 y->Fr (Up lo fun i=>i=q) w y):=fun y hy=>hU3.aD (hy.mono (fun i _ h=>by rcases h with h | h;exact .inl h;exact h.elim))
 go_wp2_with (go_at_call 143;refine (nC lo p k g st nul body d1 L W3 0 hB3 HR1.out hk1 (by omega) HW1.out hlo3 (fun e w'=>e=.panicked (pan er)/\Fr (Up lo fun i=>i=q) w w') (fun er' h w' hF=>by rw [pK.out] at h;cases h;exact ⟨rfl,hUU.out _ hF⟩) (fun d' L' w' h=>by rw [pK.out] at h;cases h)).mono ?_;rintro e w4 hR;obtain ⟨rfl,hF4⟩:=hR.out)
 exact ⟨rfl,rfl,hF4⟩
theorem Bg (lo p q k:Nat) (g st:Int) (body:ByteArray) (d d1:Wd) (L:Lay) (w:World) (x:Nd) (hB:aY lo w p d L 0) (R:Right d) (hq:q < lo) (hMq:aZ w q 0 ⟨(k:Int),g,0,false,body⟩) (hqz:w.frozen? ⟨q,2,none⟩=false) (hx:d.nodes[k]? = some x) (hE:bQ d k g body.size=0) (hst:x.clock+1=st) (hd1:setNode d k { x with clock:=st }=d1) (hlo:lo<=w.heap.size) (d2:Wd) (hR1:dU d1) (hW1':∀ f t,(au d1 f t).length<=40) (hN:d1.nodes.length<=1000) (hk1:k < d1.nodes.length) (jq:fE ⟨(k:Int),g,st,false,body⟩ k d1 d1.nodes.length=.ok d2) (X2:Nd) (hx2:d2.nodes[k]? = some X2) (pe:Int) (pl:List Mg) (JO:Hid (fA ⟨(k:Int),g,st,false,body⟩ X2.held=pe)) (JQ:Hid (iJ ⟨(k:Int),g,st,false,body⟩ X2.held=pl)) (Nv:¬ pe=0) :
  Calls prog 141 #[.pointer (some ⟨p,0,none⟩),.pointer (some ⟨q,0,none⟩)] w fun e w'=>e=.panicked (pan pe)/\Fr (Up lo fun i=>i=q) w w':=by
 have pJ:=hMq
 have pK:=(show Hid _ from jq)
 have HR1:Hid (dU d1):=hR1
 have HW1:Hid (∀ f t,(au d1 f t).length<=40):=hW1'
 clear jq hR1 hW1'
 have hk:=bU hx
 have hpl:=hB.made.box.lt
 have uW:=hB.lop
 have hqw:q < w.heap.size:=by omega
 obtain ⟨bn,on,cn,hL1,hlb,hbn,hbk,hcn⟩:=hB.made.own.lies (ix:=(1,0,0)) ⟨rfl,rfl⟩ (by show 0 < d.nodes.length;omega)
 obtain ⟨k0,_,_,_,kz⟩:=hB.made.own.cells hx hL1
 have kz0:=kz 0 (by omega)
 rw [Nat.add_zero] at kz0
 have b1:=hB.made.box.c1
 rw [hL1] at b1
 dsimp only at b1
 have HL1:Hid (L (1,0,0)=⟨some ⟨bn,on,none⟩,cn⟩):=hL1
 have hcl:=R.clk k
 rw [(dD hx).1] at hcl
 have yC:¬ x.clock=1048576:=by
  intro e
  have hE':=hE
  unfold bQ at hE'
  rw [Int.toNat_natCast,(dD hx).1,e] at hE'
  split at hE';cases hE';split at hE';cases hE';split at hE';cases hE';simp at hE'
 have hst':IntKind.i64.wrap (x.clock+1)=st:=by rw [hst];exact IntWalk.i64_in _ (by omega)
 have n1:(k:Int) < (d.nodes.length:Int):=by omega
 have mO:=nU lo p ⟨(k:Int),g,0,false,body⟩ d L w 0 hB R
 dsimp only at mO
 obtain ⟨q0,q1,q2,q3,q4⟩:=hMq
 simp only [Nat.zero_add] at q0 q1 q2 q3 q4
 have HST:Hid (x.clock+1=st):=hst
 have HD1:Hid (setNode d k { x with clock:=st }=d1):=hd1
 have HE:Hid (bQ d k g body.size=0):=hE
 have hqo:¬ fU d L q:=fun hb=>by have:=(hB.made.own.blk hb).1;omega
 clear hL1 hst hd1 hE kz yC
 go_enter func141,ntmps141
 go_wp2_with (go_at_call 142;refine mO.mono ?_;rintro e w2 hR;obtain ⟨h1,_,hS2⟩:=hR.out;obtain rfl:=h1 HE.out;clear h1 hR)
 clear q0 q1 q2 q3 q4
 have QF:Hid (∀ y,Since w y->aZ y q 0 ⟨(k:Int),g,0,false,body⟩/\y.frozen? ⟨q,2,none⟩=false):=fun y hy=>⟨aB pJ hqw hy,(hy.below.frozen (p:=⟨q,2,none⟩) hqw).trans hqz⟩
 obtain ⟨S0,hS0⟩:∃ S0:World->Prop,∀ w',S0 w'↔Since w w':=⟨_,fun _=>Iff.rfl⟩
 have bS:=aH w
 have x1:∀ y:aj S0,y.w.cell? ⟨p,1,none⟩=some (.slice (some ⟨bn,on,none⟩) d.nodes.length cn):=fun y=>(((hS0 _).1 y.h).cellAt hpl _).trans b1
 have x2:∀ y:aj S0,y.w.cell? ⟨bn,on+k*4,none⟩=some (.int .i64 x.clock):=fun y=>(((hS0 _).1 y.h).cellAt hbn _).trans k0
 have m0:∀ y:aj S0,y.w.cell? ⟨q,0,none⟩=some (.int .i64 k):=fun y=>((QF.out _ ((hS0 _).1 y.h)).1).c0
 obtain ⟨W0,hW0⟩:∃ y,w2.drew=y:=⟨_,rfl⟩
 have hs0:Since w W0:=by rw [<-hW0];exact Since.drew hS2
 have ak:=(hS0 W0).2 hs0
 have hne:Nonempty (aj S0):=⟨⟨_,ak⟩⟩
 have y1:=x2 ⟨_,ak⟩
 have y2:=(hs0.below.frozen (p:=⟨bn,on+k*4,none⟩) hbn).trans kz0
 dsimp only at y1
 obtain ⟨W1,hW1⟩:∃ y,W0.setCell ⟨bn,on+k*4,none⟩ (.int .i64 st)=y:=⟨_,rfl⟩
 obtain ⟨hM1,fI⟩:=hB.made.rT hx HL1.out hs0 st
 rw [hW1,HD1.out] at hM1 fI
 have hB1:=hB.step hM1 fI
 have hU1:=fI.up hB.made.own (fun i=>i=q)
 have hQ1:W1.heap[q]? = w.heap[q]?:=(fI.beside hqw hqo).1
 have yD:=(fI.beside hqw hqo).2
 have hx1:d1.nodes[k]? = some { x with clock:=st }:=by rw [<-HD1.out,dB _ hx,if_pos rfl]
 have hn1:d1.nodes.length=d.nodes.length:=by rw [<-HD1.out];simp [setNode]
 refine aI (fun w'=>∃ x:aj S0,w'=x.w) (by kernel_rfl) ?_
 rw [hW0]
 clear hW0
 refine tW 0 rfl ?_;go_big_quiet_op
 refine tW 1 rfl ?_;go_big_quiet_op
 refine tW 2 rfl ?_;go_big_quiet_op
 refine tW 3 rfl ?_;go_big_quiet_op
 refine tM 4 rfl (ah ak) ?_;go_big_quiet_op
 refine tW 5 rfl ?_;go_big_quiet_op
 refine tM 6 rfl (ah ak) ?_;go_big_quiet_op
 refine tW 7 rfl ?_;go_big_quiet_op
 refine tW 8 rfl ?_;go_big_quiet_op
 refine tM 9 rfl (ah ak) ?_;go_big_quiet_op
 refine tW 10 rfl ?_;go_big_quiet_op
 refine tW 11 rfl ?_;go_big_quiet_op
 refine tW 12 rfl ?_;go_big_quiet_op
 refine aK 13 rfl (by kernel_rfl) ?_
 intro K hK
 go_simp
 refine hK _ _ (fun h=>absurd h (by decide +kernel)) ?_
 clear hK K
 refine aW (by kernel_rfl) ?_
 clear x1 x2 m0 hne y1 y2
 have hbW:bn < W1.heap.size:=zQ4 hbn fI.fr.size
 obtain ⟨k0',_,_,_,_⟩:=hB1.made.own.cells hx1 HL1.out
 have b1':=hB1.made.box.c1
 rw [HL1.out] at b1'
 dsimp only at b1' k0'
 have iE:q < W1.heap.size:=zQ4 hqw fI.fr.size
 have lI:aZ W1 q 0 ⟨(k:Int),g,0,false,body⟩:=bH pJ hQ1
 have yE:W1.frozen? ⟨q,2,none⟩=false:=(World.frozen?_of_block (a:=⟨q,2,none⟩) hQ1).trans hqz
 go_wp2_with fail
 obtain ⟨S2,iX⟩:∃ S0:World->Prop,∀ w',S0 w'↔Since W1 w':=⟨_,fun _=>Iff.rfl⟩
 have x1:∀ y:aj S2,y.w.cell? ⟨p,1,none⟩=some (.slice (some ⟨bn,on,none⟩) d1.nodes.length cn):=fun y=>(((iX _).1 y.h).cellAt hB1.made.box.lt _).trans b1'
 have x2:∀ y:aj S2,y.w.cell? ⟨bn,on+k*4,none⟩=some (.int .i64 st):=fun y=>(((iX _).1 y.h).cellAt hbW _).trans k0'
 have m0:∀ y:aj S2,y.w.cell? ⟨q,0,none⟩=some (.int .i64 k):=fun y=>(aB lI iE ((iX _).1 y.h)).c0
 obtain ⟨V0,hW0⟩:∃ y,W1.drew=y:=⟨_,rfl⟩
 have hv0:=aO hW0
 have ak:=(iX V0).2 hv0
 have hne:Nonempty (aj S2):=⟨⟨_,ak⟩⟩
 have n1':(k:Int) < (d1.nodes.length:Int):=by omega
 have z1:=(aB lI iE hv0).c2
 have z2:=(hv0.below.frozen (p:=⟨q,2,none⟩) iE).trans yE
 dsimp only [Nat.zero_add] at z1
 simp only [Nat.zero_add] at z1
 obtain ⟨W3,hW3⟩:∃ y,V0.setCell ⟨q,2,none⟩ (.int .i64 st)=y:=⟨_,rfl⟩
 have hF3:Fr (fun i=>i=q) V0 W3:=by rw [<-hW3];exact (Fr.refl (fun i=>i=q) V0).setCell ⟨q,2,none⟩ _ (fun _=>rfl)
 have hB3:=(hB1.since hv0).fr hF3 (fun b hb e=>yD (e ▸ hb)) (by omega)
 have pO:aZ W3 q 0 ⟨(k:Int),g,st,false,body⟩:=by
  have hm:=aB lI iE hv0
  obtain ⟨a0,a1,a2,a3,a4⟩:=hm
  rw [<-hW3]
  exact ⟨(bB _ _ _ (by decide)).trans a0,(bB _ _ _ (by decide)).trans a1,jD _ _ _ _ a2,(bB _ _ _ (by decide)).trans a3,(bB _ _ _ (by decide)).trans a4⟩
 have rV:q < W3.heap.size:=zQ4 iE (zQ5 hv0.size hF3.size)
 have hU3:Fr (Up lo fun i=>i=q) w W3:=(hU1.aD (hv0.up _ _)).aD (hF3.mono (fun i _ e=>.inr e))
 have hlo3:lo<=W3.heap.size:=zQ5 hlo hU3.size
 refine aI (fun w'=>∃ x:aj S2,w'=x.w) (by kernel_rfl) ?_
 rw [hW0]
 clear hW0
 refine tW 0 rfl ?_;go_big_quiet_op
 refine tW 1 rfl ?_;go_big_quiet_op
 refine tW 2 rfl ?_;go_big_quiet_op
 refine tW 3 rfl ?_;go_big_quiet_op
 refine tM 4 rfl (ah ak) ?_;go_big_quiet_op
 refine tW 5 rfl ?_;go_big_quiet_op
 refine tM 6 rfl (ah ak) ?_;go_big_quiet_op
 refine tW 7 rfl ?_;go_big_quiet_op
 refine tW 8 rfl ?_;go_big_quiet_op
 refine tM 9 rfl (ah ak) ?_;go_big_quiet_op
 refine tW 10 rfl ?_;go_big_quiet_op
 refine aK 11 rfl (by kernel_rfl) ?_
 intro K hK
 go_simp
 refine hK _ _ (fun h=>absurd h (by decide +kernel)) ?_
 clear hK K
 refine aW (by kernel_rfl) ?_
 clear x1 x2 m0 hne bS z1 z2 b1' k0' hW3
 have QF3:Hid (∀ y,Fr (Up lo fun _=>False) W3 y->aZ y q 0 ⟨(k:Int),g,st,false,body⟩):=fun y hy=>bH pO (hy.block q rV (by rintro (h | h);exact h hq;exact h))
 obtain ⟨q0,q1,q2,q3,q4⟩:=pO
 simp only [Nat.zero_add] at q0 q1 q2 q3 q4
 have hUU:Hid (∀ y,Fr (Up lo fun _=>False) W3 y->Fr (Up lo fun i=>i=q) w y):=fun y hy=>hU3.aD (hy.mono (fun i _ h=>by rcases h with h | h;exact .inl h;exact h.elim))
 go_wp2_with (go_at_call 143;refine (nC lo p k g st false body d1 L W3 0 hB3 HR1.out hk1 (by omega) HW1.out hlo3 (fun e w'=>e=.returned (.tuple #[])/\∃ L',aY lo w' p d2 L' 0/\Fr (Up lo fun _=>False) W3 w') (fun er' h w' hF=>by rw [pK.out] at h;cases h) (fun d' L' w' h hB' hF=>by rw [pK.out] at h;cases h;exact ⟨rfl,L',hB',hF⟩)).mono ?_;rintro e w4 hR;obtain ⟨rfl,L4,hB4,hF4⟩:=hR.out;obtain ⟨r0,r1,r2,r3,r4⟩:=QF3.out _ hF4;simp only [Nat.zero_add] at r0 r1 r2 r3 r4;clear hR)
 clear q0 q1 q2 q3 q4
 refine (kC lo p k ⟨(k:Int),g,st,false,body⟩ d2 L4 w4 X2 0 hB4 hx2 rfl (zQ5 hlo3 hF4.size) pe pl JO.out JQ.out (fun e w'=>e=.panicked (pan pe)/\Since w4 w') (fun h w' hS=>⟨rfl,hS⟩) (fun h=>absurd h Nv)).mono ?_
 rintro e w5 hR
 obtain ⟨rfl,hS5⟩:=hR.out
 dsimp only
 exact ⟨rfl,rfl,hUU.out _ (hF4.aD (hS5.up _ _))⟩
theorem vR (lo p q k:Nat) (g st:Int) (body:ByteArray) (d d1:Wd) (L:Lay) (w:World) (x:Nd) (hB:aY lo w p d L 0) (R:Right d) (hq:q < lo) (hMq:aZ w q 0 ⟨(k:Int),g,0,true,body⟩) (hqz:w.frozen? ⟨q,2,none⟩=false) (hx:d.nodes[k]? = some x) (hE:bQ d k g body.size=0) (hst:x.clock+1=st) (hd1:setNode d k { x with clock:=st }=d1) (hlo:lo<=w.heap.size) (d2:Wd) (hR1:dU d1) (hW1':∀ f t,(au d1 f t).length<=40) (hN:d1.nodes.length<=1000) (hk1:k < d1.nodes.length) (jq:fE ⟨(k:Int),g,st,true,body⟩ k d1 d1.nodes.length=.ok d2) (X2:Nd) (hx2:d2.nodes[k]? = some X2) (d3:Wd) (er:Int) (HD3:Hid (d2=d3)) (HTL:Hid (checked d3 (fV d3 (k:Int))=.error er)) (her:(er == 0)=false) :
  Calls prog 141 #[.pointer (some ⟨p,0,none⟩),.pointer (some ⟨q,0,none⟩)] w fun e w'=>e=.panicked (pan er)/\Fr (Up lo fun i=>i=q) w w':=by
 have pJ:=hMq
 have pK:=(show Hid _ from jq)
 have HR1:Hid (dU d1):=hR1
 have HW1:Hid (∀ f t,(au d1 f t).length<=40):=hW1'
 clear jq hR1 hW1'
 have hk:=bU hx
 have hpl:=hB.made.box.lt
 have uW:=hB.lop
 have hqw:q < w.heap.size:=by omega
 obtain ⟨bn,on,cn,hL1,hlb,hbn,hbk,hcn⟩:=hB.made.own.lies (ix:=(1,0,0)) ⟨rfl,rfl⟩ (by show 0 < d.nodes.length;omega)
 obtain ⟨k0,_,_,_,kz⟩:=hB.made.own.cells hx hL1
 have kz0:=kz 0 (by omega)
 rw [Nat.add_zero] at kz0
 have b1:=hB.made.box.c1
 rw [hL1] at b1
 dsimp only at b1
 have HL1:Hid (L (1,0,0)=⟨some ⟨bn,on,none⟩,cn⟩):=hL1
 have hcl:=R.clk k
 rw [(dD hx).1] at hcl
 have yC:¬ x.clock=1048576:=by
  intro e
  have hE':=hE
  unfold bQ at hE'
  rw [Int.toNat_natCast,(dD hx).1,e] at hE'
  split at hE';cases hE';split at hE';cases hE';split at hE';cases hE';simp at hE'
 have hst':IntKind.i64.wrap (x.clock+1)=st:=by rw [hst];exact IntWalk.i64_in _ (by omega)
 have n1:(k:Int) < (d.nodes.length:Int):=by omega
 have mO:=nU lo p ⟨(k:Int),g,0,true,body⟩ d L w 0 hB R
 dsimp only at mO
 obtain ⟨q0,q1,q2,q3,q4⟩:=hMq
 simp only [Nat.zero_add] at q0 q1 q2 q3 q4
 have HST:Hid (x.clock+1=st):=hst
 have HD1:Hid (setNode d k { x with clock:=st }=d1):=hd1
 have HE:Hid (bQ d k g body.size=0):=hE
 have hqo:¬ fU d L q:=fun hb=>by have:=(hB.made.own.blk hb).1;omega
 clear hL1 hst hd1 hE kz yC
 go_enter func141,ntmps141
 go_wp2_with (go_at_call 142;refine mO.mono ?_;rintro e w2 hR;obtain ⟨h1,_,hS2⟩:=hR.out;obtain rfl:=h1 HE.out;clear h1 hR)
 clear q0 q1 q2 q3 q4
 have QF:Hid (∀ y,Since w y->aZ y q 0 ⟨(k:Int),g,0,true,body⟩/\y.frozen? ⟨q,2,none⟩=false):=fun y hy=>⟨aB pJ hqw hy,(hy.below.frozen (p:=⟨q,2,none⟩) hqw).trans hqz⟩
 obtain ⟨S0,hS0⟩:∃ S0:World->Prop,∀ w',S0 w'↔Since w w':=⟨_,fun _=>Iff.rfl⟩
 have bS:=aH w
 have x1:∀ y:aj S0,y.w.cell? ⟨p,1,none⟩=some (.slice (some ⟨bn,on,none⟩) d.nodes.length cn):=fun y=>(((hS0 _).1 y.h).cellAt hpl _).trans b1
 have x2:∀ y:aj S0,y.w.cell? ⟨bn,on+k*4,none⟩=some (.int .i64 x.clock):=fun y=>(((hS0 _).1 y.h).cellAt hbn _).trans k0
 have m0:∀ y:aj S0,y.w.cell? ⟨q,0,none⟩=some (.int .i64 k):=fun y=>((QF.out _ ((hS0 _).1 y.h)).1).c0
 obtain ⟨W0,hW0⟩:∃ y,w2.drew=y:=⟨_,rfl⟩
 have hs0:Since w W0:=by rw [<-hW0];exact Since.drew hS2
 have ak:=(hS0 W0).2 hs0
 have hne:Nonempty (aj S0):=⟨⟨_,ak⟩⟩
 have y1:=x2 ⟨_,ak⟩
 have y2:=(hs0.below.frozen (p:=⟨bn,on+k*4,none⟩) hbn).trans kz0
 dsimp only at y1
 obtain ⟨W1,hW1⟩:∃ y,W0.setCell ⟨bn,on+k*4,none⟩ (.int .i64 st)=y:=⟨_,rfl⟩
 obtain ⟨hM1,fI⟩:=hB.made.rT hx HL1.out hs0 st
 rw [hW1,HD1.out] at hM1 fI
 have hB1:=hB.step hM1 fI
 have hU1:=fI.up hB.made.own (fun i=>i=q)
 have hQ1:W1.heap[q]? = w.heap[q]?:=(fI.beside hqw hqo).1
 have yD:=(fI.beside hqw hqo).2
 have hx1:d1.nodes[k]? = some { x with clock:=st }:=by rw [<-HD1.out,dB _ hx,if_pos rfl]
 have hn1:d1.nodes.length=d.nodes.length:=by rw [<-HD1.out];simp [setNode]
 refine aI (fun w'=>∃ x:aj S0,w'=x.w) (by kernel_rfl) ?_
 rw [hW0]
 clear hW0
 refine tW 0 rfl ?_;go_big_quiet_op
 refine tW 1 rfl ?_;go_big_quiet_op
 refine tW 2 rfl ?_;go_big_quiet_op
 refine tW 3 rfl ?_;go_big_quiet_op
 refine tM 4 rfl (ah ak) ?_;go_big_quiet_op
 refine tW 5 rfl ?_;go_big_quiet_op
 refine tM 6 rfl (ah ak) ?_;go_big_quiet_op
 refine tW 7 rfl ?_;go_big_quiet_op
 refine tW 8 rfl ?_;go_big_quiet_op
 refine tM 9 rfl (ah ak) ?_;go_big_quiet_op
 refine tW 10 rfl ?_;go_big_quiet_op
 refine tW 11 rfl ?_;go_big_quiet_op
 refine tW 12 rfl ?_;go_big_quiet_op
 refine aK 13 rfl (by kernel_rfl) ?_
 intro K hK
 go_simp
 refine hK _ _ (fun h=>absurd h (by decide +kernel)) ?_
 clear hK K
 refine aW (by kernel_rfl) ?_
 clear x1 x2 m0 hne y1 y2
 have hbW:bn < W1.heap.size:=zQ4 hbn fI.fr.size
 obtain ⟨k0',_,_,_,_⟩:=hB1.made.own.cells hx1 HL1.out
 have b1':=hB1.made.box.c1
 rw [HL1.out] at b1'
 dsimp only at b1' k0'
 have iE:q < W1.heap.size:=zQ4 hqw fI.fr.size
 have lI:aZ W1 q 0 ⟨(k:Int),g,0,true,body⟩:=bH pJ hQ1
 have yE:W1.frozen? ⟨q,2,none⟩=false:=(World.frozen?_of_block (a:=⟨q,2,none⟩) hQ1).trans hqz
 go_wp2_with fail
 obtain ⟨S2,iX⟩:∃ S0:World->Prop,∀ w',S0 w'↔Since W1 w':=⟨_,fun _=>Iff.rfl⟩
 have x1:∀ y:aj S2,y.w.cell? ⟨p,1,none⟩=some (.slice (some ⟨bn,on,none⟩) d1.nodes.length cn):=fun y=>(((iX _).1 y.h).cellAt hB1.made.box.lt _).trans b1'
 have x2:∀ y:aj S2,y.w.cell? ⟨bn,on+k*4,none⟩=some (.int .i64 st):=fun y=>(((iX _).1 y.h).cellAt hbW _).trans k0'
 have m0:∀ y:aj S2,y.w.cell? ⟨q,0,none⟩=some (.int .i64 k):=fun y=>(aB lI iE ((iX _).1 y.h)).c0
 obtain ⟨V0,hW0⟩:∃ y,W1.drew=y:=⟨_,rfl⟩
 have hv0:=aO hW0
 have ak:=(iX V0).2 hv0
 have hne:Nonempty (aj S2):=⟨⟨_,ak⟩⟩
 have n1':(k:Int) < (d1.nodes.length:Int):=by omega
 have z1:=(aB lI iE hv0).c2
 have z2:=(hv0.below.frozen (p:=⟨q,2,none⟩) iE).trans yE
 dsimp only [Nat.zero_add] at z1
 simp only [Nat.zero_add] at z1
 obtain ⟨W3,hW3⟩:∃ y,V0.setCell ⟨q,2,none⟩ (.int .i64 st)=y:=⟨_,rfl⟩
 have hF3:Fr (fun i=>i=q) V0 W3:=by rw [<-hW3];exact (Fr.refl (fun i=>i=q) V0).setCell ⟨q,2,none⟩ _ (fun _=>rfl)
 have hB3:=(hB1.since hv0).fr hF3 (fun b hb e=>yD (e ▸ hb)) (by omega)
 have pO:aZ W3 q 0 ⟨(k:Int),g,st,true,body⟩:=by
  have hm:=aB lI iE hv0
  obtain ⟨a0,a1,a2,a3,a4⟩:=hm
  rw [<-hW3]
  exact ⟨(bB _ _ _ (by decide)).trans a0,(bB _ _ _ (by decide)).trans a1,jD _ _ _ _ a2,(bB _ _ _ (by decide)).trans a3,(bB _ _ _ (by decide)).trans a4⟩
 have rV:q < W3.heap.size:=zQ4 iE (zQ5 hv0.size hF3.size)
 have hU3:Fr (Up lo fun i=>i=q) w W3:=(hU1.aD (hv0.up _ _)).aD (hF3.mono (fun i _ e=>.inr e))
 have hlo3:lo<=W3.heap.size:=zQ5 hlo hU3.size
 refine aI (fun w'=>∃ x:aj S2,w'=x.w) (by kernel_rfl) ?_
 rw [hW0]
 clear hW0
 refine tW 0 rfl ?_;go_big_quiet_op
 refine tW 1 rfl ?_;go_big_quiet_op
 refine tW 2 rfl ?_;go_big_quiet_op
 refine tW 3 rfl ?_;go_big_quiet_op
 refine tM 4 rfl (ah ak) ?_;go_big_quiet_op
 refine tW 5 rfl ?_;go_big_quiet_op
 refine tM 6 rfl (ah ak) ?_;go_big_quiet_op
 refine tW 7 rfl ?_;go_big_quiet_op
 refine tW 8 rfl ?_;go_big_quiet_op
 refine tM 9 rfl (ah ak) ?_;go_big_quiet_op
 refine tW 10 rfl ?_;go_big_quiet_op
 refine aK 11 rfl (by kernel_rfl) ?_
 intro K hK
 go_simp
 refine hK _ _ (fun h=>absurd h (by decide +kernel)) ?_
 clear hK K
 refine aW (by kernel_rfl) ?_
 clear x1 x2 m0 hne bS z1 z2 b1' k0' hW3
 have QF3:Hid (∀ y,Fr (Up lo fun _=>False) W3 y->aZ y q 0 ⟨(k:Int),g,st,true,body⟩):=fun y hy=>bH pO (hy.block q rV (by rintro (h | h);exact h hq;exact h))
 obtain ⟨q0,q1,q2,q3,q4⟩:=pO
 simp only [Nat.zero_add] at q0 q1 q2 q3 q4
 have hUU:Hid (∀ y,Fr (Up lo fun _=>False) W3 y->Fr (Up lo fun i=>i=q) w y):=fun y hy=>hU3.aD (hy.mono (fun i _ h=>by rcases h with h | h;exact .inl h;exact h.elim))
 go_wp2_with (go_at_call 143;refine (nC lo p k g st true body d1 L W3 0 hB3 HR1.out hk1 (by omega) HW1.out hlo3 (fun e w'=>e=.returned (.tuple #[])/\∃ L',aY lo w' p d2 L' 0/\Fr (Up lo fun _=>False) W3 w') (fun er' h w' hF=>by rw [pK.out] at h;cases h) (fun d' L' w' h hB' hF=>by rw [pK.out] at h;cases h;exact ⟨rfl,L',hB',hF⟩)).mono ?_;rintro e w4 hR;obtain ⟨rfl,L4,hB4,hF4⟩:=hR.out;obtain ⟨r0,r1,r2,r3,r4⟩:=QF3.out _ hF4;simp only [Nat.zero_add] at r0 r1 r2 r3 r4;clear hR)
 clear q0 q1 q2 q3 q4
 refine (nV lo p k ⟨(k:Int),g,st,true,body⟩ d2 L4 w4 X2 0 hB4 hx2 rfl).mono ?_
 rintro e w5 ⟨rfl,hS5⟩
 have hB5:=hB4.since hS5
 have hF5:=hF4.aD (hS5.up lo (fun _=>False))
 have L5:=L4
 obtain ⟨L5,hB5⟩:∃ L5,aY lo w5 p d3 L5 0:=⟨L4,by rw [<-HD3.out];exact hB5⟩
 dsimp only
 clear r0 r1 r2 r3 r4
 have lJ:=hB5.made.box.lt
 have b0:=hB5.made.box.c0
 have b1:=hB5.made.box.c1
 have b2:=hB5.made.box.c2
 have EG:=QF3.out _ hF5
 have EH:q < w5.heap.size:=zQ4 rV hF5.size
 obtain ⟨S5,lK⟩:∃ S0:World->Prop,∀ w',S0 w'↔Since w5 w':=⟨_,fun _=>Iff.rfl⟩
 have bS:=aH w
 have x0:∀ y:aj S5,y.w.cell? ⟨p,0,none⟩=some (.slice (L5 (0,0,0)).a d3.groups.length (L5 (0,0,0)).cap):=fun y=>(((lK _).1 y.h).cellAt lJ _).trans b0
 have x1:∀ y:aj S5,y.w.cell? ⟨p,1,none⟩=some (.slice (L5 (1,0,0)).a d3.nodes.length (L5 (1,0,0)).cap):=fun y=>(((lK _).1 y.h).cellAt lJ _).trans b1
 have x2:∀ y:aj S5,y.w.cell? ⟨p,2,none⟩=some (.slice (L5 (2,0,0)).a d3.wires.length (L5 (2,0,0)).cap):=fun y=>(((lK _).1 y.h).cellAt lJ _).trans b2
 have m0:∀ y:aj S5,y.w.cell? ⟨q,0,none⟩=some (.int .i64 k):=fun y=>(aB EG EH ((lK _).1 y.h)).c0
 go_wp2_with fail
 obtain ⟨U0,hW0⟩:∃ y,w5.drew=y:=⟨_,rfl⟩
 have hu0:=aO hW0
 have ak:=(lK U0).2 hu0
 have hne:Nonempty (aj S5):=⟨⟨_,ak⟩⟩
 have hTN:=iR (gK L5 d3) d3 k U0 (hB5.made.own.since hu0).wat
 unfold gK at hTN
 rw [HTL.out] at hTN
 dsimp only at hTN
 refine aI (fun w'=>∃ x:aj S5,w'=x.w) (by kernel_rfl) ?_
 rw [hW0]
 clear hW0
 refine tW 0 rfl ?_;go_big_quiet_op
 refine tW 1 rfl ?_;go_big_quiet_op
 refine tW 2 rfl ?_;go_big_quiet_op
 refine tW 3 rfl ?_;go_big_quiet_op
 refine tM 4 rfl (ah ak) ?_;go_big_quiet_op
 refine tW 5 rfl ?_;go_big_quiet_op
 refine tM 6 rfl (ah ak) ?_;go_big_quiet_op
 refine aK 7 rfl (by kernel_rfl) ?_
 intro K hK
 go_simp
 refine hTN.mono ?_
 rintro e wT hR
 obtain ⟨rfl,hFT⟩:=hR.out.1 er rfl
 have hST:=hFT.none
 dsimp only
 refine hK _ _ (fun h=>absurd h (by decide +kernel)) ?_
 clear hK K
 refine tW 8 rfl ?_;go_big_quiet_op
 refine tW 9 rfl ?_;go_big_quiet_op
 refine tW 10 rfl ?_;go_big_quiet_op
 refine aK 11 rfl (by kernel_rfl) ?_
 intro K hK
 go_simp
 refine (jX p ⟨none,0,0,none,0,0,none,0,0⟩ 0 er her wT).mono ?_
 rintro e w' ⟨rfl,hS9⟩
 dsimp only
 exact ⟨rfl,rfl,hUU.out _ (hF5.aD (((hu0.trans hST).trans hS9).up _ _))⟩
theorem yF (lo p q k:Nat) (g st:Int) (body:ByteArray) (d d1:Wd) (L:Lay) (w:World) (x:Nd) (hB:aY lo w p d L 0) (R:Right d) (hq:q < lo) (hMq:aZ w q 0 ⟨(k:Int),g,0,false,body⟩) (hqz:w.frozen? ⟨q,2,none⟩=false) (hx:d.nodes[k]? = some x) (hE:bQ d k g body.size=0) (hst:x.clock+1=st) (hd1:setNode d k { x with clock:=st }=d1) (hlo:lo<=w.heap.size) (d2:Wd) (hR1:dU d1) (hW1':∀ f t,(au d1 f t).length<=40) (hN:d1.nodes.length<=1000) (hk1:k < d1.nodes.length) (jq:fE ⟨(k:Int),g,st,false,body⟩ k d1 d1.nodes.length=.ok d2) (X2:Nd) (hx2:d2.nodes[k]? = some X2) (pl:List Mg) (JO:Hid (fA ⟨(k:Int),g,st,false,body⟩ X2.held=0)) (JQ:Hid (iJ ⟨(k:Int),g,st,false,body⟩ X2.held=pl)) (d3:Wd) (er:Int) (HD3:Hid (setNode d2 k { X2 with held:=pl }=d3)) (HTL:Hid (checked d3 (fV d3 (k:Int))=.error er)) (her:(er == 0)=false) :
  Calls prog 141 #[.pointer (some ⟨p,0,none⟩),.pointer (some ⟨q,0,none⟩)] w fun e w'=>e=.panicked (pan er)/\Fr (Up lo fun i=>i=q) w w':=by
 have pJ:=hMq
 have pK:=(show Hid _ from jq)
 have HR1:Hid (dU d1):=hR1
 have HW1:Hid (∀ f t,(au d1 f t).length<=40):=hW1'
 clear jq hR1 hW1'
 have hk:=bU hx
 have hpl:=hB.made.box.lt
 have uW:=hB.lop
 have hqw:q < w.heap.size:=by omega
 obtain ⟨bn,on,cn,hL1,hlb,hbn,hbk,hcn⟩:=hB.made.own.lies (ix:=(1,0,0)) ⟨rfl,rfl⟩ (by show 0 < d.nodes.length;omega)
 obtain ⟨k0,_,_,_,kz⟩:=hB.made.own.cells hx hL1
 have kz0:=kz 0 (by omega)
 rw [Nat.add_zero] at kz0
 have b1:=hB.made.box.c1
 rw [hL1] at b1
 dsimp only at b1
 have HL1:Hid (L (1,0,0)=⟨some ⟨bn,on,none⟩,cn⟩):=hL1
 have hcl:=R.clk k
 rw [(dD hx).1] at hcl
 have yC:¬ x.clock=1048576:=by
  intro e
  have hE':=hE
  unfold bQ at hE'
  rw [Int.toNat_natCast,(dD hx).1,e] at hE'
  split at hE';cases hE';split at hE';cases hE';split at hE';cases hE';simp at hE'
 have hst':IntKind.i64.wrap (x.clock+1)=st:=by rw [hst];exact IntWalk.i64_in _ (by omega)
 have n1:(k:Int) < (d.nodes.length:Int):=by omega
 have mO:=nU lo p ⟨(k:Int),g,0,false,body⟩ d L w 0 hB R
 dsimp only at mO
 obtain ⟨q0,q1,q2,q3,q4⟩:=hMq
 simp only [Nat.zero_add] at q0 q1 q2 q3 q4
 have HST:Hid (x.clock+1=st):=hst
 have HD1:Hid (setNode d k { x with clock:=st }=d1):=hd1
 have HE:Hid (bQ d k g body.size=0):=hE
 have hqo:¬ fU d L q:=fun hb=>by have:=(hB.made.own.blk hb).1;omega
 clear hL1 hst hd1 hE kz yC
 go_enter func141,ntmps141
 go_wp2_with (go_at_call 142;refine mO.mono ?_;rintro e w2 hR;obtain ⟨h1,_,hS2⟩:=hR.out;obtain rfl:=h1 HE.out;clear h1 hR)
 clear q0 q1 q2 q3 q4
 have QF:Hid (∀ y,Since w y->aZ y q 0 ⟨(k:Int),g,0,false,body⟩/\y.frozen? ⟨q,2,none⟩=false):=fun y hy=>⟨aB pJ hqw hy,(hy.below.frozen (p:=⟨q,2,none⟩) hqw).trans hqz⟩
 obtain ⟨S0,hS0⟩:∃ S0:World->Prop,∀ w',S0 w'↔Since w w':=⟨_,fun _=>Iff.rfl⟩
 have bS:=aH w
 have x1:∀ y:aj S0,y.w.cell? ⟨p,1,none⟩=some (.slice (some ⟨bn,on,none⟩) d.nodes.length cn):=fun y=>(((hS0 _).1 y.h).cellAt hpl _).trans b1
 have x2:∀ y:aj S0,y.w.cell? ⟨bn,on+k*4,none⟩=some (.int .i64 x.clock):=fun y=>(((hS0 _).1 y.h).cellAt hbn _).trans k0
 have m0:∀ y:aj S0,y.w.cell? ⟨q,0,none⟩=some (.int .i64 k):=fun y=>((QF.out _ ((hS0 _).1 y.h)).1).c0
 obtain ⟨W0,hW0⟩:∃ y,w2.drew=y:=⟨_,rfl⟩
 have hs0:Since w W0:=by rw [<-hW0];exact Since.drew hS2
 have ak:=(hS0 W0).2 hs0
 have hne:Nonempty (aj S0):=⟨⟨_,ak⟩⟩
 have y1:=x2 ⟨_,ak⟩
 have y2:=(hs0.below.frozen (p:=⟨bn,on+k*4,none⟩) hbn).trans kz0
 dsimp only at y1
 obtain ⟨W1,hW1⟩:∃ y,W0.setCell ⟨bn,on+k*4,none⟩ (.int .i64 st)=y:=⟨_,rfl⟩
 obtain ⟨hM1,fI⟩:=hB.made.rT hx HL1.out hs0 st
 rw [hW1,HD1.out] at hM1 fI
 have hB1:=hB.step hM1 fI
 have hU1:=fI.up hB.made.own (fun i=>i=q)
 have hQ1:W1.heap[q]? = w.heap[q]?:=(fI.beside hqw hqo).1
 have yD:=(fI.beside hqw hqo).2
 have hx1:d1.nodes[k]? = some { x with clock:=st }:=by rw [<-HD1.out,dB _ hx,if_pos rfl]
 have hn1:d1.nodes.length=d.nodes.length:=by rw [<-HD1.out];simp [setNode]
 refine aI (fun w'=>∃ x:aj S0,w'=x.w) (by kernel_rfl) ?_
 rw [hW0]
 clear hW0
 refine tW 0 rfl ?_;go_big_quiet_op
 refine tW 1 rfl ?_;go_big_quiet_op
 refine tW 2 rfl ?_;go_big_quiet_op
 refine tW 3 rfl ?_;go_big_quiet_op
 refine tM 4 rfl (ah ak) ?_;go_big_quiet_op
 refine tW 5 rfl ?_;go_big_quiet_op
 refine tM 6 rfl (ah ak) ?_;go_big_quiet_op
 refine tW 7 rfl ?_;go_big_quiet_op
 refine tW 8 rfl ?_;go_big_quiet_op
 refine tM 9 rfl (ah ak) ?_;go_big_quiet_op
 refine tW 10 rfl ?_;go_big_quiet_op
 refine tW 11 rfl ?_;go_big_quiet_op
 refine tW 12 rfl ?_;go_big_quiet_op
 refine aK 13 rfl (by kernel_rfl) ?_
 intro K hK
 go_simp
 refine hK _ _ (fun h=>absurd h (by decide +kernel)) ?_
 clear hK K
 refine aW (by kernel_rfl) ?_
 clear x1 x2 m0 hne y1 y2
 have hbW:bn < W1.heap.size:=zQ4 hbn fI.fr.size
 obtain ⟨k0',_,_,_,_⟩:=hB1.made.own.cells hx1 HL1.out
 have b1':=hB1.made.box.c1
 rw [HL1.out] at b1'
 dsimp only at b1' k0'
 have iE:q < W1.heap.size:=zQ4 hqw fI.fr.size
 have lI:aZ W1 q 0 ⟨(k:Int),g,0,false,body⟩:=bH pJ hQ1
 have yE:W1.frozen? ⟨q,2,none⟩=false:=(World.frozen?_of_block (a:=⟨q,2,none⟩) hQ1).trans hqz
 go_wp2_with fail
 obtain ⟨S2,iX⟩:∃ S0:World->Prop,∀ w',S0 w'↔Since W1 w':=⟨_,fun _=>Iff.rfl⟩
 have x1:∀ y:aj S2,y.w.cell? ⟨p,1,none⟩=some (.slice (some ⟨bn,on,none⟩) d1.nodes.length cn):=fun y=>(((iX _).1 y.h).cellAt hB1.made.box.lt _).trans b1'
 have x2:∀ y:aj S2,y.w.cell? ⟨bn,on+k*4,none⟩=some (.int .i64 st):=fun y=>(((iX _).1 y.h).cellAt hbW _).trans k0'
 have m0:∀ y:aj S2,y.w.cell? ⟨q,0,none⟩=some (.int .i64 k):=fun y=>(aB lI iE ((iX _).1 y.h)).c0
 obtain ⟨V0,hW0⟩:∃ y,W1.drew=y:=⟨_,rfl⟩
 have hv0:=aO hW0
 have ak:=(iX V0).2 hv0
 have hne:Nonempty (aj S2):=⟨⟨_,ak⟩⟩
 have n1':(k:Int) < (d1.nodes.length:Int):=by omega
 have z1:=(aB lI iE hv0).c2
 have z2:=(hv0.below.frozen (p:=⟨q,2,none⟩) iE).trans yE
 dsimp only [Nat.zero_add] at z1
 simp only [Nat.zero_add] at z1
 obtain ⟨W3,hW3⟩:∃ y,V0.setCell ⟨q,2,none⟩ (.int .i64 st)=y:=⟨_,rfl⟩
 have hF3:Fr (fun i=>i=q) V0 W3:=by rw [<-hW3];exact (Fr.refl (fun i=>i=q) V0).setCell ⟨q,2,none⟩ _ (fun _=>rfl)
 have hB3:=(hB1.since hv0).fr hF3 (fun b hb e=>yD (e ▸ hb)) (by omega)
 have pO:aZ W3 q 0 ⟨(k:Int),g,st,false,body⟩:=by
  have hm:=aB lI iE hv0
  obtain ⟨a0,a1,a2,a3,a4⟩:=hm
  rw [<-hW3]
  exact ⟨(bB _ _ _ (by decide)).trans a0,(bB _ _ _ (by decide)).trans a1,jD _ _ _ _ a2,(bB _ _ _ (by decide)).trans a3,(bB _ _ _ (by decide)).trans a4⟩
 have rV:q < W3.heap.size:=zQ4 iE (zQ5 hv0.size hF3.size)
 have hU3:Fr (Up lo fun i=>i=q) w W3:=(hU1.aD (hv0.up _ _)).aD (hF3.mono (fun i _ e=>.inr e))
 have hlo3:lo<=W3.heap.size:=zQ5 hlo hU3.size
 refine aI (fun w'=>∃ x:aj S2,w'=x.w) (by kernel_rfl) ?_
 rw [hW0]
 clear hW0
 refine tW 0 rfl ?_;go_big_quiet_op
 refine tW 1 rfl ?_;go_big_quiet_op
 refine tW 2 rfl ?_;go_big_quiet_op
 refine tW 3 rfl ?_;go_big_quiet_op
 refine tM 4 rfl (ah ak) ?_;go_big_quiet_op
 refine tW 5 rfl ?_;go_big_quiet_op
 refine tM 6 rfl (ah ak) ?_;go_big_quiet_op
 refine tW 7 rfl ?_;go_big_quiet_op
 refine tW 8 rfl ?_;go_big_quiet_op
 refine tM 9 rfl (ah ak) ?_;go_big_quiet_op
 refine tW 10 rfl ?_;go_big_quiet_op
 refine aK 11 rfl (by kernel_rfl) ?_
 intro K hK
 go_simp
 refine hK _ _ (fun h=>absurd h (by decide +kernel)) ?_
 clear hK K
 refine aW (by kernel_rfl) ?_
 clear x1 x2 m0 hne bS z1 z2 b1' k0' hW3
 have QF3:Hid (∀ y,Fr (Up lo fun _=>False) W3 y->aZ y q 0 ⟨(k:Int),g,st,false,body⟩):=fun y hy=>bH pO (hy.block q rV (by rintro (h | h);exact h hq;exact h))
 obtain ⟨q0,q1,q2,q3,q4⟩:=pO
 simp only [Nat.zero_add] at q0 q1 q2 q3 q4
 have hUU:Hid (∀ y,Fr (Up lo fun _=>False) W3 y->Fr (Up lo fun i=>i=q) w y):=fun y hy=>hU3.aD (hy.mono (fun i _ h=>by rcases h with h | h;exact .inl h;exact h.elim))
 go_wp2_with (go_at_call 143;refine (nC lo p k g st false body d1 L W3 0 hB3 HR1.out hk1 (by omega) HW1.out hlo3 (fun e w'=>e=.returned (.tuple #[])/\∃ L',aY lo w' p d2 L' 0/\Fr (Up lo fun _=>False) W3 w') (fun er' h w' hF=>by rw [pK.out] at h;cases h) (fun d' L' w' h hB' hF=>by rw [pK.out] at h;cases h;exact ⟨rfl,L',hB',hF⟩)).mono ?_;rintro e w4 hR;obtain ⟨rfl,L4,hB4,hF4⟩:=hR.out;obtain ⟨r0,r1,r2,r3,r4⟩:=QF3.out _ hF4;simp only [Nat.zero_add] at r0 r1 r2 r3 r4;clear hR)
 clear q0 q1 q2 q3 q4
 refine (kC lo p k ⟨(k:Int),g,st,false,body⟩ d2 L4 w4 X2 0 hB4 hx2 rfl (zQ5 hlo3 hF4.size) 0 pl JO.out JQ.out (fun e w'=>e=.returned (.tuple #[])/\∃ L',aY lo w' p (setNode d2 k { X2 with held:=pl }) L' 0/\Fr (Up lo fun _=>False) w4 w') (fun h=>absurd rfl h) (fun _ w' L' hB' hF=>⟨rfl,L',hB',hF⟩)).mono ?_
 rintro e w5 hR
 obtain ⟨rfl,L5,hB5,Nw⟩:=hR.out
 have hF5:=hF4.aD Nw
 rw [HD3.out] at hB5
 clear hR
 dsimp only
 clear r0 r1 r2 r3 r4
 have lJ:=hB5.made.box.lt
 have b0:=hB5.made.box.c0
 have b1:=hB5.made.box.c1
 have b2:=hB5.made.box.c2
 have EG:=QF3.out _ hF5
 have EH:q < w5.heap.size:=zQ4 rV hF5.size
 obtain ⟨S5,lK⟩:∃ S0:World->Prop,∀ w',S0 w'↔Since w5 w':=⟨_,fun _=>Iff.rfl⟩
 have bS:=aH w
 have x0:∀ y:aj S5,y.w.cell? ⟨p,0,none⟩=some (.slice (L5 (0,0,0)).a d3.groups.length (L5 (0,0,0)).cap):=fun y=>(((lK _).1 y.h).cellAt lJ _).trans b0
 have x1:∀ y:aj S5,y.w.cell? ⟨p,1,none⟩=some (.slice (L5 (1,0,0)).a d3.nodes.length (L5 (1,0,0)).cap):=fun y=>(((lK _).1 y.h).cellAt lJ _).trans b1
 have x2:∀ y:aj S5,y.w.cell? ⟨p,2,none⟩=some (.slice (L5 (2,0,0)).a d3.wires.length (L5 (2,0,0)).cap):=fun y=>(((lK _).1 y.h).cellAt lJ _).trans b2
 have m0:∀ y:aj S5,y.w.cell? ⟨q,0,none⟩=some (.int .i64 k):=fun y=>(aB EG EH ((lK _).1 y.h)).c0
 go_wp2_with fail
 obtain ⟨U0,hW0⟩:∃ y,w5.drew=y:=⟨_,rfl⟩
 have hu0:=aO hW0
 have ak:=(lK U0).2 hu0
 have hne:Nonempty (aj S5):=⟨⟨_,ak⟩⟩
 have hTN:=iR (gK L5 d3) d3 k U0 (hB5.made.own.since hu0).wat
 unfold gK at hTN
 rw [HTL.out] at hTN
 dsimp only at hTN
 refine aI (fun w'=>∃ x:aj S5,w'=x.w) (by kernel_rfl) ?_
 rw [hW0]
 clear hW0
 refine tW 0 rfl ?_;go_big_quiet_op
 refine tW 1 rfl ?_;go_big_quiet_op
 refine tW 2 rfl ?_;go_big_quiet_op
 refine tW 3 rfl ?_;go_big_quiet_op
 refine tM 4 rfl (ah ak) ?_;go_big_quiet_op
 refine tW 5 rfl ?_;go_big_quiet_op
 refine tM 6 rfl (ah ak) ?_;go_big_quiet_op
 refine aK 7 rfl (by kernel_rfl) ?_
 intro K hK
 go_simp
 refine hTN.mono ?_
 rintro e wT hR
 obtain ⟨rfl,hFT⟩:=hR.out.1 er rfl
 have hST:=hFT.none
 dsimp only
 refine hK _ _ (fun h=>absurd h (by decide +kernel)) ?_
 clear hK K
 refine tW 8 rfl ?_;go_big_quiet_op
 refine tW 9 rfl ?_;go_big_quiet_op
 refine tW 10 rfl ?_;go_big_quiet_op
 refine aK 11 rfl (by kernel_rfl) ?_
 intro K hK
 go_simp
 refine (jX p ⟨none,0,0,none,0,0,none,0,0⟩ 0 er her wT).mono ?_
 rintro e w' ⟨rfl,hS9⟩
 dsimp only
 exact ⟨rfl,rfl,hUU.out _ (hF5.aD (((hu0.trans hST).trans hS9).up _ _))⟩
theorem yG (lo p q k:Nat) (g st:Int) (body:ByteArray) (d d1:Wd) (L:Lay) (w:World) (x:Nd) (hB:aY lo w p d L 0) (R:Right d) (hq:q < lo) (hMq:aZ w q 0 ⟨(k:Int),g,0,true,body⟩) (hqz:w.frozen? ⟨q,2,none⟩=false) (hx:d.nodes[k]? = some x) (hE:bQ d k g body.size=0) (hst:x.clock+1=st) (hd1:setNode d k { x with clock:=st }=d1) (hlo:lo<=w.heap.size) (d2:Wd) (hR1:dU d1) (hW1':∀ f t,(au d1 f t).length<=40) (hN:d1.nodes.length<=1000) (hk1:k < d1.nodes.length) (jq:fE ⟨(k:Int),g,st,true,body⟩ k d1 d1.nodes.length=.ok d2) (X2:Nd) (hx2:d2.nodes[k]? = some X2) (d3 d4:Wd) (mm:Int) (HD3:Hid (d2=d3)) (HTL:Hid (checked d3 (fV d3 (k:Int))=.ok (d4,mm))) (hmm:0<=mm/\mm<=100000) :
  Calls prog 141 #[.pointer (some ⟨p,0,none⟩),.pointer (some ⟨q,0,none⟩)] w fun e w'=>e=.returned (.tuple #[])/\∃ L',aY lo w' p d4 L' mm/\Fr (Up lo fun i=>i=q) w w':=by
 have pJ:=hMq
 have pK:=(show Hid _ from jq)
 have HR1:Hid (dU d1):=hR1
 have HW1:Hid (∀ f t,(au d1 f t).length<=40):=hW1'
 clear jq hR1 hW1'
 have hk:=bU hx
 have hpl:=hB.made.box.lt
 have uW:=hB.lop
 have hqw:q < w.heap.size:=by omega
 obtain ⟨bn,on,cn,hL1,hlb,hbn,hbk,hcn⟩:=hB.made.own.lies (ix:=(1,0,0)) ⟨rfl,rfl⟩ (by show 0 < d.nodes.length;omega)
 obtain ⟨k0,_,_,_,kz⟩:=hB.made.own.cells hx hL1
 have kz0:=kz 0 (by omega)
 rw [Nat.add_zero] at kz0
 have b1:=hB.made.box.c1
 rw [hL1] at b1
 dsimp only at b1
 have HL1:Hid (L (1,0,0)=⟨some ⟨bn,on,none⟩,cn⟩):=hL1
 have hcl:=R.clk k
 rw [(dD hx).1] at hcl
 have yC:¬ x.clock=1048576:=by
  intro e
  have hE':=hE
  unfold bQ at hE'
  rw [Int.toNat_natCast,(dD hx).1,e] at hE'
  split at hE';cases hE';split at hE';cases hE';split at hE';cases hE';simp at hE'
 have hst':IntKind.i64.wrap (x.clock+1)=st:=by rw [hst];exact IntWalk.i64_in _ (by omega)
 have n1:(k:Int) < (d.nodes.length:Int):=by omega
 have mO:=nU lo p ⟨(k:Int),g,0,true,body⟩ d L w 0 hB R
 dsimp only at mO
 obtain ⟨q0,q1,q2,q3,q4⟩:=hMq
 simp only [Nat.zero_add] at q0 q1 q2 q3 q4
 have HST:Hid (x.clock+1=st):=hst
 have HD1:Hid (setNode d k { x with clock:=st }=d1):=hd1
 have HE:Hid (bQ d k g body.size=0):=hE
 have hqo:¬ fU d L q:=fun hb=>by have:=(hB.made.own.blk hb).1;omega
 clear hL1 hst hd1 hE kz yC
 go_enter func141,ntmps141
 go_wp2_with (go_at_call 142;refine mO.mono ?_;rintro e w2 hR;obtain ⟨h1,_,hS2⟩:=hR.out;obtain rfl:=h1 HE.out;clear h1 hR)
 clear q0 q1 q2 q3 q4
 have QF:Hid (∀ y,Since w y->aZ y q 0 ⟨(k:Int),g,0,true,body⟩/\y.frozen? ⟨q,2,none⟩=false):=fun y hy=>⟨aB pJ hqw hy,(hy.below.frozen (p:=⟨q,2,none⟩) hqw).trans hqz⟩
 obtain ⟨S0,hS0⟩:∃ S0:World->Prop,∀ w',S0 w'↔Since w w':=⟨_,fun _=>Iff.rfl⟩
 have bS:=aH w
 have x1:∀ y:aj S0,y.w.cell? ⟨p,1,none⟩=some (.slice (some ⟨bn,on,none⟩) d.nodes.length cn):=fun y=>(((hS0 _).1 y.h).cellAt hpl _).trans b1
 have x2:∀ y:aj S0,y.w.cell? ⟨bn,on+k*4,none⟩=some (.int .i64 x.clock):=fun y=>(((hS0 _).1 y.h).cellAt hbn _).trans k0
 have m0:∀ y:aj S0,y.w.cell? ⟨q,0,none⟩=some (.int .i64 k):=fun y=>((QF.out _ ((hS0 _).1 y.h)).1).c0
 obtain ⟨W0,hW0⟩:∃ y,w2.drew=y:=⟨_,rfl⟩
 have hs0:Since w W0:=by rw [<-hW0];exact Since.drew hS2
 have ak:=(hS0 W0).2 hs0
 have hne:Nonempty (aj S0):=⟨⟨_,ak⟩⟩
 have y1:=x2 ⟨_,ak⟩
 have y2:=(hs0.below.frozen (p:=⟨bn,on+k*4,none⟩) hbn).trans kz0
 dsimp only at y1
 obtain ⟨W1,hW1⟩:∃ y,W0.setCell ⟨bn,on+k*4,none⟩ (.int .i64 st)=y:=⟨_,rfl⟩
 obtain ⟨hM1,fI⟩:=hB.made.rT hx HL1.out hs0 st
 rw [hW1,HD1.out] at hM1 fI
 have hB1:=hB.step hM1 fI
 have hU1:=fI.up hB.made.own (fun i=>i=q)
 have hQ1:W1.heap[q]? = w.heap[q]?:=(fI.beside hqw hqo).1
 have yD:=(fI.beside hqw hqo).2
 have hx1:d1.nodes[k]? = some { x with clock:=st }:=by rw [<-HD1.out,dB _ hx,if_pos rfl]
 have hn1:d1.nodes.length=d.nodes.length:=by rw [<-HD1.out];simp [setNode]
 refine aI (fun w'=>∃ x:aj S0,w'=x.w) (by kernel_rfl) ?_
 rw [hW0]
 clear hW0
 refine tW 0 rfl ?_;go_big_quiet_op
 refine tW 1 rfl ?_;go_big_quiet_op
 refine tW 2 rfl ?_;go_big_quiet_op
 refine tW 3 rfl ?_;go_big_quiet_op
 refine tM 4 rfl (ah ak) ?_;go_big_quiet_op
 refine tW 5 rfl ?_;go_big_quiet_op
 refine tM 6 rfl (ah ak) ?_;go_big_quiet_op
 refine tW 7 rfl ?_;go_big_quiet_op
 refine tW 8 rfl ?_;go_big_quiet_op
 refine tM 9 rfl (ah ak) ?_;go_big_quiet_op
 refine tW 10 rfl ?_;go_big_quiet_op
 refine tW 11 rfl ?_;go_big_quiet_op
 refine tW 12 rfl ?_;go_big_quiet_op
 refine aK 13 rfl (by kernel_rfl) ?_
 intro K hK
 go_simp
 refine hK _ _ (fun h=>absurd h (by decide +kernel)) ?_
 clear hK K
 refine aW (by kernel_rfl) ?_
 clear x1 x2 m0 hne y1 y2
 have hbW:bn < W1.heap.size:=zQ4 hbn fI.fr.size
 obtain ⟨k0',_,_,_,_⟩:=hB1.made.own.cells hx1 HL1.out
 have b1':=hB1.made.box.c1
 rw [HL1.out] at b1'
 dsimp only at b1' k0'
 have iE:q < W1.heap.size:=zQ4 hqw fI.fr.size
 have lI:aZ W1 q 0 ⟨(k:Int),g,0,true,body⟩:=bH pJ hQ1
 have yE:W1.frozen? ⟨q,2,none⟩=false:=(World.frozen?_of_block (a:=⟨q,2,none⟩) hQ1).trans hqz
 go_wp2_with fail
 obtain ⟨S2,iX⟩:∃ S0:World->Prop,∀ w',S0 w'↔Since W1 w':=⟨_,fun _=>Iff.rfl⟩
 have x1:∀ y:aj S2,y.w.cell? ⟨p,1,none⟩=some (.slice (some ⟨bn,on,none⟩) d1.nodes.length cn):=fun y=>(((iX _).1 y.h).cellAt hB1.made.box.lt _).trans b1'
 have x2:∀ y:aj S2,y.w.cell? ⟨bn,on+k*4,none⟩=some (.int .i64 st):=fun y=>(((iX _).1 y.h).cellAt hbW _).trans k0'
 have m0:∀ y:aj S2,y.w.cell? ⟨q,0,none⟩=some (.int .i64 k):=fun y=>(aB lI iE ((iX _).1 y.h)).c0
 obtain ⟨V0,hW0⟩:∃ y,W1.drew=y:=⟨_,rfl⟩
 have hv0:=aO hW0
 have ak:=(iX V0).2 hv0
 have hne:Nonempty (aj S2):=⟨⟨_,ak⟩⟩
 have n1':(k:Int) < (d1.nodes.length:Int):=by omega
 have z1:=(aB lI iE hv0).c2
 have z2:=(hv0.below.frozen (p:=⟨q,2,none⟩) iE).trans yE
 dsimp only [Nat.zero_add] at z1
 simp only [Nat.zero_add] at z1
 obtain ⟨W3,hW3⟩:∃ y,V0.setCell ⟨q,2,none⟩ (.int .i64 st)=y:=⟨_,rfl⟩
 have hF3:Fr (fun i=>i=q) V0 W3:=by rw [<-hW3];exact (Fr.refl (fun i=>i=q) V0).setCell ⟨q,2,none⟩ _ (fun _=>rfl)
 have hB3:=(hB1.since hv0).fr hF3 (fun b hb e=>yD (e ▸ hb)) (by omega)
 have pO:aZ W3 q 0 ⟨(k:Int),g,st,true,body⟩:=by
  have hm:=aB lI iE hv0
  obtain ⟨a0,a1,a2,a3,a4⟩:=hm
  rw [<-hW3]
  exact ⟨(bB _ _ _ (by decide)).trans a0,(bB _ _ _ (by decide)).trans a1,jD _ _ _ _ a2,(bB _ _ _ (by decide)).trans a3,(bB _ _ _ (by decide)).trans a4⟩
 have rV:q < W3.heap.size:=zQ4 iE (zQ5 hv0.size hF3.size)
 have hU3:Fr (Up lo fun i=>i=q) w W3:=(hU1.aD (hv0.up _ _)).aD (hF3.mono (fun i _ e=>.inr e))
 have hlo3:lo<=W3.heap.size:=zQ5 hlo hU3.size
 refine aI (fun w'=>∃ x:aj S2,w'=x.w) (by kernel_rfl) ?_
 rw [hW0]
 clear hW0
 refine tW 0 rfl ?_;go_big_quiet_op
 refine tW 1 rfl ?_;go_big_quiet_op
 refine tW 2 rfl ?_;go_big_quiet_op
 refine tW 3 rfl ?_;go_big_quiet_op
 refine tM 4 rfl (ah ak) ?_;go_big_quiet_op
 refine tW 5 rfl ?_;go_big_quiet_op
 refine tM 6 rfl (ah ak) ?_;go_big_quiet_op
 refine tW 7 rfl ?_;go_big_quiet_op
 refine tW 8 rfl ?_;go_big_quiet_op
 refine tM 9 rfl (ah ak) ?_;go_big_quiet_op
 refine tW 10 rfl ?_;go_big_quiet_op
 refine aK 11 rfl (by kernel_rfl) ?_
 intro K hK
 go_simp
 refine hK _ _ (fun h=>absurd h (by decide +kernel)) ?_
 clear hK K
 refine aW (by kernel_rfl) ?_
 clear x1 x2 m0 hne bS z1 z2 b1' k0' hW3
 have QF3:Hid (∀ y,Fr (Up lo fun _=>False) W3 y->aZ y q 0 ⟨(k:Int),g,st,true,body⟩):=fun y hy=>bH pO (hy.block q rV (by rintro (h | h);exact h hq;exact h))
 obtain ⟨q0,q1,q2,q3,q4⟩:=pO
 simp only [Nat.zero_add] at q0 q1 q2 q3 q4
 have hUU:Hid (∀ y,Fr (Up lo fun _=>False) W3 y->Fr (Up lo fun i=>i=q) w y):=fun y hy=>hU3.aD (hy.mono (fun i _ h=>by rcases h with h | h;exact .inl h;exact h.elim))
 go_wp2_with (go_at_call 143;refine (nC lo p k g st true body d1 L W3 0 hB3 HR1.out hk1 (by omega) HW1.out hlo3 (fun e w'=>e=.returned (.tuple #[])/\∃ L',aY lo w' p d2 L' 0/\Fr (Up lo fun _=>False) W3 w') (fun er' h w' hF=>by rw [pK.out] at h;cases h) (fun d' L' w' h hB' hF=>by rw [pK.out] at h;cases h;exact ⟨rfl,L',hB',hF⟩)).mono ?_;rintro e w4 hR;obtain ⟨rfl,L4,hB4,hF4⟩:=hR.out;obtain ⟨r0,r1,r2,r3,r4⟩:=QF3.out _ hF4;simp only [Nat.zero_add] at r0 r1 r2 r3 r4;clear hR)
 clear q0 q1 q2 q3 q4
 refine (nV lo p k ⟨(k:Int),g,st,true,body⟩ d2 L4 w4 X2 0 hB4 hx2 rfl).mono ?_
 rintro e w5 ⟨rfl,hS5⟩
 have hB5:=hB4.since hS5
 have hF5:=hF4.aD (hS5.up lo (fun _=>False))
 have L5:=L4
 obtain ⟨L5,hB5⟩:∃ L5,aY lo w5 p d3 L5 0:=⟨L4,by rw [<-HD3.out];exact hB5⟩
 dsimp only
 clear r0 r1 r2 r3 r4
 have lJ:=hB5.made.box.lt
 have b0:=hB5.made.box.c0
 have b1:=hB5.made.box.c1
 have b2:=hB5.made.box.c2
 have EG:=QF3.out _ hF5
 have EH:q < w5.heap.size:=zQ4 rV hF5.size
 obtain ⟨S5,lK⟩:∃ S0:World->Prop,∀ w',S0 w'↔Since w5 w':=⟨_,fun _=>Iff.rfl⟩
 have bS:=aH w
 have x0:∀ y:aj S5,y.w.cell? ⟨p,0,none⟩=some (.slice (L5 (0,0,0)).a d3.groups.length (L5 (0,0,0)).cap):=fun y=>(((lK _).1 y.h).cellAt lJ _).trans b0
 have x1:∀ y:aj S5,y.w.cell? ⟨p,1,none⟩=some (.slice (L5 (1,0,0)).a d3.nodes.length (L5 (1,0,0)).cap):=fun y=>(((lK _).1 y.h).cellAt lJ _).trans b1
 have x2:∀ y:aj S5,y.w.cell? ⟨p,2,none⟩=some (.slice (L5 (2,0,0)).a d3.wires.length (L5 (2,0,0)).cap):=fun y=>(((lK _).1 y.h).cellAt lJ _).trans b2
 have m0:∀ y:aj S5,y.w.cell? ⟨q,0,none⟩=some (.int .i64 k):=fun y=>(aB EG EH ((lK _).1 y.h)).c0
 go_wp2_with fail
 obtain ⟨U0,hW0⟩:∃ y,w5.drew=y:=⟨_,rfl⟩
 have hu0:=aO hW0
 have ak:=(lK U0).2 hu0
 have hne:Nonempty (aj S5):=⟨⟨_,ak⟩⟩
 have hTN:=iR (gK L5 d3) d3 k U0 (hB5.made.own.since hu0).wat
 unfold gK at hTN
 rw [HTL.out] at hTN
 dsimp only at hTN
 refine aI (fun w'=>∃ x:aj S5,w'=x.w) (by kernel_rfl) ?_
 rw [hW0]
 clear hW0
 refine tW 0 rfl ?_;go_big_quiet_op
 refine tW 1 rfl ?_;go_big_quiet_op
 refine tW 2 rfl ?_;go_big_quiet_op
 refine tW 3 rfl ?_;go_big_quiet_op
 refine tM 4 rfl (ah ak) ?_;go_big_quiet_op
 refine tW 5 rfl ?_;go_big_quiet_op
 refine tM 6 rfl (ah ak) ?_;go_big_quiet_op
 refine aK 7 rfl (by kernel_rfl) ?_
 intro K hK
 go_simp
 refine hTN.mono ?_
 rintro e wT hR
 obtain ⟨L6,rfl,hO6,hFT⟩:=hR.out.2 d4 mm rfl
 have hST:=hFT.none
 simp only [bW]
 refine hK _ _ (fun h=>absurd h (by decide +kernel)) ?_
 clear hK K
 refine tW 8 rfl ?_;go_big_quiet_op
 refine tW 9 rfl ?_;go_big_quiet_op
 refine tW 10 rfl ?_;go_big_quiet_op
 refine aK 11 rfl (by kernel_rfl) ?_
 intro K hK
 go_simp
 have hCo:=lH (L':=L6) (d':=d4) mm (by omega) hmm (hB5.since (hu0.trans hST)) (hO6.mono (by have:=hu0.size;have:=hB5.made.box.lt;omega))
 unfold bW at hCo
 refine hCo.mono ?_
 rintro e w9 ⟨rfl,hB9,hF9⟩
 dsimp only
 refine hK _ _ (fun h=>absurd h (by decide +kernel)) ?_
 clear hK K
 refine aW (by kernel_rfl) ?_
 clear x0 x1 x2 m0 hne bS
 go_end0
 rw [Int.zero_add] at hB9
 exact ⟨rfl,L6,hB9,hUU.out _ (hF5.aD ((((hu0.trans hST).up _ _).aD (hF9.mono (fun i _ e=>.inl (by have e:i=p:=e;omega))))))⟩
theorem zk (lo p q k:Nat) (g st:Int) (body:ByteArray) (d d1:Wd) (L:Lay) (w:World) (x:Nd) (hB:aY lo w p d L 0) (R:Right d) (hq:q < lo) (hMq:aZ w q 0 ⟨(k:Int),g,0,false,body⟩) (hqz:w.frozen? ⟨q,2,none⟩=false) (hx:d.nodes[k]? = some x) (hE:bQ d k g body.size=0) (hst:x.clock+1=st) (hd1:setNode d k { x with clock:=st }=d1) (hlo:lo<=w.heap.size) (d2:Wd) (hR1:dU d1) (hW1':∀ f t,(au d1 f t).length<=40) (hN:d1.nodes.length<=1000) (hk1:k < d1.nodes.length) (jq:fE ⟨(k:Int),g,st,false,body⟩ k d1 d1.nodes.length=.ok d2) (X2:Nd) (hx2:d2.nodes[k]? = some X2) (pl:List Mg) (JO:Hid (fA ⟨(k:Int),g,st,false,body⟩ X2.held=0)) (JQ:Hid (iJ ⟨(k:Int),g,st,false,body⟩ X2.held=pl)) (d3 d4:Wd) (mm:Int) (HD3:Hid (setNode d2 k { X2 with held:=pl }=d3)) (HTL:Hid (checked d3 (fV d3 (k:Int))=.ok (d4,mm))) (hmm:0<=mm/\mm<=100000) :
  Calls prog 141 #[.pointer (some ⟨p,0,none⟩),.pointer (some ⟨q,0,none⟩)] w fun e w'=>e=.returned (.tuple #[])/\∃ L',aY lo w' p d4 L' mm/\Fr (Up lo fun i=>i=q) w w':=by
 have pJ:=hMq
 have pK:=(show Hid _ from jq)
 have HR1:Hid (dU d1):=hR1
 have HW1:Hid (∀ f t,(au d1 f t).length<=40):=hW1'
 clear jq hR1 hW1'
 have hk:=bU hx
 have hpl:=hB.made.box.lt
 have uW:=hB.lop
 have hqw:q < w.heap.size:=by omega
 obtain ⟨bn,on,cn,hL1,hlb,hbn,hbk,hcn⟩:=hB.made.own.lies (ix:=(1,0,0)) ⟨rfl,rfl⟩ (by show 0 < d.nodes.length;omega)
 obtain ⟨k0,_,_,_,kz⟩:=hB.made.own.cells hx hL1
 have kz0:=kz 0 (by omega)
 rw [Nat.add_zero] at kz0
 have b1:=hB.made.box.c1
 rw [hL1] at b1
 dsimp only at b1
 have HL1:Hid (L (1,0,0)=⟨some ⟨bn,on,none⟩,cn⟩):=hL1
 have hcl:=R.clk k
 rw [(dD hx).1] at hcl
 have yC:¬ x.clock=1048576:=by
  intro e
  have hE':=hE
  unfold bQ at hE'
  rw [Int.toNat_natCast,(dD hx).1,e] at hE'
  split at hE';cases hE';split at hE';cases hE';split at hE';cases hE';simp at hE'
 have hst':IntKind.i64.wrap (x.clock+1)=st:=by rw [hst];exact IntWalk.i64_in _ (by omega)
 have n1:(k:Int) < (d.nodes.length:Int):=by omega
 have mO:=nU lo p ⟨(k:Int),g,0,false,body⟩ d L w 0 hB R
 dsimp only at mO
 obtain ⟨q0,q1,q2,q3,q4⟩:=hMq
 simp only [Nat.zero_add] at q0 q1 q2 q3 q4
 have HST:Hid (x.clock+1=st):=hst
 have HD1:Hid (setNode d k { x with clock:=st }=d1):=hd1
 have HE:Hid (bQ d k g body.size=0):=hE
 have hqo:¬ fU d L q:=fun hb=>by have:=(hB.made.own.blk hb).1;omega
 clear hL1 hst hd1 hE kz yC
 go_enter func141,ntmps141
 go_wp2_with (go_at_call 142;refine mO.mono ?_;rintro e w2 hR;obtain ⟨h1,_,hS2⟩:=hR.out;obtain rfl:=h1 HE.out;clear h1 hR)
 clear q0 q1 q2 q3 q4
 have QF:Hid (∀ y,Since w y->aZ y q 0 ⟨(k:Int),g,0,false,body⟩/\y.frozen? ⟨q,2,none⟩=false):=fun y hy=>⟨aB pJ hqw hy,(hy.below.frozen (p:=⟨q,2,none⟩) hqw).trans hqz⟩
 obtain ⟨S0,hS0⟩:∃ S0:World->Prop,∀ w',S0 w'↔Since w w':=⟨_,fun _=>Iff.rfl⟩
 have bS:=aH w
 have x1:∀ y:aj S0,y.w.cell? ⟨p,1,none⟩=some (.slice (some ⟨bn,on,none⟩) d.nodes.length cn):=fun y=>(((hS0 _).1 y.h).cellAt hpl _).trans b1
 have x2:∀ y:aj S0,y.w.cell? ⟨bn,on+k*4,none⟩=some (.int .i64 x.clock):=fun y=>(((hS0 _).1 y.h).cellAt hbn _).trans k0
 have m0:∀ y:aj S0,y.w.cell? ⟨q,0,none⟩=some (.int .i64 k):=fun y=>((QF.out _ ((hS0 _).1 y.h)).1).c0
 obtain ⟨W0,hW0⟩:∃ y,w2.drew=y:=⟨_,rfl⟩
 have hs0:Since w W0:=by rw [<-hW0];exact Since.drew hS2
 have ak:=(hS0 W0).2 hs0
 have hne:Nonempty (aj S0):=⟨⟨_,ak⟩⟩
 have y1:=x2 ⟨_,ak⟩
 have y2:=(hs0.below.frozen (p:=⟨bn,on+k*4,none⟩) hbn).trans kz0
 dsimp only at y1
 obtain ⟨W1,hW1⟩:∃ y,W0.setCell ⟨bn,on+k*4,none⟩ (.int .i64 st)=y:=⟨_,rfl⟩
 obtain ⟨hM1,fI⟩:=hB.made.rT hx HL1.out hs0 st
 rw [hW1,HD1.out] at hM1 fI
 have hB1:=hB.step hM1 fI
 have hU1:=fI.up hB.made.own (fun i=>i=q)
 have hQ1:W1.heap[q]? = w.heap[q]?:=(fI.beside hqw hqo).1
 have yD:=(fI.beside hqw hqo).2
 have hx1:d1.nodes[k]? = some { x with clock:=st }:=by rw [<-HD1.out,dB _ hx,if_pos rfl]
 have hn1:d1.nodes.length=d.nodes.length:=by rw [<-HD1.out];simp [setNode]
 refine aI (fun w'=>∃ x:aj S0,w'=x.w) (by kernel_rfl) ?_
 rw [hW0]
 clear hW0
 refine tW 0 rfl ?_;go_big_quiet_op
 refine tW 1 rfl ?_;go_big_quiet_op
 refine tW 2 rfl ?_;go_big_quiet_op
 refine tW 3 rfl ?_;go_big_quiet_op
 refine tM 4 rfl (ah ak) ?_;go_big_quiet_op
 refine tW 5 rfl ?_;go_big_quiet_op
 refine tM 6 rfl (ah ak) ?_;go_big_quiet_op
 refine tW 7 rfl ?_;go_big_quiet_op
 refine tW 8 rfl ?_;go_big_quiet_op
 refine tM 9 rfl (ah ak) ?_;go_big_quiet_op
 refine tW 10 rfl ?_;go_big_quiet_op
 refine tW 11 rfl ?_;go_big_quiet_op
 refine tW 12 rfl ?_;go_big_quiet_op
 refine aK 13 rfl (by kernel_rfl) ?_
 intro K hK
 go_simp
 refine hK _ _ (fun h=>absurd h (by decide +kernel)) ?_
 clear hK K
 refine aW (by kernel_rfl) ?_
 clear x1 x2 m0 hne y1 y2
 have hbW:bn < W1.heap.size:=zQ4 hbn fI.fr.size
 obtain ⟨k0',_,_,_,_⟩:=hB1.made.own.cells hx1 HL1.out
 have b1':=hB1.made.box.c1
 rw [HL1.out] at b1'
 dsimp only at b1' k0'
 have iE:q < W1.heap.size:=zQ4 hqw fI.fr.size
 have lI:aZ W1 q 0 ⟨(k:Int),g,0,false,body⟩:=bH pJ hQ1
 have yE:W1.frozen? ⟨q,2,none⟩=false:=(World.frozen?_of_block (a:=⟨q,2,none⟩) hQ1).trans hqz
 go_wp2_with fail
 obtain ⟨S2,iX⟩:∃ S0:World->Prop,∀ w',S0 w'↔Since W1 w':=⟨_,fun _=>Iff.rfl⟩
 have x1:∀ y:aj S2,y.w.cell? ⟨p,1,none⟩=some (.slice (some ⟨bn,on,none⟩) d1.nodes.length cn):=fun y=>(((iX _).1 y.h).cellAt hB1.made.box.lt _).trans b1'
 have x2:∀ y:aj S2,y.w.cell? ⟨bn,on+k*4,none⟩=some (.int .i64 st):=fun y=>(((iX _).1 y.h).cellAt hbW _).trans k0'
 have m0:∀ y:aj S2,y.w.cell? ⟨q,0,none⟩=some (.int .i64 k):=fun y=>(aB lI iE ((iX _).1 y.h)).c0
 obtain ⟨V0,hW0⟩:∃ y,W1.drew=y:=⟨_,rfl⟩
 have hv0:=aO hW0
 have ak:=(iX V0).2 hv0
 have hne:Nonempty (aj S2):=⟨⟨_,ak⟩⟩
 have n1':(k:Int) < (d1.nodes.length:Int):=by omega
 have z1:=(aB lI iE hv0).c2
 have z2:=(hv0.below.frozen (p:=⟨q,2,none⟩) iE).trans yE
 dsimp only [Nat.zero_add] at z1
 simp only [Nat.zero_add] at z1
 obtain ⟨W3,hW3⟩:∃ y,V0.setCell ⟨q,2,none⟩ (.int .i64 st)=y:=⟨_,rfl⟩
 have hF3:Fr (fun i=>i=q) V0 W3:=by rw [<-hW3];exact (Fr.refl (fun i=>i=q) V0).setCell ⟨q,2,none⟩ _ (fun _=>rfl)
 have hB3:=(hB1.since hv0).fr hF3 (fun b hb e=>yD (e ▸ hb)) (by omega)
 have pO:aZ W3 q 0 ⟨(k:Int),g,st,false,body⟩:=by
  have hm:=aB lI iE hv0
  obtain ⟨a0,a1,a2,a3,a4⟩:=hm
  rw [<-hW3]
  exact ⟨(bB _ _ _ (by decide)).trans a0,(bB _ _ _ (by decide)).trans a1,jD _ _ _ _ a2,(bB _ _ _ (by decide)).trans a3,(bB _ _ _ (by decide)).trans a4⟩
 have rV:q < W3.heap.size:=zQ4 iE (zQ5 hv0.size hF3.size)
 have hU3:Fr (Up lo fun i=>i=q) w W3:=(hU1.aD (hv0.up _ _)).aD (hF3.mono (fun i _ e=>.inr e))
 have hlo3:lo<=W3.heap.size:=zQ5 hlo hU3.size
 refine aI (fun w'=>∃ x:aj S2,w'=x.w) (by kernel_rfl) ?_
 rw [hW0]
 clear hW0
 refine tW 0 rfl ?_;go_big_quiet_op
 refine tW 1 rfl ?_;go_big_quiet_op
 refine tW 2 rfl ?_;go_big_quiet_op
 refine tW 3 rfl ?_;go_big_quiet_op
 refine tM 4 rfl (ah ak) ?_;go_big_quiet_op
 refine tW 5 rfl ?_;go_big_quiet_op
 refine tM 6 rfl (ah ak) ?_;go_big_quiet_op
 refine tW 7 rfl ?_;go_big_quiet_op
 refine tW 8 rfl ?_;go_big_quiet_op
 refine tM 9 rfl (ah ak) ?_;go_big_quiet_op
 refine tW 10 rfl ?_;go_big_quiet_op
 refine aK 11 rfl (by kernel_rfl) ?_
 intro K hK
 go_simp
 refine hK _ _ (fun h=>absurd h (by decide +kernel)) ?_
 clear hK K
 refine aW (by kernel_rfl) ?_
 clear x1 x2 m0 hne bS z1 z2 b1' k0' hW3
 have QF3:Hid (∀ y,Fr (Up lo fun _=>False) W3 y->aZ y q 0 ⟨(k:Int),g,st,false,body⟩):=fun y hy=>bH pO (hy.block q rV (by rintro (h | h);exact h hq;exact h))
 obtain ⟨q0,q1,q2,q3,q4⟩:=pO
 simp only [Nat.zero_add] at q0 q1 q2 q3 q4
 have hUU:Hid (∀ y,Fr (Up lo fun _=>False) W3 y->Fr (Up lo fun i=>i=q) w y):=fun y hy=>hU3.aD (hy.mono (fun i _ h=>by rcases h with h | h;exact .inl h;exact h.elim))
 go_wp2_with (go_at_call 143;refine (nC lo p k g st false body d1 L W3 0 hB3 HR1.out hk1 (by omega) HW1.out hlo3 (fun e w'=>e=.returned (.tuple #[])/\∃ L',aY lo w' p d2 L' 0/\Fr (Up lo fun _=>False) W3 w') (fun er' h w' hF=>by rw [pK.out] at h;cases h) (fun d' L' w' h hB' hF=>by rw [pK.out] at h;cases h;exact ⟨rfl,L',hB',hF⟩)).mono ?_;rintro e w4 hR;obtain ⟨rfl,L4,hB4,hF4⟩:=hR.out;obtain ⟨r0,r1,r2,r3,r4⟩:=QF3.out _ hF4;simp only [Nat.zero_add] at r0 r1 r2 r3 r4;clear hR)
 clear q0 q1 q2 q3 q4
 refine (kC lo p k ⟨(k:Int),g,st,false,body⟩ d2 L4 w4 X2 0 hB4 hx2 rfl (zQ5 hlo3 hF4.size) 0 pl JO.out JQ.out (fun e w'=>e=.returned (.tuple #[])/\∃ L',aY lo w' p (setNode d2 k { X2 with held:=pl }) L' 0/\Fr (Up lo fun _=>False) w4 w') (fun h=>absurd rfl h) (fun _ w' L' hB' hF=>⟨rfl,L',hB',hF⟩)).mono ?_
 rintro e w5 hR
 obtain ⟨rfl,L5,hB5,Nw⟩:=hR.out
 have hF5:=hF4.aD Nw
 rw [HD3.out] at hB5
 clear hR
 dsimp only
 clear r0 r1 r2 r3 r4
 have lJ:=hB5.made.box.lt
 have b0:=hB5.made.box.c0
 have b1:=hB5.made.box.c1
 have b2:=hB5.made.box.c2
 have EG:=QF3.out _ hF5
 have EH:q < w5.heap.size:=zQ4 rV hF5.size
 obtain ⟨S5,lK⟩:∃ S0:World->Prop,∀ w',S0 w'↔Since w5 w':=⟨_,fun _=>Iff.rfl⟩
 have bS:=aH w
 have x0:∀ y:aj S5,y.w.cell? ⟨p,0,none⟩=some (.slice (L5 (0,0,0)).a d3.groups.length (L5 (0,0,0)).cap):=fun y=>(((lK _).1 y.h).cellAt lJ _).trans b0
 have x1:∀ y:aj S5,y.w.cell? ⟨p,1,none⟩=some (.slice (L5 (1,0,0)).a d3.nodes.length (L5 (1,0,0)).cap):=fun y=>(((lK _).1 y.h).cellAt lJ _).trans b1
 have x2:∀ y:aj S5,y.w.cell? ⟨p,2,none⟩=some (.slice (L5 (2,0,0)).a d3.wires.length (L5 (2,0,0)).cap):=fun y=>(((lK _).1 y.h).cellAt lJ _).trans b2
 have m0:∀ y:aj S5,y.w.cell? ⟨q,0,none⟩=some (.int .i64 k):=fun y=>(aB EG EH ((lK _).1 y.h)).c0
 go_wp2_with fail
 obtain ⟨U0,hW0⟩:∃ y,w5.drew=y:=⟨_,rfl⟩
 have hu0:=aO hW0
 have ak:=(lK U0).2 hu0
 have hne:Nonempty (aj S5):=⟨⟨_,ak⟩⟩
 have hTN:=iR (gK L5 d3) d3 k U0 (hB5.made.own.since hu0).wat
 unfold gK at hTN
 rw [HTL.out] at hTN
 dsimp only at hTN
 refine aI (fun w'=>∃ x:aj S5,w'=x.w) (by kernel_rfl) ?_
 rw [hW0]
 clear hW0
 refine tW 0 rfl ?_;go_big_quiet_op
 refine tW 1 rfl ?_;go_big_quiet_op
 refine tW 2 rfl ?_;go_big_quiet_op
 refine tW 3 rfl ?_;go_big_quiet_op
 refine tM 4 rfl (ah ak) ?_;go_big_quiet_op
 refine tW 5 rfl ?_;go_big_quiet_op
 refine tM 6 rfl (ah ak) ?_;go_big_quiet_op
 refine aK 7 rfl (by kernel_rfl) ?_
 intro K hK
 go_simp
 refine hTN.mono ?_
 rintro e wT hR
 obtain ⟨L6,rfl,hO6,hFT⟩:=hR.out.2 d4 mm rfl
 have hST:=hFT.none
 simp only [bW]
 refine hK _ _ (fun h=>absurd h (by decide +kernel)) ?_
 clear hK K
 refine tW 8 rfl ?_;go_big_quiet_op
 refine tW 9 rfl ?_;go_big_quiet_op
 refine tW 10 rfl ?_;go_big_quiet_op
 refine aK 11 rfl (by kernel_rfl) ?_
 intro K hK
 go_simp
 have hCo:=lH (L':=L6) (d':=d4) mm (by omega) hmm (hB5.since (hu0.trans hST)) (hO6.mono (by have:=hu0.size;have:=hB5.made.box.lt;omega))
 unfold bW at hCo
 refine hCo.mono ?_
 rintro e w9 ⟨rfl,hB9,hF9⟩
 dsimp only
 refine hK _ _ (fun h=>absurd h (by decide +kernel)) ?_
 clear hK K
 refine aW (by kernel_rfl) ?_
 clear x0 x1 x2 m0 hne bS
 go_end0
 rw [Int.zero_add] at hB9
 exact ⟨rfl,L6,hB9,hUU.out _ (hF5.aD ((((hu0.trans hST).up _ _).aD (hF9.mono (fun i _ e=>.inl (by have e:i=p:=e;omega))))))⟩
def jZ (d:Wd) (n g:Int) (nul:Bool) (body:ByteArray):Except Int (Wd × Int) :=
 if bQ d n g body.size=0 then (iC d n g nul body).bind fun d3=>(eF d3 n.toNat).bind fun p=>.ok (p.1,(p.2:Int)) else .error (bQ d n g body.size)
theorem EI (d:Wd) (n g:Int) (nul:Bool) (body:ByteArray):ig d n g nul body=(jZ d n g nul body).bind fun p=>.ok p.1:=by
 rw [xL]
 unfold jZ
 split
 ·cases iC d n g nul body with
  | error e=>rfl
  | ok d3=>show (eF d3 n.toNat).bind _=((eF d3 n.toNat).bind _).bind _;cases eF d3 n.toNat <;> rfl
 ·rfl
theorem rW {d:Wd} {n:Nat} {p:Wd × Nat} (R:Right d) (h:eF d n=.ok p):(0:Int)<=(p.2:Int)/\(p.2:Int)<=100000:=by
 obtain ⟨_,_,e⟩:=xM (R.lX n) h
 have h1:=List.length_filter_le (fun m:Mg=>decide (m.st<=dJ d n)) (aA d n)
 have h2:=R.qJ n
 omega
theorem lM {d:Wd} {n:Nat} (R:Right d) (hn:n < d.nodes.length):checked d (fV d (n:Int))=(eF d n).bind fun p=>.ok (p.1,(p.2:Int)):=by
 unfold checked fV
 rw [if_pos ((cu d).2 R),if_pos (by simp [inB];omega),Int.toNat_natCast]
theorem Bh (lo p q:Nat) (n g:Int) (nul:Bool) (body:ByteArray) (d:Wd) (L:Lay) (w:World) (hB:aY lo w p d L 0) (R:Right d) (hb:nul=true->body.size=0) (hq:q < lo) (hMq:aZ w q 0 ⟨n,g,0,nul,body⟩) (hqz:w.frozen? ⟨q,2,none⟩=false) (hlo:lo<=w.heap.size) :
  Calls prog 141 #[.pointer (some ⟨p,0,none⟩),.pointer (some ⟨q,0,none⟩)] w fun e w'=>Hid (qp lo (fun i=>i=q) p w (jZ d n g nul body) e w'):=by
 by_cases hE:bQ d n g body.size=0
 ·obtain ⟨hin,Na⟩:inB n 0 ((d.nodes.length:Int) - 1)=true/\True:=by
   refine ⟨?_,trivial⟩
   unfold bQ at hE
   split at hE
   ·cases hE
   ·rename_i h
    cases h1:inB n 0 ((d.nodes.length:Int) - 1)
    ·exact absurd (.inl h1) h
    ·rfl
  have h0:0<=n/\n<=(d.nodes.length:Int) - 1:=by simpa [inB] using hin
  obtain ⟨k,rfl⟩:∃ k:Nat,n=(k:Int):=⟨n.toNat,by omega⟩
  have hk:k < d.nodes.length:=by omega
  obtain ⟨x,hx⟩:=jL hk
  have hck:aF d k=x.clock:=(dD hx).1
  obtain ⟨d1,hd1⟩:∃ d1,setNode d k { x with clock:=x.clock+1 }=d1:=⟨_,rfl⟩
  have hsc:lC d k (x.clock+1)=d1:=by unfold lC;rw [hx];exact hd1
  have hn1:d1.nodes.length=d.nodes.length:=by rw [<-hd1];simp [setNode]
  have hwr:d1.wires=d.wires:=by rw [<-hd1];rfl
  have hR1:dU d1:=by unfold dU;rw [hwr,hn1];exact R.rows
  have hW1:∀ f t,(au d1 f t).length<=40:=fun f t=>by have:=R.pF f t;unfold au at this ⊢;rw [hwr];exact this
  have hN:d1.nodes.length<=1000:=by
   rw [hn1]
   have:=tZ R (1,0,0) ⟨rfl,rfl⟩
   have h:d.nodes.length<=100:=this
   omega
  have hk1:k < d1.nodes.length:=by omega
  have eC:jZ d (k:Int) g nul body=(iC d (k:Int) g nul body).bind fun d3=>(eF d3 k).bind fun p=>.ok (p.1,(p.2:Int)):=by unfold jZ;rw [if_pos hE,Int.toNat_natCast]
  have eP:iC d (k:Int) g nul body=(fE ⟨(k:Int),g,x.clock+1,nul,body⟩ k d1 d1.nodes.length).bind fun d2=>fD d2 k ⟨(k:Int),g,x.clock+1,nul,body⟩:=by
   unfold iC og;rw [Int.toNat_natCast,hck,hsc,hn1]
  cases jq:fE ⟨(k:Int),g,x.clock+1,nul,body⟩ k d1 d1.nodes.length with
  | error er =>
   have e:jZ d (k:Int) g nul body=.error er:=by rw [eC,eP,jq];rfl
   rw [e]
   exact (EF lo p q k g (x.clock+1) nul body d d1 L w x hB R hq hMq hqz hx hE rfl hd1 hlo er hR1 hW1 hN hk1 jq).mono fun _ _ ⟨he,hF⟩=>by rw [he];exact eB hF
  | ok d2 =>
   have hLs:=nu hR1 hk1 d1.nodes.length d2 (Nat.le_refl _) jq
   obtain ⟨X2,hx2⟩:∃ X2,d2.nodes[k]? = some X2:=by rw [hLs.nodes];exact jL hk1
   have hk2:k < d2.nodes.length:=bU hx2
   have eP2:iC d (k:Int) g nul body=fD d2 k ⟨(k:Int),g,x.clock+1,nul,body⟩:=by rw [eP,jq];rfl
   have fin:∀ d3,fD d2 k ⟨(k:Int),g,x.clock+1,nul,body⟩=.ok d3->Right d3/\k < d3.nodes.length:=by
    intro d3 h
    have S:=rF R hE hb (by rw [eP2];exact h)
    rw [Int.toNat_natCast] at S
    exact ⟨mI R S,by rw [S.alike.n];exact hk⟩
   cases nul with
   | true =>
    have eH:fD d2 k ⟨(k:Int),g,x.clock+1,true,body⟩=.ok d2:=by unfold fD;rfl
    obtain ⟨R3,hk3⟩:=fin d2 eH
    have e:jZ d (k:Int) g true body=(eF d2 k).bind fun p=>.ok (p.1,(p.2:Int)):=by rw [eC,eP2,eH];rfl
    have hTC:=lM R3 hk3
    rw [e]
    cases hT:eF d2 k with
    | error er =>
     rw [hT] at hTC
     have her:(er == 0)=false:=by rcases qd hk3 hT with rfl | ⟨rfl,_⟩ <;> rfl
     exact (vR lo p q k g (x.clock+1) body d d1 L w x hB R hq hMq hqz hx hE rfl hd1 hlo d2 hR1 hW1 hN hk1 jq X2 hx2 d2 er rfl hTC her).mono fun _ _ ⟨he,hF⟩=>by rw [he];exact eB hF
    | ok pp =>
     obtain ⟨d4,mm⟩:=pp
     rw [hT] at hTC
     exact (yG lo p q k g (x.clock+1) body d d1 L w x hB R hq hMq hqz hx hE rfl hd1 hlo d2 hR1 hW1 hN hk1 jq X2 hx2 d2 d4 mm rfl hTC (rW R3 hT)).mono fun _ _ ⟨he,L',hB',hF⟩=>by rw [he];exact l9 hF hB'
   | false =>
    have eH:fD d2 k ⟨(k:Int),g,x.clock+1,false,body⟩=if fA ⟨(k:Int),g,x.clock+1,false,body⟩ X2.held=0 then .ok (setNode d2 k { X2 with held:=iJ ⟨(k:Int),g,x.clock+1,false,body⟩ X2.held }) else .error (fA ⟨(k:Int),g,x.clock+1,false,body⟩ X2.held):=by
     unfold fD xX;rw [hx2];rfl
    by_cases hp0:fA ⟨(k:Int),g,x.clock+1,false,body⟩ X2.held=0
    ·rw [if_pos hp0] at eH
     obtain ⟨d3,hd3⟩:∃ d3,setNode d2 k { X2 with held:=iJ ⟨(k:Int),g,x.clock+1,false,body⟩ X2.held }=d3:=⟨_,rfl⟩
     rw [hd3] at eH
     obtain ⟨R3,hk3⟩:=fin d3 eH
     have e:jZ d (k:Int) g false body=(eF d3 k).bind fun p=>.ok (p.1,(p.2:Int)):=by rw [eC,eP2,eH];rfl
     have hTC:=lM R3 hk3
     rw [e]
     cases hT:eF d3 k with
     | error er =>
      rw [hT] at hTC
      have her:(er == 0)=false:=by rcases qd hk3 hT with rfl | ⟨rfl,_⟩ <;> rfl
      exact (yF lo p q k g (x.clock+1) body d d1 L w x hB R hq hMq hqz hx hE rfl hd1 hlo d2 hR1 hW1 hN hk1 jq X2 hx2 _ hp0 rfl d3 er hd3 hTC her).mono fun _ _ ⟨he,hF⟩=>by rw [he];exact eB hF
     | ok pp =>
      obtain ⟨d4,mm⟩:=pp
      rw [hT] at hTC
      exact (zk lo p q k g (x.clock+1) body d d1 L w x hB R hq hMq hqz hx hE rfl hd1 hlo d2 hR1 hW1 hN hk1 jq X2 hx2 _ hp0 rfl d3 d4 mm hd3 hTC (rW R3 hT)).mono fun _ _ ⟨he,L',hB',hF⟩=>by rw [he];exact l9 hF hB'
    ·rw [if_neg hp0] at eH
     have e:jZ d (k:Int) g false body=.error (fA ⟨(k:Int),g,x.clock+1,false,body⟩ X2.held):=by rw [eC,eP2,eH];rfl
     rw [e]
     exact (Bg lo p q k g (x.clock+1) body d d1 L w x hB R hq hMq hqz hx hE rfl hd1 hlo d2 hR1 hW1 hN hk1 jq X2 hx2 _ _ rfl rfl hp0).mono fun _ _ ⟨he,hF⟩=>by rw [he];exact eB hF
 ·have e:jZ d n g nul body=.error (bQ d n g body.size):=by unfold jZ;rw [if_neg hE]
  rw [e]
  have hpl:=hB.made.box.lt
  have hqw:q < w.heap.size:=by have:=hB.lop;omega
  have mO:=nU lo p ⟨n,g,0,nul,body⟩ d L w 0 hB R
  dsimp only at mO
  obtain ⟨q0,q1,q2,q3,q4⟩:=hMq
  simp only [Nat.zero_add] at q0 q1 q2 q3 q4
  obtain ⟨er,her⟩:∃ er,bQ d n g body.size=er:=⟨_,rfl⟩
  rw [her] at mO hE ⊢
  have HE:Hid (¬ er=0):=hE
  clear her hE e
  go_enter func141,ntmps141
  go_wp2_with (go_at_call 142;refine mO.mono ?_;rintro e w2 hR;obtain ⟨_,h1,hS2⟩:=hR.out;obtain rfl:=h1 HE.out;clear h1 hR)
  exact ⟨rfl,eB (hS2.up _ _)⟩
theorem nT (d:Wd) (r:Except Int (Wd × Int)):checked d (r.bind fun p=>.ok p.1)=(checked d r).bind fun p=>.ok p.1:=by unfold checked;split <;> rfl
theorem uj (x:WV) (d:Wd) (n g:Int) (nul:Bool) (body:ByteArray) (w:World) (hW:WAt w x d) (hb:nul=true->body.size=0) :
  Calls prog 81 #[.agg #[.slice x.ga x.gl x.gc,.slice x.na x.nl x.nc,.slice x.wa x.wl x.wc],.agg #[.int .i64 n,.int .i64 g,.int .i64 0,.bool nul,.string body]] w fun e w'=>Hid (wY w (checked d (ig d n g nul body)) e w'):=by
 obtain ⟨ga,gl,gc,na,nl,nc,wa,wl,wc⟩:=x
 dsimp only
 obtain ⟨wp,hwp⟩:∃ wp,w.alloc (.cells #[.slice ga gl gc,.slice na nl nc,.slice wa wl wc] 26)=wp:=⟨_,rfl⟩
 have hPp:bD wp w.heap.size ⟨ga,gl,gc,na,nl,nc,wa,wl,wc⟩:=by rw [<-hwp];exact bD.new w ⟨ga,gl,gc,na,nl,nc,wa,wl,wc⟩ _
 have hSp:=ay hwp
 obtain ⟨wq,hwq⟩:∃ w1,wp.alloc (.cells #[.int .i64 n,.int .i64 g,.int .i64 0,.bool nul,.string body] 42)=w1:=⟨_,rfl⟩
 have yH:=ay hwq
 have hql:wp.heap.size < wq.heap.size:=by rw [<-hwq];simp
 have hqc:aZ wq wp.heap.size 0 ⟨n,g,0,nul,body⟩:=by rw [<-hwq];constructor <;> simp [go_sem]
 have hqz:wq.frozen? ⟨wp.heap.size,2,none⟩=false:=by rw [<-hwq];simp [go_sem]
 obtain ⟨w1,hw1⟩:∃ w1,wq.alloc (.cells #[.slice none 0 0,.slice none 0 0,.slice none 0 0] 26)=w1:=⟨_,rfl⟩
 have hNB:aL w1 wq.heap.size:=by rw [<-hw1];exact aL.new wq _
 have nD:=ay hw1
 have gN:=yH.trans nD
 have hP1:=hPp.since gN
 have hS1:=hSp.trans gN
 have hW1:=hW.since hS1
 have p0:=hP1.c0
 have p1:=hP1.c1
 have p2:=hP1.c2
 dsimp only at p0 p1 p2
 have hmf:∀ (fn:Fn) (first cap:Array Value) (w:World),(Instr.makeFunc fn first cap).run prog w=.ok (.func fn first cap) w:=fun _ _ _ _=>rfl
 have QV:wp.heap.size < w1.heap.size:=zQ4 hql nD.size
 have hDo:=jY ⟨ga,gl,gc,na,nl,nc,wa,wl,wc⟩ d 141 #[.pointer (some ⟨wp.heap.size,0,none⟩)] (fun i=>i=wp.heap.size) w1 hW1 (fun _ h=>by rw [h];exact QV) (jZ d n g nul body) (enters_of func141 (by kernel_rfl) rfl)
  (fun hE lo p L y hlo hy hB=>Bh lo p wp.heap.size n g nul body d L y hB ((cu d).1 hE) hb (by omega) (aB hqc hql (nD.trans hy)) (((nD.trans hy).below.frozen (p:=⟨wp.heap.size,2,none⟩) hql).trans hqz) (by have:=hB.made.box.lt;have:=hB.lop;omega))
 dsimp only at hDo
 rw [EI,nT]
 obtain ⟨r,hr⟩:∃ r,checked d (jZ d n g nul body)=r:=⟨_,rfl⟩
 rw [hr] at hDo ⊢
 clear hr hW
 have hle:=zQ5 hSp.size yH.size
 have hwx:Hid (∀ y,Fr (fun i=>i=wp.heap.size) w1 y->Since w y/\aL y wq.heap.size):=fun y hy =>
  ⟨hy.dz hS1 (fun i hi e=>by have:=hSp.size;omega),⟨zQ4 hNB.lt hy.size,(hy.cell (p:=⟨wq.heap.size,0,none⟩) hNB.lt (by show ¬ wq.heap.size=wp.heap.size;omega)).trans hNB.c0,(hy.cell (p:=⟨wq.heap.size,1,none⟩) hNB.lt (by show ¬ wq.heap.size=wp.heap.size;omega)).trans hNB.c1,(hy.cell (p:=⟨wq.heap.size,2,none⟩) hNB.lt (by show ¬ wq.heap.size=wp.heap.size;omega)).trans hNB.c2,
   (hy.frozen (p:=⟨wq.heap.size,0,none⟩) hNB.lt (by show ¬ wq.heap.size=wp.heap.size;omega)).trans hNB.z0,(hy.frozen (p:=⟨wq.heap.size,1,none⟩) hNB.lt (by show ¬ wq.heap.size=wp.heap.size;omega)).trans hNB.z1,(hy.frozen (p:=⟨wq.heap.size,2,none⟩) hNB.lt (by show ¬ wq.heap.size=wp.heap.size;omega)).trans hNB.z2⟩⟩
 cases r with
 | error er =>
  go_enter func81,ntmps81
  go_wp2_with fail
  refine hDo.mono ?_
  rintro e w2 hR
  obtain ⟨rfl,hF2⟩:=hR.out.1 er rfl
  obtain ⟨hS2,hN2⟩:=hwx.out _ hF2
  clear hR hw1 hwp hwq
  obtain ⟨w3,hw3⟩:∃ y,w2.alloc (.cells #[.slice none 0 0,.slice none 0 0,.slice none 0 0] 26)=y:=⟨_,rfl⟩
  have wD:=ay hw3
  have hN3:aL w3 w2.heap.size:=by rw [<-hw3];exact aL.new w2 _
  obtain ⟨w4,hw4⟩:∃ y,((w3.setCell ⟨w2.heap.size,0,none⟩ (.slice none 0 0)).setCell ⟨w2.heap.size,1,none⟩ (.slice none 0 0)).setCell ⟨w2.heap.size,2,none⟩ (.slice none 0 0)=y:=⟨_,rfl⟩
  have hF4:Fr (fun i=>i=w2.heap.size) w3 w4:=by rw [<-hw4];exact gM w3 w2.heap.size _ _ _
  have hS4:Since w2 w4:=hF4.dz wD (fun i hi e=>by omega)
  have hN4:aL w4 w2.heap.size:=by
   rw [<-hw4]
   exact ⟨zQ4 hN3.lt (gM w3 w2.heap.size _ _ _).size,qY hN3.c0,qZ hN3.c1,q8 hN3.c2,(gZ _ _ _ _ _ _).trans hN3.z0,(gZ _ _ _ _ _ _).trans hN3.z1,(gZ _ _ _ _ _ _).trans hN3.z2⟩
  obtain ⟨_,a0,a1,a2,a3,a4,a5⟩:=hN3
  obtain ⟨_,c0,c1,c2,_,_,_⟩:=hN4
  obtain ⟨_,r0,r1,r2,r3,r4,r5⟩:=hN2.since hS4
  go_wp2_with fail
  refine bodyPost_ret (v:=.tuple #[.agg #[.slice none 0 0,.slice none 0 0,.slice none 0 0],.int .i64 er]) ?_ rfl (show Hid _ from iy (dA hle (hS2.trans hS4)))
  simp [results,results81,go_sem,r0,r1,r2]
 | ok dm =>
  obtain ⟨d',m⟩:=dm
  go_enter func81,ntmps81
  go_wp2_with fail
  refine hDo.mono ?_
  rintro e w2 hR
  obtain ⟨L,rfl,hO,hF2⟩:=hR.out.2 d' m rfl
  obtain ⟨hS2,hN2⟩:=hwx.out _ hF2
  clear hR hw1 hwp hwq
  simp only [bW]
  obtain ⟨w3,hw3⟩:∃ y,w2.alloc (.cells #[.slice (L (0,0,0)).a d'.groups.length (L (0,0,0)).cap,.slice (L (1,0,0)).a d'.nodes.length (L (1,0,0)).cap,.slice (L (2,0,0)).a d'.wires.length (L (2,0,0)).cap] 26)=y:=⟨_,rfl⟩
  have hS3:=ay hw3
  have hB3:kr w3 w2.heap.size L d':=by rw [<-hw3];constructor <;> simp [go_sem]
  obtain ⟨_,b0,b1,b2,_,_,_⟩:=hB3
  obtain ⟨_,r0,r1,r2,r3,r4,r5⟩:=hN2.since hS3
  obtain ⟨hO2,hSf⟩:=(hO.since hS3).result (w0:=w) (p:=wq.heap.size) hNB.lt hle (hS2.trans hS3) hS1.size
  go_wp2_with fail
  refine bodyPost_ret (v:=.tuple #[bW L d',.int .i64 0]) ?_ rfl (show Hid _ from j5 hO2 hSf)
  simp [results,results81,go_sem,r0,r1,r2,bW]
theorem tq (x:WV) (d:Wd) (n g:Int) (body:ByteArray) (w:World) (hW:WAt w x d) :
  Calls prog 28 #[.agg #[.slice x.ga x.gl x.gc,.slice x.na x.nl x.nc,.slice x.wa x.wl x.wc],.int .i64 n,.int .i64 g,.string body] w fun e w'=>Hid (wY w (checked d (ig d n g false body)) e w'):=by
 obtain ⟨ga,gl,gc,na,nl,nc,wa,wl,wc⟩:=x
 dsimp only
 obtain ⟨wp,hwp⟩:∃ wp,w.alloc (.cells #[.slice ga gl gc,.slice na nl nc,.slice wa wl wc] 26)=wp:=⟨_,rfl⟩
 have hPp:bD wp w.heap.size ⟨ga,gl,gc,na,nl,nc,wa,wl,wc⟩:=by rw [<-hwp];exact bD.new w ⟨ga,gl,gc,na,nl,nc,wa,wl,wc⟩ _
 have hSp:=ay hwp
 obtain ⟨w1,hw1⟩:∃ w1,wp.alloc (.cells #[.slice none 0 0,.slice none 0 0,.slice none 0 0] 26)=w1:=⟨_,rfl⟩
 have hNB:aL w1 wp.heap.size:=by rw [<-hw1];exact aL.new wp _
 have gN:=ay hw1
 have hP1:=hPp.since gN
 have hS1:=hSp.trans gN
 have hW1:=hW.since hS1
 have p0:=hP1.c0
 have p1:=hP1.c1
 have p2:=hP1.c2
 dsimp only at p0 p1 p2
 have hA:=uj ⟨ga,gl,gc,na,nl,nc,wa,wl,wc⟩ d n g false body w1 hW1 (fun h=>by cases h)
 dsimp only at hA
 obtain ⟨r,hr⟩:∃ r,checked d (ig d n g false body)=r:=⟨_,rfl⟩
 rw [hr] at hA ⊢
 clear hr hW
 cases r with
 | error er =>
  go_enter func28,ntmps28
  go_wp2_with fail
  refine hA.mono ?_
  rintro e w2 hR
  obtain ⟨rfl,hS2⟩:=hR.out.1 er rfl
  obtain ⟨_,r0,r1,r2,r3,r4,r5⟩:=hNB.since hS2
  go_wp2_with fail
  refine bodyPost_ret (v:=.tuple #[.agg #[.slice none 0 0,.slice none 0 0,.slice none 0 0],.int .i64 er]) ?_ rfl (show Hid _ from iy (dA hSp.size (hS1.trans hS2)))
  simp [results,results28,go_sem,r0,r1,r2]
 | ok d' =>
  go_enter func28,ntmps28
  go_wp2_with fail
  refine hA.mono ?_
  rintro e w2 hR
  obtain ⟨L,rfl,hO,hS2⟩:=hR.out.2 d' rfl
  simp only [bW]
  obtain ⟨_,r0,r1,r2,r3,r4,r5⟩:=hNB.since hS2
  obtain ⟨hO2,hSf⟩:=hO.result (w0:=w) (p:=wp.heap.size) hNB.lt hSp.size (hS1.trans hS2) hS1.size
  go_wp2_with fail
  refine bodyPost_ret (v:=.tuple #[bW L d',.int .i64 0]) ?_ rfl (show Hid _ from j5 hO2 hSf)
  simp [results,results28,go_sem,r0,r1,r2,bW]
theorem nN (x:WV) (d:Wd) (n g:Int)  (w:World) (hW:WAt w x d) :
  Calls prog 32 #[.agg #[.slice x.ga x.gl x.gc,.slice x.na x.nl x.nc,.slice x.wa x.wl x.wc],.int .i64 n,.int .i64 g] w fun e w'=>Hid (wY w (checked d (ig d n g true ByteArray.empty)) e w'):=by
 obtain ⟨ga,gl,gc,na,nl,nc,wa,wl,wc⟩:=x
 dsimp only
 obtain ⟨wp,hwp⟩:∃ wp,w.alloc (.cells #[.slice ga gl gc,.slice na nl nc,.slice wa wl wc] 26)=wp:=⟨_,rfl⟩
 have hPp:bD wp w.heap.size ⟨ga,gl,gc,na,nl,nc,wa,wl,wc⟩:=by rw [<-hwp];exact bD.new w ⟨ga,gl,gc,na,nl,nc,wa,wl,wc⟩ _
 have hSp:=ay hwp
 obtain ⟨w1,hw1⟩:∃ w1,wp.alloc (.cells #[.slice none 0 0,.slice none 0 0,.slice none 0 0] 26)=w1:=⟨_,rfl⟩
 have hNB:aL w1 wp.heap.size:=by rw [<-hw1];exact aL.new wp _
 have gN:=ay hw1
 have hP1:=hPp.since gN
 have hS1:=hSp.trans gN
 have hW1:=hW.since hS1
 have p0:=hP1.c0
 have p1:=hP1.c1
 have p2:=hP1.c2
 dsimp only at p0 p1 p2
 have hA:=uj ⟨ga,gl,gc,na,nl,nc,wa,wl,wc⟩ d n g true ByteArray.empty w1 hW1 (fun _=>rfl)
 dsimp only at hA
 obtain ⟨r,hr⟩:∃ r,checked d (ig d n g true ByteArray.empty)=r:=⟨_,rfl⟩
 rw [hr] at hA ⊢
 clear hr hW
 cases r with
 | error er =>
  go_enter func32,ntmps32
  go_wp2_with fail
  refine hA.mono ?_
  rintro e w2 hR
  obtain ⟨rfl,hS2⟩:=hR.out.1 er rfl
  obtain ⟨_,r0,r1,r2,r3,r4,r5⟩:=hNB.since hS2
  go_wp2_with fail
  refine bodyPost_ret (v:=.tuple #[.agg #[.slice none 0 0,.slice none 0 0,.slice none 0 0],.int .i64 er]) ?_ rfl (show Hid _ from iy (dA hSp.size (hS1.trans hS2)))
  simp [results,results32,go_sem,r0,r1,r2]
 | ok d' =>
  go_enter func32,ntmps32
  go_wp2_with fail
  refine hA.mono ?_
  rintro e w2 hR
  obtain ⟨L,rfl,hO,hS2⟩:=hR.out.2 d' rfl
  simp only [bW]
  obtain ⟨_,r0,r1,r2,r3,r4,r5⟩:=hNB.since hS2
  obtain ⟨hO2,hSf⟩:=hO.result (w0:=w) (p:=wp.heap.size) hNB.lt hSp.size (hS1.trans hS2) hS1.size
  go_wp2_with fail
  refine bodyPost_ret (v:=.tuple #[bW L d',.int .i64 0]) ?_ rfl (show Hid _ from j5 hO2 hSf)
  simp [results,results32,go_sem,r0,r1,r2,bW]
end Go.Proofs.YtiiifecfdkjmbaaGreat
