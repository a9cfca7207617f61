/- Lemmas. -/
import Derived.Test.YtiiifecfdkjmbaaGreatSCastX
import Derived.Test.YtiiifecfdkjmbaaGreatPureY
import Derived.Test.YtiiifecfdkjmbaaGreatWOpen
set_option maxHeartbeats 4000000
namespace Go.Proofs.YtiiifecfdkjmbaaGreat
open _root_.Go.Proofs.Tryz hiding checked
set_option maxRecDepth 8000
open Go.RowKit Go.Shelf
open Pu
set_option linter.unusedVariables false
set_option linter.unusedSimpArgs false
theorem Al (lo p f t:Nat) (d:Wd) (L:Lay) (w:World) (c:Int) (hB:bX lo w p d L c) (R:Right d) (hf:f < d.nodes.length) (ht:t < d.nodes.length) (M:Mg) (rest:List Mg) (hE:ay d f t=M::rest) (hlo:lo<=w.heap.size) (Post:Ending->World->Prop)
  (iX:∀ er,fu d f t=.error er->∀ w',Fr (Up lo fun _=>False) w w'->Post (.panicked (pan er)) w')
  (hOk:∀ d' L' w',fu d f t=.ok d'->bX lo w' p d' L' c->Fr (Up lo fun _=>False) w w'->Post (.returned (.tuple #[])) w') :
  Calls prog 89 #[.pointer (some ⟨p,0,none⟩),.int .i64 f,.int .i64 t] w fun e w'=>Hid (Post e w'):=by
 have hmv:fu d f t=dW (mD d f t M rest) t M:=by unfold fu;rw [hE]
 obtain ⟨sn1,sn4,sg1,sg3⟩:=mW R.chk
 obtain ⟨nd,hnd⟩:∃ nd,d.nodes[t]? = some nd:=⟨_,zQ1 ht⟩
 have BP:=R.qE f t M (by rw [hE];simp)
 obtain ⟨hc1,hc2⟩:=pE.1 BP.1
 obtain ⟨_,⟨hg0,hg1⟩,_,_⟩:=pF hc1
 obtain ⟨gg,hgg⟩:=Int.eq_ofNat_of_zero_le hg0
 have PO:gg < d.groups.length:=by omega
 obtain ⟨lq,rW⟩:∃ r,nd.last[gg]? = some r:=⟨_,zQ1 (by rw [R.llen t nd hnd];exact PO)⟩
 have MI:=R.lq t nd gg lq hnd rW
 obtain ⟨lv,hlv⟩:∃ v,lq[f]? = some v:=⟨_,zQ1 (by omega)⟩
 obtain ⟨X2,hX2⟩:∃ y,ni nd M f=y:=⟨_,rfl⟩
 have FH:mD d f t M rest=setNode (aV d f t rest) t X2:=by unfold mD;rw [hnd];show setNode (aV d f t rest) t (ni nd M f)=_;rw [hX2]
 have MJ:X2={ rV nd M with last:=(rV nd M).last.set gg (lq.set f (max lv M.st)) }:=by
  rw [<-hX2];unfold ni rV
  rw [hgg,Int.toNat_natCast]
  simp only [rW,Option.getD_some]
  have:dU nd.last gg f=lv:=q9 rW hlv
  rw [this]
 have hwn:(f:Int) < (d.wires.length:Int):=by have:=R.vX;omega
 have htn:(t:Int) < (d.nodes.length:Int):=by omega
 have hrn:rest.length+1<=40:=by have:=R.nR f t;rw [hE] at this;simpa using this
 have HGG:Hid (M.gr=gg):=hgg
 have HLR:=(show Hid _ from MI)
 have iG:=(show Hid _ from iX)
 have HOK:=(show Hid _ from hOk)
 have HR:Hid (Right d):=R
 have HMV:=(show Hid _ from hmv)
 have HCO:=(show Hid _ from FH)
 have HX:=(show Hid _ from MJ)
 clear hgg BP hc1 hc2 hg0 hg1 MI iX hOk hmv FH MJ hX2
 -- the wire
 have hpl:=hB.made.box.lt
 obtain ⟨row,hr,hrl⟩:=row_of R.rows hf
 have uO:okI d (8,f,t):=⟨by rw [R.rows.1];exact hf,by rw [dA hr];omega⟩
 have h8:Row w lo 5 (L (8,f,t)) (ay d f t).length (flat (ay d f t)):=hB.made.own.row (8,f,t) uO
 obtain ⟨bw2,ow2,cw2,br2,oR2,cr2,hH⟩:=hB.made.oJ R.rows hf ht
 rw [hE] at h8 hH
 obtain ⟨bl,ol,e8,hll,hbl,hcl,hxl⟩:=h8.body (by have:=h8.cap;simp at this;omega)
 obtain ⟨lcc,hL8⟩:∃ lcc,L (8,f,t)=⟨some ⟨bl,ol,none⟩,lcc⟩:=⟨(L (8,f,t)).cap,by rw [<-e8]⟩
 have hMs:bH w bl ol M:=by
  have:=bJ hxl 0 M rfl
  simp only [Nat.zero_mul,Nat.add_zero] at this
  exact this
 obtain ⟨w4,hw4⟩:∃ y,w.alloc (.cells #[.int .i64 M.fr,.int .i64 M.gr,.int .i64 M.st,.bool M.nul,.string M.body] 42)=y:=⟨_,rfl⟩
 have hS4:=au hw4
 have hM4:bH w4 w.heap.size 0 M:=by rw [<-hw4];constructor <;> simp [go_sem]
 have R7:w.heap.size < w4.heap.size:=by rw [<-hw4];simp
 have T9:¬ gy d L w.heap.size:=fun hb=>by have:=(hB.made.own.blk hb).2;omega
 have hB4:=hB.since hS4
 have hH4:=hH.since hS4
 rw [hL8] at h8
 have h84:=h8.since hS4
 obtain ⟨bn,on,cn,hL1,_,hbn,hbk,hcn⟩:=hB4.made.own.lies (ix:=(1,0,0)) ⟨rfl,rfl⟩ (by show 0 < d.nodes.length;omega)
 obtain ⟨sa,sc,hsl,hRs,hbs⟩:=Jf h84
 have s2:=hH.top
 have s3:=hH.row
 have s4:=hH.cell
 rw [hL8] at s4
 dsimp only [Sl.v,List.length_cons] at s4
 obtain ⟨g0,g1,g2,g3,g4⟩:=hMs
 have HL1:Hid (L (1,0,0)=⟨some ⟨bn,on,none⟩,cn⟩):=hL1
 have HL8:Hid (L (8,f,t)=⟨some ⟨bl,ol,none⟩,lcc⟩):=hL8
 have HSL:=(show Hid _ from hsl)
 clear hL1 hL8 e8 hE hsl hxl hcl
 go_enter func89,ntmps89
 go_wp2_with fail
 clear s2 s3 s4 g0 g1 g2 g3 g4 hw4
 obtain ⟨W0,hW0⟩:∃ y,w4.drew=y:=⟨_,rfl⟩
 have hs0:=bM hW0
 obtain ⟨S0,hS0⟩:∃ S0:World->Prop,∀ w',S0 w'↔Since w4 w':=⟨_,fun _=>Iff.rfl⟩
 have c1:∀ y:aj S0,y.w.cell? ⟨p,2,none⟩=some (.slice (some ⟨bw2,ow2,none⟩) d.wires.length cw2):=fun y=>(hH4.since ((hS0 _).1 y.h)).top
 have c2:∀ y:aj S0,y.w.cell? ⟨bw2,ow2+f,none⟩=some (.slice (some ⟨br2,oR2,none⟩) d.nodes.length cr2):=fun y=>(hH4.since ((hS0 _).1 y.h)).row
 have c3:∀ y:aj S0,y.w.cell? ⟨br2,oR2+t,none⟩=some (.slice (some ⟨bl,ol,none⟩) (rest.length+1) lcc):=fun y=>by have:=(hH4.since ((hS0 _).1 y.h)).cell;rw [HL8.out] at this;exact this
 have av:=(hS0 W0).2 hs0
 have hne:Nonempty (aj S0):=⟨⟨_,av⟩⟩
 have dG:=aQ w
 have y3:=(hH4.since hs0).cell
 have z3:=(hH4.since hs0).free
 rw [HL8.out] at y3
 dsimp only [Sl.v,List.length_cons] at y3
 have hcut:=hB4.made.Jg R.rows hf ht hH4.lay hs0 (rest:=rest) (by omega) (s:=⟨sa,sc⟩) (hRs.since hs0) (by rw [HL8.out];exact hbs)
 obtain ⟨W5,hW5⟩:∃ y,W0.setCell ⟨br2,oR2+t,none⟩ (.slice sa rest.length sc)=y:=⟨_,rfl⟩
 have Hr:W0.setCell ⟨br2,oR2+t,none⟩ (Sl.v ⟨sa,sc⟩ rest.length)=W5:=hW5
 rw [Hr] at hcut
 have Tv:(rest.length:Int)+1<=(lcc:Int):=by have:=h84.cap;simp only [List.length_cons] at this;omega
 have HW5:=(show Hid _ from Hr)
 clear Hr
 have hsl:=HSL.out
 refine aS (fun w'=>∃ x:aj S0,w'=x.w) (by kernel_rfl) ?_
 rw [hW0]
 clear hW0
 refine tW 0 rfl ?_;go_big_quiet_op
 refine tW 1 rfl ?_;go_big_quiet_op
 refine tW 2 rfl ?_;go_big_quiet_op
 refine tW 3 rfl ?_;go_big_quiet_op
 refine tM 4 rfl (ah av) ?_;go_big_quiet_op
 refine tW 5 rfl ?_;go_big_quiet_op
 refine tW 6 rfl ?_;go_big_quiet_op
 refine tM 7 rfl (ah av) ?_;go_big_quiet_op
 refine tW 8 rfl ?_;go_big_quiet_op
 refine tW 9 rfl ?_;go_big_quiet_op
 refine tW 10 rfl ?_;go_big_quiet_op
 refine tW 11 rfl ?_;go_big_quiet_op
 refine tW 12 rfl ?_;go_big_quiet_op
 refine tM 13 rfl (ah av) ?_;go_big_quiet_op
 refine tW 14 rfl ?_;go_big_quiet_op
 refine tW 15 rfl ?_;go_big_quiet_op
 refine tM 16 rfl (ah av) ?_;go_big_quiet_op
 refine tW 17 rfl ?_;go_big_quiet_op
 refine tW 18 rfl ?_;go_big_quiet_op
 refine tM 19 rfl (ah av) ?_;go_big_quiet_op
 refine tM 20 rfl (ah av) ?_
 refine mV (v:=.slice sa rest.length sc) ?_ ?_
 ·rcases hsl with ⟨h1,h2,h3,h4⟩ | ⟨h1,h3,h4⟩
  ·subst h1 h3 h4
   have hr:rest=[]:=zQ6 h2
   subst hr
   go_big_quiet_op
   simp [Act.put]
  ·subst h3 h4
   have h1':(1:Int) < (lcc:Int):=by omega
   go_big_quiet_op
   simp [Act.put]
 simp only [Act.put,zQ7,zQ8,zQ9]
 refine tW 21 rfl ?_;go_big_quiet_op
 refine aT 22 rfl (by kernel_rfl) ?_
 intro K hK
 go_simp
 refine hK _ _ (fun h=>absurd h (by decide +kernel)) ?_
 clear hK K
 refine dB (by kernel_rfl) ?_
 clear hsl
 obtain ⟨hM5,uP⟩:=hcut
 obtain ⟨hq5,Ht⟩:=uP.beside R7 T9
 have MK:=aX hM4 hq5
 have Dg:=zQ4 R7 uP.fr.size
 have hB5:=hB4.step hM5 uP
 have hU5:Fr (Up lo fun _=>False) w W5:=(hS4.up lo _).aF (uP.up hB4.made.own _)
 have zV:(L.upd (8,f,t) ⟨sa,sc⟩) (1,0,0)=⟨some ⟨bn,on,none⟩,cn⟩:=HL1.out
 obtain ⟨L5,hL5⟩:∃ y,L.upd (8,f,t) ⟨sa,sc⟩=y:=⟨_,rfl⟩
 obtain ⟨D1,hD1⟩:∃ y,aV d f t rest=y:=⟨_,rfl⟩
 have Hu:D1.nodes[t]? = some nd:=by rw [<-hD1];exact hnd
 have hN1:D1.nodes.length=d.nodes.length:=by rw [<-hD1];rfl
 rw [hL5] at zV hM5 Ht hB5
 rw [hD1] at hM5 Ht hB5
 have HD1:=(show Hid _ from hD1)
 have HN1:=(show Hid _ from hN1)
 have b1:=hM5.box.c1
 rw [zV,hN1] at b1
 dsimp only at b1
 obtain ⟨q0,q1,_,_,qz⟩:=hM5.own.cells Hu zV
 have hb5:bn < W5.heap.size:=zQ4 hbn uP.fr.size
 have R8:Hid (L5 (1,0,0)=⟨some ⟨bn,on,none⟩,cn⟩):=zV
 clear hN1 hD1 hL5 c1 c2 c3 hne y3 z3 hW5 zV
 go_wp2_with fail
 obtain ⟨W6,hW0⟩:∃ y,W5.drew=y:=⟨_,rfl⟩
 have hs6:=bM hW0
 obtain ⟨S7,hS7⟩:∃ S0:World->Prop,∀ w',S0 w'↔Since W5 w':=⟨_,fun _=>Iff.rfl⟩
 have c1:∀ y:aj S7,y.w.cell? ⟨bn,on+t*4,none⟩=some (.int .i64 nd.clock):=fun y=>(((hS7 _).1 y.h).cellAt hb5 _).trans q0
 have c2:∀ y:aj S7,y.w.cell? ⟨w.heap.size,2,none⟩=some (.int .i64 M.st):=fun y=>(((hS7 _).1 y.h).cellAt Dg _).trans MK.c2
 have tq:=(hS7 W6).2 hs6
 have hne:Nonempty (aj S7):=⟨⟨_,tq⟩⟩
 have e6:=(hs6.cellAt hb5 _).trans q0
 have z6:=(hs6.below.frozen (p:=⟨bn,on+t*4,none⟩) hb5).trans (by have:=qz 0 (by omega);simpa using this)
 obtain ⟨W7,hW7⟩:∃ y,W6.setCell ⟨bn,on+t*4,none⟩ (.int .i64 (max nd.clock M.st))=y:=⟨_,rfl⟩
 obtain ⟨hM7,qo⟩:=hM5.rX Hu R8.out hs6 (max nd.clock M.st)
 rw [hW7] at hM7 qo
 refine aS (fun w'=>∃ x:aj S7,w'=x.w) (by kernel_rfl) ?_
 rw [hW0]
 clear hW0
 refine tW 0 rfl ?_;go_big_quiet_op
 refine tW 1 rfl ?_;go_big_quiet_op
 refine tW 2 rfl ?_;go_big_quiet_op
 refine tW 3 rfl ?_;go_big_quiet_op
 refine tM 4 rfl (ah tq) ?_;go_big_quiet_op
 refine tW 5 rfl ?_;go_big_quiet_op
 refine tM 6 rfl (ah tq) ?_;go_big_quiet_op
 refine tM 7 rfl (ah tq) ?_
 refine mV (v:=.int .i64 (max nd.clock M.st)) ?_ ?_
 ·go_big_quiet_op
  all_goals
   simp [Act.put]
   try omega
 simp only [Act.put,zQ7,zQ8,zQ9]
 refine tW 8 rfl ?_;go_big_quiet_op
 refine tW 9 rfl ?_;go_big_quiet_op
 refine aT 10 rfl (by kernel_rfl) ?_
 intro K hK
 go_simp
 refine hK _ _ (fun h=>absurd h (by decide +kernel)) ?_
 clear hK K
 refine dB (by kernel_rfl) ?_
 have hB7:=hB5.step hM7 qo
 have hU7:=hU5.aF (qo.up hM5.own _)
 obtain ⟨X1,hX1⟩:∃ y,({ nd with clock:=max nd.clock M.st }:Nd)=y:=⟨_,rfl⟩
 have ML:rV nd M=X1:=hX1
 rw [hX1] at hM7 qo hB7
 have hla:X1.last=nd.last:=by rw [<-hX1]
 have Dl:(setNode D1 t X1).nodes[t]? = some X1:=by rw [cB _ Hu,if_pos rfl]
 obtain ⟨D2,hD2⟩:∃ y,setNode D1 t X1=y:=⟨_,rfl⟩
 rw [hD2] at hM7 qo Dl hB7
 obtain ⟨hq7,PS⟩:=qo.beside Dg Ht
 have Hw:=aX MK hq7
 have Hy:=zQ4 Dg qo.fr.size
 have FI:X1.last[gg]? = some lq:=by rw [hla];exact rW
 have hpl':0 < lq.length:=by rw [HLR.out];omega
 obtain ⟨u0,u1,_,_,uz⟩:=hM7.own.cells Dl R8.out
 obtain ⟨b3,o3,cc3,b4,o4,cc4,hL3,hL4,hb3,hb4,v1,v2,v3⟩:=hM7.own.BX Dl FI hpl'
 rw [hL3,hla] at u1
 dsimp only [Sl.v] at u1
 have HX1:=(show Hid _ from ML)
 have HLA:=(show Hid _ from hla)
 have HD2:=(show Hid _ from hD2)
 have HL4:=(show Hid _ from hL4)
 have m1':=Hw.c1
 rw [HGG.out] at m1'
 have Tz:(gg:Int) < (nd.last.length:Int):=by have:=(zQ2.1 rW).1;omega
 have TA:(f:Int) < (lq.length:Int):=by rw [HLR.out];omega
 have v4:=v2 f lv hlv
 have v5:=v3 f (by omega)
 have hb7:bn < W7.heap.size:=zQ4 hb5 qo.fr.size
 clear hX1 ML hla hD2 hW7 c1 c2 hne e6 z6 q0 q1 b1 hL3 hL4
 go_wp2_with fail
 obtain ⟨W8,hW0⟩:∃ y,W7.drew=y:=⟨_,rfl⟩
 have hs8:=bM hW0
 obtain ⟨S8,hS8⟩:∃ S0:World->Prop,∀ w',S0 w'↔Since W7 w':=⟨_,fun _=>Iff.rfl⟩
 have c1:∀ y:aj S8,y.w.cell? ⟨bn,on+t*4+1,none⟩=some (.slice (some ⟨b3,o3,none⟩) nd.last.length cc3):=fun y=>(((hS8 _).1 y.h).cellAt hb7 _).trans u1
 have c2:∀ y:aj S8,y.w.cell? ⟨w.heap.size,1,none⟩=some (.int .i64 gg):=fun y=>(((hS8 _).1 y.h).cellAt Hy _).trans m1'
 have c3:∀ y:aj S8,y.w.cell? ⟨b3,o3+gg,none⟩=some (.slice (some ⟨b4,o4,none⟩) lq.length cc4):=fun y=>(((hS8 _).1 y.h).cellAt hb3 _).trans v1
 have c4:∀ y:aj S8,y.w.cell? ⟨b4,o4+f,none⟩=some (.int .i64 lv):=fun y=>(((hS8 _).1 y.h).cellAt hb4 _).trans v4
 have c5:∀ y:aj S8,y.w.cell? ⟨w.heap.size,2,none⟩=some (.int .i64 M.st):=fun y=>(((hS8 _).1 y.h).cellAt Hy _).trans Hw.c2
 have jf:=(hS8 W8).2 hs8
 have hne:Nonempty (aj S8):=⟨⟨_,jf⟩⟩
 have e8:=(hs8.cellAt hb4 _).trans v4
 have z8:=(hs8.below.frozen (p:=⟨b4,o4+f,none⟩) hb4).trans v5
 obtain ⟨W9,hW9⟩:∃ y,W8.setCell ⟨b4,o4+f,none⟩ (.int .i64 (max lv M.st))=y:=⟨_,rfl⟩
 obtain ⟨hM9,Bd⟩:=hM7.MN (k:=f) Dl FI (by omega) HL4.out hs8 (max lv M.st)
 rw [hW9] at hM9 Bd
 refine aS (fun w'=>∃ x:aj S8,w'=x.w) (by kernel_rfl) ?_
 rw [hW0]
 clear hW0
 refine tW 0 rfl ?_;go_big_quiet_op
 refine tW 1 rfl ?_;go_big_quiet_op
 refine tW 2 rfl ?_;go_big_quiet_op
 refine tM 3 rfl (ah jf) ?_;go_big_quiet_op
 refine tW 4 rfl ?_;go_big_quiet_op
 refine tM 5 rfl (ah jf) ?_;go_big_quiet_op
 refine tW 6 rfl ?_;go_big_quiet_op
 refine tM 7 rfl (ah jf) ?_;go_big_quiet_op
 refine tW 8 rfl ?_;go_big_quiet_op
 refine tW 9 rfl ?_;go_big_quiet_op
 refine tW 10 rfl ?_;go_big_quiet_op
 refine tW 11 rfl ?_;go_big_quiet_op
 refine tM 12 rfl (ah jf) ?_;go_big_quiet_op
 refine tW 13 rfl ?_;go_big_quiet_op
 refine tM 14 rfl (ah jf) ?_;go_big_quiet_op
 refine tW 15 rfl ?_;go_big_quiet_op
 refine tM 16 rfl (ah jf) ?_;go_big_quiet_op
 refine tW 17 rfl ?_;go_big_quiet_op
 refine tW 18 rfl ?_;go_big_quiet_op
 refine tM 19 rfl (ah jf) ?_;go_big_quiet_op
 refine tW 20 rfl ?_;go_big_quiet_op
 refine tM 21 rfl (ah jf) ?_;go_big_quiet_op
 refine tM 22 rfl (ah jf) ?_
 refine mV (v:=.int .i64 (max lv M.st)) ?_ ?_
 ·go_big_quiet_op
  all_goals
   simp [Act.put]
   try omega
 simp only [Act.put,zQ7,zQ8,zQ9]
 refine tW 23 rfl ?_;go_big_quiet_op
 refine aT 24 rfl (by kernel_rfl) ?_
 intro K hK
 go_simp
 refine hK _ _ (fun h=>absurd h (by decide +kernel)) ?_
 clear hK K
 refine dB (by kernel_rfl) ?_
 have hB9:=hB7.step hM9 Bd
 have hU9:=hU7.aF (Bd.up hM7.own _)
 obtain ⟨dk,hdk⟩:∃ y,mD d f t M rest=y:=⟨_,rfl⟩
 have hDc:setNode D2 t { X1 with last:=X1.last.set gg (lq.set f (max lv M.st)) }=dk:=by
  rw [<-hdk,HCO.out,HX.out,HX1.out,<-HD2.out,<-HD1.out]
  unfold setNode;simp [List.set_set]
 rw [hDc] at hB9 Bd hM9
 have hxk:dk.nodes[t]? = some X2:=by
  rw [<-hdk,HCO.out]
  have h1:(aV d f t rest).nodes[t]? = some nd:=hnd
  rw [cB _ h1,if_pos rfl]
 obtain ⟨hq9,TB⟩:=Bd.beside Hy PS
 have Hz:=aX Hw hq9
 obtain ⟨m0,m1,m2,m3,m4⟩:=Hz
 have HMC:Hid (fu d f t=dW dk t M):=by unfold Hid;rw [HMV.out,hdk]
 have R9:lo<=W9.heap.size:=zQ5 hlo hU9.size
 clear hDc hdk c1 c2 c3 c4 c5 hne dG e8 z8 hW9 u0 u1 v1 v4 v5 m1'
 simp only [Nat.zero_add] at m0 m1 m2 m3 m4
 cases hmn:M.nul
 ·have HN:Hid (M.nul=false):=hmn
  by_cases h0:dM M X2.held=0
  ·have H0:Hid (dM M X2.held=0):=h0
   have mE:=lY lo p t M dk L5 W9 X2 c hB9 hxk hmn R9 _ _ rfl rfl (fun e w'=>e=.returned (.tuple #[])/\Post e w')
    (fun hne w' hS=>absurd H0.out hne)
    (fun h0 w' L' hB' hF=>⟨rfl,HOK.out _ L' w' (by rw [HMC.out];unfold dW tV;rw [HN.out,hxk];simp only [h0,if_true,Bool.false_eq_true,if_false]) hB' (hU9.aF hF)⟩)
   clear hmn h0
   go_wp2_with (go_at_call 144;refine mE.mono ?_;rintro e w6 hP;obtain ⟨rfl,hP'⟩:=hP.out)
   go_end0
   exact hP'
  ·have H0:Hid (¬ dM M X2.held=0):=h0
   have mE:=lY lo p t M dk L5 W9 X2 c hB9 hxk hmn R9 _ _ rfl rfl (fun e w'=>e=.panicked (pan (dM M X2.held))/\Post e w')
    (fun hne w' hS=>⟨rfl,iG.out _ (by rw [HMC.out];unfold dW tV;rw [HN.out,hxk];simp only [hne,Bool.false_eq_true,if_false]) w' (hU9.aF (hS.up lo _))⟩)
    (fun h0 w' L' hB' hF=>absurd h0 H0.out)
   clear hmn h0
   go_wp2_with (go_at_call 144;refine mE.mono ?_;rintro e w6 hP;obtain ⟨rfl,hP'⟩:=hP.out)
   exact ⟨rfl,hP'⟩
 ·have HN:Hid (M.nul=true):=hmn
  have mE:=qA lo p t M dk L5 W9 X2 c hB9 hxk hmn
  clear hmn
  go_wp2_with (go_at_call 144;refine mE.mono ?_;rintro e w6 ⟨rfl,hS⟩)
  go_end0
  exact HOK.out _ L5 _ (by rw [HMC.out];unfold dW;rw [HN.out];rfl) (hB9.since hS) (hU9.aF (hS.up lo _))
theorem Am (p:Nat) (f t:Int) (a:Option Addr) (n c:Nat) (w:World) (hc:w.cell? ⟨p,1,none⟩=some (.slice a n c)) (hf:f < (n:Int)) (ht:t < (n:Int)) (hf0:0<=f:=by omega) (ht0:0<=t:=by omega) :
  Calls prog 87 #[.pointer (some ⟨p,0,none⟩),.int .i64 f,.int .i64 t] w fun e w'=>e=.returned (.tuple #[])/\w'=w:=by
 have h1:=gK p f a n c w hc
 have h2:=gK p t a n c w hc
 rw [decide_eq_true hf0,decide_eq_true hf] at h1
 rw [decide_eq_true ht0,decide_eq_true ht] at h2
 go_enter func87,ntmps87
 go_wp2_with fail
 refine h1.mono ?_
 rintro e w' ⟨rfl,hw'⟩
 obtain rfl:=hw'.symm
 go_wp2_with fail
 refine h2.mono ?_
 rintro e w' ⟨rfl,hw'⟩
 obtain rfl:=hw'.symm
 go_wp2_with fail
 refine (cK 4 _).mono ?_
 rintro e w' ⟨rfl,hw'⟩
 obtain rfl:=hw'.symm
 go_wp2
 go_end0
 exact ⟨rfl,rfl⟩
theorem Nh (p:Nat) (f t:Int) (a:Option Addr) (n c:Nat) (w:World) (hc:w.cell? ⟨p,1,none⟩=some (.slice a n c)) (hn:((decide (0<=f) && decide (f < (n:Int))) && (decide (0<=t) && decide (t < (n:Int))))=false) :
  Calls prog 87 #[.pointer (some ⟨p,0,none⟩),.int .i64 f,.int .i64 t] w fun e w'=>e=.panicked (pan 4)/\w'=w:=by
 have h1:=gK p f a n c w hc
 have h2:=gK p t a n c w hc
 cases hA:(decide (0<=f) && decide (f < (n:Int))) with
 | false =>
  rw [hA] at h1
  clear hA hn h2
  go_enter func87,ntmps87
  go_wp2_with fail
  refine h1.mono ?_
  rintro e w' ⟨rfl,hw'⟩
  obtain rfl:=hw'.symm
  go_wp2_with fail
  refine (fT 4 _).mono ?_
  rintro e w' ⟨rfl,hw'⟩
  obtain rfl:=hw'.symm
  exact ⟨rfl,rfl,rfl⟩
 | true =>
  rw [hA] at h1 hn
  rw [Bool.true_and] at hn
  rw [hn] at h2
  clear hA hn
  go_enter func87,ntmps87
  go_wp2_with fail
  refine h1.mono ?_
  rintro e w' ⟨rfl,hw'⟩
  obtain rfl:=hw'.symm
  go_wp2_with fail
  refine h2.mono ?_
  rintro e w' ⟨rfl,hw'⟩
  obtain rfl:=hw'.symm
  go_wp2_with fail
  refine (fT 4 _).mono ?_
  rintro e w' ⟨rfl,hw'⟩
  obtain rfl:=hw'.symm
  exact ⟨rfl,rfl,rfl⟩
theorem Om (lo p qf qt:Nat) (f t:Int) (d:Wd) (L:Lay) (w:World) (hB:bX lo w p d L 0) (hcf:w.cell? ⟨qf,0,none⟩=some (.int .i64 f)) (hct:w.cell? ⟨qt,0,none⟩=some (.int .i64 t)) (hn:((decide (0<=f) && decide (f < (d.nodes.length:Int))) && (decide (0<=t) && decide (t < (d.nodes.length:Int))))=false) :
  Calls prog 86 #[.pointer (some ⟨p,0,none⟩),.pointer (some ⟨qf,0,none⟩),.pointer (some ⟨qt,0,none⟩)] w fun e w'=>e=.panicked (pan 4)/\Fr (Up lo fun _=>False) w w':=by
 have b1:=hB.made.box.c1
 have hb:=Nh p f t _ _ _ w b1 hn
 clear hn
 go_enter func86,ntmps86
 go_wp2_with (go_at_call 87;refine hb.mono ?_;rintro e w' ⟨rfl,hw'⟩;obtain rfl:=hw'.symm)
 exact ⟨rfl,rfl,Fr.refl _ _⟩
theorem Ir (lo p qf qt f t:Nat) (d:Wd) (L:Lay) (w:World) (hB:bX lo w p d L 0) (R:Right d) (hqf:qf < lo) (hqt:qt < lo) (hcf:w.cell? ⟨qf,0,none⟩=some (.int .i64 f)) (hct:w.cell? ⟨qt,0,none⟩=some (.int .i64 t)) (hlo:lo<=w.heap.size) (hf:f < d.nodes.length) (ht:t < d.nodes.length) (hE:ay d f t=[]) :
  Calls prog 86 #[.pointer (some ⟨p,0,none⟩),.pointer (some ⟨qf,0,none⟩),.pointer (some ⟨qt,0,none⟩)] w fun e w'=>e=.panicked (pan 7)/\Fr (Up lo fun _=>False) w w':=by
 have hpl:=hB.made.box.lt
 have xM:=hB.lop
 have yC:qf < w.heap.size:=by omega
 have tF:qt < w.heap.size:=by omega
 have hwn:(f:Int) < (d.wires.length:Int):=by have:=R.vX;omega
 have htn:(t:Int) < (d.nodes.length:Int):=by omega
 have hfn:(f:Int) < (d.nodes.length:Int):=by omega
 obtain ⟨bw2,ow2,cw2,br2,oR2,cr2,hH⟩:=hB.made.oJ R.rows hf ht
 obtain ⟨la,lcc,hL8⟩:∃ la lcc,L (8,f,t)=⟨la,lcc⟩:=⟨_,_,rfl⟩
 have b1:=hB.made.box.c1
 have HE:=(show Hid _ from hE)
 rw [hE] at hH
 go_enter func86,ntmps86
 go_wp2_with (go_at_call 87;refine (Am p f t _ _ _ w b1 hfn htn).mono ?_;rintro e w' ⟨rfl,hw'⟩;obtain rfl:=hw'.symm)
 obtain ⟨W0,hW0⟩:∃ y,w.drew=y:=⟨_,rfl⟩
 have hs0:=bM hW0
 obtain ⟨S0,hS0⟩:∃ S0:World->Prop,∀ w',S0 w'↔Since w w':=⟨_,fun _=>Iff.rfl⟩
 have c1:∀ y:aj S0,y.w.cell? ⟨p,2,none⟩=some (.slice (some ⟨bw2,ow2,none⟩) d.wires.length cw2):=fun y=>(hH.since ((hS0 _).1 y.h)).top
 have c2:∀ y:aj S0,y.w.cell? ⟨bw2,ow2+f,none⟩=some (.slice (some ⟨br2,oR2,none⟩) d.nodes.length cr2):=fun y=>(hH.since ((hS0 _).1 y.h)).row
 have c3:∀ y:aj S0,y.w.cell? ⟨br2,oR2+t,none⟩=some (.slice la 0 lcc):=fun y=>by have:=(hH.since ((hS0 _).1 y.h)).cell;rw [hL8] at this;exact this
 have c4:∀ y:aj S0,y.w.cell? ⟨qf,0,none⟩=some (.int .i64 f):=fun y=>(((hS0 _).1 y.h).cellAt yC _).trans hcf
 have c5:∀ y:aj S0,y.w.cell? ⟨qt,0,none⟩=some (.int .i64 t):=fun y=>(((hS0 _).1 y.h).cellAt tF _).trans hct
 have av:=(hS0 W0).2 hs0
 have hne:Nonempty (aj S0):=⟨⟨_,av⟩⟩
 have dG:=aQ w
 clear hL8 hE b1
 refine aS (fun w'=>∃ x:aj S0,w'=x.w) (by kernel_rfl) ?_
 rw [hW0]
 clear hW0
 refine tW 0 rfl ?_;go_big_quiet_op
 refine tW 1 rfl ?_;go_big_quiet_op
 refine tW 2 rfl ?_;go_big_quiet_op
 refine tW 3 rfl ?_;go_big_quiet_op
 refine tM 4 rfl (ah av) ?_;go_big_quiet_op
 refine tM 5 rfl (ah av) ?_;go_big_quiet_op
 refine tW 6 rfl ?_;go_big_quiet_op
 refine tM 7 rfl (ah av) ?_;go_big_quiet_op
 refine tM 8 rfl (ah av) ?_;go_big_quiet_op
 refine tW 9 rfl ?_;go_big_quiet_op
 refine tM 10 rfl (ah av) ?_;go_big_quiet_op
 refine tM 11 rfl (ah av) ?_;go_big_quiet_op
 refine tW 12 rfl ?_;go_big_quiet_op
 refine aT 13 rfl (by kernel_rfl) ?_
 intro K hK
 go_simp
 refine (fT 7 _).mono ?_
 rintro e w' ⟨rfl,hw'⟩
 obtain rfl:=hw'.symm
 dsimp only
 exact ⟨rfl,rfl,hs0.up lo _⟩
theorem KQ (lo p qf qt f t:Nat) (d:Wd) (L:Lay) (w:World) (hB:bX lo w p d L 0) (R:Right d) (hqf:qf < lo) (hqt:qt < lo) (hcf:w.cell? ⟨qf,0,none⟩=some (.int .i64 f)) (hct:w.cell? ⟨qt,0,none⟩=some (.int .i64 t)) (hlo:lo<=w.heap.size) (hf:f < d.nodes.length) (ht:t < d.nodes.length) (M:Mg) (rest:List Mg) (hE:ay d f t=M::rest) (er:Int) (HPM:Hid (fu d f t=.error er)) :
  Calls prog 86 #[.pointer (some ⟨p,0,none⟩),.pointer (some ⟨qf,0,none⟩),.pointer (some ⟨qt,0,none⟩)] w fun e w'=>e=.panicked (pan er)/\Fr (Up lo fun _=>False) w w':=by
 have hpl:=hB.made.box.lt
 have xM:=hB.lop
 have yC:qf < w.heap.size:=by omega
 have tF:qt < w.heap.size:=by omega
 have hwn:(f:Int) < (d.wires.length:Int):=by have:=R.vX;omega
 have htn:(t:Int) < (d.nodes.length:Int):=by omega
 have hfn:(f:Int) < (d.nodes.length:Int):=by omega
 obtain ⟨bw2,ow2,cw2,br2,oR2,cr2,hH⟩:=hB.made.oJ R.rows hf ht
 obtain ⟨la,lcc,hL8⟩:∃ la lcc,L (8,f,t)=⟨la,lcc⟩:=⟨_,_,rfl⟩
 have b1:=hB.made.box.c1
 have HE:=(show Hid _ from hE)
 rw [hE] at hH
 go_enter func86,ntmps86
 go_wp2_with (go_at_call 87;refine (Am p f t _ _ _ w b1 hfn htn).mono ?_;rintro e w' ⟨rfl,hw'⟩;obtain rfl:=hw'.symm)
 obtain ⟨W0,hW0⟩:∃ y,w.drew=y:=⟨_,rfl⟩
 have hs0:=bM hW0
 obtain ⟨S0,hS0⟩:∃ S0:World->Prop,∀ w',S0 w'↔Since w w':=⟨_,fun _=>Iff.rfl⟩
 have c1:∀ y:aj S0,y.w.cell? ⟨p,2,none⟩=some (.slice (some ⟨bw2,ow2,none⟩) d.wires.length cw2):=fun y=>(hH.since ((hS0 _).1 y.h)).top
 have c2:∀ y:aj S0,y.w.cell? ⟨bw2,ow2+f,none⟩=some (.slice (some ⟨br2,oR2,none⟩) d.nodes.length cr2):=fun y=>(hH.since ((hS0 _).1 y.h)).row
 have c3:∀ y:aj S0,y.w.cell? ⟨br2,oR2+t,none⟩=some (.slice la (rest.length+1) lcc):=fun y=>by have:=(hH.since ((hS0 _).1 y.h)).cell;rw [hL8] at this;exact this
 have c4:∀ y:aj S0,y.w.cell? ⟨qf,0,none⟩=some (.int .i64 f):=fun y=>(((hS0 _).1 y.h).cellAt yC _).trans hcf
 have c5:∀ y:aj S0,y.w.cell? ⟨qt,0,none⟩=some (.int .i64 t):=fun y=>(((hS0 _).1 y.h).cellAt tF _).trans hct
 have av:=(hS0 W0).2 hs0
 have hne:Nonempty (aj S0):=⟨⟨_,av⟩⟩
 have dG:=aQ w
 clear hL8 hE b1
 refine aS (fun w'=>∃ x:aj S0,w'=x.w) (by kernel_rfl) ?_
 rw [hW0]
 clear hW0
 refine tW 0 rfl ?_;go_big_quiet_op
 refine tW 1 rfl ?_;go_big_quiet_op
 refine tW 2 rfl ?_;go_big_quiet_op
 refine tW 3 rfl ?_;go_big_quiet_op
 refine tM 4 rfl (ah av) ?_;go_big_quiet_op
 refine tM 5 rfl (ah av) ?_;go_big_quiet_op
 refine tW 6 rfl ?_;go_big_quiet_op
 refine tM 7 rfl (ah av) ?_;go_big_quiet_op
 refine tM 8 rfl (ah av) ?_;go_big_quiet_op
 refine tW 9 rfl ?_;go_big_quiet_op
 refine tM 10 rfl (ah av) ?_;go_big_quiet_op
 refine tM 11 rfl (ah av) ?_;go_big_quiet_op
 refine tW 12 rfl ?_;go_big_quiet_op
 refine aT 13 rfl (by kernel_rfl) ?_
 intro K hK
 go_simp
 refine (cK 7 _).mono ?_
 rintro e w' ⟨rfl,hw'⟩
 obtain rfl:=hw'.symm
 dsimp only
 refine hK _ _ (fun h=>absurd h (by decide +kernel)) ?_
 clear hK K
 refine dB (by kernel_rfl) ?_
 clear c1 c2 c3 c4 c5 hne dG
 have Oo:=(hs0.cellAt yC _).trans hcf
 have KR:=(hs0.cellAt tF _).trans hct
 have hlo0:lo<=W0.heap.size:=zQ5 hlo hs0.size
 have hB0:=hB.since hs0
 clear hcf hct
 have hCo:=Al lo p f t d L W0 0 hB0 R hf ht M rest HE.out hlo0 (fun e w'=>e=.panicked (pan er)/\Fr (Up lo fun _=>False) W0 w') (fun er' h w' hF=>by rw [HPM.out] at h;cases h;exact ⟨rfl,hF⟩) (fun d' L' w' h=>by rw [HPM.out] at h;cases h)
 go_wp2_with (go_at_call 89;refine hCo.mono ?_;rintro e w2 hR;obtain ⟨rfl,hF2⟩:=hR.out)
 exact ⟨rfl,rfl,(hs0.up lo _).aF hF2⟩
theorem KT (lo p qf qt f t:Nat) (d:Wd) (L:Lay) (w:World) (hB:bX lo w p d L 0) (R:Right d) (hqf:qf < lo) (hqt:qt < lo) (hcf:w.cell? ⟨qf,0,none⟩=some (.int .i64 f)) (hct:w.cell? ⟨qt,0,none⟩=some (.int .i64 t)) (hlo:lo<=w.heap.size) (hf:f < d.nodes.length) (ht:t < d.nodes.length) (M:Mg) (rest:List Mg) (hE:ay d f t=M::rest) (d3:Wd) (HPM:Hid (fu d f t=.ok d3)) (er:Int) (her:(er == 0)=false) (HTL:Hid (checked d3 (ig d3 (t:Int))=.error er)) :
  Calls prog 86 #[.pointer (some ⟨p,0,none⟩),.pointer (some ⟨qf,0,none⟩),.pointer (some ⟨qt,0,none⟩)] w fun e w'=>e=.panicked (pan er)/\Fr (Up lo fun _=>False) w w':=by
 have hpl:=hB.made.box.lt
 have xM:=hB.lop
 have yC:qf < w.heap.size:=by omega
 have tF:qt < w.heap.size:=by omega
 have hwn:(f:Int) < (d.wires.length:Int):=by have:=R.vX;omega
 have htn:(t:Int) < (d.nodes.length:Int):=by omega
 have hfn:(f:Int) < (d.nodes.length:Int):=by omega
 obtain ⟨bw2,ow2,cw2,br2,oR2,cr2,hH⟩:=hB.made.oJ R.rows hf ht
 obtain ⟨la,lcc,hL8⟩:∃ la lcc,L (8,f,t)=⟨la,lcc⟩:=⟨_,_,rfl⟩
 have b1:=hB.made.box.c1
 have HE:=(show Hid _ from hE)
 rw [hE] at hH
 go_enter func86,ntmps86
 go_wp2_with (go_at_call 87;refine (Am p f t _ _ _ w b1 hfn htn).mono ?_;rintro e w' ⟨rfl,hw'⟩;obtain rfl:=hw'.symm)
 obtain ⟨W0,hW0⟩:∃ y,w.drew=y:=⟨_,rfl⟩
 have hs0:=bM hW0
 obtain ⟨S0,hS0⟩:∃ S0:World->Prop,∀ w',S0 w'↔Since w w':=⟨_,fun _=>Iff.rfl⟩
 have c1:∀ y:aj S0,y.w.cell? ⟨p,2,none⟩=some (.slice (some ⟨bw2,ow2,none⟩) d.wires.length cw2):=fun y=>(hH.since ((hS0 _).1 y.h)).top
 have c2:∀ y:aj S0,y.w.cell? ⟨bw2,ow2+f,none⟩=some (.slice (some ⟨br2,oR2,none⟩) d.nodes.length cr2):=fun y=>(hH.since ((hS0 _).1 y.h)).row
 have c3:∀ y:aj S0,y.w.cell? ⟨br2,oR2+t,none⟩=some (.slice la (rest.length+1) lcc):=fun y=>by have:=(hH.since ((hS0 _).1 y.h)).cell;rw [hL8] at this;exact this
 have c4:∀ y:aj S0,y.w.cell? ⟨qf,0,none⟩=some (.int .i64 f):=fun y=>(((hS0 _).1 y.h).cellAt yC _).trans hcf
 have c5:∀ y:aj S0,y.w.cell? ⟨qt,0,none⟩=some (.int .i64 t):=fun y=>(((hS0 _).1 y.h).cellAt tF _).trans hct
 have av:=(hS0 W0).2 hs0
 have hne:Nonempty (aj S0):=⟨⟨_,av⟩⟩
 have dG:=aQ w
 clear hL8 hE b1
 refine aS (fun w'=>∃ x:aj S0,w'=x.w) (by kernel_rfl) ?_
 rw [hW0]
 clear hW0
 refine tW 0 rfl ?_;go_big_quiet_op
 refine tW 1 rfl ?_;go_big_quiet_op
 refine tW 2 rfl ?_;go_big_quiet_op
 refine tW 3 rfl ?_;go_big_quiet_op
 refine tM 4 rfl (ah av) ?_;go_big_quiet_op
 refine tM 5 rfl (ah av) ?_;go_big_quiet_op
 refine tW 6 rfl ?_;go_big_quiet_op
 refine tM 7 rfl (ah av) ?_;go_big_quiet_op
 refine tM 8 rfl (ah av) ?_;go_big_quiet_op
 refine tW 9 rfl ?_;go_big_quiet_op
 refine tM 10 rfl (ah av) ?_;go_big_quiet_op
 refine tM 11 rfl (ah av) ?_;go_big_quiet_op
 refine tW 12 rfl ?_;go_big_quiet_op
 refine aT 13 rfl (by kernel_rfl) ?_
 intro K hK
 go_simp
 refine (cK 7 _).mono ?_
 rintro e w' ⟨rfl,hw'⟩
 obtain rfl:=hw'.symm
 dsimp only
 refine hK _ _ (fun h=>absurd h (by decide +kernel)) ?_
 clear hK K
 refine dB (by kernel_rfl) ?_
 clear c1 c2 c3 c4 c5 hne dG
 have Oo:=(hs0.cellAt yC _).trans hcf
 have KR:=(hs0.cellAt tF _).trans hct
 have hlo0:lo<=W0.heap.size:=zQ5 hlo hs0.size
 have hB0:=hB.since hs0
 clear hcf hct
 have hCo:=Al lo p f t d L W0 0 hB0 R hf ht M rest HE.out hlo0 (fun e w'=>e=.returned (.tuple #[])/\∃ L',bX lo w' p d3 L' 0/\Fr (Up lo fun _=>False) W0 w') (fun er' h w' hF=>by rw [HPM.out] at h;cases h) (fun d' L' w' h hB' hF=>by rw [HPM.out] at h;cases h;exact ⟨rfl,L',hB',hF⟩)
 go_wp2_with (go_at_call 89;refine hCo.mono ?_;rintro e w5 hR;obtain ⟨rfl,L5,hB5,Ni⟩:=hR.out)
 have hF5:=(hs0.up lo (fun _=>False)).aF Ni
 have Qf:=(Ni.cell (p:=⟨qt,0,none⟩) (zQ4 tF hs0.size) (by rintro (h | h);exact h hqt;exact h)).trans KR
 have Qg:qt < w5.heap.size:=zQ4 tF hF5.size
 clear hR hCo Oo KR
 have nG:=hB5.made.box.lt
 have b0:=hB5.made.box.c0
 have b1:=hB5.made.box.c1
 have b2:=hB5.made.box.c2
 obtain ⟨U0,hW0⟩:∃ y,w5.drew=y:=⟨_,rfl⟩
 have hs5:=bM hW0
 obtain ⟨S5,hS5⟩:∃ S0:World->Prop,∀ w',S0 w'↔Since w5 w':=⟨_,fun _=>Iff.rfl⟩
 have x0:∀ y:aj S5,y.w.cell? ⟨p,0,none⟩=some (.slice (L5 (0,0,0)).a d3.groups.length (L5 (0,0,0)).cap):=fun y=>(((hS5 _).1 y.h).cellAt nG _).trans b0
 have x1:∀ y:aj S5,y.w.cell? ⟨p,1,none⟩=some (.slice (L5 (1,0,0)).a d3.nodes.length (L5 (1,0,0)).cap):=fun y=>(((hS5 _).1 y.h).cellAt nG _).trans b1
 have x2:∀ y:aj S5,y.w.cell? ⟨p,2,none⟩=some (.slice (L5 (2,0,0)).a d3.wires.length (L5 (2,0,0)).cap):=fun y=>(((hS5 _).1 y.h).cellAt nG _).trans b2
 have x3:∀ y:aj S5,y.w.cell? ⟨qt,0,none⟩=some (.int .i64 t):=fun y=>(((hS5 _).1 y.h).cellAt Qg _).trans Qf
 have Iu:=(hS5 U0).2 hs5
 have hne:Nonempty (aj S5):=⟨⟨_,Iu⟩⟩
 have dG:=aQ w
 have hTN:=jG (fP L5 d3) d3 t U0 (hB5.made.own.since hs5).wat
 unfold fP at hTN
 rw [HTL.out] at hTN
 dsimp only at hTN
 refine aS (fun w'=>∃ x:aj S5,w'=x.w) (by kernel_rfl) ?_
 rw [hW0]
 clear hW0
 refine tW 0 rfl ?_;go_big_quiet_op
 refine tW 1 rfl ?_;go_big_quiet_op
 refine tW 2 rfl ?_;go_big_quiet_op
 refine tW 3 rfl ?_;go_big_quiet_op
 refine tM 4 rfl (ah Iu) ?_;go_big_quiet_op
 refine tM 5 rfl (ah Iu) ?_;go_big_quiet_op
 refine aT 6 rfl (by kernel_rfl) ?_
 intro K hK
 go_simp
 refine hTN.mono ?_
 rintro e wT hR
 obtain ⟨rfl,hFT⟩:=hR.out.1 er rfl
 have hST:=hFT.none
 dsimp only
 refine hK _ _ (fun h=>absurd h (by decide +kernel)) ?_
 clear hK K
 refine tW 7 rfl ?_;go_big_quiet_op
 refine tW 8 rfl ?_;go_big_quiet_op
 refine tW 9 rfl ?_;go_big_quiet_op
 refine aT 10 rfl (by kernel_rfl) ?_
 intro K hK
 go_simp
 refine (lI p ⟨none,0,0,none,0,0,none,0,0⟩ 0 er her wT).mono ?_
 rintro e w' ⟨rfl,hS9⟩
 dsimp only
 exact ⟨rfl,rfl,hF5.aF (((hs5.trans hST).trans hS9).up _ _)⟩
theorem Nj (lo p qf qt f t:Nat) (d:Wd) (L:Lay) (w:World) (hB:bX lo w p d L 0) (R:Right d) (hqf:qf < lo) (hqt:qt < lo) (hcf:w.cell? ⟨qf,0,none⟩=some (.int .i64 f)) (hct:w.cell? ⟨qt,0,none⟩=some (.int .i64 t)) (hlo:lo<=w.heap.size) (hf:f < d.nodes.length) (ht:t < d.nodes.length) (M:Mg) (rest:List Mg) (hE:ay d f t=M::rest) (d3:Wd) (HPM:Hid (fu d f t=.ok d3)) (d4:Wd) (mm:Int) (hmm:0<=mm/\mm<=100000) (HTL:Hid (checked d3 (ig d3 (t:Int))=.ok (d4,mm))) :
  Calls prog 86 #[.pointer (some ⟨p,0,none⟩),.pointer (some ⟨qf,0,none⟩),.pointer (some ⟨qt,0,none⟩)] w fun e w'=>e=.returned (.tuple #[])/\∃ L',bX lo w' p d4 L' mm/\Fr (Up lo fun _=>False) w w':=by
 have hpl:=hB.made.box.lt
 have xM:=hB.lop
 have yC:qf < w.heap.size:=by omega
 have tF:qt < w.heap.size:=by omega
 have hwn:(f:Int) < (d.wires.length:Int):=by have:=R.vX;omega
 have htn:(t:Int) < (d.nodes.length:Int):=by omega
 have hfn:(f:Int) < (d.nodes.length:Int):=by omega
 obtain ⟨bw2,ow2,cw2,br2,oR2,cr2,hH⟩:=hB.made.oJ R.rows hf ht
 obtain ⟨la,lcc,hL8⟩:∃ la lcc,L (8,f,t)=⟨la,lcc⟩:=⟨_,_,rfl⟩
 have b1:=hB.made.box.c1
 have HE:=(show Hid _ from hE)
 rw [hE] at hH
 go_enter func86,ntmps86
 go_wp2_with (go_at_call 87;refine (Am p f t _ _ _ w b1 hfn htn).mono ?_;rintro e w' ⟨rfl,hw'⟩;obtain rfl:=hw'.symm)
 obtain ⟨W0,hW0⟩:∃ y,w.drew=y:=⟨_,rfl⟩
 have hs0:=bM hW0
 obtain ⟨S0,hS0⟩:∃ S0:World->Prop,∀ w',S0 w'↔Since w w':=⟨_,fun _=>Iff.rfl⟩
 have c1:∀ y:aj S0,y.w.cell? ⟨p,2,none⟩=some (.slice (some ⟨bw2,ow2,none⟩) d.wires.length cw2):=fun y=>(hH.since ((hS0 _).1 y.h)).top
 have c2:∀ y:aj S0,y.w.cell? ⟨bw2,ow2+f,none⟩=some (.slice (some ⟨br2,oR2,none⟩) d.nodes.length cr2):=fun y=>(hH.since ((hS0 _).1 y.h)).row
 have c3:∀ y:aj S0,y.w.cell? ⟨br2,oR2+t,none⟩=some (.slice la (rest.length+1) lcc):=fun y=>by have:=(hH.since ((hS0 _).1 y.h)).cell;rw [hL8] at this;exact this
 have c4:∀ y:aj S0,y.w.cell? ⟨qf,0,none⟩=some (.int .i64 f):=fun y=>(((hS0 _).1 y.h).cellAt yC _).trans hcf
 have c5:∀ y:aj S0,y.w.cell? ⟨qt,0,none⟩=some (.int .i64 t):=fun y=>(((hS0 _).1 y.h).cellAt tF _).trans hct
 have av:=(hS0 W0).2 hs0
 have hne:Nonempty (aj S0):=⟨⟨_,av⟩⟩
 have dG:=aQ w
 clear hL8 hE b1
 refine aS (fun w'=>∃ x:aj S0,w'=x.w) (by kernel_rfl) ?_
 rw [hW0]
 clear hW0
 refine tW 0 rfl ?_;go_big_quiet_op
 refine tW 1 rfl ?_;go_big_quiet_op
 refine tW 2 rfl ?_;go_big_quiet_op
 refine tW 3 rfl ?_;go_big_quiet_op
 refine tM 4 rfl (ah av) ?_;go_big_quiet_op
 refine tM 5 rfl (ah av) ?_;go_big_quiet_op
 refine tW 6 rfl ?_;go_big_quiet_op
 refine tM 7 rfl (ah av) ?_;go_big_quiet_op
 refine tM 8 rfl (ah av) ?_;go_big_quiet_op
 refine tW 9 rfl ?_;go_big_quiet_op
 refine tM 10 rfl (ah av) ?_;go_big_quiet_op
 refine tM 11 rfl (ah av) ?_;go_big_quiet_op
 refine tW 12 rfl ?_;go_big_quiet_op
 refine aT 13 rfl (by kernel_rfl) ?_
 intro K hK
 go_simp
 refine (cK 7 _).mono ?_
 rintro e w' ⟨rfl,hw'⟩
 obtain rfl:=hw'.symm
 dsimp only
 refine hK _ _ (fun h=>absurd h (by decide +kernel)) ?_
 clear hK K
 refine dB (by kernel_rfl) ?_
 clear c1 c2 c3 c4 c5 hne dG
 have Oo:=(hs0.cellAt yC _).trans hcf
 have KR:=(hs0.cellAt tF _).trans hct
 have hlo0:lo<=W0.heap.size:=zQ5 hlo hs0.size
 have hB0:=hB.since hs0
 clear hcf hct
 have hCo:=Al lo p f t d L W0 0 hB0 R hf ht M rest HE.out hlo0 (fun e w'=>e=.returned (.tuple #[])/\∃ L',bX lo w' p d3 L' 0/\Fr (Up lo fun _=>False) W0 w') (fun er' h w' hF=>by rw [HPM.out] at h;cases h) (fun d' L' w' h hB' hF=>by rw [HPM.out] at h;cases h;exact ⟨rfl,L',hB',hF⟩)
 go_wp2_with (go_at_call 89;refine hCo.mono ?_;rintro e w5 hR;obtain ⟨rfl,L5,hB5,Ni⟩:=hR.out)
 have hF5:=(hs0.up lo (fun _=>False)).aF Ni
 have Qf:=(Ni.cell (p:=⟨qt,0,none⟩) (zQ4 tF hs0.size) (by rintro (h | h);exact h hqt;exact h)).trans KR
 have Qg:qt < w5.heap.size:=zQ4 tF hF5.size
 clear hR hCo Oo KR
 have nG:=hB5.made.box.lt
 have b0:=hB5.made.box.c0
 have b1:=hB5.made.box.c1
 have b2:=hB5.made.box.c2
 obtain ⟨U0,hW0⟩:∃ y,w5.drew=y:=⟨_,rfl⟩
 have hs5:=bM hW0
 obtain ⟨S5,hS5⟩:∃ S0:World->Prop,∀ w',S0 w'↔Since w5 w':=⟨_,fun _=>Iff.rfl⟩
 have x0:∀ y:aj S5,y.w.cell? ⟨p,0,none⟩=some (.slice (L5 (0,0,0)).a d3.groups.length (L5 (0,0,0)).cap):=fun y=>(((hS5 _).1 y.h).cellAt nG _).trans b0
 have x1:∀ y:aj S5,y.w.cell? ⟨p,1,none⟩=some (.slice (L5 (1,0,0)).a d3.nodes.length (L5 (1,0,0)).cap):=fun y=>(((hS5 _).1 y.h).cellAt nG _).trans b1
 have x2:∀ y:aj S5,y.w.cell? ⟨p,2,none⟩=some (.slice (L5 (2,0,0)).a d3.wires.length (L5 (2,0,0)).cap):=fun y=>(((hS5 _).1 y.h).cellAt nG _).trans b2
 have x3:∀ y:aj S5,y.w.cell? ⟨qt,0,none⟩=some (.int .i64 t):=fun y=>(((hS5 _).1 y.h).cellAt Qg _).trans Qf
 have Iu:=(hS5 U0).2 hs5
 have hne:Nonempty (aj S5):=⟨⟨_,Iu⟩⟩
 have dG:=aQ w
 have hTN:=jG (fP L5 d3) d3 t U0 (hB5.made.own.since hs5).wat
 unfold fP at hTN
 rw [HTL.out] at hTN
 dsimp only at hTN
 refine aS (fun w'=>∃ x:aj S5,w'=x.w) (by kernel_rfl) ?_
 rw [hW0]
 clear hW0
 refine tW 0 rfl ?_;go_big_quiet_op
 refine tW 1 rfl ?_;go_big_quiet_op
 refine tW 2 rfl ?_;go_big_quiet_op
 refine tW 3 rfl ?_;go_big_quiet_op
 refine tM 4 rfl (ah Iu) ?_;go_big_quiet_op
 refine tM 5 rfl (ah Iu) ?_;go_big_quiet_op
 refine aT 6 rfl (by kernel_rfl) ?_
 intro K hK
 go_simp
 refine hTN.mono ?_
 rintro e wT hR
 obtain ⟨L6,rfl,hO6,hFT⟩:=hR.out.2 d4 mm rfl
 have hST:=hFT.none
 simp only [aI]
 refine hK _ _ (fun h=>absurd h (by decide +kernel)) ?_
 clear hK K
 refine tW 7 rfl ?_;go_big_quiet_op
 refine tW 8 rfl ?_;go_big_quiet_op
 refine tW 9 rfl ?_;go_big_quiet_op
 refine aT 10 rfl (by kernel_rfl) ?_
 intro K hK
 go_simp
 have hCt:=nD (L':=L6) (d':=d4) mm (by omega) hmm (hB5.since (hs5.trans hST)) (hO6.mono (by have:=hs5.size;have:=hB5.made.box.lt;omega))
 unfold aI at hCt
 refine hCt.mono ?_
 rintro e w9 ⟨rfl,hB9,hF9⟩
 dsimp only
 refine hK _ _ (fun h=>absurd h (by decide +kernel)) ?_
 clear hK K
 refine dB (by kernel_rfl) ?_
 clear x0 x1 x2 x3 hne dG
 go_end0
 rw [Int.zero_add] at hB9
 exact ⟨rfl,L6,hB9,hF5.aF ((((hs5.trans hST).up _ _).aF (hF9.mono (fun i _ e=>.inl (by have e:i=p:=e;omega)))))⟩
def qB (d:Wd) (f t:Int):Except Int (Wd × Int) :=
 if inB f 0 ((d.nodes.length:Int) - 1) && inB t 0 ((d.nodes.length:Int) - 1) then (fu d f.toNat t.toNat).bind fun d3=>(eB d3 t.toNat).bind fun p=>.ok (p.1,(p.2:Int)) else .error 4
theorem FU (d:Wd) (f t:Int):jW d f t=checked d ((qB d f t).bind fun p=>.ok p.1):=by
 unfold jW checked qB
 split
 ·split
  ·rw [EW]
   cases fu d f.toNat t.toNat with
   | error e=>rfl
   | ok d3=>show (eB d3 t.toNat).bind _=((eB d3 t.toNat).bind _).bind _;cases eB d3 t.toNat <;> rfl
  ·rfl
 ·rfl
theorem yK (n:Int) (k:Nat):inB n 0 ((k:Int) - 1)=(decide (0<=n) && decide (n < (k:Int))):=by
 unfold inB
 have:(n<=(k:Int) - 1)=(n < (k:Int)):=propext ⟨fun h=>by omega,fun h=>by omega⟩
 simp [this,Bool.decide_and]
theorem FV (lo p qf qt:Nat) (f t:Int) (d:Wd) (L:Lay) (w:World) (hB:bX lo w p d L 0) (R:Right d) (hqf:qf < lo) (hqt:qt < lo) (hcf:w.cell? ⟨qf,0,none⟩=some (.int .i64 f)) (hct:w.cell? ⟨qt,0,none⟩=some (.int .i64 t)) (hlo:lo<=w.heap.size) :
  Calls prog 86 #[.pointer (some ⟨p,0,none⟩),.pointer (some ⟨qf,0,none⟩),.pointer (some ⟨qt,0,none⟩)] w fun e w'=>Hid (tu lo (fun _=>False) p w (qB d f t) e w'):=by
 cases hi:(inB f 0 ((d.nodes.length:Int) - 1) && inB t 0 ((d.nodes.length:Int) - 1)) with
 | false =>
  have e:qB d f t=.error 4:=by unfold qB;rw [hi];rfl
  rw [e]
  rw [yK,yK] at hi
  exact (Om lo p qf qt f t d L w hB hcf hct hi).mono fun _ _ ⟨he,hF⟩=>by rw [he];exact fM hF
 | true =>
  have hi':=hi
  simp only [Bool.and_eq_true] at hi'
  obtain ⟨i1,i2⟩:=hi'
  have f0:0<=f/\f<=(d.nodes.length:Int) - 1:=by simpa [inB] using i1
  have t0:0<=t/\t<=(d.nodes.length:Int) - 1:=by simpa [inB] using i2
  obtain ⟨a,rfl⟩:∃ k:Nat,f=(k:Int):=⟨f.toNat,by omega⟩
  obtain ⟨b,rfl⟩:∃ k:Nat,t=(k:Int):=⟨t.toNat,by omega⟩
  have ha:a < d.nodes.length:=by omega
  have hb:b < d.nodes.length:=by omega
  have e:qB d a b=(fu d a b).bind fun d3=>(eB d3 b).bind fun p=>.ok (p.1,(p.2:Int)):=by unfold qB;rw [hi];rfl
  rw [e]
  cases hE:ay d a b with
  | nil =>
   have e1:fu d a b=.error 7:=by unfold fu;rw [hE]
   rw [e1]
   exact (Ir lo p qf qt a b d L w hB R hqf hqt hcf hct hlo ha hb hE).mono fun _ _ ⟨he,hF⟩=>by rw [he];exact fM hF
  | cons M rest =>
   cases hP:fu d a b with
   | error er=>exact (KQ lo p qf qt a b d L w hB R hqf hqt hcf hct hlo ha hb M rest hE er hP).mono fun _ _ ⟨he,hF⟩=>by rw [he];exact fM hF
   | ok d3 =>
    obtain ⟨m,S⟩:=zD R ha hb hP
    have R3:=oH R S
    have hb3:b < d3.nodes.length:=by rw [S.alike.n];exact hb
    have hTC:=nH R3 hb3
    show Calls _ _ _ _ fun e w'=>Hid (tu lo (fun _=>False) p w ((eB d3 b).bind fun p=>.ok (p.1,(p.2:Int))) e w')
    cases hT:eB d3 b with
    | error er =>
     rw [hT] at hTC
     have her:(er == 0)=false:=by rcases xE hb3 hT with rfl | ⟨rfl,_⟩ <;> rfl
     exact (KT lo p qf qt a b d L w hB R hqf hqt hcf hct hlo ha hb M rest hE d3 hP er her hTC).mono fun _ _ ⟨he,hF⟩=>by rw [he];exact fM hF
    | ok pp =>
     obtain ⟨d4,mm⟩:=pp
     rw [hT] at hTC
     exact (Nj lo p qf qt a b d L w hB R hqf hqt hcf hct hlo ha hb M rest hE d3 hP d4 mm (uS R3 hT) hTC).mono fun _ _ ⟨he,L',hB',hF⟩=>by rw [he];exact nY hF hB'
theorem qO (x:WV) (d:Wd) (f t:Int) (w:World) (hW:WAt w x d) :
  Calls prog 33 #[.agg #[.slice x.ga x.gl x.gc,.slice x.na x.nl x.nc,.slice x.wa x.wl x.wc],.int .i64 f,.int .i64 t] w fun e w'=>Hid (sZ w (jW d f t) e w'):=by
 obtain ⟨ga,gl,gc,na,nl,nc,wa,wl,wc⟩:=x
 dsimp only
 obtain ⟨wp,hwp⟩:∃ wp,w.alloc (.cells #[.slice ga gl gc,.slice na nl nc,.slice wa wl wc] 26)=wp:=⟨_,rfl⟩
 have hPp:aG wp w.heap.size ⟨ga,gl,gc,na,nl,nc,wa,wl,wc⟩:=by rw [<-hwp];exact aG.new w ⟨ga,gl,gc,na,nl,nc,wa,wl,wc⟩ _
 have hSp:=au hwp
 obtain ⟨wf,hwf⟩:∃ w1,wp.alloc (.cells #[.int .i64 f] 3)=w1:=⟨_,rfl⟩
 have Qh:=au hwf
 have hfl:wp.heap.size < wf.heap.size:=by rw [<-hwf];simp
 have hfc:wf.cell? ⟨wp.heap.size,0,none⟩=some (.int .i64 f):=by rw [<-hwf];simp [go_sem]
 obtain ⟨wq,hwq⟩:∃ w1,wf.alloc (.cells #[.int .i64 t] 3)=w1:=⟨_,rfl⟩
 have Nk:=au hwq
 have Ak:=Qh.trans Nk
 have hql:wf.heap.size < wq.heap.size:=by rw [<-hwq];simp
 have hqc:wq.cell? ⟨wf.heap.size,0,none⟩=some (.int .i64 t):=by rw [<-hwq];simp [go_sem]
 obtain ⟨w1,hw1⟩:∃ w1,wq.alloc (.cells #[.slice none 0 0,.slice none 0 0,.slice none 0 0] 26)=w1:=⟨_,rfl⟩
 have hNB:aC w1 wq.heap.size:=by rw [<-hw1];exact aC.new wq _
 have pQ:=au hw1
 have bU:=Ak.trans pQ
 have hP1:=hPp.since bU
 have hS1:=hSp.trans bU
 have hW1:=hW.since hS1
 have p0:=hP1.c0
 have p1:=hP1.c1
 have p2:=hP1.c2
 dsimp only at p0 p1 p2
 have hmf:∀ (fn:Fn) (first cap:Array Value) (w:World),(Instr.makeFunc fn first cap).run prog w=.ok (.func fn first cap) w:=fun _ _ _ _=>rfl
 have hDo:=lJ ⟨ga,gl,gc,na,nl,nc,wa,wl,wc⟩ d 86 #[.pointer (some ⟨wp.heap.size,0,none⟩),.pointer (some ⟨wf.heap.size,0,none⟩)] (fun _=>False) w1 hW1 (fun _ h=>h.elim) (qB d f t) (enters_of func86 (by kernel_rfl) rfl)
  (fun hE lo p L y hlo hy hB=>FV lo p wp.heap.size wf.heap.size f t d L y hB ((cu d).1 hE) (by have:=pQ.size;omega) (by have:=pQ.size;omega) ((((Nk.trans pQ).trans hy).cellAt hfl _).trans hfc) (((pQ.trans hy).cellAt hql _).trans hqc) (by have:=hB.made.box.lt;have:=hB.lop;omega))
 dsimp only at hDo
 rw [FU,qx]
 obtain ⟨r,hr⟩:∃ r,checked d (qB d f t)=r:=⟨_,rfl⟩
 rw [hr] at hDo ⊢
 clear hr hW
 have hle:=zQ5 hSp.size Ak.size
 have hwx:Hid (∀ y,Fr (fun _=>False) w1 y->Since w y/\aC y wq.heap.size):=fun y hy=>⟨hS1.trans hy.none,hNB.since hy.none⟩
 cases r with
 | error er =>
  go_enter func33,ntmps33
  go_wp2_with fail
  refine hDo.mono ?_
  rintro e w2 hR
  obtain ⟨rfl,hF2⟩:=hR.out.1 er rfl
  obtain ⟨hS2,hN2⟩:=hwx.out _ hF2
  clear hR hw1 hwp hwq hwf
  obtain ⟨w3,hw3⟩:∃ y,w2.alloc (.cells #[.slice none 0 0,.slice none 0 0,.slice none 0 0] 26)=y:=⟨_,rfl⟩
  have Hq:=au hw3
  have hN3:aC w3 w2.heap.size:=by rw [<-hw3];exact aC.new w2 _
  obtain ⟨w4,hw4⟩:∃ y,((w3.setCell ⟨w2.heap.size,0,none⟩ (.slice none 0 0)).setCell ⟨w2.heap.size,1,none⟩ (.slice none 0 0)).setCell ⟨w2.heap.size,2,none⟩ (.slice none 0 0)=y:=⟨_,rfl⟩
  have hF4:Fr (fun i=>i=w2.heap.size) w3 w4:=by rw [<-hw4];exact dX w3 w2.heap.size _ _ _
  have hS4:Since w2 w4:=hF4.aA Hq (fun i hi e=>by omega)
  have hN4:aC w4 w2.heap.size:=by
   rw [<-hw4]
   exact ⟨zQ4 hN3.lt (dX w3 w2.heap.size _ _ _).size,rH hN3.c0,rJ hN3.c1,rM hN3.c2,(gU _ _ _ _ _ _).trans hN3.z0,(gU _ _ _ _ _ _).trans hN3.z1,(gU _ _ _ _ _ _).trans hN3.z2⟩
  obtain ⟨_,a0,a1,a2,a3,a4,a5⟩:=hN3
  obtain ⟨_,c0,c1,c2,_,_,_⟩:=hN4
  obtain ⟨_,r0,r1,r2,r3,r4,r5⟩:=hN2.since hS4
  go_wp2_with fail
  refine bodyPost_ret (v:=.tuple #[.agg #[.slice none 0 0,.slice none 0 0,.slice none 0 0],.int .i64 er]) ?_ rfl (show Hid _ from dJ (aK hle (hS2.trans hS4)))
  simp [results,results33,go_sem,r0,r1,r2]
 | ok dm =>
  obtain ⟨d',m⟩:=dm
  go_enter func33,ntmps33
  go_wp2_with fail
  refine hDo.mono ?_
  rintro e w2 hR
  obtain ⟨L,rfl,hO,hF2⟩:=hR.out.2 d' m rfl
  obtain ⟨hS2,hN2⟩:=hwx.out _ hF2
  clear hR hw1 hwp hwq hwf
  simp only [aI]
  obtain ⟨w3,hw3⟩:∃ y,w2.alloc (.cells #[.slice (L (0,0,0)).a d'.groups.length (L (0,0,0)).cap,.slice (L (1,0,0)).a d'.nodes.length (L (1,0,0)).cap,.slice (L (2,0,0)).a d'.wires.length (L (2,0,0)).cap] 26)=y:=⟨_,rfl⟩
  have hS3:=au hw3
  have hB3:iA w3 w2.heap.size L d':=by rw [<-hw3];constructor <;> simp [go_sem]
  obtain ⟨_,b0,b1,b2,_,_,_⟩:=hB3
  obtain ⟨_,r0,r1,r2,r3,r4,r5⟩:=hN2.since hS3
  obtain ⟨hO2,hSf⟩:=(hO.since hS3).result (w0:=w) (p:=wq.heap.size) hNB.lt hle (hS2.trans hS3) hS1.size
  go_wp2_with fail
  refine bodyPost_ret (v:=.tuple #[aI L d',.int .i64 0]) ?_ rfl (show Hid _ from fF hO2 hSf)
  simp [results,results33,go_sem,r0,r1,r2,aI]
theorem qj (f t:Nat):∀ (k:Nat) (d:Wd),dV f t (k+1) d=(dV f t k d).bind fun d'=>fJ d' f t
 | 0,d=>by
  show (fJ d f t).bind (dV f t 0)=fJ d f t
  cases fJ d f t <;> rfl
 | k+1,d=>by
  show (fJ d f t).bind (dV f t (k+1))=((fJ d f t).bind (dV f t k)).bind _
  cases h:fJ d f t with
  | error e=>rfl
  | ok d1=>exact qj f t k d1
theorem uL {f t:Nat} {d:Wd} {e:Int} {k:Nat} (h:dV f t k d=.error e):∀ j,dV f t (k+j) d=.error e
 | 0=>h
 | j+1=>by rw [<-Nat.add_assoc,qj,uL h j];rfl
theorem DI {d:Wd} {f t:Nat} (R:Right d) (hf:f < d.nodes.length) (ht:t < d.nodes.length):jW d (f:Int) (t:Int)=fJ d f t:=by
 unfold jW
 rw [if_pos ((cu d).2 R),if_pos (by simp [inB];omega),Int.toNat_natCast,Int.toNat_natCast]
def oN (d:Wd) (f t:Int):Except Int (Wd × Int) :=
 if inB f 0 ((d.nodes.length:Int) - 1) && inB t 0 ((d.nodes.length:Int) - 1) then (pG d f.toNat t.toNat).bind fun r=>.ok (r.1,(r.2:Int)) else .error 4
theorem Nl (lo p qf qt:Nat) (f t:Int) (d:Wd) (L:Lay) (w:World) (hB:bX lo w p d L 0) (hcf:w.cell? ⟨qf,0,none⟩=some (.int .i64 f)) (hct:w.cell? ⟨qt,0,none⟩=some (.int .i64 t)) (hn:((decide (0<=f) && decide (f < (d.nodes.length:Int))) && (decide (0<=t) && decide (t < (d.nodes.length:Int))))=false) :
  Calls prog 95 #[.pointer (some ⟨p,0,none⟩),.pointer (some ⟨qf,0,none⟩),.pointer (some ⟨qt,0,none⟩)] w fun e w'=>e=.panicked (pan 4)/\Fr (Up lo fun _=>False) w w':=by
 have b1:=hB.made.box.c1
 have hb:=Nh p f t _ _ _ w b1 hn
 clear hn
 go_enter func95,ntmps95
 go_wp2_with (go_at_call 87;refine hb.mono ?_;rintro e w' ⟨rfl,hw'⟩;obtain rfl:=hw'.symm)
 exact ⟨rfl,rfl,Fr.refl _ _⟩
theorem KU (lo p qf qt f t:Nat) (d:Wd) (L:Lay) (w:World) (hB:bX lo w p d L 0) (R:Right d) (hqf:qf < lo) (hqt:qt < lo) (hcf:w.cell? ⟨qf,0,none⟩=some (.int .i64 f)) (hct:w.cell? ⟨qt,0,none⟩=some (.int .i64 t)) (hlo:lo<=w.heap.size) (hf:f < d.nodes.length) (ht:t < d.nodes.length) (N:Nat) (hN:(ay d f t).length=N) (Post:Ending->World->Prop)
  (iX:∀ er,dV f t N d=.error er->∀ w',Fr (Up lo fun _=>False) w w'->Post (.panicked (pan er)) w')
  (hOk:∀ d' L' w',dV f t N d=.ok d'->bX lo w' p d' L' (N:Int)->Fr (Up lo fun _=>False) w w'->Post (.returned (.tuple #[])) w') :
  Calls prog 95 #[.pointer (some ⟨p,0,none⟩),.pointer (some ⟨qf,0,none⟩),.pointer (some ⟨qt,0,none⟩)] w fun e w'=>Hid (Post e w'):=by
 have iG:=(show Hid _ from iX)
 have HOK:=(show Hid _ from hOk)
 have HN:Hid ((ay d f t).length=N):=hN
 have PI:Hid (N<=40):=by unfold Hid;rw [<-hN];exact R.nR f t
 have HR:Hid (Right d):=R
 clear iX hOk hN R
 have hpl:=hB.made.box.lt
 have xM:=hB.lop
 have yC:qf < w.heap.size:=by omega
 have tF:qt < w.heap.size:=by omega
 have htn:(t:Int) < (d.nodes.length:Int):=by omega
 have hfn:(f:Int) < (d.nodes.length:Int):=by omega
 have b1:=hB.made.box.c1
 have QF:Hid (∀ y,Fr (Up lo fun _=>False) w y->y.cell? ⟨qf,0,none⟩=some (.int .i64 f)/\y.cell? ⟨qt,0,none⟩=some (.int .i64 t)):=fun y hy =>
  ⟨(hy.cell (p:=⟨qf,0,none⟩) yC (by rintro (h | h);exact h hqf;exact h)).trans hcf,(hy.cell (p:=⟨qt,0,none⟩) tF (by rintro (h | h);exact h hqt;exact h)).trans hct⟩
 go_enter func95,ntmps95
 go_wp2_with (go_at_call 87;refine (Am p f t _ _ _ w b1 hfn htn).mono ?_;rintro e w' ⟨rfl,hw'⟩;obtain rfl:=hw'.symm)
 clear b1 hcf hct htn hfn
 go_loopw [] (fun wr=>∃ (k:Nat) (dk:Wd) (Lk:Lay),k<=N/\dV f t k d=.ok dk/\bX lo wr p dk Lk (k:Int)/\Fr (Up lo fun _=>False) w wr) (fun wr=>N - (intOf ((wr.cell? ⟨p,3,none⟩).getD (.int .i64 0))).toNat)
 case atStart=>exact ⟨0,d,L,Nat.zero_le _,rfl,hB,Fr.refl _ _⟩
 case round =>
  clear hB
  obtain ⟨wo,rfl⟩:∃ wo,wo=wr:=⟨_,rfl⟩
  obtain ⟨k,dk,Lk,hk,hmv,hSB,hUp⟩:=hrel
  have HMV:Hid (dV f t k d=.ok dk):=hmv
  have HSB:Hid (bX lo wo p dk Lk (k:Int)):=hSB
  have hms:=vW k d dk HR.out hf ht (by rw [HN.out];exact hk) hmv
  have HRK:Hid (Right dk/\dk.nodes.length=d.nodes.length):=⟨hms.right,hms.grow.alike.n⟩
  obtain ⟨nn,hnn⟩:∃ nn,(ay dk f t).length=nn:=⟨_,rfl⟩
  have HNN:Hid ((ay dk f t).length=nn):=hnn
  have HNK:Hid (nn=N - k):=by unfold Hid;rw [<-hnn,hms.here,List.length_drop,HN.out]
  have hlow:lo<=wo.heap.size:=zQ5 hlo hUp.size
  have hfk:f < dk.nodes.length:=by rw [HRK.out.2];exact hf
  have htk:t < dk.nodes.length:=by rw [HRK.out.2];exact ht
  have hwn:(f:Int) < (dk.wires.length:Int):=by have:=HRK.out.1.vX;omega
  have htn:(t:Int) < (dk.nodes.length:Int):=by omega
  have hpl:=hSB.made.box.lt
  have Oq:qf < wo.heap.size:=by omega
  have Ot:qt < wo.heap.size:=by omega
  obtain ⟨q1,q2⟩:=QF.out _ hUp
  obtain ⟨bw2,ow2,cw2,br2,oR2,cr2,hH⟩:=hSB.made.oJ HRK.out.1.rows hfk htk
  obtain ⟨la,lcc,hL8⟩:∃ la lcc,Lk (8,f,t)=⟨la,lcc⟩:=⟨_,_,rfl⟩
  have hcell:=hH.cell
  rw [hL8,hnn] at hcell
  dsimp only [Sl.v] at hcell
  have hbr:=hH.ltr
  have HK:Hid (k<=N):=hk
  clear hmv hms hnn hL8 hk
  by_cases hlt:k < N
  ·have hp:(0:Int) < (nn:Int):=by have:=HNK.out;omega
   have HLT:Hid (k < N):=hlt
   clear hlt
   obtain ⟨W0,hW0⟩:∃ y,wo.drew=y:=⟨_,rfl⟩
   have hs0:=bM hW0
   obtain ⟨S0,hS0⟩:∃ S0:World->Prop,∀ w',S0 w'↔Since wo w':=⟨_,fun _=>Iff.rfl⟩
   have c1:∀ y:aj S0,y.w.cell? ⟨p,2,none⟩=some (.slice (some ⟨bw2,ow2,none⟩) dk.wires.length cw2):=fun y=>(hH.since ((hS0 _).1 y.h)).top
   have c2:∀ y:aj S0,y.w.cell? ⟨bw2,ow2+f,none⟩=some (.slice (some ⟨br2,oR2,none⟩) dk.nodes.length cr2):=fun y=>(hH.since ((hS0 _).1 y.h)).row
   have c3:∀ y:aj S0,y.w.cell? ⟨br2,oR2+t,none⟩=some (.slice la nn lcc):=fun y=>(((hS0 _).1 y.h).cellAt hbr _).trans hcell
   have c4:∀ y:aj S0,y.w.cell? ⟨qf,0,none⟩=some (.int .i64 f):=fun y=>(((hS0 _).1 y.h).cellAt Oq _).trans q1
   have c5:∀ y:aj S0,y.w.cell? ⟨qt,0,none⟩=some (.int .i64 t):=fun y=>(((hS0 _).1 y.h).cellAt Ot _).trans q2
   have av:=(hS0 W0).2 hs0
   have hne:Nonempty (aj S0):=⟨⟨_,av⟩⟩
   have dG:=aQ w
   go_wp2_with fail
   refine aS (fun w'=>∃ x:aj S0,w'=x.w) (by kernel_rfl) ?_
   rw [hW0]
   clear hW0
   refine tW 0 rfl ?_;go_big_quiet_op
   refine tW 1 rfl ?_;go_big_quiet_op
   refine tW 2 rfl ?_;go_big_quiet_op
   refine tW 3 rfl ?_;go_big_quiet_op
   refine tM 4 rfl (ah av) ?_;go_big_quiet_op
   refine tM 5 rfl (ah av) ?_;go_big_quiet_op
   refine tW 6 rfl ?_;go_big_quiet_op
   refine tM 7 rfl (ah av) ?_;go_big_quiet_op
   refine tM 8 rfl (ah av) ?_;go_big_quiet_op
   refine tW 9 rfl ?_;go_big_quiet_op
   refine tM 10 rfl (ah av) ?_;go_big_quiet_op
   refine tM 11 rfl (ah av) ?_;go_big_quiet_op
   refine tW 12 rfl ?_;go_big_quiet_op
   refine dB (by kernel_rfl) ?_
   have hp':=hp
   clear c1 c2 c3 c4 c5 hne
   have hB0:=hSB.since hs0
   have b0:=hB0.made.box.c0
   have b1:=hB0.made.box.c1
   have b2:=hB0.made.box.c2
   have Qi:=hB0.made.box.lt
   have q1':=(hs0.cellAt Oq _).trans q1
   have q2':=(hs0.cellAt Ot _).trans q2
   have Ua:qf < W0.heap.size:=zQ4 Oq hs0.size
   have Ub:qt < W0.heap.size:=zQ4 Ot hs0.size
   clear q1 q2 hcell
   obtain ⟨W1,hW0⟩:∃ y,W0.drew=y:=⟨_,rfl⟩
   have hs1:=bM hW0
   obtain ⟨S1,hS1⟩:∃ S0:World->Prop,∀ w',S0 w'↔Since W0 w':=⟨_,fun _=>Iff.rfl⟩
   have x0:∀ y:aj S1,y.w.cell? ⟨p,0,none⟩=some (.slice (Lk (0,0,0)).a dk.groups.length (Lk (0,0,0)).cap):=fun y=>(((hS1 _).1 y.h).cellAt Qi _).trans b0
   have x1:∀ y:aj S1,y.w.cell? ⟨p,1,none⟩=some (.slice (Lk (1,0,0)).a dk.nodes.length (Lk (1,0,0)).cap):=fun y=>(((hS1 _).1 y.h).cellAt Qi _).trans b1
   have x2:∀ y:aj S1,y.w.cell? ⟨p,2,none⟩=some (.slice (Lk (2,0,0)).a dk.wires.length (Lk (2,0,0)).cap):=fun y=>(((hS1 _).1 y.h).cellAt Qi _).trans b2
   have x3:∀ y:aj S1,y.w.cell? ⟨qf,0,none⟩=some (.int .i64 f):=fun y=>(((hS1 _).1 y.h).cellAt Ua _).trans q1'
   have x4:∀ y:aj S1,y.w.cell? ⟨qt,0,none⟩=some (.int .i64 t):=fun y=>(((hS1 _).1 y.h).cellAt Ub _).trans q2'
   have vL:=(hS1 W1).2 hs1
   have hne:Nonempty (aj S1):=⟨⟨_,vL⟩⟩
   have Iw:=qO (fP Lk dk) dk f t W1 (hB0.made.own.since hs1).wat
   unfold fP at Iw
   rw [DI HRK.out.1 hfk htk] at Iw
   dsimp only at Iw
   have HM1:Hid (dV f t (k+1) d=fJ dk f t):=by unfold Hid;rw [qj,HMV.out];rfl
   obtain ⟨r,hr⟩:∃ r,fJ dk f t=r:=⟨_,rfl⟩
   rw [hr] at Iw
   have HRR:Hid (dV f t (k+1) d=r):=by unfold Hid;rw [HM1.out,hr]
   have HNZ:Hid (∀ e,r=.error e->(e == 0)=false):=fun e h=>by rw [h] at hr;have:=wm hr;simpa using this
   clear hr b0 b1 b2 q1' q2'
   cases r with
   | error er =>
    have her:=HNZ.out er rfl
    go_wp2_with fail
    refine aS (fun w'=>∃ x:aj S1,w'=x.w) (by kernel_rfl) ?_
    rw [hW0]
    clear hW0
    refine tW 0 rfl ?_;go_big_quiet_op
    refine tW 1 rfl ?_;go_big_quiet_op
    refine tW 2 rfl ?_;go_big_quiet_op
    refine tW 3 rfl ?_;go_big_quiet_op
    refine tM 4 rfl (ah vL) ?_;go_big_quiet_op
    refine tM 5 rfl (ah vL) ?_;go_big_quiet_op
    refine tM 6 rfl (ah vL) ?_;go_big_quiet_op
    refine aT 7 rfl (by kernel_rfl) ?_
    intro K hK
    go_simp
    refine Iw.mono ?_
    rintro e wT hR
    obtain ⟨rfl,hST⟩:=hR.out.1 er rfl
    dsimp only
    refine hK _ _ (fun h=>absurd h (by decide +kernel)) ?_
    clear hK K
    refine tW 8 rfl ?_;go_big_quiet_op
    refine tW 9 rfl ?_;go_big_quiet_op
    refine aT 10 rfl (by kernel_rfl) ?_
    intro K hK
    go_simp
    refine (uQ p ⟨none,0,0,none,0,0,none,0,0⟩ er her wT).mono ?_
    rintro e w' ⟨rfl,hS9⟩
    dsimp only
    exact ⟨rfl,iG.out er (by have:=uL HRR.out (N - (k+1));rwa [show k+1+(N - (k+1))=N from by have:=HLT.out;omega] at this) _ (hUp.aF ((((hs0.trans hs1).trans hST).trans hS9).up _ _))⟩
   | ok d2 =>
    go_wp2_with fail
    refine aS (fun w'=>∃ x:aj S1,w'=x.w) (by kernel_rfl) ?_
    rw [hW0]
    clear hW0
    refine tW 0 rfl ?_;go_big_quiet_op
    refine tW 1 rfl ?_;go_big_quiet_op
    refine tW 2 rfl ?_;go_big_quiet_op
    refine tW 3 rfl ?_;go_big_quiet_op
    refine tM 4 rfl (ah vL) ?_;go_big_quiet_op
    refine tM 5 rfl (ah vL) ?_;go_big_quiet_op
    refine tM 6 rfl (ah vL) ?_;go_big_quiet_op
    refine aT 7 rfl (by kernel_rfl) ?_
    intro K hK
    go_simp
    refine Iw.mono ?_
    rintro e wT hR
    obtain ⟨L6,rfl,hO6,hST⟩:=hR.out.2 d2 rfl
    simp only [aI]
    refine hK _ _ (fun h=>absurd h (by decide +kernel)) ?_
    clear hK K
    refine tW 8 rfl ?_;go_big_quiet_op
    refine tW 9 rfl ?_;go_big_quiet_op
    refine aT 10 rfl (by kernel_rfl) ?_
    intro K hK
    go_simp
    have hCt:=xO (L':=L6) (d':=d2) (hB0.since (hs1.trans hST)) (hO6.mono (by have:=hs1.size;have:=hB0.made.box.lt;omega))
    unfold aI at hCt
    refine hCt.mono ?_
    rintro e w9 ⟨rfl,hB9,hF9⟩
    dsimp only
    refine hK _ _ (fun h=>absurd h (by decide +kernel)) ?_
    clear hK K
    refine dB (by kernel_rfl) ?_
    clear x0 x1 x2 x3 x4 hne dG Iw
    have cm:=hB9.cm
    have zm:=hB9.zm
    have hk1:IntKind.i64.wrap ((k:Int)+1)=(k:Int)+1:=IntWalk.i64_in _ (by have:=HLT.out;have:=PI.out;omega)
    have hU9:Fr (Up lo fun _=>False) w w9:=hUp.aF ((((hs0.trans hs1).trans hST).up _ _).aF (hF9.mono (fun i _ e=>.inl (by have e:i=p:=e;omega))))
    obtain ⟨wE,hwE⟩:∃ y,w9.setCell ⟨p,3,none⟩ (.int .i64 ((k:Int)+1))=y:=⟨_,rfl⟩
    have hBE:=hB9.many ((k:Int)+1)
    rw [hwE] at hBE
    have hUE:Fr (Up lo fun _=>False) w wE:=by rw [<-hwE];exact hU9.aF ((Fr.refl _ w9).setCell ⟨p,3,none⟩ _ (fun _=>.inl (by show ¬ p < lo;omega)))
    go_wp2
    go_roundw
    case rel=>exact ⟨k+1,d2,L6,HLT.out,HRR.out,by have:=hBE;rwa [show ((k+1:Nat):Int)=(k:Int)+1 from by omega],hUE⟩
    case measure =>
     have h1:=hBE.cm
     have h2:=HSB.out.cm
     have:=HLT.out
     simp [h1,h2,intOf]
     omega
  ·have HE:Hid (N=k):=by unfold Hid;have:=HK.out;omega
   have hp:¬ (0:Int) < (nn:Int):=by have:=HNK.out;omega
   clear hlt
   obtain ⟨W0,hW0⟩:∃ y,wo.drew=y:=⟨_,rfl⟩
   have hs0:=bM hW0
   obtain ⟨S0,hS0⟩:∃ S0:World->Prop,∀ w',S0 w'↔Since wo w':=⟨_,fun _=>Iff.rfl⟩
   have c1:∀ y:aj S0,y.w.cell? ⟨p,2,none⟩=some (.slice (some ⟨bw2,ow2,none⟩) dk.wires.length cw2):=fun y=>(hH.since ((hS0 _).1 y.h)).top
   have c2:∀ y:aj S0,y.w.cell? ⟨bw2,ow2+f,none⟩=some (.slice (some ⟨br2,oR2,none⟩) dk.nodes.length cr2):=fun y=>(hH.since ((hS0 _).1 y.h)).row
   have c3:∀ y:aj S0,y.w.cell? ⟨br2,oR2+t,none⟩=some (.slice la nn lcc):=fun y=>(((hS0 _).1 y.h).cellAt hbr _).trans hcell
   have c4:∀ y:aj S0,y.w.cell? ⟨qf,0,none⟩=some (.int .i64 f):=fun y=>(((hS0 _).1 y.h).cellAt Oq _).trans q1
   have c5:∀ y:aj S0,y.w.cell? ⟨qt,0,none⟩=some (.int .i64 t):=fun y=>(((hS0 _).1 y.h).cellAt Ot _).trans q2
   have av:=(hS0 W0).2 hs0
   have hne:Nonempty (aj S0):=⟨⟨_,av⟩⟩
   have dG:=aQ w
   go_wp2_with fail
   refine aS (fun w'=>∃ x:aj S0,w'=x.w) (by kernel_rfl) ?_
   rw [hW0]
   clear hW0
   refine tW 0 rfl ?_;go_big_quiet_op
   refine tW 1 rfl ?_;go_big_quiet_op
   refine tW 2 rfl ?_;go_big_quiet_op
   refine tW 3 rfl ?_;go_big_quiet_op
   refine tM 4 rfl (ah av) ?_;go_big_quiet_op
   refine tM 5 rfl (ah av) ?_;go_big_quiet_op
   refine tW 6 rfl ?_;go_big_quiet_op
   refine tM 7 rfl (ah av) ?_;go_big_quiet_op
   refine tM 8 rfl (ah av) ?_;go_big_quiet_op
   refine tW 9 rfl ?_;go_big_quiet_op
   refine tM 10 rfl (ah av) ?_;go_big_quiet_op
   refine tM 11 rfl (ah av) ?_;go_big_quiet_op
   refine tW 12 rfl ?_;go_big_quiet_op
   refine dB (by kernel_rfl) ?_
   clear c1 c2 c3 c4 c5 hne dG
   go_wp2
   go_end0
   have hmv:=HMV.out
   rw [<-HE.out] at hmv
   exact HOK.out dk Lk _ hmv (by have:=HSB.out.since hs0;rwa [<-HE.out] at this) (hUp.aF (hs0.up _ _))
theorem DJ (lo p qf qt:Nat) (f t:Int) (d:Wd) (L:Lay) (w:World) (hB:bX lo w p d L 0) (R:Right d) (hqf:qf < lo) (hqt:qt < lo) (hcf:w.cell? ⟨qf,0,none⟩=some (.int .i64 f)) (hct:w.cell? ⟨qt,0,none⟩=some (.int .i64 t)) (hlo:lo<=w.heap.size) :
  Calls prog 95 #[.pointer (some ⟨p,0,none⟩),.pointer (some ⟨qf,0,none⟩),.pointer (some ⟨qt,0,none⟩)] w fun e w'=>Hid (tu lo (fun _=>False) p w (oN d f t) e w'):=by
 cases hi:(inB f 0 ((d.nodes.length:Int) - 1) && inB t 0 ((d.nodes.length:Int) - 1)) with
 | false =>
  have e:oN d f t=.error 4:=by unfold oN;rw [hi];rfl
  rw [e]
  rw [yK,yK] at hi
  exact (Nl lo p qf qt f t d L w hB hcf hct hi).mono fun _ _ ⟨he,hF⟩=>by rw [he];exact fM hF
 | true =>
  have hi':=hi
  simp only [Bool.and_eq_true] at hi'
  obtain ⟨i1,i2⟩:=hi'
  have f0:0<=f/\f<=(d.nodes.length:Int) - 1:=by simpa [inB] using i1
  have t0:0<=t/\t<=(d.nodes.length:Int) - 1:=by simpa [inB] using i2
  obtain ⟨a,rfl⟩:∃ k:Nat,f=(k:Int):=⟨f.toNat,by omega⟩
  obtain ⟨b,rfl⟩:∃ k:Nat,t=(k:Int):=⟨t.toNat,by omega⟩
  have ha:a < d.nodes.length:=by omega
  have hb:b < d.nodes.length:=by omega
  have e:oN d a b=(dV a b (ay d a b).length d).bind fun d'=>.ok (d',((ay d a b).length:Int)):=by
   unfold oN;rw [hi]
   show ((dV a b (ay d a b).length d).bind _).bind _=_
   cases dV a b (ay d a b).length d <;> rfl
  rw [e]
  exact KU lo p qf qt a b d L w hB R hqf hqt hcf hct hlo ha hb _ rfl (fun e w'=>tu lo (fun _=>False) p w ((dV a b (ay d a b).length d).bind fun d'=>.ok (d',((ay d a b).length:Int))) e w')
   (fun er h w' hF=>by rw [h];exact fM hF) (fun d' L' w' h hB' hF=>by rw [h];exact nY hF hB')
theorem Dt (x:WV) (d:Wd) (f t:Int) (w:World) (hW:WAt w x d) :
  Calls prog 36 #[.agg #[.slice x.ga x.gl x.gc,.slice x.na x.nl x.nc,.slice x.wa x.wl x.wc],.int .i64 f,.int .i64 t] w fun e w'=>Hid (xH w (checked d (oN d f t)) e w'):=by
 obtain ⟨ga,gl,gc,na,nl,nc,wa,wl,wc⟩:=x
 dsimp only
 obtain ⟨wp,hwp⟩:∃ wp,w.alloc (.cells #[.slice ga gl gc,.slice na nl nc,.slice wa wl wc] 26)=wp:=⟨_,rfl⟩
 have hPp:aG wp w.heap.size ⟨ga,gl,gc,na,nl,nc,wa,wl,wc⟩:=by rw [<-hwp];exact aG.new w ⟨ga,gl,gc,na,nl,nc,wa,wl,wc⟩ _
 have hSp:=au hwp
 obtain ⟨wf,hwf⟩:∃ w1,wp.alloc (.cells #[.int .i64 f] 3)=w1:=⟨_,rfl⟩
 have Qh:=au hwf
 have hfl:wp.heap.size < wf.heap.size:=by rw [<-hwf];simp
 have hfc:wf.cell? ⟨wp.heap.size,0,none⟩=some (.int .i64 f):=by rw [<-hwf];simp [go_sem]
 obtain ⟨wq,hwq⟩:∃ w1,wf.alloc (.cells #[.int .i64 t] 3)=w1:=⟨_,rfl⟩
 have Nk:=au hwq
 have Ak:=Qh.trans Nk
 have hql:wf.heap.size < wq.heap.size:=by rw [<-hwq];simp
 have hqc:wq.cell? ⟨wf.heap.size,0,none⟩=some (.int .i64 t):=by rw [<-hwq];simp [go_sem]
 obtain ⟨w1,hw1⟩:∃ w1,wq.alloc (.cells #[.slice none 0 0,.slice none 0 0,.slice none 0 0] 26)=w1:=⟨_,rfl⟩
 have hNB:aC w1 wq.heap.size:=by rw [<-hw1];exact aC.new wq _
 have pQ:=au hw1
 have bU:=Ak.trans pQ
 have hP1:=hPp.since bU
 have hS1:=hSp.trans bU
 have hW1:=hW.since hS1
 have p0:=hP1.c0
 have p1:=hP1.c1
 have p2:=hP1.c2
 dsimp only at p0 p1 p2
 have hmf:∀ (fn:Fn) (first cap:Array Value) (w:World),(Instr.makeFunc fn first cap).run prog w=.ok (.func fn first cap) w:=fun _ _ _ _=>rfl
 have hDo:=lJ ⟨ga,gl,gc,na,nl,nc,wa,wl,wc⟩ d 95 #[.pointer (some ⟨wp.heap.size,0,none⟩),.pointer (some ⟨wf.heap.size,0,none⟩)] (fun _=>False) w1 hW1 (fun _ h=>h.elim) (oN d f t) (enters_of func95 (by kernel_rfl) rfl)
  (fun hE lo p L y hlo hy hB=>DJ lo p wp.heap.size wf.heap.size f t d L y hB ((cu d).1 hE) (by have:=pQ.size;omega) (by have:=pQ.size;omega) ((((Nk.trans pQ).trans hy).cellAt hfl _).trans hfc) (((pQ.trans hy).cellAt hql _).trans hqc) (by have:=hB.made.box.lt;have:=hB.lop;omega))
 dsimp only at hDo
 obtain ⟨r,hr⟩:∃ r,checked d (oN d f t)=r:=⟨_,rfl⟩
 rw [hr] at hDo ⊢
 clear hr hW
 have hle:=zQ5 hSp.size Ak.size
 cases r with
 | error er =>
  go_enter func36,ntmps36
  go_wp2_with (go_at_call 85;refine hDo.mono ?_;rintro e w2 hR;obtain ⟨rfl,hF2⟩:=hR.out.1 er rfl;have hS2:=hF2.none;obtain ⟨lt,r0,r1,r2,r3,r4,r5⟩:=hNB.since hS2)
  refine bodyPost_ret (v:=.tuple #[.agg #[.slice none 0 0,.slice none 0 0,.slice none 0 0],.int .i64 0,.int .i64 er]) ?_ rfl (show Hid _ from kU (aK hle (hS1.trans hS2)))
  simp [results,results36,go_sem,r0,r1,r2]
 | ok dm =>
  obtain ⟨d',m⟩:=dm
  go_enter func36,ntmps36
  go_wp2_with (go_at_call 85;refine hDo.mono ?_;rintro e w2 hR;obtain ⟨L,rfl,hO,hF2⟩:=hR.out.2 d' m rfl;have hS2:=hF2.none;simp only [aI];obtain ⟨lt,r0,r1,r2,r3,r4,r5⟩:=hNB.since hS2)
  obtain ⟨hO2,hSf⟩:=hO.result (w0:=w) (p:=wq.heap.size) hNB.lt hle (hS1.trans hS2) hS1.size
  refine bodyPost_ret (v:=.tuple #[aI L d',.int .i64 m,.int .i64 0]) ?_ rfl (show Hid _ from nW hO2 hSf)
  simp [results,results36,go_sem,r0,r1,r2,aI]
end Go.Proofs.YtiiifecfdkjmbaaGreat
