/- Lemmas. -/
import Derived.Test.YtiiifecfdkjmbaaGreatTSCastX
import Derived.Test.YtiiifecfdkjmbaaGreatTPureW
import Derived.Test.YtiiifecfdkjmbaaGreatTAOpen
set_option maxHeartbeats 4000000
namespace Go.Proofs.YtiiifecfdkjmbaaGreat
open _root_.Go.Proofs.Tryz hiding checked
set_option maxRecDepth 8000
open Go.RowKit Go.Shelf
open Pu
set_option linter.unusedVariables false
set_option linter.unusedSimpArgs false
theorem yI (lo p f t:Nat) (d:Wd) (L:Lay) (w:World) (c:Int) (hB:aY lo w p d L c) (R:Right d) (hf:f < d.nodes.length) (ht:t < d.nodes.length) (M:Mg) (rest:List Mg) (hE:au d f t=M::rest) (hlo:lo<=w.heap.size) (Post:Ending->World->Prop)
  (nA:∀ er,dV d f t=.error er->∀ w',Fr (Up lo fun _=>False) w w'->Post (.panicked (pan er)) w')
  (hOk:∀ d' L' w',dV d f t=.ok d'->aY lo w' p d' L' c->Fr (Up lo fun _=>False) w w'->Post (.returned (.tuple #[])) w') :
  Calls prog 89 #[.pointer (some ⟨p,0,none⟩),.int .i64 f,.int .i64 t] w fun e w'=>Hid (Post e w'):=by
 have hmv:dV d f t=fD (lq d f t M rest) t M:=by unfold dV;rw [hE]
 obtain ⟨sn1,sn4,sg1,sg3⟩:=yg R.chk
 obtain ⟨nd,hnd⟩:∃ nd,d.nodes[t]? = some nd:=⟨_,zQ1 ht⟩
 have JD:=R.mZ f t M (by rw [hE];simp)
 obtain ⟨hc1,hc2⟩:=ng.1 JD.1
 obtain ⟨_,⟨hg0,hg1⟩,_,_⟩:=ni hc1
 obtain ⟨gg,hgg⟩:=Int.eq_ofNat_of_zero_le hg0
 have QX:gg < d.groups.length:=by omega
 obtain ⟨qm,Dt⟩:∃ r,nd.last[gg]? = some r:=⟨_,zQ1 (by rw [R.llen t nd hnd];exact QX)⟩
 have Pv:=R.qm t nd gg qm hnd Dt
 obtain ⟨lv,hlv⟩:∃ v,qm[f]? = some v:=⟨_,zQ1 (by omega)⟩
 obtain ⟨X2,hX2⟩:∃ y,nQ nd M f=y:=⟨_,rfl⟩
 have L9:lq d f t M rest=setNode (aR d f t rest) t X2:=by unfold lq;rw [hnd];show setNode (aR d f t rest) t (nQ nd M f)=_;rw [hX2]
 have Pw:X2={ AZ nd M with last:=(AZ nd M).last.set gg (qm.set f (max lv M.st)) }:=by
  rw [<-hX2];unfold nQ AZ
  rw [hgg,Int.toNat_natCast]
  simp only [Dt,Option.getD_some]
  have:dQ nd.last gg f=lv:=vH Dt hlv
  rw [this]
 have hwn:(f:Int) < (d.wires.length:Int):=by have:=R.yV;omega
 have htn:(t:Int) < (d.nodes.length:Int):=by omega
 have hrn:rest.length+1<=40:=by have:=R.pF f t;rw [hE] at this;simpa using this
 have HGG:Hid (M.gr=gg):=hgg
 have HLR:=(show Hid _ from Pv)
 have qo:=(show Hid _ from nA)
 have HOK:=(show Hid _ from hOk)
 have HR:Hid (Right d):=R
 have HMV:=(show Hid _ from hmv)
 have HCO:=(show Hid _ from L9)
 have HX:=(show Hid _ from Pw)
 clear hgg JD hc1 hc2 hg0 hg1 Pv nA hOk hmv L9 Pw hX2
 -- the wire
 have hpl:=hB.made.box.lt
 obtain ⟨row,hr,hrl⟩:=row_of R.rows hf
 have uT:okI d (8,f,t):=⟨by rw [R.rows.1];exact hf,by rw [dF hr];omega⟩
 have h8:Row w lo 5 (L (8,f,t)) (au d f t).length (flat (au d f t)):=hB.made.own.row (8,f,t) uT
 obtain ⟨bw2,ow2,cw2,br2,oR2,cr2,hH⟩:=hB.made.rQ R.rows hf ht
 rw [hE] at h8 hH
 obtain ⟨bl,ol,e8,hll,hbl,hcl,hxl⟩:=h8.body (by have:=h8.cap;simp at this;omega)
 obtain ⟨lcc,hL8⟩:∃ lcc,L (8,f,t)=⟨some ⟨bl,ol,none⟩,lcc⟩:=⟨(L (8,f,t)).cap,by rw [<-e8]⟩
 have hMs:aZ w bl ol M:=by
  have:=bJ hxl 0 M rfl
  simp only [Nat.zero_mul,Nat.add_zero] at this
  exact this
 obtain ⟨w4,hw4⟩:∃ y,w.alloc (.cells #[.int .i64 M.fr,.int .i64 M.gr,.int .i64 M.st,.bool M.nul,.string M.body] 42)=y:=⟨_,rfl⟩
 have hS4:=ay hw4
 have hM4:aZ w4 w.heap.size 0 M:=by rw [<-hw4];constructor <;> simp [go_sem]
 have Px:w.heap.size < w4.heap.size:=by rw [<-hw4];simp
 have QY:¬ fU d L w.heap.size:=fun hb=>by have:=(hB.made.own.blk hb).2;omega
 have hB4:=hB.since hS4
 have hH4:=hH.since hS4
 rw [hL8] at h8
 have h84:=h8.since hS4
 obtain ⟨bn,on,cn,hL1,_,hbn,hbk,hcn⟩:=hB4.made.own.lies (ix:=(1,0,0)) ⟨rfl,rfl⟩ (by show 0 < d.nodes.length;omega)
 obtain ⟨sa,sc,hsl,hRs,hbs⟩:=KY h84
 have s2:=hH.top
 have s3:=hH.row
 have s4:=hH.cell
 rw [hL8] at s4
 dsimp only [Sl.v,List.length_cons] at s4
 obtain ⟨g0,g1,g2,g3,g4⟩:=hMs
 have HL1:Hid (L (1,0,0)=⟨some ⟨bn,on,none⟩,cn⟩):=hL1
 have HL8:Hid (L (8,f,t)=⟨some ⟨bl,ol,none⟩,lcc⟩):=hL8
 have HSL:=(show Hid _ from hsl)
 clear hL1 hL8 e8 hE hsl hxl hcl
 go_enter func89,ntmps89
 go_wp2_with fail
 clear s2 s3 s4 g0 g1 g2 g3 g4 hw4
 obtain ⟨W0,hW0⟩:∃ y,w4.drew=y:=⟨_,rfl⟩
 have hs0:=aO hW0
 obtain ⟨S0,hS0⟩:∃ S0:World->Prop,∀ w',S0 w'↔Since w4 w':=⟨_,fun _=>Iff.rfl⟩
 have c1:∀ y:aj S0,y.w.cell? ⟨p,2,none⟩=some (.slice (some ⟨bw2,ow2,none⟩) d.wires.length cw2):=fun y=>(hH4.since ((hS0 _).1 y.h)).top
 have c2:∀ y:aj S0,y.w.cell? ⟨bw2,ow2+f,none⟩=some (.slice (some ⟨br2,oR2,none⟩) d.nodes.length cr2):=fun y=>(hH4.since ((hS0 _).1 y.h)).row
 have c3:∀ y:aj S0,y.w.cell? ⟨br2,oR2+t,none⟩=some (.slice (some ⟨bl,ol,none⟩) (rest.length+1) lcc):=fun y=>by have:=(hH4.since ((hS0 _).1 y.h)).cell;rw [HL8.out] at this;exact this
 have ak:=(hS0 W0).2 hs0
 have hne:Nonempty (aj S0):=⟨⟨_,ak⟩⟩
 have bS:=aH w
 have y3:=(hH4.since hs0).cell
 have z3:=(hH4.since hs0).free
 rw [HL8.out] at y3
 dsimp only [Sl.v,List.length_cons] at y3
 have hcut:=hB4.made.KZ R.rows hf ht hH4.lay hs0 (rest:=rest) (by omega) (s:=⟨sa,sc⟩) (hRs.since hs0) (by rw [HL8.out];exact hbs)
 obtain ⟨W5,hW5⟩:∃ y,W0.setCell ⟨br2,oR2+t,none⟩ (.slice sa rest.length sc)=y:=⟨_,rfl⟩
 have NA:W0.setCell ⟨br2,oR2+t,none⟩ (Sl.v ⟨sa,sc⟩ rest.length)=W5:=hW5
 rw [NA] at hcut
 have RN:(rest.length:Int)+1<=(lcc:Int):=by have:=h84.cap;simp only [List.length_cons] at this;omega
 have HW5:=(show Hid _ from NA)
 clear NA
 have hsl:=HSL.out
 refine aI (fun w'=>∃ x:aj S0,w'=x.w) (by kernel_rfl) ?_
 rw [hW0]
 clear hW0
 refine tW 0 rfl ?_;go_big_quiet_op
 refine tW 1 rfl ?_;go_big_quiet_op
 refine tW 2 rfl ?_;go_big_quiet_op
 refine tW 3 rfl ?_;go_big_quiet_op
 refine tM 4 rfl (ah ak) ?_;go_big_quiet_op
 refine tW 5 rfl ?_;go_big_quiet_op
 refine tW 6 rfl ?_;go_big_quiet_op
 refine tM 7 rfl (ah ak) ?_;go_big_quiet_op
 refine tW 8 rfl ?_;go_big_quiet_op
 refine tW 9 rfl ?_;go_big_quiet_op
 refine tW 10 rfl ?_;go_big_quiet_op
 refine tW 11 rfl ?_;go_big_quiet_op
 refine tW 12 rfl ?_;go_big_quiet_op
 refine tM 13 rfl (ah ak) ?_;go_big_quiet_op
 refine tW 14 rfl ?_;go_big_quiet_op
 refine tW 15 rfl ?_;go_big_quiet_op
 refine tM 16 rfl (ah ak) ?_;go_big_quiet_op
 refine tW 17 rfl ?_;go_big_quiet_op
 refine tW 18 rfl ?_;go_big_quiet_op
 refine tM 19 rfl (ah ak) ?_;go_big_quiet_op
 refine tM 20 rfl (ah ak) ?_
 refine uS (v:=.slice sa rest.length sc) ?_ ?_
 ·rcases hsl with ⟨h1,h2,h3,h4⟩ | ⟨h1,h3,h4⟩
  ·subst h1 h3 h4
   have hr:rest=[]:=zQ6 h2
   subst hr
   go_big_quiet_op
   simp [Act.put]
  ·subst h3 h4
   have h1':(1:Int) < (lcc:Int):=by omega
   go_big_quiet_op
   simp [Act.put]
 simp only [Act.put,zQ7,zQ8,zQ9]
 refine tW 21 rfl ?_;go_big_quiet_op
 refine aK 22 rfl (by kernel_rfl) ?_
 intro K hK
 go_simp
 refine hK _ _ (fun h=>absurd h (by decide +kernel)) ?_
 clear hK K
 refine aW (by kernel_rfl) ?_
 clear hsl
 obtain ⟨hM5,JU⟩:=hcut
 obtain ⟨hq5,ND⟩:=JU.beside Px QY
 have Py:=bH hM4 hq5
 have NG:=zQ4 Px JU.fr.size
 have hB5:=hB4.step hM5 JU
 have hU5:Fr (Up lo fun _=>False) w W5:=(hS4.up lo _).aD (JU.up hB4.made.own _)
 have JV:(L.upd (8,f,t) ⟨sa,sc⟩) (1,0,0)=⟨some ⟨bn,on,none⟩,cn⟩:=HL1.out
 obtain ⟨L5,hL5⟩:∃ y,L.upd (8,f,t) ⟨sa,sc⟩=y:=⟨_,rfl⟩
 obtain ⟨D1,hD1⟩:∃ y,aR d f t rest=y:=⟨_,rfl⟩
 have NH:D1.nodes[t]? = some nd:=by rw [<-hD1];exact hnd
 have hN1:D1.nodes.length=d.nodes.length:=by rw [<-hD1];rfl
 rw [hL5] at JV hM5 ND hB5
 rw [hD1] at hM5 ND hB5
 have HD1:=(show Hid _ from hD1)
 have HN1:=(show Hid _ from hN1)
 have b1:=hM5.box.c1
 rw [JV,hN1] at b1
 dsimp only at b1
 obtain ⟨q0,q1,_,_,qz⟩:=hM5.own.cells NH JV
 have hb5:bn < W5.heap.size:=zQ4 hbn JU.fr.size
 have Pz:Hid (L5 (1,0,0)=⟨some ⟨bn,on,none⟩,cn⟩):=JV
 clear hN1 hD1 hL5 c1 c2 c3 hne y3 z3 hW5 JV
 go_wp2_with fail
 obtain ⟨W6,hW0⟩:∃ y,W5.drew=y:=⟨_,rfl⟩
 have hs6:=aO hW0
 obtain ⟨S7,hS7⟩:∃ S0:World->Prop,∀ w',S0 w'↔Since W5 w':=⟨_,fun _=>Iff.rfl⟩
 have c1:∀ y:aj S7,y.w.cell? ⟨bn,on+t*4,none⟩=some (.int .i64 nd.clock):=fun y=>(((hS7 _).1 y.h).cellAt hb5 _).trans q0
 have c2:∀ y:aj S7,y.w.cell? ⟨w.heap.size,2,none⟩=some (.int .i64 M.st):=fun y=>(((hS7 _).1 y.h).cellAt NG _).trans Py.c2
 have K5:=(hS7 W6).2 hs6
 have hne:Nonempty (aj S7):=⟨⟨_,K5⟩⟩
 have e6:=(hs6.cellAt hb5 _).trans q0
 have z6:=(hs6.below.frozen (p:=⟨bn,on+t*4,none⟩) hb5).trans (by have:=qz 0 (by omega);simpa using this)
 obtain ⟨W7,hW7⟩:∃ y,W6.setCell ⟨bn,on+t*4,none⟩ (.int .i64 (max nd.clock M.st))=y:=⟨_,rfl⟩
 obtain ⟨hM7,Du⟩:=hM5.rT NH Pz.out hs6 (max nd.clock M.st)
 rw [hW7] at hM7 Du
 refine aI (fun w'=>∃ x:aj S7,w'=x.w) (by kernel_rfl) ?_
 rw [hW0]
 clear hW0
 refine tW 0 rfl ?_;go_big_quiet_op
 refine tW 1 rfl ?_;go_big_quiet_op
 refine tW 2 rfl ?_;go_big_quiet_op
 refine tW 3 rfl ?_;go_big_quiet_op
 refine tM 4 rfl (ah K5) ?_;go_big_quiet_op
 refine tW 5 rfl ?_;go_big_quiet_op
 refine tM 6 rfl (ah K5) ?_;go_big_quiet_op
 refine tM 7 rfl (ah K5) ?_
 refine uS (v:=.int .i64 (max nd.clock M.st)) ?_ ?_
 ·go_big_quiet_op
  all_goals
   simp [Act.put]
   try omega
 simp only [Act.put,zQ7,zQ8,zQ9]
 refine tW 8 rfl ?_;go_big_quiet_op
 refine tW 9 rfl ?_;go_big_quiet_op
 refine aK 10 rfl (by kernel_rfl) ?_
 intro K hK
 go_simp
 refine hK _ _ (fun h=>absurd h (by decide +kernel)) ?_
 clear hK K
 refine aW (by kernel_rfl) ?_
 have hB7:=hB5.step hM7 Du
 have hU7:=hU5.aD (Du.up hM5.own _)
 obtain ⟨X1,hX1⟩:∃ y,({ nd with clock:=max nd.clock M.st }:Nd)=y:=⟨_,rfl⟩
 have PD:AZ nd M=X1:=hX1
 rw [hX1] at hM7 Du hB7
 have hla:X1.last=nd.last:=by rw [<-hX1]
 have K6:(setNode D1 t X1).nodes[t]? = some X1:=by rw [dB _ NH,if_pos rfl]
 obtain ⟨D2,hD2⟩:∃ y,setNode D1 t X1=y:=⟨_,rfl⟩
 rw [hD2] at hM7 Du K6 hB7
 obtain ⟨hq7,QZ⟩:=Du.beside NG ND
 have NI:=bH Py hq7
 have NJ:=zQ4 NG Du.fr.size
 have Ma:X1.last[gg]? = some qm:=by rw [hla];exact Dt
 have hpl':0 < qm.length:=by rw [HLR.out];omega
 obtain ⟨u0,u1,_,_,uz⟩:=hM7.own.cells K6 Pz.out
 obtain ⟨b3,o3,cc3,b4,o4,cc4,hL3,hL4,hb3,hb4,v1,v2,v3⟩:=hM7.own.G6 K6 Ma hpl'
 rw [hL3,hla] at u1
 dsimp only [Sl.v] at u1
 have HX1:=(show Hid _ from PD)
 have HLA:=(show Hid _ from hla)
 have HD2:=(show Hid _ from hD2)
 have HL4:=(show Hid _ from hL4)
 have m1':=NI.c1
 rw [HGG.out] at m1'
 have RO:(gg:Int) < (nd.last.length:Int):=by have:=(zQ2.1 Dt).1;omega
 have RP:(f:Int) < (qm.length:Int):=by rw [HLR.out];omega
 have v4:=v2 f lv hlv
 have v5:=v3 f (by omega)
 have hb7:bn < W7.heap.size:=zQ4 hb5 Du.fr.size
 clear hX1 PD hla hD2 hW7 c1 c2 hne e6 z6 q0 q1 b1 hL3 hL4
 go_wp2_with fail
 obtain ⟨W8,hW0⟩:∃ y,W7.drew=y:=⟨_,rfl⟩
 have hs8:=aO hW0
 obtain ⟨S8,hS8⟩:∃ S0:World->Prop,∀ w',S0 w'↔Since W7 w':=⟨_,fun _=>Iff.rfl⟩
 have c1:∀ y:aj S8,y.w.cell? ⟨bn,on+t*4+1,none⟩=some (.slice (some ⟨b3,o3,none⟩) nd.last.length cc3):=fun y=>(((hS8 _).1 y.h).cellAt hb7 _).trans u1
 have c2:∀ y:aj S8,y.w.cell? ⟨w.heap.size,1,none⟩=some (.int .i64 gg):=fun y=>(((hS8 _).1 y.h).cellAt NJ _).trans m1'
 have c3:∀ y:aj S8,y.w.cell? ⟨b3,o3+gg,none⟩=some (.slice (some ⟨b4,o4,none⟩) qm.length cc4):=fun y=>(((hS8 _).1 y.h).cellAt hb3 _).trans v1
 have c4:∀ y:aj S8,y.w.cell? ⟨b4,o4+f,none⟩=some (.int .i64 lv):=fun y=>(((hS8 _).1 y.h).cellAt hb4 _).trans v4
 have c5:∀ y:aj S8,y.w.cell? ⟨w.heap.size,2,none⟩=some (.int .i64 M.st):=fun y=>(((hS8 _).1 y.h).cellAt NJ _).trans NI.c2
 have iU:=(hS8 W8).2 hs8
 have hne:Nonempty (aj S8):=⟨⟨_,iU⟩⟩
 have e8:=(hs8.cellAt hb4 _).trans v4
 have z8:=(hs8.below.frozen (p:=⟨b4,o4+f,none⟩) hb4).trans v5
 obtain ⟨W9,hW9⟩:∃ y,W8.setCell ⟨b4,o4+f,none⟩ (.int .i64 (max lv M.st))=y:=⟨_,rfl⟩
 obtain ⟨hM9,JW⟩:=hM7.Nc (k:=f) K6 Ma (by omega) HL4.out hs8 (max lv M.st)
 rw [hW9] at hM9 JW
 refine aI (fun w'=>∃ x:aj S8,w'=x.w) (by kernel_rfl) ?_
 rw [hW0]
 clear hW0
 refine tW 0 rfl ?_;go_big_quiet_op
 refine tW 1 rfl ?_;go_big_quiet_op
 refine tW 2 rfl ?_;go_big_quiet_op
 refine tM 3 rfl (ah iU) ?_;go_big_quiet_op
 refine tW 4 rfl ?_;go_big_quiet_op
 refine tM 5 rfl (ah iU) ?_;go_big_quiet_op
 refine tW 6 rfl ?_;go_big_quiet_op
 refine tM 7 rfl (ah iU) ?_;go_big_quiet_op
 refine tW 8 rfl ?_;go_big_quiet_op
 refine tW 9 rfl ?_;go_big_quiet_op
 refine tW 10 rfl ?_;go_big_quiet_op
 refine tW 11 rfl ?_;go_big_quiet_op
 refine tM 12 rfl (ah iU) ?_;go_big_quiet_op
 refine tW 13 rfl ?_;go_big_quiet_op
 refine tM 14 rfl (ah iU) ?_;go_big_quiet_op
 refine tW 15 rfl ?_;go_big_quiet_op
 refine tM 16 rfl (ah iU) ?_;go_big_quiet_op
 refine tW 17 rfl ?_;go_big_quiet_op
 refine tW 18 rfl ?_;go_big_quiet_op
 refine tM 19 rfl (ah iU) ?_;go_big_quiet_op
 refine tW 20 rfl ?_;go_big_quiet_op
 refine tM 21 rfl (ah iU) ?_;go_big_quiet_op
 refine tM 22 rfl (ah iU) ?_
 refine uS (v:=.int .i64 (max lv M.st)) ?_ ?_
 ·go_big_quiet_op
  all_goals
   simp [Act.put]
   try omega
 simp only [Act.put,zQ7,zQ8,zQ9]
 refine tW 23 rfl ?_;go_big_quiet_op
 refine aK 24 rfl (by kernel_rfl) ?_
 intro K hK
 go_simp
 refine hK _ _ (fun h=>absurd h (by decide +kernel)) ?_
 clear hK K
 refine aW (by kernel_rfl) ?_
 have hB9:=hB7.step hM9 JW
 have hU9:=hU7.aD (JW.up hM7.own _)
 obtain ⟨dk,hdk⟩:∃ y,lq d f t M rest=y:=⟨_,rfl⟩
 have hDc:setNode D2 t { X1 with last:=X1.last.set gg (qm.set f (max lv M.st)) }=dk:=by
  rw [<-hdk,HCO.out,HX.out,HX1.out,<-HD2.out,<-HD1.out]
  unfold setNode;simp [List.set_set]
 rw [hDc] at hB9 JW hM9
 have hxk:dk.nodes[t]? = some X2:=by
  rw [<-hdk,HCO.out]
  have h1:(aR d f t rest).nodes[t]? = some nd:=hnd
  rw [dB _ h1,if_pos rfl]
 obtain ⟨hq9,RQ⟩:=JW.beside NJ QZ
 have Q0:=bH NI hq9
 obtain ⟨m0,m1,m2,m3,m4⟩:=Q0
 have HMC:Hid (dV d f t=fD dk t M):=by unfold Hid;rw [HMV.out,hdk]
 have PE:lo<=W9.heap.size:=zQ5 hlo hU9.size
 clear hDc hdk c1 c2 c3 c4 c5 hne bS e8 z8 hW9 u0 u1 v1 v4 v5 m1'
 simp only [Nat.zero_add] at m0 m1 m2 m3 m4
 cases hmn:M.nul
 ·have HN:Hid (M.nul=false):=hmn
  by_cases h0:fA M X2.held=0
  ·have H0:Hid (fA M X2.held=0):=h0
   have Dv:=kC lo p t M dk L5 W9 X2 c hB9 hxk hmn PE _ _ rfl rfl (fun e w'=>e=.returned (.tuple #[])/\Post e w')
    (fun hne w' hS=>absurd H0.out hne)
    (fun h0 w' L' hB' hF=>⟨rfl,HOK.out _ L' w' (by rw [HMC.out];unfold fD xX;rw [HN.out,hxk];simp only [h0,if_true,Bool.false_eq_true,if_false]) hB' (hU9.aD hF)⟩)
   clear hmn h0
   go_wp2_with (go_at_call 144;refine Dv.mono ?_;rintro e w6 hP;obtain ⟨rfl,hP'⟩:=hP.out)
   go_end0
   exact hP'
  ·have H0:Hid (¬ fA M X2.held=0):=h0
   have Dv:=kC lo p t M dk L5 W9 X2 c hB9 hxk hmn PE _ _ rfl rfl (fun e w'=>e=.panicked (pan (fA M X2.held))/\Post e w')
    (fun hne w' hS=>⟨rfl,qo.out _ (by rw [HMC.out];unfold fD xX;rw [HN.out,hxk];simp only [hne,Bool.false_eq_true,if_false]) w' (hU9.aD (hS.up lo _))⟩)
    (fun h0 w' L' hB' hF=>absurd h0 H0.out)
   clear hmn h0
   go_wp2_with (go_at_call 144;refine Dv.mono ?_;rintro e w6 hP;obtain ⟨rfl,hP'⟩:=hP.out)
   exact ⟨rfl,hP'⟩
 ·have HN:Hid (M.nul=true):=hmn
  have Dv:=nV lo p t M dk L5 W9 X2 c hB9 hxk hmn
  clear hmn
  go_wp2_with (go_at_call 144;refine Dv.mono ?_;rintro e w6 ⟨rfl,hS⟩)
  go_end0
  exact HOK.out _ L5 _ (by rw [HMC.out];unfold fD;rw [HN.out];rfl) (hB9.since hS) (hU9.aD (hS.up lo _))
theorem yJ (p:Nat) (f t:Int) (a:Option Addr) (n c:Nat) (w:World) (hc:w.cell? ⟨p,1,none⟩=some (.slice a n c)) (hf:f < (n:Int)) (ht:t < (n:Int)) (hf0:0<=f:=by omega) (ht0:0<=t:=by omega) :
  Calls prog 87 #[.pointer (some ⟨p,0,none⟩),.int .i64 f,.int .i64 t] w fun e w'=>e=.returned (.tuple #[])/\w'=w:=by
 have h1:=fH p f a n c w hc
 have h2:=fH p t a n c w hc
 rw [decide_eq_true hf0,decide_eq_true hf] at h1
 rw [decide_eq_true ht0,decide_eq_true ht] at h2
 go_enter func87,ntmps87
 go_wp2_with fail
 refine h1.mono ?_
 rintro e w' ⟨rfl,hw'⟩
 obtain rfl:=hw'.symm
 go_wp2_with fail
 refine h2.mono ?_
 rintro e w' ⟨rfl,hw'⟩
 obtain rfl:=hw'.symm
 go_wp2_with fail
 refine (bG 4 _).mono ?_
 rintro e w' ⟨rfl,hw'⟩
 obtain rfl:=hw'.symm
 go_wp2
 go_end0
 exact ⟨rfl,rfl⟩
theorem JX (p:Nat) (f t:Int) (a:Option Addr) (n c:Nat) (w:World) (hc:w.cell? ⟨p,1,none⟩=some (.slice a n c)) (hn:((decide (0<=f) && decide (f < (n:Int))) && (decide (0<=t) && decide (t < (n:Int))))=false) :
  Calls prog 87 #[.pointer (some ⟨p,0,none⟩),.int .i64 f,.int .i64 t] w fun e w'=>e=.panicked (pan 4)/\w'=w:=by
 have h1:=fH p f a n c w hc
 have h2:=fH p t a n c w hc
 cases hA:(decide (0<=f) && decide (f < (n:Int))) with
 | false =>
  rw [hA] at h1
  clear hA hn h2
  go_enter func87,ntmps87
  go_wp2_with fail
  refine h1.mono ?_
  rintro e w' ⟨rfl,hw'⟩
  obtain rfl:=hw'.symm
  go_wp2_with fail
  refine (eG 4 _).mono ?_
  rintro e w' ⟨rfl,hw'⟩
  obtain rfl:=hw'.symm
  exact ⟨rfl,rfl,rfl⟩
 | true =>
  rw [hA] at h1 hn
  rw [Bool.true_and] at hn
  rw [hn] at h2
  clear hA hn
  go_enter func87,ntmps87
  go_wp2_with fail
  refine h1.mono ?_
  rintro e w' ⟨rfl,hw'⟩
  obtain rfl:=hw'.symm
  go_wp2_with fail
  refine h2.mono ?_
  rintro e w' ⟨rfl,hw'⟩
  obtain rfl:=hw'.symm
  go_wp2_with fail
  refine (eG 4 _).mono ?_
  rintro e w' ⟨rfl,hw'⟩
  obtain rfl:=hw'.symm
  exact ⟨rfl,rfl,rfl⟩
theorem K7 (lo p qf qt:Nat) (f t:Int) (d:Wd) (L:Lay) (w:World) (hB:aY lo w p d L 0) (hcf:w.cell? ⟨qf,0,none⟩=some (.int .i64 f)) (hct:w.cell? ⟨qt,0,none⟩=some (.int .i64 t)) (hn:((decide (0<=f) && decide (f < (d.nodes.length:Int))) && (decide (0<=t) && decide (t < (d.nodes.length:Int))))=false) :
  Calls prog 86 #[.pointer (some ⟨p,0,none⟩),.pointer (some ⟨qf,0,none⟩),.pointer (some ⟨qt,0,none⟩)] w fun e w'=>e=.panicked (pan 4)/\Fr (Up lo fun _=>False) w w':=by
 have b1:=hB.made.box.c1
 have hb:=JX p f t _ _ _ w b1 hn
 clear hn
 go_enter func86,ntmps86
 go_wp2_with (go_at_call 87;refine hb.mono ?_;rintro e w' ⟨rfl,hw'⟩;obtain rfl:=hw'.symm)
 exact ⟨rfl,rfl,Fr.refl _ _⟩
theorem EK (lo p qf qt f t:Nat) (d:Wd) (L:Lay) (w:World) (hB:aY lo w p d L 0) (R:Right d) (hqf:qf < lo) (hqt:qt < lo) (hcf:w.cell? ⟨qf,0,none⟩=some (.int .i64 f)) (hct:w.cell? ⟨qt,0,none⟩=some (.int .i64 t)) (hlo:lo<=w.heap.size) (hf:f < d.nodes.length) (ht:t < d.nodes.length) (hE:au d f t=[]) :
  Calls prog 86 #[.pointer (some ⟨p,0,none⟩),.pointer (some ⟨qf,0,none⟩),.pointer (some ⟨qt,0,none⟩)] w fun e w'=>e=.panicked (pan 7)/\Fr (Up lo fun _=>False) w w':=by
 have hpl:=hB.made.box.lt
 have uW:=hB.lop
 have vS:qf < w.heap.size:=by omega
 have qw:qt < w.heap.size:=by omega
 have hwn:(f:Int) < (d.wires.length:Int):=by have:=R.yV;omega
 have htn:(t:Int) < (d.nodes.length:Int):=by omega
 have hfn:(f:Int) < (d.nodes.length:Int):=by omega
 obtain ⟨bw2,ow2,cw2,br2,oR2,cr2,hH⟩:=hB.made.rQ R.rows hf ht
 obtain ⟨la,lcc,hL8⟩:∃ la lcc,L (8,f,t)=⟨la,lcc⟩:=⟨_,_,rfl⟩
 have b1:=hB.made.box.c1
 have HE:=(show Hid _ from hE)
 rw [hE] at hH
 go_enter func86,ntmps86
 go_wp2_with (go_at_call 87;refine (yJ p f t _ _ _ w b1 hfn htn).mono ?_;rintro e w' ⟨rfl,hw'⟩;obtain rfl:=hw'.symm)
 obtain ⟨W0,hW0⟩:∃ y,w.drew=y:=⟨_,rfl⟩
 have hs0:=aO hW0
 obtain ⟨S0,hS0⟩:∃ S0:World->Prop,∀ w',S0 w'↔Since w w':=⟨_,fun _=>Iff.rfl⟩
 have c1:∀ y:aj S0,y.w.cell? ⟨p,2,none⟩=some (.slice (some ⟨bw2,ow2,none⟩) d.wires.length cw2):=fun y=>(hH.since ((hS0 _).1 y.h)).top
 have c2:∀ y:aj S0,y.w.cell? ⟨bw2,ow2+f,none⟩=some (.slice (some ⟨br2,oR2,none⟩) d.nodes.length cr2):=fun y=>(hH.since ((hS0 _).1 y.h)).row
 have c3:∀ y:aj S0,y.w.cell? ⟨br2,oR2+t,none⟩=some (.slice la 0 lcc):=fun y=>by have:=(hH.since ((hS0 _).1 y.h)).cell;rw [hL8] at this;exact this
 have c4:∀ y:aj S0,y.w.cell? ⟨qf,0,none⟩=some (.int .i64 f):=fun y=>(((hS0 _).1 y.h).cellAt vS _).trans hcf
 have c5:∀ y:aj S0,y.w.cell? ⟨qt,0,none⟩=some (.int .i64 t):=fun y=>(((hS0 _).1 y.h).cellAt qw _).trans hct
 have ak:=(hS0 W0).2 hs0
 have hne:Nonempty (aj S0):=⟨⟨_,ak⟩⟩
 have bS:=aH w
 clear hL8 hE b1
 refine aI (fun w'=>∃ x:aj S0,w'=x.w) (by kernel_rfl) ?_
 rw [hW0]
 clear hW0
 refine tW 0 rfl ?_;go_big_quiet_op
 refine tW 1 rfl ?_;go_big_quiet_op
 refine tW 2 rfl ?_;go_big_quiet_op
 refine tW 3 rfl ?_;go_big_quiet_op
 refine tM 4 rfl (ah ak) ?_;go_big_quiet_op
 refine tM 5 rfl (ah ak) ?_;go_big_quiet_op
 refine tW 6 rfl ?_;go_big_quiet_op
 refine tM 7 rfl (ah ak) ?_;go_big_quiet_op
 refine tM 8 rfl (ah ak) ?_;go_big_quiet_op
 refine tW 9 rfl ?_;go_big_quiet_op
 refine tM 10 rfl (ah ak) ?_;go_big_quiet_op
 refine tM 11 rfl (ah ak) ?_;go_big_quiet_op
 refine tW 12 rfl ?_;go_big_quiet_op
 refine aK 13 rfl (by kernel_rfl) ?_
 intro K hK
 go_simp
 refine (eG 7 _).mono ?_
 rintro e w' ⟨rfl,hw'⟩
 obtain rfl:=hw'.symm
 dsimp only
 exact ⟨rfl,rfl,hs0.up lo _⟩
theorem Hu (lo p qf qt f t:Nat) (d:Wd) (L:Lay) (w:World) (hB:aY lo w p d L 0) (R:Right d) (hqf:qf < lo) (hqt:qt < lo) (hcf:w.cell? ⟨qf,0,none⟩=some (.int .i64 f)) (hct:w.cell? ⟨qt,0,none⟩=some (.int .i64 t)) (hlo:lo<=w.heap.size) (hf:f < d.nodes.length) (ht:t < d.nodes.length) (M:Mg) (rest:List Mg) (hE:au d f t=M::rest) (er:Int) (HPM:Hid (dV d f t=.error er)) :
  Calls prog 86 #[.pointer (some ⟨p,0,none⟩),.pointer (some ⟨qf,0,none⟩),.pointer (some ⟨qt,0,none⟩)] w fun e w'=>e=.panicked (pan er)/\Fr (Up lo fun _=>False) w w':=by
 have hpl:=hB.made.box.lt
 have uW:=hB.lop
 have vS:qf < w.heap.size:=by omega
 have qw:qt < w.heap.size:=by omega
 have hwn:(f:Int) < (d.wires.length:Int):=by have:=R.yV;omega
 have htn:(t:Int) < (d.nodes.length:Int):=by omega
 have hfn:(f:Int) < (d.nodes.length:Int):=by omega
 obtain ⟨bw2,ow2,cw2,br2,oR2,cr2,hH⟩:=hB.made.rQ R.rows hf ht
 obtain ⟨la,lcc,hL8⟩:∃ la lcc,L (8,f,t)=⟨la,lcc⟩:=⟨_,_,rfl⟩
 have b1:=hB.made.box.c1
 have HE:=(show Hid _ from hE)
 rw [hE] at hH
 go_enter func86,ntmps86
 go_wp2_with (go_at_call 87;refine (yJ p f t _ _ _ w b1 hfn htn).mono ?_;rintro e w' ⟨rfl,hw'⟩;obtain rfl:=hw'.symm)
 obtain ⟨W0,hW0⟩:∃ y,w.drew=y:=⟨_,rfl⟩
 have hs0:=aO hW0
 obtain ⟨S0,hS0⟩:∃ S0:World->Prop,∀ w',S0 w'↔Since w w':=⟨_,fun _=>Iff.rfl⟩
 have c1:∀ y:aj S0,y.w.cell? ⟨p,2,none⟩=some (.slice (some ⟨bw2,ow2,none⟩) d.wires.length cw2):=fun y=>(hH.since ((hS0 _).1 y.h)).top
 have c2:∀ y:aj S0,y.w.cell? ⟨bw2,ow2+f,none⟩=some (.slice (some ⟨br2,oR2,none⟩) d.nodes.length cr2):=fun y=>(hH.since ((hS0 _).1 y.h)).row
 have c3:∀ y:aj S0,y.w.cell? ⟨br2,oR2+t,none⟩=some (.slice la (rest.length+1) lcc):=fun y=>by have:=(hH.since ((hS0 _).1 y.h)).cell;rw [hL8] at this;exact this
 have c4:∀ y:aj S0,y.w.cell? ⟨qf,0,none⟩=some (.int .i64 f):=fun y=>(((hS0 _).1 y.h).cellAt vS _).trans hcf
 have c5:∀ y:aj S0,y.w.cell? ⟨qt,0,none⟩=some (.int .i64 t):=fun y=>(((hS0 _).1 y.h).cellAt qw _).trans hct
 have ak:=(hS0 W0).2 hs0
 have hne:Nonempty (aj S0):=⟨⟨_,ak⟩⟩
 have bS:=aH w
 clear hL8 hE b1
 refine aI (fun w'=>∃ x:aj S0,w'=x.w) (by kernel_rfl) ?_
 rw [hW0]
 clear hW0
 refine tW 0 rfl ?_;go_big_quiet_op
 refine tW 1 rfl ?_;go_big_quiet_op
 refine tW 2 rfl ?_;go_big_quiet_op
 refine tW 3 rfl ?_;go_big_quiet_op
 refine tM 4 rfl (ah ak) ?_;go_big_quiet_op
 refine tM 5 rfl (ah ak) ?_;go_big_quiet_op
 refine tW 6 rfl ?_;go_big_quiet_op
 refine tM 7 rfl (ah ak) ?_;go_big_quiet_op
 refine tM 8 rfl (ah ak) ?_;go_big_quiet_op
 refine tW 9 rfl ?_;go_big_quiet_op
 refine tM 10 rfl (ah ak) ?_;go_big_quiet_op
 refine tM 11 rfl (ah ak) ?_;go_big_quiet_op
 refine tW 12 rfl ?_;go_big_quiet_op
 refine aK 13 rfl (by kernel_rfl) ?_
 intro K hK
 go_simp
 refine (bG 7 _).mono ?_
 rintro e w' ⟨rfl,hw'⟩
 obtain rfl:=hw'.symm
 dsimp only
 refine hK _ _ (fun h=>absurd h (by decide +kernel)) ?_
 clear hK K
 refine aW (by kernel_rfl) ?_
 clear c1 c2 c3 c4 c5 hne bS
 have K8:=(hs0.cellAt vS _).trans hcf
 have Hw:=(hs0.cellAt qw _).trans hct
 have hlo0:lo<=W0.heap.size:=zQ5 hlo hs0.size
 have hB0:=hB.since hs0
 clear hcf hct
 have hCo:=yI lo p f t d L W0 0 hB0 R hf ht M rest HE.out hlo0 (fun e w'=>e=.panicked (pan er)/\Fr (Up lo fun _=>False) W0 w') (fun er' h w' hF=>by rw [HPM.out] at h;cases h;exact ⟨rfl,hF⟩) (fun d' L' w' h=>by rw [HPM.out] at h;cases h)
 go_wp2_with (go_at_call 89;refine hCo.mono ?_;rintro e w2 hR;obtain ⟨rfl,hF2⟩:=hR.out)
 exact ⟨rfl,rfl,(hs0.up lo _).aD hF2⟩
theorem Hy (lo p qf qt f t:Nat) (d:Wd) (L:Lay) (w:World) (hB:aY lo w p d L 0) (R:Right d) (hqf:qf < lo) (hqt:qt < lo) (hcf:w.cell? ⟨qf,0,none⟩=some (.int .i64 f)) (hct:w.cell? ⟨qt,0,none⟩=some (.int .i64 t)) (hlo:lo<=w.heap.size) (hf:f < d.nodes.length) (ht:t < d.nodes.length) (M:Mg) (rest:List Mg) (hE:au d f t=M::rest) (d3:Wd) (HPM:Hid (dV d f t=.ok d3)) (er:Int) (her:(er == 0)=false) (HTL:Hid (checked d3 (fV d3 (t:Int))=.error er)) :
  Calls prog 86 #[.pointer (some ⟨p,0,none⟩),.pointer (some ⟨qf,0,none⟩),.pointer (some ⟨qt,0,none⟩)] w fun e w'=>e=.panicked (pan er)/\Fr (Up lo fun _=>False) w w':=by
 have hpl:=hB.made.box.lt
 have uW:=hB.lop
 have vS:qf < w.heap.size:=by omega
 have qw:qt < w.heap.size:=by omega
 have hwn:(f:Int) < (d.wires.length:Int):=by have:=R.yV;omega
 have htn:(t:Int) < (d.nodes.length:Int):=by omega
 have hfn:(f:Int) < (d.nodes.length:Int):=by omega
 obtain ⟨bw2,ow2,cw2,br2,oR2,cr2,hH⟩:=hB.made.rQ R.rows hf ht
 obtain ⟨la,lcc,hL8⟩:∃ la lcc,L (8,f,t)=⟨la,lcc⟩:=⟨_,_,rfl⟩
 have b1:=hB.made.box.c1
 have HE:=(show Hid _ from hE)
 rw [hE] at hH
 go_enter func86,ntmps86
 go_wp2_with (go_at_call 87;refine (yJ p f t _ _ _ w b1 hfn htn).mono ?_;rintro e w' ⟨rfl,hw'⟩;obtain rfl:=hw'.symm)
 obtain ⟨W0,hW0⟩:∃ y,w.drew=y:=⟨_,rfl⟩
 have hs0:=aO hW0
 obtain ⟨S0,hS0⟩:∃ S0:World->Prop,∀ w',S0 w'↔Since w w':=⟨_,fun _=>Iff.rfl⟩
 have c1:∀ y:aj S0,y.w.cell? ⟨p,2,none⟩=some (.slice (some ⟨bw2,ow2,none⟩) d.wires.length cw2):=fun y=>(hH.since ((hS0 _).1 y.h)).top
 have c2:∀ y:aj S0,y.w.cell? ⟨bw2,ow2+f,none⟩=some (.slice (some ⟨br2,oR2,none⟩) d.nodes.length cr2):=fun y=>(hH.since ((hS0 _).1 y.h)).row
 have c3:∀ y:aj S0,y.w.cell? ⟨br2,oR2+t,none⟩=some (.slice la (rest.length+1) lcc):=fun y=>by have:=(hH.since ((hS0 _).1 y.h)).cell;rw [hL8] at this;exact this
 have c4:∀ y:aj S0,y.w.cell? ⟨qf,0,none⟩=some (.int .i64 f):=fun y=>(((hS0 _).1 y.h).cellAt vS _).trans hcf
 have c5:∀ y:aj S0,y.w.cell? ⟨qt,0,none⟩=some (.int .i64 t):=fun y=>(((hS0 _).1 y.h).cellAt qw _).trans hct
 have ak:=(hS0 W0).2 hs0
 have hne:Nonempty (aj S0):=⟨⟨_,ak⟩⟩
 have bS:=aH w
 clear hL8 hE b1
 refine aI (fun w'=>∃ x:aj S0,w'=x.w) (by kernel_rfl) ?_
 rw [hW0]
 clear hW0
 refine tW 0 rfl ?_;go_big_quiet_op
 refine tW 1 rfl ?_;go_big_quiet_op
 refine tW 2 rfl ?_;go_big_quiet_op
 refine tW 3 rfl ?_;go_big_quiet_op
 refine tM 4 rfl (ah ak) ?_;go_big_quiet_op
 refine tM 5 rfl (ah ak) ?_;go_big_quiet_op
 refine tW 6 rfl ?_;go_big_quiet_op
 refine tM 7 rfl (ah ak) ?_;go_big_quiet_op
 refine tM 8 rfl (ah ak) ?_;go_big_quiet_op
 refine tW 9 rfl ?_;go_big_quiet_op
 refine tM 10 rfl (ah ak) ?_;go_big_quiet_op
 refine tM 11 rfl (ah ak) ?_;go_big_quiet_op
 refine tW 12 rfl ?_;go_big_quiet_op
 refine aK 13 rfl (by kernel_rfl) ?_
 intro K hK
 go_simp
 refine (bG 7 _).mono ?_
 rintro e w' ⟨rfl,hw'⟩
 obtain rfl:=hw'.symm
 dsimp only
 refine hK _ _ (fun h=>absurd h (by decide +kernel)) ?_
 clear hK K
 refine aW (by kernel_rfl) ?_
 clear c1 c2 c3 c4 c5 hne bS
 have K8:=(hs0.cellAt vS _).trans hcf
 have Hw:=(hs0.cellAt qw _).trans hct
 have hlo0:lo<=W0.heap.size:=zQ5 hlo hs0.size
 have hB0:=hB.since hs0
 clear hcf hct
 have hCo:=yI lo p f t d L W0 0 hB0 R hf ht M rest HE.out hlo0 (fun e w'=>e=.returned (.tuple #[])/\∃ L',aY lo w' p d3 L' 0/\Fr (Up lo fun _=>False) W0 w') (fun er' h w' hF=>by rw [HPM.out] at h;cases h) (fun d' L' w' h hB' hF=>by rw [HPM.out] at h;cases h;exact ⟨rfl,L',hB',hF⟩)
 go_wp2_with (go_at_call 89;refine hCo.mono ?_;rintro e w5 hR;obtain ⟨rfl,L5,hB5,JY⟩:=hR.out)
 have hF5:=(hs0.up lo (fun _=>False)).aD JY
 have NM:=(JY.cell (p:=⟨qt,0,none⟩) (zQ4 qw hs0.size) (by rintro (h | h);exact h hqt;exact h)).trans Hw
 have NP:qt < w5.heap.size:=zQ4 qw hF5.size
 clear hR hCo K8 Hw
 have lJ:=hB5.made.box.lt
 have b0:=hB5.made.box.c0
 have b1:=hB5.made.box.c1
 have b2:=hB5.made.box.c2
 obtain ⟨U0,hW0⟩:∃ y,w5.drew=y:=⟨_,rfl⟩
 have hs5:=aO hW0
 obtain ⟨S5,hS5⟩:∃ S0:World->Prop,∀ w',S0 w'↔Since w5 w':=⟨_,fun _=>Iff.rfl⟩
 have x0:∀ y:aj S5,y.w.cell? ⟨p,0,none⟩=some (.slice (L5 (0,0,0)).a d3.groups.length (L5 (0,0,0)).cap):=fun y=>(((hS5 _).1 y.h).cellAt lJ _).trans b0
 have x1:∀ y:aj S5,y.w.cell? ⟨p,1,none⟩=some (.slice (L5 (1,0,0)).a d3.nodes.length (L5 (1,0,0)).cap):=fun y=>(((hS5 _).1 y.h).cellAt lJ _).trans b1
 have x2:∀ y:aj S5,y.w.cell? ⟨p,2,none⟩=some (.slice (L5 (2,0,0)).a d3.wires.length (L5 (2,0,0)).cap):=fun y=>(((hS5 _).1 y.h).cellAt lJ _).trans b2
 have x3:∀ y:aj S5,y.w.cell? ⟨qt,0,none⟩=some (.int .i64 t):=fun y=>(((hS5 _).1 y.h).cellAt NP _).trans NM
 have lQ:=(hS5 U0).2 hs5
 have hne:Nonempty (aj S5):=⟨⟨_,lQ⟩⟩
 have bS:=aH w
 have hTN:=iR (gK L5 d3) d3 t U0 (hB5.made.own.since hs5).wat
 unfold gK at hTN
 rw [HTL.out] at hTN
 dsimp only at hTN
 refine aI (fun w'=>∃ x:aj S5,w'=x.w) (by kernel_rfl) ?_
 rw [hW0]
 clear hW0
 refine tW 0 rfl ?_;go_big_quiet_op
 refine tW 1 rfl ?_;go_big_quiet_op
 refine tW 2 rfl ?_;go_big_quiet_op
 refine tW 3 rfl ?_;go_big_quiet_op
 refine tM 4 rfl (ah lQ) ?_;go_big_quiet_op
 refine tM 5 rfl (ah lQ) ?_;go_big_quiet_op
 refine aK 6 rfl (by kernel_rfl) ?_
 intro K hK
 go_simp
 refine hTN.mono ?_
 rintro e wT hR
 obtain ⟨rfl,hFT⟩:=hR.out.1 er rfl
 have hST:=hFT.none
 dsimp only
 refine hK _ _ (fun h=>absurd h (by decide +kernel)) ?_
 clear hK K
 refine tW 7 rfl ?_;go_big_quiet_op
 refine tW 8 rfl ?_;go_big_quiet_op
 refine tW 9 rfl ?_;go_big_quiet_op
 refine aK 10 rfl (by kernel_rfl) ?_
 intro K hK
 go_simp
 refine (jX p ⟨none,0,0,none,0,0,none,0,0⟩ 0 er her wT).mono ?_
 rintro e w' ⟨rfl,hS9⟩
 dsimp only
 exact ⟨rfl,rfl,hF5.aD (((hs5.trans hST).trans hS9).up _ _)⟩
theorem JZ (lo p qf qt f t:Nat) (d:Wd) (L:Lay) (w:World) (hB:aY lo w p d L 0) (R:Right d) (hqf:qf < lo) (hqt:qt < lo) (hcf:w.cell? ⟨qf,0,none⟩=some (.int .i64 f)) (hct:w.cell? ⟨qt,0,none⟩=some (.int .i64 t)) (hlo:lo<=w.heap.size) (hf:f < d.nodes.length) (ht:t < d.nodes.length) (M:Mg) (rest:List Mg) (hE:au d f t=M::rest) (d3:Wd) (HPM:Hid (dV d f t=.ok d3)) (d4:Wd) (mm:Int) (hmm:0<=mm/\mm<=100000) (HTL:Hid (checked d3 (fV d3 (t:Int))=.ok (d4,mm))) :
  Calls prog 86 #[.pointer (some ⟨p,0,none⟩),.pointer (some ⟨qf,0,none⟩),.pointer (some ⟨qt,0,none⟩)] w fun e w'=>e=.returned (.tuple #[])/\∃ L',aY lo w' p d4 L' mm/\Fr (Up lo fun _=>False) w w':=by
 have hpl:=hB.made.box.lt
 have uW:=hB.lop
 have vS:qf < w.heap.size:=by omega
 have qw:qt < w.heap.size:=by omega
 have hwn:(f:Int) < (d.wires.length:Int):=by have:=R.yV;omega
 have htn:(t:Int) < (d.nodes.length:Int):=by omega
 have hfn:(f:Int) < (d.nodes.length:Int):=by omega
 obtain ⟨bw2,ow2,cw2,br2,oR2,cr2,hH⟩:=hB.made.rQ R.rows hf ht
 obtain ⟨la,lcc,hL8⟩:∃ la lcc,L (8,f,t)=⟨la,lcc⟩:=⟨_,_,rfl⟩
 have b1:=hB.made.box.c1
 have HE:=(show Hid _ from hE)
 rw [hE] at hH
 go_enter func86,ntmps86
 go_wp2_with (go_at_call 87;refine (yJ p f t _ _ _ w b1 hfn htn).mono ?_;rintro e w' ⟨rfl,hw'⟩;obtain rfl:=hw'.symm)
 obtain ⟨W0,hW0⟩:∃ y,w.drew=y:=⟨_,rfl⟩
 have hs0:=aO hW0
 obtain ⟨S0,hS0⟩:∃ S0:World->Prop,∀ w',S0 w'↔Since w w':=⟨_,fun _=>Iff.rfl⟩
 have c1:∀ y:aj S0,y.w.cell? ⟨p,2,none⟩=some (.slice (some ⟨bw2,ow2,none⟩) d.wires.length cw2):=fun y=>(hH.since ((hS0 _).1 y.h)).top
 have c2:∀ y:aj S0,y.w.cell? ⟨bw2,ow2+f,none⟩=some (.slice (some ⟨br2,oR2,none⟩) d.nodes.length cr2):=fun y=>(hH.since ((hS0 _).1 y.h)).row
 have c3:∀ y:aj S0,y.w.cell? ⟨br2,oR2+t,none⟩=some (.slice la (rest.length+1) lcc):=fun y=>by have:=(hH.since ((hS0 _).1 y.h)).cell;rw [hL8] at this;exact this
 have c4:∀ y:aj S0,y.w.cell? ⟨qf,0,none⟩=some (.int .i64 f):=fun y=>(((hS0 _).1 y.h).cellAt vS _).trans hcf
 have c5:∀ y:aj S0,y.w.cell? ⟨qt,0,none⟩=some (.int .i64 t):=fun y=>(((hS0 _).1 y.h).cellAt qw _).trans hct
 have ak:=(hS0 W0).2 hs0
 have hne:Nonempty (aj S0):=⟨⟨_,ak⟩⟩
 have bS:=aH w
 clear hL8 hE b1
 refine aI (fun w'=>∃ x:aj S0,w'=x.w) (by kernel_rfl) ?_
 rw [hW0]
 clear hW0
 refine tW 0 rfl ?_;go_big_quiet_op
 refine tW 1 rfl ?_;go_big_quiet_op
 refine tW 2 rfl ?_;go_big_quiet_op
 refine tW 3 rfl ?_;go_big_quiet_op
 refine tM 4 rfl (ah ak) ?_;go_big_quiet_op
 refine tM 5 rfl (ah ak) ?_;go_big_quiet_op
 refine tW 6 rfl ?_;go_big_quiet_op
 refine tM 7 rfl (ah ak) ?_;go_big_quiet_op
 refine tM 8 rfl (ah ak) ?_;go_big_quiet_op
 refine tW 9 rfl ?_;go_big_quiet_op
 refine tM 10 rfl (ah ak) ?_;go_big_quiet_op
 refine tM 11 rfl (ah ak) ?_;go_big_quiet_op
 refine tW 12 rfl ?_;go_big_quiet_op
 refine aK 13 rfl (by kernel_rfl) ?_
 intro K hK
 go_simp
 refine (bG 7 _).mono ?_
 rintro e w' ⟨rfl,hw'⟩
 obtain rfl:=hw'.symm
 dsimp only
 refine hK _ _ (fun h=>absurd h (by decide +kernel)) ?_
 clear hK K
 refine aW (by kernel_rfl) ?_
 clear c1 c2 c3 c4 c5 hne bS
 have K8:=(hs0.cellAt vS _).trans hcf
 have Hw:=(hs0.cellAt qw _).trans hct
 have hlo0:lo<=W0.heap.size:=zQ5 hlo hs0.size
 have hB0:=hB.since hs0
 clear hcf hct
 have hCo:=yI lo p f t d L W0 0 hB0 R hf ht M rest HE.out hlo0 (fun e w'=>e=.returned (.tuple #[])/\∃ L',aY lo w' p d3 L' 0/\Fr (Up lo fun _=>False) W0 w') (fun er' h w' hF=>by rw [HPM.out] at h;cases h) (fun d' L' w' h hB' hF=>by rw [HPM.out] at h;cases h;exact ⟨rfl,L',hB',hF⟩)
 go_wp2_with (go_at_call 89;refine hCo.mono ?_;rintro e w5 hR;obtain ⟨rfl,L5,hB5,JY⟩:=hR.out)
 have hF5:=(hs0.up lo (fun _=>False)).aD JY
 have NM:=(JY.cell (p:=⟨qt,0,none⟩) (zQ4 qw hs0.size) (by rintro (h | h);exact h hqt;exact h)).trans Hw
 have NP:qt < w5.heap.size:=zQ4 qw hF5.size
 clear hR hCo K8 Hw
 have lJ:=hB5.made.box.lt
 have b0:=hB5.made.box.c0
 have b1:=hB5.made.box.c1
 have b2:=hB5.made.box.c2
 obtain ⟨U0,hW0⟩:∃ y,w5.drew=y:=⟨_,rfl⟩
 have hs5:=aO hW0
 obtain ⟨S5,hS5⟩:∃ S0:World->Prop,∀ w',S0 w'↔Since w5 w':=⟨_,fun _=>Iff.rfl⟩
 have x0:∀ y:aj S5,y.w.cell? ⟨p,0,none⟩=some (.slice (L5 (0,0,0)).a d3.groups.length (L5 (0,0,0)).cap):=fun y=>(((hS5 _).1 y.h).cellAt lJ _).trans b0
 have x1:∀ y:aj S5,y.w.cell? ⟨p,1,none⟩=some (.slice (L5 (1,0,0)).a d3.nodes.length (L5 (1,0,0)).cap):=fun y=>(((hS5 _).1 y.h).cellAt lJ _).trans b1
 have x2:∀ y:aj S5,y.w.cell? ⟨p,2,none⟩=some (.slice (L5 (2,0,0)).a d3.wires.length (L5 (2,0,0)).cap):=fun y=>(((hS5 _).1 y.h).cellAt lJ _).trans b2
 have x3:∀ y:aj S5,y.w.cell? ⟨qt,0,none⟩=some (.int .i64 t):=fun y=>(((hS5 _).1 y.h).cellAt NP _).trans NM
 have lQ:=(hS5 U0).2 hs5
 have hne:Nonempty (aj S5):=⟨⟨_,lQ⟩⟩
 have bS:=aH w
 have hTN:=iR (gK L5 d3) d3 t U0 (hB5.made.own.since hs5).wat
 unfold gK at hTN
 rw [HTL.out] at hTN
 dsimp only at hTN
 refine aI (fun w'=>∃ x:aj S5,w'=x.w) (by kernel_rfl) ?_
 rw [hW0]
 clear hW0
 refine tW 0 rfl ?_;go_big_quiet_op
 refine tW 1 rfl ?_;go_big_quiet_op
 refine tW 2 rfl ?_;go_big_quiet_op
 refine tW 3 rfl ?_;go_big_quiet_op
 refine tM 4 rfl (ah lQ) ?_;go_big_quiet_op
 refine tM 5 rfl (ah lQ) ?_;go_big_quiet_op
 refine aK 6 rfl (by kernel_rfl) ?_
 intro K hK
 go_simp
 refine hTN.mono ?_
 rintro e wT hR
 obtain ⟨L6,rfl,hO6,hFT⟩:=hR.out.2 d4 mm rfl
 have hST:=hFT.none
 simp only [bW]
 refine hK _ _ (fun h=>absurd h (by decide +kernel)) ?_
 clear hK K
 refine tW 7 rfl ?_;go_big_quiet_op
 refine tW 8 rfl ?_;go_big_quiet_op
 refine tW 9 rfl ?_;go_big_quiet_op
 refine aK 10 rfl (by kernel_rfl) ?_
 intro K hK
 go_simp
 have hCt:=lH (L':=L6) (d':=d4) mm (by omega) hmm (hB5.since (hs5.trans hST)) (hO6.mono (by have:=hs5.size;have:=hB5.made.box.lt;omega))
 unfold bW at hCt
 refine hCt.mono ?_
 rintro e w9 ⟨rfl,hB9,hF9⟩
 dsimp only
 refine hK _ _ (fun h=>absurd h (by decide +kernel)) ?_
 clear hK K
 refine aW (by kernel_rfl) ?_
 clear x0 x1 x2 x3 hne bS
 go_end0
 rw [Int.zero_add] at hB9
 exact ⟨rfl,L6,hB9,hF5.aD ((((hs5.trans hST).up _ _).aD (hF9.mono (fun i _ e=>.inl (by have e:i=p:=e;omega)))))⟩
def nW (d:Wd) (f t:Int):Except Int (Wd × Int) :=
 if inB f 0 ((d.nodes.length:Int) - 1) && inB t 0 ((d.nodes.length:Int) - 1) then (dV d f.toNat t.toNat).bind fun d3=>(eF d3 t.toNat).bind fun p=>.ok (p.1,(p.2:Int)) else .error 4
theorem Dw (d:Wd) (f t:Int):kT d f t=checked d ((nW d f t).bind fun p=>.ok p.1):=by
 unfold kT checked nW
 split
 ·split
  ·rw [xQ]
   cases dV d f.toNat t.toNat with
   | error e=>rfl
   | ok d3=>show (eF d3 t.toNat).bind _=((eF d3 t.toNat).bind _).bind _;cases eF d3 t.toNat <;> rfl
  ·rfl
 ·rfl
theorem vX (n:Int) (k:Nat):inB n 0 ((k:Int) - 1)=(decide (0<=n) && decide (n < (k:Int))):=by
 unfold inB
 have:(n<=(k:Int) - 1)=(n < (k:Int)):=propext ⟨fun h=>by omega,fun h=>by omega⟩
 simp [this,Bool.decide_and]
theorem Dx (lo p qf qt:Nat) (f t:Int) (d:Wd) (L:Lay) (w:World) (hB:aY lo w p d L 0) (R:Right d) (hqf:qf < lo) (hqt:qt < lo) (hcf:w.cell? ⟨qf,0,none⟩=some (.int .i64 f)) (hct:w.cell? ⟨qt,0,none⟩=some (.int .i64 t)) (hlo:lo<=w.heap.size) :
  Calls prog 86 #[.pointer (some ⟨p,0,none⟩),.pointer (some ⟨qf,0,none⟩),.pointer (some ⟨qt,0,none⟩)] w fun e w'=>Hid (qp lo (fun _=>False) p w (nW d f t) e w'):=by
 cases hi:(inB f 0 ((d.nodes.length:Int) - 1) && inB t 0 ((d.nodes.length:Int) - 1)) with
 | false =>
  have e:nW d f t=.error 4:=by unfold nW;rw [hi];rfl
  rw [e]
  rw [vX,vX] at hi
  exact (K7 lo p qf qt f t d L w hB hcf hct hi).mono fun _ _ ⟨he,hF⟩=>by rw [he];exact eB hF
 | true =>
  have hi':=hi
  simp only [Bool.and_eq_true] at hi'
  obtain ⟨i1,i2⟩:=hi'
  have f0:0<=f/\f<=(d.nodes.length:Int) - 1:=by simpa [inB] using i1
  have t0:0<=t/\t<=(d.nodes.length:Int) - 1:=by simpa [inB] using i2
  obtain ⟨a,rfl⟩:∃ k:Nat,f=(k:Int):=⟨f.toNat,by omega⟩
  obtain ⟨b,rfl⟩:∃ k:Nat,t=(k:Int):=⟨t.toNat,by omega⟩
  have ha:a < d.nodes.length:=by omega
  have hb:b < d.nodes.length:=by omega
  have e:nW d a b=(dV d a b).bind fun d3=>(eF d3 b).bind fun p=>.ok (p.1,(p.2:Int)):=by unfold nW;rw [hi];rfl
  rw [e]
  cases hE:au d a b with
  | nil =>
   have e1:dV d a b=.error 7:=by unfold dV;rw [hE]
   rw [e1]
   exact (EK lo p qf qt a b d L w hB R hqf hqt hcf hct hlo ha hb hE).mono fun _ _ ⟨he,hF⟩=>by rw [he];exact eB hF
  | cons M rest =>
   cases hP:dV d a b with
   | error er=>exact (Hu lo p qf qt a b d L w hB R hqf hqt hcf hct hlo ha hb M rest hE er hP).mono fun _ _ ⟨he,hF⟩=>by rw [he];exact eB hF
   | ok d3 =>
    obtain ⟨m,S⟩:=rJ R ha hb hP
    have R3:=mJ R S
    have hb3:b < d3.nodes.length:=by rw [S.alike.n];exact hb
    have hTC:=lM R3 hb3
    show Calls _ _ _ _ fun e w'=>Hid (qp lo (fun _=>False) p w ((eF d3 b).bind fun p=>.ok (p.1,(p.2:Int))) e w')
    cases hT:eF d3 b with
    | error er =>
     rw [hT] at hTC
     have her:(er == 0)=false:=by rcases qd hb3 hT with rfl | ⟨rfl,_⟩ <;> rfl
     exact (Hy lo p qf qt a b d L w hB R hqf hqt hcf hct hlo ha hb M rest hE d3 hP er her hTC).mono fun _ _ ⟨he,hF⟩=>by rw [he];exact eB hF
    | ok pp =>
     obtain ⟨d4,mm⟩:=pp
     rw [hT] at hTC
     exact (JZ lo p qf qt a b d L w hB R hqf hqt hcf hct hlo ha hb M rest hE d3 hP d4 mm (rW R3 hT) hTC).mono fun _ _ ⟨he,L',hB',hF⟩=>by rw [he];exact l9 hF hB'
theorem oQ (x:WV) (d:Wd) (f t:Int) (w:World) (hW:WAt w x d) :
  Calls prog 33 #[.agg #[.slice x.ga x.gl x.gc,.slice x.na x.nl x.nc,.slice x.wa x.wl x.wc],.int .i64 f,.int .i64 t] w fun e w'=>Hid (wY w (kT d f t) e w'):=by
 obtain ⟨ga,gl,gc,na,nl,nc,wa,wl,wc⟩:=x
 dsimp only
 obtain ⟨wp,hwp⟩:∃ wp,w.alloc (.cells #[.slice ga gl gc,.slice na nl nc,.slice wa wl wc] 26)=wp:=⟨_,rfl⟩
 have hPp:bD wp w.heap.size ⟨ga,gl,gc,na,nl,nc,wa,wl,wc⟩:=by rw [<-hwp];exact bD.new w ⟨ga,gl,gc,na,nl,nc,wa,wl,wc⟩ _
 have hSp:=ay hwp
 obtain ⟨wf,hwf⟩:∃ w1,wp.alloc (.cells #[.int .i64 f] 3)=w1:=⟨_,rfl⟩
 have NQ:=ay hwf
 have hfl:wp.heap.size < wf.heap.size:=by rw [<-hwf];simp
 have hfc:wf.cell? ⟨wp.heap.size,0,none⟩=some (.int .i64 f):=by rw [<-hwf];simp [go_sem]
 obtain ⟨wq,hwq⟩:∃ w1,wf.alloc (.cells #[.int .i64 t] 3)=w1:=⟨_,rfl⟩
 have J2:=ay hwq
 have yH:=NQ.trans J2
 have hql:wf.heap.size < wq.heap.size:=by rw [<-hwq];simp
 have hqc:wq.cell? ⟨wf.heap.size,0,none⟩=some (.int .i64 t):=by rw [<-hwq];simp [go_sem]
 obtain ⟨w1,hw1⟩:∃ w1,wq.alloc (.cells #[.slice none 0 0,.slice none 0 0,.slice none 0 0] 26)=w1:=⟨_,rfl⟩
 have hNB:aL w1 wq.heap.size:=by rw [<-hw1];exact aL.new wq _
 have nD:=ay hw1
 have gN:=yH.trans nD
 have hP1:=hPp.since gN
 have hS1:=hSp.trans gN
 have hW1:=hW.since hS1
 have p0:=hP1.c0
 have p1:=hP1.c1
 have p2:=hP1.c2
 dsimp only at p0 p1 p2
 have hmf:∀ (fn:Fn) (first cap:Array Value) (w:World),(Instr.makeFunc fn first cap).run prog w=.ok (.func fn first cap) w:=fun _ _ _ _=>rfl
 have hDo:=jY ⟨ga,gl,gc,na,nl,nc,wa,wl,wc⟩ d 86 #[.pointer (some ⟨wp.heap.size,0,none⟩),.pointer (some ⟨wf.heap.size,0,none⟩)] (fun _=>False) w1 hW1 (fun _ h=>h.elim) (nW d f t) (enters_of func86 (by kernel_rfl) rfl)
  (fun hE lo p L y hlo hy hB=>Dx lo p wp.heap.size wf.heap.size f t d L y hB ((cu d).1 hE) (by have:=nD.size;omega) (by have:=nD.size;omega) ((((J2.trans nD).trans hy).cellAt hfl _).trans hfc) (((nD.trans hy).cellAt hql _).trans hqc) (by have:=hB.made.box.lt;have:=hB.lop;omega))
 dsimp only at hDo
 rw [Dw,nT]
 obtain ⟨r,hr⟩:∃ r,checked d (nW d f t)=r:=⟨_,rfl⟩
 rw [hr] at hDo ⊢
 clear hr hW
 have hle:=zQ5 hSp.size yH.size
 have hwx:Hid (∀ y,Fr (fun _=>False) w1 y->Since w y/\aL y wq.heap.size):=fun y hy=>⟨hS1.trans hy.none,hNB.since hy.none⟩
 cases r with
 | error er =>
  go_enter func33,ntmps33
  go_wp2_with fail
  refine hDo.mono ?_
  rintro e w2 hR
  obtain ⟨rfl,hF2⟩:=hR.out.1 er rfl
  obtain ⟨hS2,hN2⟩:=hwx.out _ hF2
  clear hR hw1 hwp hwq hwf
  obtain ⟨w3,hw3⟩:∃ y,w2.alloc (.cells #[.slice none 0 0,.slice none 0 0,.slice none 0 0] 26)=y:=⟨_,rfl⟩
  have wD:=ay hw3
  have hN3:aL w3 w2.heap.size:=by rw [<-hw3];exact aL.new w2 _
  obtain ⟨w4,hw4⟩:∃ y,((w3.setCell ⟨w2.heap.size,0,none⟩ (.slice none 0 0)).setCell ⟨w2.heap.size,1,none⟩ (.slice none 0 0)).setCell ⟨w2.heap.size,2,none⟩ (.slice none 0 0)=y:=⟨_,rfl⟩
  have hF4:Fr (fun i=>i=w2.heap.size) w3 w4:=by rw [<-hw4];exact gM w3 w2.heap.size _ _ _
  have hS4:Since w2 w4:=hF4.dz wD (fun i hi e=>by omega)
  have hN4:aL w4 w2.heap.size:=by
   rw [<-hw4]
   exact ⟨zQ4 hN3.lt (gM w3 w2.heap.size _ _ _).size,qY hN3.c0,qZ hN3.c1,q8 hN3.c2,(gZ _ _ _ _ _ _).trans hN3.z0,(gZ _ _ _ _ _ _).trans hN3.z1,(gZ _ _ _ _ _ _).trans hN3.z2⟩
  obtain ⟨_,a0,a1,a2,a3,a4,a5⟩:=hN3
  obtain ⟨_,c0,c1,c2,_,_,_⟩:=hN4
  obtain ⟨_,r0,r1,r2,r3,r4,r5⟩:=hN2.since hS4
  go_wp2_with fail
  refine bodyPost_ret (v:=.tuple #[.agg #[.slice none 0 0,.slice none 0 0,.slice none 0 0],.int .i64 er]) ?_ rfl (show Hid _ from iy (dA hle (hS2.trans hS4)))
  simp [results,results33,go_sem,r0,r1,r2]
 | ok dm =>
  obtain ⟨d',m⟩:=dm
  go_enter func33,ntmps33
  go_wp2_with fail
  refine hDo.mono ?_
  rintro e w2 hR
  obtain ⟨L,rfl,hO,hF2⟩:=hR.out.2 d' m rfl
  obtain ⟨hS2,hN2⟩:=hwx.out _ hF2
  clear hR hw1 hwp hwq hwf
  simp only [bW]
  obtain ⟨w3,hw3⟩:∃ y,w2.alloc (.cells #[.slice (L (0,0,0)).a d'.groups.length (L (0,0,0)).cap,.slice (L (1,0,0)).a d'.nodes.length (L (1,0,0)).cap,.slice (L (2,0,0)).a d'.wires.length (L (2,0,0)).cap] 26)=y:=⟨_,rfl⟩
  have hS3:=ay hw3
  have hB3:kr w3 w2.heap.size L d':=by rw [<-hw3];constructor <;> simp [go_sem]
  obtain ⟨_,b0,b1,b2,_,_,_⟩:=hB3
  obtain ⟨_,r0,r1,r2,r3,r4,r5⟩:=hN2.since hS3
  obtain ⟨hO2,hSf⟩:=(hO.since hS3).result (w0:=w) (p:=wq.heap.size) hNB.lt hle (hS2.trans hS3) hS1.size
  go_wp2_with fail
  refine bodyPost_ret (v:=.tuple #[bW L d',.int .i64 0]) ?_ rfl (show Hid _ from j5 hO2 hSf)
  simp [results,results33,go_sem,r0,r1,r2,bW]
theorem rX (f t:Nat):∀ (k:Nat) (d:Wd),eX f t (k+1) d=(eX f t k d).bind fun d'=>iD d' f t
 | 0,d=>by
  show (iD d f t).bind (eX f t 0)=iD d f t
  cases iD d f t <;> rfl
 | k+1,d=>by
  show (iD d f t).bind (eX f t (k+1))=((iD d f t).bind (eX f t k)).bind _
  cases h:iD d f t with
  | error e=>rfl
  | ok d1=>exact rX f t k d1
theorem yK {f t:Nat} {d:Wd} {e:Int} {k:Nat} (h:eX f t k d=.error e):∀ j,eX f t (k+j) d=.error e
 | 0=>h
 | j+1=>by rw [<-Nat.add_assoc,rX,yK h j];rfl
theorem Bq {d:Wd} {f t:Nat} (R:Right d) (hf:f < d.nodes.length) (ht:t < d.nodes.length):kT d (f:Int) (t:Int)=iD d f t:=by
 unfold kT
 rw [if_pos ((cu d).2 R),if_pos (by simp [inB];omega),Int.toNat_natCast,Int.toNat_natCast]
def mM (d:Wd) (f t:Int):Except Int (Wd × Int) :=
 if inB f 0 ((d.nodes.length:Int) - 1) && inB t 0 ((d.nodes.length:Int) - 1) then (pE d f.toNat t.toNat).bind fun r=>.ok (r.1,(r.2:Int)) else .error 4
theorem J3 (lo p qf qt:Nat) (f t:Int) (d:Wd) (L:Lay) (w:World) (hB:aY lo w p d L 0) (hcf:w.cell? ⟨qf,0,none⟩=some (.int .i64 f)) (hct:w.cell? ⟨qt,0,none⟩=some (.int .i64 t)) (hn:((decide (0<=f) && decide (f < (d.nodes.length:Int))) && (decide (0<=t) && decide (t < (d.nodes.length:Int))))=false) :
  Calls prog 95 #[.pointer (some ⟨p,0,none⟩),.pointer (some ⟨qf,0,none⟩),.pointer (some ⟨qt,0,none⟩)] w fun e w'=>e=.panicked (pan 4)/\Fr (Up lo fun _=>False) w w':=by
 have b1:=hB.made.box.c1
 have hb:=JX p f t _ _ _ w b1 hn
 clear hn
 go_enter func95,ntmps95
 go_wp2_with (go_at_call 87;refine hb.mono ?_;rintro e w' ⟨rfl,hw'⟩;obtain rfl:=hw'.symm)
 exact ⟨rfl,rfl,Fr.refl _ _⟩
theorem Hz (lo p qf qt f t:Nat) (d:Wd) (L:Lay) (w:World) (hB:aY lo w p d L 0) (R:Right d) (hqf:qf < lo) (hqt:qt < lo) (hcf:w.cell? ⟨qf,0,none⟩=some (.int .i64 f)) (hct:w.cell? ⟨qt,0,none⟩=some (.int .i64 t)) (hlo:lo<=w.heap.size) (hf:f < d.nodes.length) (ht:t < d.nodes.length) (N:Nat) (hN:(au d f t).length=N) (Post:Ending->World->Prop)
  (nA:∀ er,eX f t N d=.error er->∀ w',Fr (Up lo fun _=>False) w w'->Post (.panicked (pan er)) w')
  (hOk:∀ d' L' w',eX f t N d=.ok d'->aY lo w' p d' L' (N:Int)->Fr (Up lo fun _=>False) w w'->Post (.returned (.tuple #[])) w') :
  Calls prog 95 #[.pointer (some ⟨p,0,none⟩),.pointer (some ⟨qf,0,none⟩),.pointer (some ⟨qt,0,none⟩)] w fun e w'=>Hid (Post e w'):=by
 have qo:=(show Hid _ from nA)
 have HOK:=(show Hid _ from hOk)
 have HN:Hid ((au d f t).length=N):=hN
 have Q5:Hid (N<=40):=by unfold Hid;rw [<-hN];exact R.pF f t
 have HR:Hid (Right d):=R
 clear nA hOk hN R
 have hpl:=hB.made.box.lt
 have uW:=hB.lop
 have vS:qf < w.heap.size:=by omega
 have qw:qt < w.heap.size:=by omega
 have htn:(t:Int) < (d.nodes.length:Int):=by omega
 have hfn:(f:Int) < (d.nodes.length:Int):=by omega
 have b1:=hB.made.box.c1
 have QF:Hid (∀ y,Fr (Up lo fun _=>False) w y->y.cell? ⟨qf,0,none⟩=some (.int .i64 f)/\y.cell? ⟨qt,0,none⟩=some (.int .i64 t)):=fun y hy =>
  ⟨(hy.cell (p:=⟨qf,0,none⟩) vS (by rintro (h | h);exact h hqf;exact h)).trans hcf,(hy.cell (p:=⟨qt,0,none⟩) qw (by rintro (h | h);exact h hqt;exact h)).trans hct⟩
 go_enter func95,ntmps95
 go_wp2_with (go_at_call 87;refine (yJ p f t _ _ _ w b1 hfn htn).mono ?_;rintro e w' ⟨rfl,hw'⟩;obtain rfl:=hw'.symm)
 clear b1 hcf hct htn hfn
 go_loopw [] (fun wr=>∃ (k:Nat) (dk:Wd) (Lk:Lay),k<=N/\eX f t k d=.ok dk/\aY lo wr p dk Lk (k:Int)/\Fr (Up lo fun _=>False) w wr) (fun wr=>N - (intOf ((wr.cell? ⟨p,3,none⟩).getD (.int .i64 0))).toNat)
 case atStart=>exact ⟨0,d,L,Nat.zero_le _,rfl,hB,Fr.refl _ _⟩
 case round =>
  clear hB
  obtain ⟨wo,rfl⟩:∃ wo,wo=wr:=⟨_,rfl⟩
  obtain ⟨k,dk,Lk,hk,hmv,hSB,hUp⟩:=hrel
  have HMV:Hid (eX f t k d=.ok dk):=hmv
  have HSB:Hid (aY lo wo p dk Lk (k:Int)):=hSB
  have hms:=tO k d dk HR.out hf ht (by rw [HN.out];exact hk) hmv
  have HRK:Hid (Right dk/\dk.nodes.length=d.nodes.length):=⟨hms.right,hms.grow.alike.n⟩
  obtain ⟨nn,hnn⟩:∃ nn,(au dk f t).length=nn:=⟨_,rfl⟩
  have HNN:Hid ((au dk f t).length=nn):=hnn
  have HNK:Hid (nn=N - k):=by unfold Hid;rw [<-hnn,hms.here,List.length_drop,HN.out]
  have hlow:lo<=wo.heap.size:=zQ5 hlo hUp.size
  have hfk:f < dk.nodes.length:=by rw [HRK.out.2];exact hf
  have htk:t < dk.nodes.length:=by rw [HRK.out.2];exact ht
  have hwn:(f:Int) < (dk.wires.length:Int):=by have:=HRK.out.1.yV;omega
  have htn:(t:Int) < (dk.nodes.length:Int):=by omega
  have hpl:=hSB.made.box.lt
  have K9:qf < wo.heap.size:=by omega
  have La:qt < wo.heap.size:=by omega
  obtain ⟨q1,q2⟩:=QF.out _ hUp
  obtain ⟨bw2,ow2,cw2,br2,oR2,cr2,hH⟩:=hSB.made.rQ HRK.out.1.rows hfk htk
  obtain ⟨la,lcc,hL8⟩:∃ la lcc,Lk (8,f,t)=⟨la,lcc⟩:=⟨_,_,rfl⟩
  have hcell:=hH.cell
  rw [hL8,hnn] at hcell
  dsimp only [Sl.v] at hcell
  have hbr:=hH.ltr
  have HK:Hid (k<=N):=hk
  clear hmv hms hnn hL8 hk
  by_cases hlt:k < N
  ·have hp:(0:Int) < (nn:Int):=by have:=HNK.out;omega
   have HLT:Hid (k < N):=hlt
   clear hlt
   obtain ⟨W0,hW0⟩:∃ y,wo.drew=y:=⟨_,rfl⟩
   have hs0:=aO hW0
   obtain ⟨S0,hS0⟩:∃ S0:World->Prop,∀ w',S0 w'↔Since wo w':=⟨_,fun _=>Iff.rfl⟩
   have c1:∀ y:aj S0,y.w.cell? ⟨p,2,none⟩=some (.slice (some ⟨bw2,ow2,none⟩) dk.wires.length cw2):=fun y=>(hH.since ((hS0 _).1 y.h)).top
   have c2:∀ y:aj S0,y.w.cell? ⟨bw2,ow2+f,none⟩=some (.slice (some ⟨br2,oR2,none⟩) dk.nodes.length cr2):=fun y=>(hH.since ((hS0 _).1 y.h)).row
   have c3:∀ y:aj S0,y.w.cell? ⟨br2,oR2+t,none⟩=some (.slice la nn lcc):=fun y=>(((hS0 _).1 y.h).cellAt hbr _).trans hcell
   have c4:∀ y:aj S0,y.w.cell? ⟨qf,0,none⟩=some (.int .i64 f):=fun y=>(((hS0 _).1 y.h).cellAt K9 _).trans q1
   have c5:∀ y:aj S0,y.w.cell? ⟨qt,0,none⟩=some (.int .i64 t):=fun y=>(((hS0 _).1 y.h).cellAt La _).trans q2
   have ak:=(hS0 W0).2 hs0
   have hne:Nonempty (aj S0):=⟨⟨_,ak⟩⟩
   have bS:=aH w
   go_wp2_with fail
   refine aI (fun w'=>∃ x:aj S0,w'=x.w) (by kernel_rfl) ?_
   rw [hW0]
   clear hW0
   refine tW 0 rfl ?_;go_big_quiet_op
   refine tW 1 rfl ?_;go_big_quiet_op
   refine tW 2 rfl ?_;go_big_quiet_op
   refine tW 3 rfl ?_;go_big_quiet_op
   refine tM 4 rfl (ah ak) ?_;go_big_quiet_op
   refine tM 5 rfl (ah ak) ?_;go_big_quiet_op
   refine tW 6 rfl ?_;go_big_quiet_op
   refine tM 7 rfl (ah ak) ?_;go_big_quiet_op
   refine tM 8 rfl (ah ak) ?_;go_big_quiet_op
   refine tW 9 rfl ?_;go_big_quiet_op
   refine tM 10 rfl (ah ak) ?_;go_big_quiet_op
   refine tM 11 rfl (ah ak) ?_;go_big_quiet_op
   refine tW 12 rfl ?_;go_big_quiet_op
   refine aW (by kernel_rfl) ?_
   have hp':=hp
   clear c1 c2 c3 c4 c5 hne
   have hB0:=hSB.since hs0
   have b0:=hB0.made.box.c0
   have b1:=hB0.made.box.c1
   have b2:=hB0.made.box.c2
   have NR:=hB0.made.box.lt
   have q1':=(hs0.cellAt K9 _).trans q1
   have q2':=(hs0.cellAt La _).trans q2
   have Q6:qf < W0.heap.size:=zQ4 K9 hs0.size
   have Q7:qt < W0.heap.size:=zQ4 La hs0.size
   clear q1 q2 hcell
   obtain ⟨W1,hW0⟩:∃ y,W0.drew=y:=⟨_,rfl⟩
   have hs1:=aO hW0
   obtain ⟨S1,hS1⟩:∃ S0:World->Prop,∀ w',S0 w'↔Since W0 w':=⟨_,fun _=>Iff.rfl⟩
   have x0:∀ y:aj S1,y.w.cell? ⟨p,0,none⟩=some (.slice (Lk (0,0,0)).a dk.groups.length (Lk (0,0,0)).cap):=fun y=>(((hS1 _).1 y.h).cellAt NR _).trans b0
   have x1:∀ y:aj S1,y.w.cell? ⟨p,1,none⟩=some (.slice (Lk (1,0,0)).a dk.nodes.length (Lk (1,0,0)).cap):=fun y=>(((hS1 _).1 y.h).cellAt NR _).trans b1
   have x2:∀ y:aj S1,y.w.cell? ⟨p,2,none⟩=some (.slice (Lk (2,0,0)).a dk.wires.length (Lk (2,0,0)).cap):=fun y=>(((hS1 _).1 y.h).cellAt NR _).trans b2
   have x3:∀ y:aj S1,y.w.cell? ⟨qf,0,none⟩=some (.int .i64 f):=fun y=>(((hS1 _).1 y.h).cellAt Q6 _).trans q1'
   have x4:∀ y:aj S1,y.w.cell? ⟨qt,0,none⟩=some (.int .i64 t):=fun y=>(((hS1 _).1 y.h).cellAt Q7 _).trans q2'
   have oo:=(hS1 W1).2 hs1
   have hne:Nonempty (aj S1):=⟨⟨_,oo⟩⟩
   have EL:=oQ (gK Lk dk) dk f t W1 (hB0.made.own.since hs1).wat
   unfold gK at EL
   rw [Bq HRK.out.1 hfk htk] at EL
   dsimp only at EL
   have HM1:Hid (eX f t (k+1) d=iD dk f t):=by unfold Hid;rw [rX,HMV.out];rfl
   obtain ⟨r,hr⟩:∃ r,iD dk f t=r:=⟨_,rfl⟩
   rw [hr] at EL
   have HRR:Hid (eX f t (k+1) d=r):=by unfold Hid;rw [HM1.out,hr]
   have HNZ:Hid (∀ e,r=.error e->(e == 0)=false):=fun e h=>by rw [h] at hr;have:=yc hr;simpa using this
   clear hr b0 b1 b2 q1' q2'
   cases r with
   | error er =>
    have her:=HNZ.out er rfl
    go_wp2_with fail
    refine aI (fun w'=>∃ x:aj S1,w'=x.w) (by kernel_rfl) ?_
    rw [hW0]
    clear hW0
    refine tW 0 rfl ?_;go_big_quiet_op
    refine tW 1 rfl ?_;go_big_quiet_op
    refine tW 2 rfl ?_;go_big_quiet_op
    refine tW 3 rfl ?_;go_big_quiet_op
    refine tM 4 rfl (ah oo) ?_;go_big_quiet_op
    refine tM 5 rfl (ah oo) ?_;go_big_quiet_op
    refine tM 6 rfl (ah oo) ?_;go_big_quiet_op
    refine aK 7 rfl (by kernel_rfl) ?_
    intro K hK
    go_simp
    refine EL.mono ?_
    rintro e wT hR
    obtain ⟨rfl,hST⟩:=hR.out.1 er rfl
    dsimp only
    refine hK _ _ (fun h=>absurd h (by decide +kernel)) ?_
    clear hK K
    refine tW 8 rfl ?_;go_big_quiet_op
    refine tW 9 rfl ?_;go_big_quiet_op
    refine aK 10 rfl (by kernel_rfl) ?_
    intro K hK
    go_simp
    refine (rU p ⟨none,0,0,none,0,0,none,0,0⟩ er her wT).mono ?_
    rintro e w' ⟨rfl,hS9⟩
    dsimp only
    exact ⟨rfl,qo.out er (by have:=yK HRR.out (N - (k+1));rwa [show k+1+(N - (k+1))=N from by have:=HLT.out;omega] at this) _ (hUp.aD ((((hs0.trans hs1).trans hST).trans hS9).up _ _))⟩
   | ok d2 =>
    go_wp2_with fail
    refine aI (fun w'=>∃ x:aj S1,w'=x.w) (by kernel_rfl) ?_
    rw [hW0]
    clear hW0
    refine tW 0 rfl ?_;go_big_quiet_op
    refine tW 1 rfl ?_;go_big_quiet_op
    refine tW 2 rfl ?_;go_big_quiet_op
    refine tW 3 rfl ?_;go_big_quiet_op
    refine tM 4 rfl (ah oo) ?_;go_big_quiet_op
    refine tM 5 rfl (ah oo) ?_;go_big_quiet_op
    refine tM 6 rfl (ah oo) ?_;go_big_quiet_op
    refine aK 7 rfl (by kernel_rfl) ?_
    intro K hK
    go_simp
    refine EL.mono ?_
    rintro e wT hR
    obtain ⟨L6,rfl,hO6,hST⟩:=hR.out.2 d2 rfl
    simp only [bW]
    refine hK _ _ (fun h=>absurd h (by decide +kernel)) ?_
    clear hK K
    refine tW 8 rfl ?_;go_big_quiet_op
    refine tW 9 rfl ?_;go_big_quiet_op
    refine aK 10 rfl (by kernel_rfl) ?_
    intro K hK
    go_simp
    have hCt:=uX (L':=L6) (d':=d2) (hB0.since (hs1.trans hST)) (hO6.mono (by have:=hs1.size;have:=hB0.made.box.lt;omega))
    unfold bW at hCt
    refine hCt.mono ?_
    rintro e w9 ⟨rfl,hB9,hF9⟩
    dsimp only
    refine hK _ _ (fun h=>absurd h (by decide +kernel)) ?_
    clear hK K
    refine aW (by kernel_rfl) ?_
    clear x0 x1 x2 x3 x4 hne bS EL
    have cm:=hB9.cm
    have zm:=hB9.zm
    have hk1:IntKind.i64.wrap ((k:Int)+1)=(k:Int)+1:=IntWalk.i64_in _ (by have:=HLT.out;have:=Q5.out;omega)
    have hU9:Fr (Up lo fun _=>False) w w9:=hUp.aD ((((hs0.trans hs1).trans hST).up _ _).aD (hF9.mono (fun i _ e=>.inl (by have e:i=p:=e;omega))))
    obtain ⟨wE,hwE⟩:∃ y,w9.setCell ⟨p,3,none⟩ (.int .i64 ((k:Int)+1))=y:=⟨_,rfl⟩
    have hBE:=hB9.many ((k:Int)+1)
    rw [hwE] at hBE
    have hUE:Fr (Up lo fun _=>False) w wE:=by rw [<-hwE];exact hU9.aD ((Fr.refl _ w9).setCell ⟨p,3,none⟩ _ (fun _=>.inl (by show ¬ p < lo;omega)))
    go_wp2
    go_roundw
    case rel=>exact ⟨k+1,d2,L6,HLT.out,HRR.out,by have:=hBE;rwa [show ((k+1:Nat):Int)=(k:Int)+1 from by omega],hUE⟩
    case measure =>
     have h1:=hBE.cm
     have h2:=HSB.out.cm
     have:=HLT.out
     simp [h1,h2,intOf]
     omega
  ·have HE:Hid (N=k):=by unfold Hid;have:=HK.out;omega
   have hp:¬ (0:Int) < (nn:Int):=by have:=HNK.out;omega
   clear hlt
   obtain ⟨W0,hW0⟩:∃ y,wo.drew=y:=⟨_,rfl⟩
   have hs0:=aO hW0
   obtain ⟨S0,hS0⟩:∃ S0:World->Prop,∀ w',S0 w'↔Since wo w':=⟨_,fun _=>Iff.rfl⟩
   have c1:∀ y:aj S0,y.w.cell? ⟨p,2,none⟩=some (.slice (some ⟨bw2,ow2,none⟩) dk.wires.length cw2):=fun y=>(hH.since ((hS0 _).1 y.h)).top
   have c2:∀ y:aj S0,y.w.cell? ⟨bw2,ow2+f,none⟩=some (.slice (some ⟨br2,oR2,none⟩) dk.nodes.length cr2):=fun y=>(hH.since ((hS0 _).1 y.h)).row
   have c3:∀ y:aj S0,y.w.cell? ⟨br2,oR2+t,none⟩=some (.slice la nn lcc):=fun y=>(((hS0 _).1 y.h).cellAt hbr _).trans hcell
   have c4:∀ y:aj S0,y.w.cell? ⟨qf,0,none⟩=some (.int .i64 f):=fun y=>(((hS0 _).1 y.h).cellAt K9 _).trans q1
   have c5:∀ y:aj S0,y.w.cell? ⟨qt,0,none⟩=some (.int .i64 t):=fun y=>(((hS0 _).1 y.h).cellAt La _).trans q2
   have ak:=(hS0 W0).2 hs0
   have hne:Nonempty (aj S0):=⟨⟨_,ak⟩⟩
   have bS:=aH w
   go_wp2_with fail
   refine aI (fun w'=>∃ x:aj S0,w'=x.w) (by kernel_rfl) ?_
   rw [hW0]
   clear hW0
   refine tW 0 rfl ?_;go_big_quiet_op
   refine tW 1 rfl ?_;go_big_quiet_op
   refine tW 2 rfl ?_;go_big_quiet_op
   refine tW 3 rfl ?_;go_big_quiet_op
   refine tM 4 rfl (ah ak) ?_;go_big_quiet_op
   refine tM 5 rfl (ah ak) ?_;go_big_quiet_op
   refine tW 6 rfl ?_;go_big_quiet_op
   refine tM 7 rfl (ah ak) ?_;go_big_quiet_op
   refine tM 8 rfl (ah ak) ?_;go_big_quiet_op
   refine tW 9 rfl ?_;go_big_quiet_op
   refine tM 10 rfl (ah ak) ?_;go_big_quiet_op
   refine tM 11 rfl (ah ak) ?_;go_big_quiet_op
   refine tW 12 rfl ?_;go_big_quiet_op
   refine aW (by kernel_rfl) ?_
   clear c1 c2 c3 c4 c5 hne bS
   go_wp2
   go_end0
   have hmv:=HMV.out
   rw [<-HE.out] at hmv
   exact HOK.out dk Lk _ hmv (by have:=HSB.out.since hs0;rwa [<-HE.out] at this) (hUp.aD (hs0.up _ _))
theorem Br (lo p qf qt:Nat) (f t:Int) (d:Wd) (L:Lay) (w:World) (hB:aY lo w p d L 0) (R:Right d) (hqf:qf < lo) (hqt:qt < lo) (hcf:w.cell? ⟨qf,0,none⟩=some (.int .i64 f)) (hct:w.cell? ⟨qt,0,none⟩=some (.int .i64 t)) (hlo:lo<=w.heap.size) :
  Calls prog 95 #[.pointer (some ⟨p,0,none⟩),.pointer (some ⟨qf,0,none⟩),.pointer (some ⟨qt,0,none⟩)] w fun e w'=>Hid (qp lo (fun _=>False) p w (mM d f t) e w'):=by
 cases hi:(inB f 0 ((d.nodes.length:Int) - 1) && inB t 0 ((d.nodes.length:Int) - 1)) with
 | false =>
  have e:mM d f t=.error 4:=by unfold mM;rw [hi];rfl
  rw [e]
  rw [vX,vX] at hi
  exact (J3 lo p qf qt f t d L w hB hcf hct hi).mono fun _ _ ⟨he,hF⟩=>by rw [he];exact eB hF
 | true =>
  have hi':=hi
  simp only [Bool.and_eq_true] at hi'
  obtain ⟨i1,i2⟩:=hi'
  have f0:0<=f/\f<=(d.nodes.length:Int) - 1:=by simpa [inB] using i1
  have t0:0<=t/\t<=(d.nodes.length:Int) - 1:=by simpa [inB] using i2
  obtain ⟨a,rfl⟩:∃ k:Nat,f=(k:Int):=⟨f.toNat,by omega⟩
  obtain ⟨b,rfl⟩:∃ k:Nat,t=(k:Int):=⟨t.toNat,by omega⟩
  have ha:a < d.nodes.length:=by omega
  have hb:b < d.nodes.length:=by omega
  have e:mM d a b=(eX a b (au d a b).length d).bind fun d'=>.ok (d',((au d a b).length:Int)):=by
   unfold mM;rw [hi]
   show ((eX a b (au d a b).length d).bind _).bind _=_
   cases eX a b (au d a b).length d <;> rfl
  rw [e]
  exact Hz lo p qf qt a b d L w hB R hqf hqt hcf hct hlo ha hb _ rfl (fun e w'=>qp lo (fun _=>False) p w ((eX a b (au d a b).length d).bind fun d'=>.ok (d',((au d a b).length:Int))) e w')
   (fun er h w' hF=>by rw [h];exact eB hF) (fun d' L' w' h hB' hF=>by rw [h];exact l9 hF hB')
theorem Bc (x:WV) (d:Wd) (f t:Int) (w:World) (hW:WAt w x d) :
  Calls prog 36 #[.agg #[.slice x.ga x.gl x.gc,.slice x.na x.nl x.nc,.slice x.wa x.wl x.wc],.int .i64 f,.int .i64 t] w fun e w'=>Hid (G9 w (checked d (mM d f t)) e w'):=by
 obtain ⟨ga,gl,gc,na,nl,nc,wa,wl,wc⟩:=x
 dsimp only
 obtain ⟨wp,hwp⟩:∃ wp,w.alloc (.cells #[.slice ga gl gc,.slice na nl nc,.slice wa wl wc] 26)=wp:=⟨_,rfl⟩
 have hPp:bD wp w.heap.size ⟨ga,gl,gc,na,nl,nc,wa,wl,wc⟩:=by rw [<-hwp];exact bD.new w ⟨ga,gl,gc,na,nl,nc,wa,wl,wc⟩ _
 have hSp:=ay hwp
 obtain ⟨wf,hwf⟩:∃ w1,wp.alloc (.cells #[.int .i64 f] 3)=w1:=⟨_,rfl⟩
 have NQ:=ay hwf
 have hfl:wp.heap.size < wf.heap.size:=by rw [<-hwf];simp
 have hfc:wf.cell? ⟨wp.heap.size,0,none⟩=some (.int .i64 f):=by rw [<-hwf];simp [go_sem]
 obtain ⟨wq,hwq⟩:∃ w1,wf.alloc (.cells #[.int .i64 t] 3)=w1:=⟨_,rfl⟩
 have J2:=ay hwq
 have yH:=NQ.trans J2
 have hql:wf.heap.size < wq.heap.size:=by rw [<-hwq];simp
 have hqc:wq.cell? ⟨wf.heap.size,0,none⟩=some (.int .i64 t):=by rw [<-hwq];simp [go_sem]
 obtain ⟨w1,hw1⟩:∃ w1,wq.alloc (.cells #[.slice none 0 0,.slice none 0 0,.slice none 0 0] 26)=w1:=⟨_,rfl⟩
 have hNB:aL w1 wq.heap.size:=by rw [<-hw1];exact aL.new wq _
 have nD:=ay hw1
 have gN:=yH.trans nD
 have hP1:=hPp.since gN
 have hS1:=hSp.trans gN
 have hW1:=hW.since hS1
 have p0:=hP1.c0
 have p1:=hP1.c1
 have p2:=hP1.c2
 dsimp only at p0 p1 p2
 have hmf:∀ (fn:Fn) (first cap:Array Value) (w:World),(Instr.makeFunc fn first cap).run prog w=.ok (.func fn first cap) w:=fun _ _ _ _=>rfl
 have hDo:=jY ⟨ga,gl,gc,na,nl,nc,wa,wl,wc⟩ d 95 #[.pointer (some ⟨wp.heap.size,0,none⟩),.pointer (some ⟨wf.heap.size,0,none⟩)] (fun _=>False) w1 hW1 (fun _ h=>h.elim) (mM d f t) (enters_of func95 (by kernel_rfl) rfl)
  (fun hE lo p L y hlo hy hB=>Br lo p wp.heap.size wf.heap.size f t d L y hB ((cu d).1 hE) (by have:=nD.size;omega) (by have:=nD.size;omega) ((((J2.trans nD).trans hy).cellAt hfl _).trans hfc) (((nD.trans hy).cellAt hql _).trans hqc) (by have:=hB.made.box.lt;have:=hB.lop;omega))
 dsimp only at hDo
 obtain ⟨r,hr⟩:∃ r,checked d (mM d f t)=r:=⟨_,rfl⟩
 rw [hr] at hDo ⊢
 clear hr hW
 have hle:=zQ5 hSp.size yH.size
 cases r with
 | error er =>
  go_enter func36,ntmps36
  go_wp2_with (go_at_call 85;refine hDo.mono ?_;rintro e w2 hR;obtain ⟨rfl,hF2⟩:=hR.out.1 er rfl;have hS2:=hF2.none;obtain ⟨lt,r0,r1,r2,r3,r4,r5⟩:=hNB.since hS2)
  refine bodyPost_ret (v:=.tuple #[.agg #[.slice none 0 0,.slice none 0 0,.slice none 0 0],.int .i64 0,.int .i64 er]) ?_ rfl (show Hid _ from uh (dA hle (hS1.trans hS2)))
  simp [results,results36,go_sem,r0,r1,r2]
 | ok dm =>
  obtain ⟨d',m⟩:=dm
  go_enter func36,ntmps36
  go_wp2_with (go_at_call 85;refine hDo.mono ?_;rintro e w2 hR;obtain ⟨L,rfl,hO,hF2⟩:=hR.out.2 d' m rfl;have hS2:=hF2.none;simp only [bW];obtain ⟨lt,r0,r1,r2,r3,r4,r5⟩:=hNB.since hS2)
  obtain ⟨hO2,hSf⟩:=hO.result (w0:=w) (p:=wq.heap.size) hNB.lt hle (hS1.trans hS2) hS1.size
  refine bodyPost_ret (v:=.tuple #[bW L d',.int .i64 m,.int .i64 0]) ?_ rfl (show Hid _ from vW hO2 hSf)
  simp [results,results36,go_sem,r0,r1,r2,bW]
end Go.Proofs.YtiiifecfdkjmbaaGreat
