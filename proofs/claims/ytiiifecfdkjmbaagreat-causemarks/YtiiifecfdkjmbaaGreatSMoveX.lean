/- Lemmas. -/
import Derived.Test.YtiiifecfdkjmbaaGreatSCastX
import Derived.Test.YtiiifecfdkjmbaaGreatPureW
import Derived.Test.YtiiifecfdkjmbaaGreatAOpen
set_option maxHeartbeats 4000000
namespace Go.Proofs.YtiiifecfdkjmbaaGreat
open _root_.Go.Proofs.Tryz hiding checked
set_option maxRecDepth 8000
open Go.RowKit Go.Shelf
open Pu
set_option linter.unusedVariables false
set_option linter.unusedSimpArgs false
theorem Bq (lo p f t:Nat) (d:Wd) (L:Lay) (w:World) (c:Int) (hB:cB lo w p d L c) (R:Right d) (hf:f < d.nodes.length) (ht:t < d.nodes.length) (M:Mg) (rest:List Mg) (hE:aA d f t=M::rest) (hlo:lo<=w.heap.size) (Post:Ending->World->Prop)
  (jl:∀ er,fP d f t=.error er->∀ w',Fr (Up lo fun _=>False) w w'->Post (.panicked (pan er)) w')
  (hOk:∀ d' L' w',fP d f t=.ok d'->cB lo w' p d' L' c->Fr (Up lo fun _=>False) w w'->Post (.returned (.tuple #[])) w') :
  Calls prog 89 #[.pointer (some ⟨p,0,none⟩),.int .i64 f,.int .i64 t] w fun e w'=>Hid (Post e w'):=by
 have hmv:fP d f t=dZ (mV d f t M rest) t M:=by unfold fP;rw [hE]
 obtain ⟨sn1,sn4,sg1,sg3⟩:=qU R.chk;obtain ⟨nd,hnd⟩:∃ nd,d.nodes[t]? = some nd:=⟨_,zQ1 ht⟩;have CX:=R.qA f t M (by rw [hE];simp);obtain ⟨hc1,hc2⟩:=nQ.1 CX.1;obtain ⟨_,⟨hg0,hg1⟩,_,_⟩:=nH hc1;obtain ⟨gg,hgg⟩:=Int.eq_ofNat_of_zero_le hg0;have RD:gg < d.groups.length:=by omega
 obtain ⟨lM,tN⟩:∃ r,nd.last[gg]? = some r:=⟨_,zQ1 (by rw [R.llen t nd hnd];exact RD)⟩;have NR:=R.lM t nd gg lM hnd tN;obtain ⟨lv,hlv⟩:∃ v,lM[f]? = some v:=⟨_,zQ1 (by omega)⟩;obtain ⟨X2,hX2⟩:∃ y,nS nd M f=y:=⟨_,rfl⟩;have GD:mV d f t M rest=setNode (aX d f t rest) t X2:=by unfold mV;rw [hnd];show setNode (aX d f t rest) t (nS nd M f)=_;rw [hX2]
 have NS:X2={ tK nd M with last:=(tK nd M).last.set gg (lM.set f (max lv M.st)) }:=by
  rw [<-hX2];unfold nS tK;rw [hgg,Int.toNat_natCast];simp only [tN,Option.getD_some];have:dW nd.last gg f=lv:=sK tN hlv;rw [this]
 have hwn:(f:Int) < (d.wires.length:Int):=by have:=R.uF;omega
 have htn:(t:Int) < (d.nodes.length:Int):=by omega
 have hrn:rest.length+1<=40:=by have:=R.oM f t;rw [hE] at this;simpa using this
 have HGG:Hid (M.gr=gg):=hgg;have HLR:=(show Hid _ from NR);have jo:=(show Hid _ from jl);have HOK:=(show Hid _ from hOk);have HR:Hid (Right d):=R;have HMV:=(show Hid _ from hmv);have HCO:=(show Hid _ from GD);have HX:=(show Hid _ from NS);clear hgg CX hc1 hc2 hg0 hg1 NR jl hOk hmv GD NS hX2
 -- the wire
 have hpl:=hB.made.box.lt;obtain ⟨row,hr,hrl⟩:=row_of R.rows hf;have vQ:okI d (8,f,t):=⟨by rw [R.rows.1];exact hf,by rw [dI hr];omega⟩;have h8:Row w lo 5 (L (8,f,t)) (aA d f t).length (flat (aA d f t)):=hB.made.own.row (8,f,t) vQ;obtain ⟨bw2,ow2,cw2,br2,oR2,cr2,hH⟩:=hB.made.pW R.rows hf ht;rw [hE] at h8 hH;obtain ⟨bl,ol,e8,hll,hbl,hcl,hxl⟩:=h8.body (by have:=h8.cap;simp at this;omega);obtain ⟨lcc,hL8⟩:∃ lcc,L (8,f,t)=⟨some ⟨bl,ol,none⟩,lcc⟩:=⟨(L (8,f,t)).cap,by rw [<-e8]⟩
 have hMs:bF w bl ol M:=by
  have:=bP hxl 0 M rfl;simp only [Nat.zero_mul,Nat.add_zero] at this;exact this
 obtain ⟨w4,hw4⟩:∃ y,w.alloc (.cells #[.int .i64 M.fr,.int .i64 M.gr,.int .i64 M.st,.bool M.nul,.string M.body] 42)=y:=⟨_,rfl⟩;have hS4:=ay hw4
 have hM4:bF w4 w.heap.size 0 M:=by rw [<-hw4];constructor <;> simp [go_sem]
 have UC:w.heap.size < w4.heap.size:=by rw [<-hw4];simp
 have Wj:¬ gF d L w.heap.size:=fun hb=>by have:=(hB.made.own.blk hb).2;omega
 have hB4:=hB.since hS4;have hH4:=hH.since hS4;rw [hL8] at h8;have h84:=h8.since hS4;obtain ⟨bn,on,cn,hL1,_,hbn,hbk,hcn⟩:=hB4.made.own.lies (ix:=(1,0,0)) ⟨rfl,rfl⟩ (by show 0 < d.nodes.length;omega);obtain ⟨sa,sc,hsl,hRs,hbs⟩:=J6 h84;have s2:=hH.top;have s3:=hH.row;have s4:=hH.cell;rw [hL8] at s4;dsimp only [Sl.v,List.length_cons] at s4;obtain ⟨g0,g1,g2,g3,g4⟩:=hMs;have HL1:Hid (L (1,0,0)=⟨some ⟨bn,on,none⟩,cn⟩):=hL1;have HL8:Hid (L (8,f,t)=⟨some ⟨bl,ol,none⟩,lcc⟩):=hL8;have HSL:=(show Hid _ from hsl);clear hL1 hL8 e8 hE hsl hxl hcl
 go_enter func89,ntmps89
 go_wp2_with fail
 clear s2 s3 s4 g0 g1 g2 g3 g4 hw4;obtain ⟨W0,hW0⟩:∃ y,w4.drew=y:=⟨_,rfl⟩;have hs0:=aQ hW0;obtain ⟨S0,hS0⟩:∃ S0:World->Prop,∀ w',S0 w'↔Since w4 w':=⟨_,fun _=>Iff.rfl⟩;have c1:∀ y:ak S0,y.w.cell? ⟨p,2,none⟩=some (.slice (some ⟨bw2,ow2,none⟩) d.wires.length cw2):=fun y=>(hH4.since ((hS0 _).1 y.h)).top;have c2:∀ y:ak S0,y.w.cell? ⟨bw2,ow2+f,none⟩=some (.slice (some ⟨br2,oR2,none⟩) d.nodes.length cr2):=fun y=>(hH4.since ((hS0 _).1 y.h)).row;have c3:∀ y:ak S0,y.w.cell? ⟨br2,oR2+t,none⟩=some (.slice (some ⟨bl,ol,none⟩) (rest.length+1) lcc):=fun y=>by have:=(hH4.since ((hS0 _).1 y.h)).cell;rw [HL8.out] at this;exact this
 have au:=(hS0 W0).2 hs0;have hne:Nonempty (ak S0):=⟨⟨_,au⟩⟩;have dH:=aI w;have y3:=(hH4.since hs0).cell;have z3:=(hH4.since hs0).free;rw [HL8.out] at y3;dsimp only [Sl.v,List.length_cons] at y3;have hcut:=hB4.made.J7 R.rows hf ht hH4.lay hs0 (rest:=rest) (by omega) (s:=⟨sa,sc⟩) (hRs.since hs0) (by rw [HL8.out];exact hbs);obtain ⟨W5,hW5⟩:∃ y,W0.setCell ⟨br2,oR2+t,none⟩ (.slice sa rest.length sc)=y:=⟨_,rfl⟩;have I9:W0.setCell ⟨br2,oR2+t,none⟩ (Sl.v ⟨sa,sc⟩ rest.length)=W5:=hW5;rw [I9] at hcut;have VL:(rest.length:Int)+1<=(lcc:Int):=by have:=h84.cap;simp only [List.length_cons] at this;omega
 have HW5:=(show Hid _ from I9);clear I9;have hsl:=HSL.out;refine aK (fun w'=>∃ x:ak S0,w'=x.w) (by kernel_rfl) ?_;rw [hW0];clear hW0;refine tW 0 rfl ?_;go_big_quiet_op;refine tW 1 rfl ?_;go_big_quiet_op;refine tW 2 rfl ?_;go_big_quiet_op;refine tW 3 rfl ?_;go_big_quiet_op;refine tM 4 rfl (aj au) ?_;go_big_quiet_op;refine tW 5 rfl ?_;go_big_quiet_op;refine tW 6 rfl ?_;go_big_quiet_op;refine tM 7 rfl (aj au) ?_;go_big_quiet_op;refine tW 8 rfl ?_;go_big_quiet_op;refine tW 9 rfl ?_;go_big_quiet_op;refine tW 10 rfl ?_;go_big_quiet_op;refine tW 11 rfl ?_;go_big_quiet_op;refine tW 12 rfl ?_;go_big_quiet_op;refine tM 13 rfl (aj au) ?_;go_big_quiet_op;refine tW 14 rfl ?_;go_big_quiet_op;refine tW 15 rfl ?_;go_big_quiet_op;refine tM 16 rfl (aj au) ?_;go_big_quiet_op;refine tW 17 rfl ?_;go_big_quiet_op;refine tW 18 rfl ?_;go_big_quiet_op;refine tM 19 rfl (aj au) ?_;go_big_quiet_op;refine tM 20 rfl (aj au) ?_;refine nJ (v:=.slice sa rest.length sc) ?_ ?_
 ·rcases hsl with ⟨h1,h2,h3,h4⟩ | ⟨h1,h3,h4⟩
  ·subst h1 h3 h4;have hr:rest=[]:=zQ6 h2;subst hr;go_big_quiet_op;simp [Act.put]
  ·subst h3 h4;have h1':(1:Int) < (lcc:Int):=by omega
   go_big_quiet_op;simp [Act.put]
 simp only [Act.put,zQ7,zQ8,zQ9];refine tW 21 rfl ?_;go_big_quiet_op;refine aR 22 rfl (by kernel_rfl) ?_;intro K hK;go_simp;refine hK _ _ (fun h=>absurd h (by decide +kernel)) ?_;clear hK K;refine bH (by kernel_rfl) ?_;clear hsl;obtain ⟨hM5,vR⟩:=hcut;obtain ⟨hq5,Ja⟩:=vR.beside UC Wj;have NT:=aZ hM4 hq5;have AJ:=zQ4 UC vR.fr.size;have hB5:=hB4.step hM5 vR;have hU5:Fr (Up lo fun _=>False) w W5:=(hS4.up lo _).aF (vR.up hB4.made.own _);have AY:(L.upd (8,f,t) ⟨sa,sc⟩) (1,0,0)=⟨some ⟨bn,on,none⟩,cn⟩:=HL1.out;obtain ⟨L5,hL5⟩:∃ y,L.upd (8,f,t) ⟨sa,sc⟩=y:=⟨_,rfl⟩;obtain ⟨D1,hD1⟩:∃ y,aX d f t rest=y:=⟨_,rfl⟩;have Jb:D1.nodes[t]? = some nd:=by rw [<-hD1];exact hnd
 have hN1:D1.nodes.length=d.nodes.length:=by rw [<-hD1];rfl
 rw [hL5] at AY hM5 Ja hB5;rw [hD1] at hM5 Ja hB5;have HD1:=(show Hid _ from hD1);have HN1:=(show Hid _ from hN1);have b1:=hM5.box.c1;rw [AY,hN1] at b1;dsimp only at b1;obtain ⟨q0,q1,_,_,qz⟩:=hM5.own.cells Jb AY;have hb5:bn < W5.heap.size:=zQ4 hbn vR.fr.size;have UD:Hid (L5 (1,0,0)=⟨some ⟨bn,on,none⟩,cn⟩):=AY;clear hN1 hD1 hL5 c1 c2 c3 hne y3 z3 hW5 AY
 go_wp2_with fail
 obtain ⟨W6,hW0⟩:∃ y,W5.drew=y:=⟨_,rfl⟩;have hs6:=aQ hW0;obtain ⟨S7,hS7⟩:∃ S0:World->Prop,∀ w',S0 w'↔Since W5 w':=⟨_,fun _=>Iff.rfl⟩;have c1:∀ y:ak S7,y.w.cell? ⟨bn,on+t*4,none⟩=some (.int .i64 nd.clock):=fun y=>(((hS7 _).1 y.h).cellAt hb5 _).trans q0;have c2:∀ y:ak S7,y.w.cell? ⟨w.heap.size,2,none⟩=some (.int .i64 M.st):=fun y=>(((hS7 _).1 y.h).cellAt AJ _).trans NT.c2;have qX:=(hS7 W6).2 hs6;have hne:Nonempty (ak S7):=⟨⟨_,qX⟩⟩;have e6:=(hs6.cellAt hb5 _).trans q0;have z6:=(hs6.below.frozen (p:=⟨bn,on+t*4,none⟩) hb5).trans (by have:=qz 0 (by omega);simpa using this);obtain ⟨W7,hW7⟩:∃ y,W6.setCell ⟨bn,on+t*4,none⟩ (.int .i64 (max nd.clock M.st))=y:=⟨_,rfl⟩;obtain ⟨hM7,qY⟩:=hM5.tO Jb UD.out hs6 (max nd.clock M.st);rw [hW7] at hM7 qY;refine aK (fun w'=>∃ x:ak S7,w'=x.w) (by kernel_rfl) ?_;rw [hW0];clear hW0;refine tW 0 rfl ?_;go_big_quiet_op;refine tW 1 rfl ?_;go_big_quiet_op;refine tW 2 rfl ?_;go_big_quiet_op;refine tW 3 rfl ?_;go_big_quiet_op;refine tM 4 rfl (aj qX) ?_;go_big_quiet_op;refine tW 5 rfl ?_;go_big_quiet_op;refine tM 6 rfl (aj qX) ?_;go_big_quiet_op;refine tM 7 rfl (aj qX) ?_;refine nJ (v:=.int .i64 (max nd.clock M.st)) ?_ ?_
 ·go_big_quiet_op
  all_goals
   simp [Act.put]
   try omega
 simp only [Act.put,zQ7,zQ8,zQ9];refine tW 8 rfl ?_;go_big_quiet_op;refine tW 9 rfl ?_;go_big_quiet_op;refine aR 10 rfl (by kernel_rfl) ?_;intro K hK;go_simp;refine hK _ _ (fun h=>absurd h (by decide +kernel)) ?_;clear hK K;refine bH (by kernel_rfl) ?_;have hB7:=hB5.step hM7 qY;have hU7:=hU5.aF (qY.up hM5.own _)
 obtain ⟨X1,hX1⟩:∃ y,({ nd with clock:=max nd.clock M.st }:Nd)=y:=⟨_,rfl⟩
 have NU:tK nd M=X1:=hX1;rw [hX1] at hM7 qY hB7;have hla:X1.last=nd.last:=by rw [<-hX1]
 have Ef:(setNode D1 t X1).nodes[t]? = some X1:=by rw [cZ _ Jb,if_pos rfl]
 obtain ⟨D2,hD2⟩:∃ y,setNode D1 t X1=y:=⟨_,rfl⟩;rw [hD2] at hM7 qY Ef hB7;obtain ⟨hq7,RG⟩:=qY.beside AJ Ja;have Jc:=aZ NT hq7;have Jd:=zQ4 AJ qY.fr.size;have GH:X1.last[gg]? = some lM:=by rw [hla];exact tN
 have hpl':0 < lM.length:=by rw [HLR.out];omega
 obtain ⟨u0,u1,_,_,uz⟩:=hM7.own.cells Ef UD.out;obtain ⟨b3,o3,cc3,b4,o4,cc4,hL3,hL4,hb3,hb4,v1,v2,v3⟩:=hM7.own.C8 Ef GH hpl';rw [hL3,hla] at u1;dsimp only [Sl.v] at u1;have HX1:=(show Hid _ from NU);have HLA:=(show Hid _ from hla);have HD2:=(show Hid _ from hD2);have HL4:=(show Hid _ from hL4);have m1':=Jc.c1;rw [HGG.out] at m1';have VP:(gg:Int) < (nd.last.length:Int):=by have:=(zQ2.1 tN).1;omega
 have VQ:(f:Int) < (lM.length:Int):=by rw [HLR.out];omega
 have v4:=v2 f lv hlv;have v5:=v3 f (by omega);have hb7:bn < W7.heap.size:=zQ4 hb5 qY.fr.size;clear hX1 NU hla hD2 hW7 c1 c2 hne e6 z6 q0 q1 b1 hL3 hL4
 go_wp2_with fail
 obtain ⟨W8,hW0⟩:∃ y,W7.drew=y:=⟨_,rfl⟩;have hs8:=aQ hW0;obtain ⟨S8,hS8⟩:∃ S0:World->Prop,∀ w',S0 w'↔Since W7 w':=⟨_,fun _=>Iff.rfl⟩;have c1:∀ y:ak S8,y.w.cell? ⟨bn,on+t*4+1,none⟩=some (.slice (some ⟨b3,o3,none⟩) nd.last.length cc3):=fun y=>(((hS8 _).1 y.h).cellAt hb7 _).trans u1;have c2:∀ y:ak S8,y.w.cell? ⟨w.heap.size,1,none⟩=some (.int .i64 gg):=fun y=>(((hS8 _).1 y.h).cellAt Jd _).trans m1';have c3:∀ y:ak S8,y.w.cell? ⟨b3,o3+gg,none⟩=some (.slice (some ⟨b4,o4,none⟩) lM.length cc4):=fun y=>(((hS8 _).1 y.h).cellAt hb3 _).trans v1;have c4:∀ y:ak S8,y.w.cell? ⟨b4,o4+f,none⟩=some (.int .i64 lv):=fun y=>(((hS8 _).1 y.h).cellAt hb4 _).trans v4;have c5:∀ y:ak S8,y.w.cell? ⟨w.heap.size,2,none⟩=some (.int .i64 M.st):=fun y=>(((hS8 _).1 y.h).cellAt Jd _).trans Jc.c2;have fE:=(hS8 W8).2 hs8;have hne:Nonempty (ak S8):=⟨⟨_,fE⟩⟩;have e8:=(hs8.cellAt hb4 _).trans v4;have z8:=(hs8.below.frozen (p:=⟨b4,o4+f,none⟩) hb4).trans v5;obtain ⟨W9,hW9⟩:∃ y,W8.setCell ⟨b4,o4+f,none⟩ (.int .i64 (max lv M.st))=y:=⟨_,rfl⟩;obtain ⟨hM9,BX⟩:=hM7.NV (k:=f) Ef GH (by omega) HL4.out hs8 (max lv M.st);rw [hW9] at hM9 BX;refine aK (fun w'=>∃ x:ak S8,w'=x.w) (by kernel_rfl) ?_;rw [hW0];clear hW0;refine tW 0 rfl ?_;go_big_quiet_op;refine tW 1 rfl ?_;go_big_quiet_op;refine tW 2 rfl ?_;go_big_quiet_op;refine tM 3 rfl (aj fE) ?_;go_big_quiet_op;refine tW 4 rfl ?_;go_big_quiet_op;refine tM 5 rfl (aj fE) ?_;go_big_quiet_op;refine tW 6 rfl ?_;go_big_quiet_op;refine tM 7 rfl (aj fE) ?_;go_big_quiet_op;refine tW 8 rfl ?_;go_big_quiet_op;refine tW 9 rfl ?_;go_big_quiet_op;refine tW 10 rfl ?_;go_big_quiet_op;refine tW 11 rfl ?_;go_big_quiet_op;refine tM 12 rfl (aj fE) ?_;go_big_quiet_op;refine tW 13 rfl ?_;go_big_quiet_op;refine tM 14 rfl (aj fE) ?_;go_big_quiet_op;refine tW 15 rfl ?_;go_big_quiet_op;refine tM 16 rfl (aj fE) ?_;go_big_quiet_op;refine tW 17 rfl ?_;go_big_quiet_op;refine tW 18 rfl ?_;go_big_quiet_op;refine tM 19 rfl (aj fE) ?_;go_big_quiet_op;refine tW 20 rfl ?_;go_big_quiet_op;refine tM 21 rfl (aj fE) ?_;go_big_quiet_op;refine tM 22 rfl (aj fE) ?_;refine nJ (v:=.int .i64 (max lv M.st)) ?_ ?_
 ·go_big_quiet_op
  all_goals
   simp [Act.put]
   try omega
 simp only [Act.put,zQ7,zQ8,zQ9];refine tW 23 rfl ?_;go_big_quiet_op;refine aR 24 rfl (by kernel_rfl) ?_;intro K hK;go_simp;refine hK _ _ (fun h=>absurd h (by decide +kernel)) ?_;clear hK K;refine bH (by kernel_rfl) ?_;have hB9:=hB7.step hM9 BX;have hU9:=hU7.aF (BX.up hM7.own _);obtain ⟨dk,hdk⟩:∃ y,mV d f t M rest=y:=⟨_,rfl⟩
 have hDc:setNode D2 t { X1 with last:=X1.last.set gg (lM.set f (max lv M.st)) }=dk:=by
  rw [<-hdk,HCO.out,HX.out,HX1.out,<-HD2.out,<-HD1.out];unfold setNode;simp [List.set_set]
 rw [hDc] at hB9 BX hM9
 have hxk:dk.nodes[t]? = some X2:=by
  rw [<-hdk,HCO.out];have h1:(aX d f t rest).nodes[t]? = some nd:=hnd;rw [cZ _ h1,if_pos rfl]
 obtain ⟨hq9,VR⟩:=BX.beside Jd RG;have Je:=aZ Jc hq9;obtain ⟨m0,m1,m2,m3,m4⟩:=Je;have HMC:Hid (fP d f t=dZ dk t M):=by unfold Hid;rw [HMV.out,hdk]
 have UE:lo<=W9.heap.size:=zQ5 hlo hU9.size;clear hDc hdk c1 c2 c3 c4 c5 hne dH e8 z8 hW9 u0 u1 v1 v4 v5 m1';simp only [Nat.zero_add] at m0 m1 m2 m3 m4;cases hmn:M.nul
 ·have HN:Hid (M.nul=false):=hmn;by_cases h0:dP M X2.held=0
  ·have H0:Hid (dP M X2.held=0):=h0
   have mW:=mH lo p t M dk L5 W9 X2 c hB9 hxk hmn UE _ _ rfl rfl (fun e w'=>e=.returned (.tuple #[])/\Post e w')
    (fun hne w' hS=>absurd H0.out hne)
    (fun h0 w' L' hB' hF=>⟨rfl,HOK.out _ L' w' (by rw [HMC.out];unfold dZ uT;rw [HN.out,hxk];simp only [h0,if_true,Bool.false_eq_true,if_false]) hB' (hU9.aF hF)⟩)
   clear hmn h0
   go_wp2_with (go_at_call 144;refine mW.mono ?_;rintro e w6 hP;obtain ⟨rfl,hP'⟩:=hP.out)
   go_end0
   exact hP'
  ·have H0:Hid (¬ dP M X2.held=0):=h0
   have mW:=mH lo p t M dk L5 W9 X2 c hB9 hxk hmn UE _ _ rfl rfl (fun e w'=>e=.panicked (pan (dP M X2.held))/\Post e w')
    (fun hne w' hS=>⟨rfl,jo.out _ (by rw [HMC.out];unfold dZ uT;rw [HN.out,hxk];simp only [hne,Bool.false_eq_true,if_false]) w' (hU9.aF (hS.up lo _))⟩)
    (fun h0 w' L' hB' hF=>absurd h0 H0.out)
   clear hmn h0
   go_wp2_with (go_at_call 144;refine mW.mono ?_;rintro e w6 hP;obtain ⟨rfl,hP'⟩:=hP.out)
   exact ⟨rfl,hP'⟩
 ·have HN:Hid (M.nul=true):=hmn;have mW:=rz lo p t M dk L5 W9 X2 c hB9 hxk hmn;clear hmn
  go_wp2_with (go_at_call 144;refine mW.mono ?_;rintro e w6 ⟨rfl,hS⟩)
  go_end0
  exact HOK.out _ L5 _ (by rw [HMC.out];unfold dZ;rw [HN.out];rfl) (hB9.since hS) (hU9.aF (hS.up lo _))
theorem Br (p:Nat) (f t:Int) (a:Option Addr) (n c:Nat) (w:World) (hc:w.cell? ⟨p,1,none⟩=some (.slice a n c)) (hf:f < (n:Int)) (ht:t < (n:Int)) (hf0:0<=f:=by omega) (ht0:0<=t:=by omega) :
  Calls prog 87 #[.pointer (some ⟨p,0,none⟩),.int .i64 f,.int .i64 t] w fun e w'=>e=.returned (.tuple #[])/\w'=w:=by
 have h1:=iw p f a n c w hc;have h2:=iw p t a n c w hc;rw [decide_eq_true hf0,decide_eq_true hf] at h1;rw [decide_eq_true ht0,decide_eq_true ht] at h2
 go_enter func87,ntmps87
 go_wp2_with fail
 refine h1.mono ?_;rintro e w' ⟨rfl,hw'⟩;obtain rfl:=hw'.symm
 go_wp2_with fail
 refine h2.mono ?_;rintro e w' ⟨rfl,hw'⟩;obtain rfl:=hw'.symm
 go_wp2_with fail
 refine (dh 4 _).mono ?_;rintro e w' ⟨rfl,hw'⟩;obtain rfl:=hw'.symm
 go_wp2
 go_end0
 exact ⟨rfl,rfl⟩
theorem Og (p:Nat) (f t:Int) (a:Option Addr) (n c:Nat) (w:World) (hc:w.cell? ⟨p,1,none⟩=some (.slice a n c)) (hn:((decide (0<=f) && decide (f < (n:Int))) && (decide (0<=t) && decide (t < (n:Int))))=false) :
  Calls prog 87 #[.pointer (some ⟨p,0,none⟩),.int .i64 f,.int .i64 t] w fun e w'=>e=.panicked (pan 4)/\w'=w:=by
 have h1:=iw p f a n c w hc;have h2:=iw p t a n c w hc
 cases hA:(decide (0<=f) && decide (f < (n:Int))) with
 | false =>
  rw [hA] at h1;clear hA hn h2
  go_enter func87,ntmps87
  go_wp2_with fail
  refine h1.mono ?_;rintro e w' ⟨rfl,hw'⟩;obtain rfl:=hw'.symm
  go_wp2_with fail
  refine (gI 4 _).mono ?_;rintro e w' ⟨rfl,hw'⟩;obtain rfl:=hw'.symm;exact ⟨rfl,rfl,rfl⟩
 | true =>
  rw [hA] at h1 hn;rw [Bool.true_and] at hn;rw [hn] at h2;clear hA hn
  go_enter func87,ntmps87
  go_wp2_with fail
  refine h1.mono ?_;rintro e w' ⟨rfl,hw'⟩;obtain rfl:=hw'.symm
  go_wp2_with fail
  refine h2.mono ?_;rintro e w' ⟨rfl,hw'⟩;obtain rfl:=hw'.symm
  go_wp2_with fail
  refine (gI 4 _).mono ?_;rintro e w' ⟨rfl,hw'⟩;obtain rfl:=hw'.symm;exact ⟨rfl,rfl,rfl⟩
theorem Pq (lo p qf qt:Nat) (f t:Int) (d:Wd) (L:Lay) (w:World) (hB:cB lo w p d L 0) (hcf:w.cell? ⟨qf,0,none⟩=some (.int .i64 f)) (hct:w.cell? ⟨qt,0,none⟩=some (.int .i64 t)) (hn:((decide (0<=f) && decide (f < (d.nodes.length:Int))) && (decide (0<=t) && decide (t < (d.nodes.length:Int))))=false) :
  Calls prog 86 #[.pointer (some ⟨p,0,none⟩),.pointer (some ⟨qf,0,none⟩),.pointer (some ⟨qt,0,none⟩)] w fun e w'=>e=.panicked (pan 4)/\Fr (Up lo fun _=>False) w w':=by
 have b1:=hB.made.box.c1;have hb:=Og p f t _ _ _ w b1 hn;clear hn
 go_enter func86,ntmps86
 go_wp2_with (go_at_call 87;refine hb.mono ?_;rintro e w' ⟨rfl,hw'⟩;obtain rfl:=hw'.symm)
 exact ⟨rfl,rfl,Fr.refl _ _⟩
theorem Js (lo p qf qt f t:Nat) (d:Wd) (L:Lay) (w:World) (hB:cB lo w p d L 0) (R:Right d) (hqf:qf < lo) (hqt:qt < lo) (hcf:w.cell? ⟨qf,0,none⟩=some (.int .i64 f)) (hct:w.cell? ⟨qt,0,none⟩=some (.int .i64 t)) (hlo:lo<=w.heap.size) (hf:f < d.nodes.length) (ht:t < d.nodes.length) (hE:aA d f t=[]) :
  Calls prog 86 #[.pointer (some ⟨p,0,none⟩),.pointer (some ⟨qf,0,none⟩),.pointer (some ⟨qt,0,none⟩)] w fun e w'=>e=.panicked (pan 7)/\Fr (Up lo fun _=>False) w w':=by
 have hpl:=hB.made.box.lt;have yF:=hB.lop;have zl:qf < w.heap.size:=by omega
 have uI:qt < w.heap.size:=by omega
 have hwn:(f:Int) < (d.wires.length:Int):=by have:=R.uF;omega
 have htn:(t:Int) < (d.nodes.length:Int):=by omega
 have hfn:(f:Int) < (d.nodes.length:Int):=by omega
 obtain ⟨bw2,ow2,cw2,br2,oR2,cr2,hH⟩:=hB.made.pW R.rows hf ht;obtain ⟨la,lcc,hL8⟩:∃ la lcc,L (8,f,t)=⟨la,lcc⟩:=⟨_,_,rfl⟩;have b1:=hB.made.box.c1;have HE:=(show Hid _ from hE);rw [hE] at hH
 go_enter func86,ntmps86
 go_wp2_with (go_at_call 87;refine (Br p f t _ _ _ w b1 hfn htn).mono ?_;rintro e w' ⟨rfl,hw'⟩;obtain rfl:=hw'.symm)
 obtain ⟨W0,hW0⟩:∃ y,w.drew=y:=⟨_,rfl⟩;have hs0:=aQ hW0;obtain ⟨S0,hS0⟩:∃ S0:World->Prop,∀ w',S0 w'↔Since w w':=⟨_,fun _=>Iff.rfl⟩;have c1:∀ y:ak S0,y.w.cell? ⟨p,2,none⟩=some (.slice (some ⟨bw2,ow2,none⟩) d.wires.length cw2):=fun y=>(hH.since ((hS0 _).1 y.h)).top;have c2:∀ y:ak S0,y.w.cell? ⟨bw2,ow2+f,none⟩=some (.slice (some ⟨br2,oR2,none⟩) d.nodes.length cr2):=fun y=>(hH.since ((hS0 _).1 y.h)).row;have c3:∀ y:ak S0,y.w.cell? ⟨br2,oR2+t,none⟩=some (.slice la 0 lcc):=fun y=>by have:=(hH.since ((hS0 _).1 y.h)).cell;rw [hL8] at this;exact this
 have c4:∀ y:ak S0,y.w.cell? ⟨qf,0,none⟩=some (.int .i64 f):=fun y=>(((hS0 _).1 y.h).cellAt zl _).trans hcf;have c5:∀ y:ak S0,y.w.cell? ⟨qt,0,none⟩=some (.int .i64 t):=fun y=>(((hS0 _).1 y.h).cellAt uI _).trans hct;have au:=(hS0 W0).2 hs0;have hne:Nonempty (ak S0):=⟨⟨_,au⟩⟩;have dH:=aI w;clear hL8 hE b1;refine aK (fun w'=>∃ x:ak S0,w'=x.w) (by kernel_rfl) ?_;rw [hW0];clear hW0;refine tW 0 rfl ?_;go_big_quiet_op;refine tW 1 rfl ?_;go_big_quiet_op;refine tW 2 rfl ?_;go_big_quiet_op;refine tW 3 rfl ?_;go_big_quiet_op;refine tM 4 rfl (aj au) ?_;go_big_quiet_op;refine tM 5 rfl (aj au) ?_;go_big_quiet_op;refine tW 6 rfl ?_;go_big_quiet_op;refine tM 7 rfl (aj au) ?_;go_big_quiet_op;refine tM 8 rfl (aj au) ?_;go_big_quiet_op;refine tW 9 rfl ?_;go_big_quiet_op;refine tM 10 rfl (aj au) ?_;go_big_quiet_op;refine tM 11 rfl (aj au) ?_;go_big_quiet_op;refine tW 12 rfl ?_;go_big_quiet_op;refine aR 13 rfl (by kernel_rfl) ?_;intro K hK;go_simp;refine (gI 7 _).mono ?_;rintro e w' ⟨rfl,hw'⟩;obtain rfl:=hw'.symm;dsimp only;exact ⟨rfl,rfl,hs0.up lo _⟩
theorem LK (lo p qf qt f t:Nat) (d:Wd) (L:Lay) (w:World) (hB:cB lo w p d L 0) (R:Right d) (hqf:qf < lo) (hqt:qt < lo) (hcf:w.cell? ⟨qf,0,none⟩=some (.int .i64 f)) (hct:w.cell? ⟨qt,0,none⟩=some (.int .i64 t)) (hlo:lo<=w.heap.size) (hf:f < d.nodes.length) (ht:t < d.nodes.length) (M:Mg) (rest:List Mg) (hE:aA d f t=M::rest) (er:Int) (HPM:Hid (fP d f t=.error er)) :
  Calls prog 86 #[.pointer (some ⟨p,0,none⟩),.pointer (some ⟨qf,0,none⟩),.pointer (some ⟨qt,0,none⟩)] w fun e w'=>e=.panicked (pan er)/\Fr (Up lo fun _=>False) w w':=by
 have hpl:=hB.made.box.lt;have yF:=hB.lop;have zl:qf < w.heap.size:=by omega
 have uI:qt < w.heap.size:=by omega
 have hwn:(f:Int) < (d.wires.length:Int):=by have:=R.uF;omega
 have htn:(t:Int) < (d.nodes.length:Int):=by omega
 have hfn:(f:Int) < (d.nodes.length:Int):=by omega
 obtain ⟨bw2,ow2,cw2,br2,oR2,cr2,hH⟩:=hB.made.pW R.rows hf ht;obtain ⟨la,lcc,hL8⟩:∃ la lcc,L (8,f,t)=⟨la,lcc⟩:=⟨_,_,rfl⟩;have b1:=hB.made.box.c1;have HE:=(show Hid _ from hE);rw [hE] at hH
 go_enter func86,ntmps86
 go_wp2_with (go_at_call 87;refine (Br p f t _ _ _ w b1 hfn htn).mono ?_;rintro e w' ⟨rfl,hw'⟩;obtain rfl:=hw'.symm)
 obtain ⟨W0,hW0⟩:∃ y,w.drew=y:=⟨_,rfl⟩;have hs0:=aQ hW0;obtain ⟨S0,hS0⟩:∃ S0:World->Prop,∀ w',S0 w'↔Since w w':=⟨_,fun _=>Iff.rfl⟩;have c1:∀ y:ak S0,y.w.cell? ⟨p,2,none⟩=some (.slice (some ⟨bw2,ow2,none⟩) d.wires.length cw2):=fun y=>(hH.since ((hS0 _).1 y.h)).top;have c2:∀ y:ak S0,y.w.cell? ⟨bw2,ow2+f,none⟩=some (.slice (some ⟨br2,oR2,none⟩) d.nodes.length cr2):=fun y=>(hH.since ((hS0 _).1 y.h)).row;have c3:∀ y:ak S0,y.w.cell? ⟨br2,oR2+t,none⟩=some (.slice la (rest.length+1) lcc):=fun y=>by have:=(hH.since ((hS0 _).1 y.h)).cell;rw [hL8] at this;exact this
 have c4:∀ y:ak S0,y.w.cell? ⟨qf,0,none⟩=some (.int .i64 f):=fun y=>(((hS0 _).1 y.h).cellAt zl _).trans hcf;have c5:∀ y:ak S0,y.w.cell? ⟨qt,0,none⟩=some (.int .i64 t):=fun y=>(((hS0 _).1 y.h).cellAt uI _).trans hct;have au:=(hS0 W0).2 hs0;have hne:Nonempty (ak S0):=⟨⟨_,au⟩⟩;have dH:=aI w;clear hL8 hE b1;refine aK (fun w'=>∃ x:ak S0,w'=x.w) (by kernel_rfl) ?_;rw [hW0];clear hW0;refine tW 0 rfl ?_;go_big_quiet_op;refine tW 1 rfl ?_;go_big_quiet_op;refine tW 2 rfl ?_;go_big_quiet_op;refine tW 3 rfl ?_;go_big_quiet_op;refine tM 4 rfl (aj au) ?_;go_big_quiet_op;refine tM 5 rfl (aj au) ?_;go_big_quiet_op;refine tW 6 rfl ?_;go_big_quiet_op;refine tM 7 rfl (aj au) ?_;go_big_quiet_op;refine tM 8 rfl (aj au) ?_;go_big_quiet_op;refine tW 9 rfl ?_;go_big_quiet_op;refine tM 10 rfl (aj au) ?_;go_big_quiet_op;refine tM 11 rfl (aj au) ?_;go_big_quiet_op;refine tW 12 rfl ?_;go_big_quiet_op;refine aR 13 rfl (by kernel_rfl) ?_;intro K hK;go_simp;refine (dh 7 _).mono ?_;rintro e w' ⟨rfl,hw'⟩;obtain rfl:=hw'.symm;dsimp only;refine hK _ _ (fun h=>absurd h (by decide +kernel)) ?_;clear hK K;refine bH (by kernel_rfl) ?_;clear c1 c2 c3 c4 c5 hne dH;have Pt:=(hs0.cellAt zl _).trans hcf;have LM:=(hs0.cellAt uI _).trans hct;have hlo0:lo<=W0.heap.size:=zQ5 hlo hs0.size;have hB0:=hB.since hs0;clear hcf hct;have hCo:=Bq lo p f t d L W0 0 hB0 R hf ht M rest HE.out hlo0 (fun e w'=>e=.panicked (pan er)/\Fr (Up lo fun _=>False) W0 w') (fun er' h w' hF=>by rw [HPM.out] at h;cases h;exact ⟨rfl,hF⟩) (fun d' L' w' h=>by rw [HPM.out] at h;cases h)
 go_wp2_with (go_at_call 89;refine hCo.mono ?_;rintro e w2 hR;obtain ⟨rfl,hF2⟩:=hR.out)
 exact ⟨rfl,rfl,(hs0.up lo _).aF hF2⟩
theorem LP (lo p qf qt f t:Nat) (d:Wd) (L:Lay) (w:World) (hB:cB lo w p d L 0) (R:Right d) (hqf:qf < lo) (hqt:qt < lo) (hcf:w.cell? ⟨qf,0,none⟩=some (.int .i64 f)) (hct:w.cell? ⟨qt,0,none⟩=some (.int .i64 t)) (hlo:lo<=w.heap.size) (hf:f < d.nodes.length) (ht:t < d.nodes.length) (M:Mg) (rest:List Mg) (hE:aA d f t=M::rest) (d3:Wd) (HPM:Hid (fP d f t=.ok d3)) (er:Int) (her:(er == 0)=false) (HTL:Hid (checked d3 (iI d3 (t:Int))=.error er)) :
  Calls prog 86 #[.pointer (some ⟨p,0,none⟩),.pointer (some ⟨qf,0,none⟩),.pointer (some ⟨qt,0,none⟩)] w fun e w'=>e=.panicked (pan er)/\Fr (Up lo fun _=>False) w w':=by
 have hpl:=hB.made.box.lt;have yF:=hB.lop;have zl:qf < w.heap.size:=by omega
 have uI:qt < w.heap.size:=by omega
 have hwn:(f:Int) < (d.wires.length:Int):=by have:=R.uF;omega
 have htn:(t:Int) < (d.nodes.length:Int):=by omega
 have hfn:(f:Int) < (d.nodes.length:Int):=by omega
 obtain ⟨bw2,ow2,cw2,br2,oR2,cr2,hH⟩:=hB.made.pW R.rows hf ht;obtain ⟨la,lcc,hL8⟩:∃ la lcc,L (8,f,t)=⟨la,lcc⟩:=⟨_,_,rfl⟩;have b1:=hB.made.box.c1;have HE:=(show Hid _ from hE);rw [hE] at hH
 go_enter func86,ntmps86
 go_wp2_with (go_at_call 87;refine (Br p f t _ _ _ w b1 hfn htn).mono ?_;rintro e w' ⟨rfl,hw'⟩;obtain rfl:=hw'.symm)
 obtain ⟨W0,hW0⟩:∃ y,w.drew=y:=⟨_,rfl⟩;have hs0:=aQ hW0;obtain ⟨S0,hS0⟩:∃ S0:World->Prop,∀ w',S0 w'↔Since w w':=⟨_,fun _=>Iff.rfl⟩;have c1:∀ y:ak S0,y.w.cell? ⟨p,2,none⟩=some (.slice (some ⟨bw2,ow2,none⟩) d.wires.length cw2):=fun y=>(hH.since ((hS0 _).1 y.h)).top;have c2:∀ y:ak S0,y.w.cell? ⟨bw2,ow2+f,none⟩=some (.slice (some ⟨br2,oR2,none⟩) d.nodes.length cr2):=fun y=>(hH.since ((hS0 _).1 y.h)).row;have c3:∀ y:ak S0,y.w.cell? ⟨br2,oR2+t,none⟩=some (.slice la (rest.length+1) lcc):=fun y=>by have:=(hH.since ((hS0 _).1 y.h)).cell;rw [hL8] at this;exact this
 have c4:∀ y:ak S0,y.w.cell? ⟨qf,0,none⟩=some (.int .i64 f):=fun y=>(((hS0 _).1 y.h).cellAt zl _).trans hcf;have c5:∀ y:ak S0,y.w.cell? ⟨qt,0,none⟩=some (.int .i64 t):=fun y=>(((hS0 _).1 y.h).cellAt uI _).trans hct;have au:=(hS0 W0).2 hs0;have hne:Nonempty (ak S0):=⟨⟨_,au⟩⟩;have dH:=aI w;clear hL8 hE b1;refine aK (fun w'=>∃ x:ak S0,w'=x.w) (by kernel_rfl) ?_;rw [hW0];clear hW0;refine tW 0 rfl ?_;go_big_quiet_op;refine tW 1 rfl ?_;go_big_quiet_op;refine tW 2 rfl ?_;go_big_quiet_op;refine tW 3 rfl ?_;go_big_quiet_op;refine tM 4 rfl (aj au) ?_;go_big_quiet_op;refine tM 5 rfl (aj au) ?_;go_big_quiet_op;refine tW 6 rfl ?_;go_big_quiet_op;refine tM 7 rfl (aj au) ?_;go_big_quiet_op;refine tM 8 rfl (aj au) ?_;go_big_quiet_op;refine tW 9 rfl ?_;go_big_quiet_op;refine tM 10 rfl (aj au) ?_;go_big_quiet_op;refine tM 11 rfl (aj au) ?_;go_big_quiet_op;refine tW 12 rfl ?_;go_big_quiet_op;refine aR 13 rfl (by kernel_rfl) ?_;intro K hK;go_simp;refine (dh 7 _).mono ?_;rintro e w' ⟨rfl,hw'⟩;obtain rfl:=hw'.symm;dsimp only;refine hK _ _ (fun h=>absurd h (by decide +kernel)) ?_;clear hK K;refine bH (by kernel_rfl) ?_;clear c1 c2 c3 c4 c5 hne dH;have Pt:=(hs0.cellAt zl _).trans hcf;have LM:=(hs0.cellAt uI _).trans hct;have hlo0:lo<=W0.heap.size:=zQ5 hlo hs0.size;have hB0:=hB.since hs0;clear hcf hct;have hCo:=Bq lo p f t d L W0 0 hB0 R hf ht M rest HE.out hlo0 (fun e w'=>e=.returned (.tuple #[])/\∃ L',cB lo w' p d3 L' 0/\Fr (Up lo fun _=>False) W0 w') (fun er' h w' hF=>by rw [HPM.out] at h;cases h) (fun d' L' w' h hB' hF=>by rw [HPM.out] at h;cases h;exact ⟨rfl,L',hB',hF⟩)
 go_wp2_with (go_at_call 89;refine hCo.mono ?_;rintro e w5 hR;obtain ⟨rfl,L5,hB5,Oh⟩:=hR.out)
 have hF5:=(hs0.up lo (fun _=>False)).aF Oh;have Pg:=(Oh.cell (p:=⟨qt,0,none⟩) (zQ4 uI hs0.size) (by rintro (h | h);exact h hqt;exact h)).trans LM;have R4:qt < w5.heap.size:=zQ4 uI hF5.size;clear hR hCo Pt LM;have nY:=hB5.made.box.lt;have b0:=hB5.made.box.c0;have b1:=hB5.made.box.c1;have b2:=hB5.made.box.c2;obtain ⟨U0,hW0⟩:∃ y,w5.drew=y:=⟨_,rfl⟩;have hs5:=aQ hW0;obtain ⟨S5,hS5⟩:∃ S0:World->Prop,∀ w',S0 w'↔Since w5 w':=⟨_,fun _=>Iff.rfl⟩;have x0:∀ y:ak S5,y.w.cell? ⟨p,0,none⟩=some (.slice (L5 (0,0,0)).a d3.groups.length (L5 (0,0,0)).cap):=fun y=>(((hS5 _).1 y.h).cellAt nY _).trans b0;have x1:∀ y:ak S5,y.w.cell? ⟨p,1,none⟩=some (.slice (L5 (1,0,0)).a d3.nodes.length (L5 (1,0,0)).cap):=fun y=>(((hS5 _).1 y.h).cellAt nY _).trans b1;have x2:∀ y:ak S5,y.w.cell? ⟨p,2,none⟩=some (.slice (L5 (2,0,0)).a d3.wires.length (L5 (2,0,0)).cap):=fun y=>(((hS5 _).1 y.h).cellAt nY _).trans b2;have x3:∀ y:ak S5,y.w.cell? ⟨qt,0,none⟩=some (.int .i64 t):=fun y=>(((hS5 _).1 y.h).cellAt R4 _).trans Pg;have j6:=(hS5 U0).2 hs5;have hne:Nonempty (ak S5):=⟨⟨_,j6⟩⟩;have dH:=aI w;have hTN:=jS (fV L5 d3) d3 t U0 (hB5.made.own.since hs5).wat;unfold fV at hTN;rw [HTL.out] at hTN;dsimp only at hTN;refine aK (fun w'=>∃ x:ak S5,w'=x.w) (by kernel_rfl) ?_;rw [hW0];clear hW0;refine tW 0 rfl ?_;go_big_quiet_op;refine tW 1 rfl ?_;go_big_quiet_op;refine tW 2 rfl ?_;go_big_quiet_op;refine tW 3 rfl ?_;go_big_quiet_op;refine tM 4 rfl (aj j6) ?_;go_big_quiet_op;refine tM 5 rfl (aj j6) ?_;go_big_quiet_op;refine aR 6 rfl (by kernel_rfl) ?_;intro K hK;go_simp;refine hTN.mono ?_;rintro e wT hR;obtain ⟨rfl,hFT⟩:=hR.out.1 er rfl;have hST:=hFT.none;dsimp only;refine hK _ _ (fun h=>absurd h (by decide +kernel)) ?_;clear hK K;refine tW 7 rfl ?_;go_big_quiet_op;refine tW 8 rfl ?_;go_big_quiet_op;refine tW 9 rfl ?_;go_big_quiet_op;refine aR 10 rfl (by kernel_rfl) ?_;intro K hK;go_simp;refine (lX p ⟨none,0,0,none,0,0,none,0,0⟩ 0 er her wT).mono ?_;rintro e w' ⟨rfl,hS9⟩;dsimp only;exact ⟨rfl,rfl,hF5.aF (((hs5.trans hST).trans hS9).up _ _)⟩
theorem Oi (lo p qf qt f t:Nat) (d:Wd) (L:Lay) (w:World) (hB:cB lo w p d L 0) (R:Right d) (hqf:qf < lo) (hqt:qt < lo) (hcf:w.cell? ⟨qf,0,none⟩=some (.int .i64 f)) (hct:w.cell? ⟨qt,0,none⟩=some (.int .i64 t)) (hlo:lo<=w.heap.size) (hf:f < d.nodes.length) (ht:t < d.nodes.length) (M:Mg) (rest:List Mg) (hE:aA d f t=M::rest) (d3:Wd) (HPM:Hid (fP d f t=.ok d3)) (d4:Wd) (mm:Int) (hmm:0<=mm/\mm<=100000) (HTL:Hid (checked d3 (iI d3 (t:Int))=.ok (d4,mm))) :
  Calls prog 86 #[.pointer (some ⟨p,0,none⟩),.pointer (some ⟨qf,0,none⟩),.pointer (some ⟨qt,0,none⟩)] w fun e w'=>e=.returned (.tuple #[])/\∃ L',cB lo w' p d4 L' mm/\Fr (Up lo fun _=>False) w w':=by
 have hpl:=hB.made.box.lt;have yF:=hB.lop;have zl:qf < w.heap.size:=by omega
 have uI:qt < w.heap.size:=by omega
 have hwn:(f:Int) < (d.wires.length:Int):=by have:=R.uF;omega
 have htn:(t:Int) < (d.nodes.length:Int):=by omega
 have hfn:(f:Int) < (d.nodes.length:Int):=by omega
 obtain ⟨bw2,ow2,cw2,br2,oR2,cr2,hH⟩:=hB.made.pW R.rows hf ht;obtain ⟨la,lcc,hL8⟩:∃ la lcc,L (8,f,t)=⟨la,lcc⟩:=⟨_,_,rfl⟩;have b1:=hB.made.box.c1;have HE:=(show Hid _ from hE);rw [hE] at hH
 go_enter func86,ntmps86
 go_wp2_with (go_at_call 87;refine (Br p f t _ _ _ w b1 hfn htn).mono ?_;rintro e w' ⟨rfl,hw'⟩;obtain rfl:=hw'.symm)
 obtain ⟨W0,hW0⟩:∃ y,w.drew=y:=⟨_,rfl⟩;have hs0:=aQ hW0;obtain ⟨S0,hS0⟩:∃ S0:World->Prop,∀ w',S0 w'↔Since w w':=⟨_,fun _=>Iff.rfl⟩;have c1:∀ y:ak S0,y.w.cell? ⟨p,2,none⟩=some (.slice (some ⟨bw2,ow2,none⟩) d.wires.length cw2):=fun y=>(hH.since ((hS0 _).1 y.h)).top;have c2:∀ y:ak S0,y.w.cell? ⟨bw2,ow2+f,none⟩=some (.slice (some ⟨br2,oR2,none⟩) d.nodes.length cr2):=fun y=>(hH.since ((hS0 _).1 y.h)).row;have c3:∀ y:ak S0,y.w.cell? ⟨br2,oR2+t,none⟩=some (.slice la (rest.length+1) lcc):=fun y=>by have:=(hH.since ((hS0 _).1 y.h)).cell;rw [hL8] at this;exact this
 have c4:∀ y:ak S0,y.w.cell? ⟨qf,0,none⟩=some (.int .i64 f):=fun y=>(((hS0 _).1 y.h).cellAt zl _).trans hcf;have c5:∀ y:ak S0,y.w.cell? ⟨qt,0,none⟩=some (.int .i64 t):=fun y=>(((hS0 _).1 y.h).cellAt uI _).trans hct;have au:=(hS0 W0).2 hs0;have hne:Nonempty (ak S0):=⟨⟨_,au⟩⟩;have dH:=aI w;clear hL8 hE b1;refine aK (fun w'=>∃ x:ak S0,w'=x.w) (by kernel_rfl) ?_;rw [hW0];clear hW0;refine tW 0 rfl ?_;go_big_quiet_op;refine tW 1 rfl ?_;go_big_quiet_op;refine tW 2 rfl ?_;go_big_quiet_op;refine tW 3 rfl ?_;go_big_quiet_op;refine tM 4 rfl (aj au) ?_;go_big_quiet_op;refine tM 5 rfl (aj au) ?_;go_big_quiet_op;refine tW 6 rfl ?_;go_big_quiet_op;refine tM 7 rfl (aj au) ?_;go_big_quiet_op;refine tM 8 rfl (aj au) ?_;go_big_quiet_op;refine tW 9 rfl ?_;go_big_quiet_op;refine tM 10 rfl (aj au) ?_;go_big_quiet_op;refine tM 11 rfl (aj au) ?_;go_big_quiet_op;refine tW 12 rfl ?_;go_big_quiet_op;refine aR 13 rfl (by kernel_rfl) ?_;intro K hK;go_simp;refine (dh 7 _).mono ?_;rintro e w' ⟨rfl,hw'⟩;obtain rfl:=hw'.symm;dsimp only;refine hK _ _ (fun h=>absurd h (by decide +kernel)) ?_;clear hK K;refine bH (by kernel_rfl) ?_;clear c1 c2 c3 c4 c5 hne dH;have Pt:=(hs0.cellAt zl _).trans hcf;have LM:=(hs0.cellAt uI _).trans hct;have hlo0:lo<=W0.heap.size:=zQ5 hlo hs0.size;have hB0:=hB.since hs0;clear hcf hct;have hCo:=Bq lo p f t d L W0 0 hB0 R hf ht M rest HE.out hlo0 (fun e w'=>e=.returned (.tuple #[])/\∃ L',cB lo w' p d3 L' 0/\Fr (Up lo fun _=>False) W0 w') (fun er' h w' hF=>by rw [HPM.out] at h;cases h) (fun d' L' w' h hB' hF=>by rw [HPM.out] at h;cases h;exact ⟨rfl,L',hB',hF⟩)
 go_wp2_with (go_at_call 89;refine hCo.mono ?_;rintro e w5 hR;obtain ⟨rfl,L5,hB5,Oh⟩:=hR.out)
 have hF5:=(hs0.up lo (fun _=>False)).aF Oh;have Pg:=(Oh.cell (p:=⟨qt,0,none⟩) (zQ4 uI hs0.size) (by rintro (h | h);exact h hqt;exact h)).trans LM;have R4:qt < w5.heap.size:=zQ4 uI hF5.size;clear hR hCo Pt LM;have nY:=hB5.made.box.lt;have b0:=hB5.made.box.c0;have b1:=hB5.made.box.c1;have b2:=hB5.made.box.c2;obtain ⟨U0,hW0⟩:∃ y,w5.drew=y:=⟨_,rfl⟩;have hs5:=aQ hW0;obtain ⟨S5,hS5⟩:∃ S0:World->Prop,∀ w',S0 w'↔Since w5 w':=⟨_,fun _=>Iff.rfl⟩;have x0:∀ y:ak S5,y.w.cell? ⟨p,0,none⟩=some (.slice (L5 (0,0,0)).a d3.groups.length (L5 (0,0,0)).cap):=fun y=>(((hS5 _).1 y.h).cellAt nY _).trans b0;have x1:∀ y:ak S5,y.w.cell? ⟨p,1,none⟩=some (.slice (L5 (1,0,0)).a d3.nodes.length (L5 (1,0,0)).cap):=fun y=>(((hS5 _).1 y.h).cellAt nY _).trans b1;have x2:∀ y:ak S5,y.w.cell? ⟨p,2,none⟩=some (.slice (L5 (2,0,0)).a d3.wires.length (L5 (2,0,0)).cap):=fun y=>(((hS5 _).1 y.h).cellAt nY _).trans b2;have x3:∀ y:ak S5,y.w.cell? ⟨qt,0,none⟩=some (.int .i64 t):=fun y=>(((hS5 _).1 y.h).cellAt R4 _).trans Pg;have j6:=(hS5 U0).2 hs5;have hne:Nonempty (ak S5):=⟨⟨_,j6⟩⟩;have dH:=aI w;have hTN:=jS (fV L5 d3) d3 t U0 (hB5.made.own.since hs5).wat;unfold fV at hTN;rw [HTL.out] at hTN;dsimp only at hTN;refine aK (fun w'=>∃ x:ak S5,w'=x.w) (by kernel_rfl) ?_;rw [hW0];clear hW0;refine tW 0 rfl ?_;go_big_quiet_op;refine tW 1 rfl ?_;go_big_quiet_op;refine tW 2 rfl ?_;go_big_quiet_op;refine tW 3 rfl ?_;go_big_quiet_op;refine tM 4 rfl (aj j6) ?_;go_big_quiet_op;refine tM 5 rfl (aj j6) ?_;go_big_quiet_op;refine aR 6 rfl (by kernel_rfl) ?_;intro K hK;go_simp;refine hTN.mono ?_;rintro e wT hR;obtain ⟨L6,rfl,hO6,hFT⟩:=hR.out.2 d4 mm rfl;have hST:=hFT.none;simp only [aS];refine hK _ _ (fun h=>absurd h (by decide +kernel)) ?_;clear hK K;refine tW 7 rfl ?_;go_big_quiet_op;refine tW 8 rfl ?_;go_big_quiet_op;refine tW 9 rfl ?_;go_big_quiet_op;refine aR 10 rfl (by kernel_rfl) ?_;intro K hK;go_simp;have hCt:=nW (L':=L6) (d':=d4) mm (by omega) hmm (hB5.since (hs5.trans hST)) (hO6.mono (by have:=hs5.size;have:=hB5.made.box.lt;omega));unfold aS at hCt;refine hCt.mono ?_;rintro e w9 ⟨rfl,hB9,hF9⟩;dsimp only;refine hK _ _ (fun h=>absurd h (by decide +kernel)) ?_;clear hK K;refine bH (by kernel_rfl) ?_;clear x0 x1 x2 x3 hne dH
 go_end0
 rw [Int.zero_add] at hB9;exact ⟨rfl,L6,hB9,hF5.aF ((((hs5.trans hST).up _ _).aF (hF9.mono (fun i _ e=>.inl (by have e:i=p:=e;omega)))))⟩
def rA (d:Wd) (f t:Int):Except Int (Wd × Int) :=
 if inB f 0 ((d.nodes.length:Int) - 1) && inB t 0 ((d.nodes.length:Int) - 1) then (fP d f.toNat t.toNat).bind fun d3=>(eX d3 t.toNat).bind fun p=>.ok (p.1,(p.2:Int)) else .error 4
theorem GU (d:Wd) (f t:Int):jr d f t=checked d ((rA d f t).bind fun p=>.ok p.1):=by
 unfold jr checked rA;split
 ·split
  ·rw [F4]
   cases fP d f.toNat t.toNat with
   | error e=>rfl
   | ok d3=>show (eX d3 t.toNat).bind _=((eX d3 t.toNat).bind _).bind _;cases eX d3 t.toNat <;> rfl
  ·rfl
 ·rfl
theorem zw (n:Int) (k:Nat):inB n 0 ((k:Int) - 1)=(decide (0<=n) && decide (n < (k:Int))):=by
 unfold inB;have:(n<=(k:Int) - 1)=(n < (k:Int)):=propext ⟨fun h=>by omega,fun h=>by omega⟩;simp [this,Bool.decide_and]
theorem GV (lo p qf qt:Nat) (f t:Int) (d:Wd) (L:Lay) (w:World) (hB:cB lo w p d L 0) (R:Right d) (hqf:qf < lo) (hqt:qt < lo) (hcf:w.cell? ⟨qf,0,none⟩=some (.int .i64 f)) (hct:w.cell? ⟨qt,0,none⟩=some (.int .i64 t)) (hlo:lo<=w.heap.size) :
  Calls prog 86 #[.pointer (some ⟨p,0,none⟩),.pointer (some ⟨qf,0,none⟩),.pointer (some ⟨qt,0,none⟩)] w fun e w'=>Hid (uH lo (fun _=>False) p w (rA d f t) e w'):=by
 cases hi:(inB f 0 ((d.nodes.length:Int) - 1) && inB t 0 ((d.nodes.length:Int) - 1)) with
 | false =>
  have e:rA d f t=.error 4:=by unfold rA;rw [hi];rfl
  rw [e];rw [zw,zw] at hi;exact (Pq lo p qf qt f t d L w hB hcf hct hi).mono fun _ _ ⟨he,hF⟩=>by rw [he];exact gu hF
 | true =>
  have hi':=hi;simp only [Bool.and_eq_true] at hi';obtain ⟨i1,i2⟩:=hi';have f0:0<=f/\f<=(d.nodes.length:Int) - 1:=by simpa [inB] using i1
  have t0:0<=t/\t<=(d.nodes.length:Int) - 1:=by simpa [inB] using i2
  obtain ⟨a,rfl⟩:∃ k:Nat,f=(k:Int):=⟨f.toNat,by omega⟩;obtain ⟨b,rfl⟩:∃ k:Nat,t=(k:Int):=⟨t.toNat,by omega⟩;have ha:a < d.nodes.length:=by omega
  have hb:b < d.nodes.length:=by omega
  have e:rA d a b=(fP d a b).bind fun d3=>(eX d3 b).bind fun p=>.ok (p.1,(p.2:Int)):=by unfold rA;rw [hi];rfl
  rw [e]
  cases hE:aA d a b with
  | nil =>
   have e1:fP d a b=.error 7:=by unfold fP;rw [hE]
   rw [e1];exact (Js lo p qf qt a b d L w hB R hqf hqt hcf hct hlo ha hb hE).mono fun _ _ ⟨he,hF⟩=>by rw [he];exact gu hF
  | cons M rest =>
   cases hP:fP d a b with
   | error er=>exact (LK lo p qf qt a b d L w hB R hqf hqt hcf hct hlo ha hb M rest hE er hP).mono fun _ _ ⟨he,hF⟩=>by rw [he];exact gu hF
   | ok d3 =>
    obtain ⟨m,S⟩:=Ah R ha hb hP;have R3:=pV R S;have hb3:b < d3.nodes.length:=by rw [S.alike.n];exact hb
    have hTC:=nZ R3 hb3;show Calls _ _ _ _ fun e w'=>Hid (uH lo (fun _=>False) p w ((eX d3 b).bind fun p=>.ok (p.1,(p.2:Int))) e w')
    cases hT:eX d3 b with
    | error er =>
     rw [hT] at hTC
     have her:(er == 0)=false:=by rcases yw hb3 hT with rfl | ⟨rfl,_⟩ <;> rfl
     exact (LP lo p qf qt a b d L w hB R hqf hqt hcf hct hlo ha hb M rest hE d3 hP er her hTC).mono fun _ _ ⟨he,hF⟩=>by rw [he];exact gu hF
    | ok pp =>
     obtain ⟨d4,mm⟩:=pp;rw [hT] at hTC;exact (Oi lo p qf qt a b d L w hB R hqf hqt hcf hct hlo ha hb M rest hE d3 hP d4 mm (vU R3 hT) hTC).mono fun _ _ ⟨he,L',hB',hF⟩=>by rw [he];exact oW hF hB'
theorem rY (x:WV) (d:Wd) (f t:Int) (w:World) (hW:WAt w x d) :
  Calls prog 33 #[.agg #[.slice x.ga x.gl x.gc,.slice x.na x.nl x.nc,.slice x.wa x.wl x.wc],.int .i64 f,.int .i64 t] w fun e w'=>Hid (rX w (jr d f t) e w'):=by
 obtain ⟨ga,gl,gc,na,nl,nc,wa,wl,wc⟩:=x;dsimp only;obtain ⟨wp,hwp⟩:∃ wp,w.alloc (.cells #[.slice ga gl gc,.slice na nl nc,.slice wa wl wc] 26)=wp:=⟨_,rfl⟩;have hPp:aO wp w.heap.size ⟨ga,gl,gc,na,nl,nc,wa,wl,wc⟩:=by rw [<-hwp];exact aO.new w ⟨ga,gl,gc,na,nl,nc,wa,wl,wc⟩ _
 have hSp:=ay hwp;obtain ⟨wf,hwf⟩:∃ w1,wp.alloc (.cells #[.int .i64 f] 3)=w1:=⟨_,rfl⟩;have R5:=ay hwf;have hfl:wp.heap.size < wf.heap.size:=by rw [<-hwf];simp
 have hfc:wf.cell? ⟨wp.heap.size,0,none⟩=some (.int .i64 f):=by rw [<-hwf];simp [go_sem]
 obtain ⟨wq,hwq⟩:∃ w1,wf.alloc (.cells #[.int .i64 t] 3)=w1:=⟨_,rfl⟩;have Oj:=ay hwq;have Bp:=R5.trans Oj;have hql:wf.heap.size < wq.heap.size:=by rw [<-hwq];simp
 have hqc:wq.cell? ⟨wf.heap.size,0,none⟩=some (.int .i64 t):=by rw [<-hwq];simp [go_sem]
 obtain ⟨w1,hw1⟩:∃ w1,wq.alloc (.cells #[.slice none 0 0,.slice none 0 0,.slice none 0 0] 26)=w1:=⟨_,rfl⟩;have hNB:aD w1 wq.heap.size:=by rw [<-hw1];exact aD.new wq _
 have qH:=ay hw1;have cO:=Bp.trans qH;have hP1:=hPp.since cO;have hS1:=hSp.trans cO;have hW1:=hW.since hS1;have p0:=hP1.c0;have p1:=hP1.c1;have p2:=hP1.c2;dsimp only at p0 p1 p2
 have hmf:∀ (fn:Fn) (first cap:Array Value) (w:World),(Instr.makeFunc fn first cap).run prog w=.ok (.func fn first cap) w:=fun _ _ _ _=>rfl
 have hDo:=lY ⟨ga,gl,gc,na,nl,nc,wa,wl,wc⟩ d 86 #[.pointer (some ⟨wp.heap.size,0,none⟩),.pointer (some ⟨wf.heap.size,0,none⟩)] (fun _=>False) w1 hW1 (fun _ h=>h.elim) (rA d f t) (enters_of func86 (by kernel_rfl) rfl)
  (fun hE lo p L y hlo hy hB=>GV lo p wp.heap.size wf.heap.size f t d L y hB ((dK d).1 hE) (by have:=qH.size;omega) (by have:=qH.size;omega) ((((Oj.trans qH).trans hy).cellAt hfl _).trans hfc) (((qH.trans hy).cellAt hql _).trans hqc) (by have:=hB.made.box.lt;have:=hB.lop;omega))
 dsimp only at hDo;rw [GU,q9];obtain ⟨r,hr⟩:∃ r,checked d (rA d f t)=r:=⟨_,rfl⟩;rw [hr] at hDo ⊢;clear hr hW;have hle:=zQ5 hSp.size Bp.size;have hwx:Hid (∀ y,Fr (fun _=>False) w1 y->Since w y/\aD y wq.heap.size):=fun y hy=>⟨hS1.trans hy.none,hNB.since hy.none⟩
 cases r with
 | error er =>
  go_enter func33,ntmps33
  go_wp2_with fail
  refine hDo.mono ?_;rintro e w2 hR;obtain ⟨rfl,hF2⟩:=hR.out.1 er rfl;obtain ⟨hS2,hN2⟩:=hwx.out _ hF2;clear hR hw1 hwp hwq hwf;obtain ⟨w3,hw3⟩:∃ y,w2.alloc (.cells #[.slice none 0 0,.slice none 0 0,.slice none 0 0] 26)=y:=⟨_,rfl⟩;have I6:=ay hw3;have hN3:aD w3 w2.heap.size:=by rw [<-hw3];exact aD.new w2 _
  obtain ⟨w4,hw4⟩:∃ y,((w3.setCell ⟨w2.heap.size,0,none⟩ (.slice none 0 0)).setCell ⟨w2.heap.size,1,none⟩ (.slice none 0 0)).setCell ⟨w2.heap.size,2,none⟩ (.slice none 0 0)=y:=⟨_,rfl⟩;have hF4:Fr (fun i=>i=w2.heap.size) w3 w4:=by rw [<-hw4];exact dN w3 w2.heap.size _ _ _
  have hS4:Since w2 w4:=hF4.aC I6 (fun i hi e=>by omega)
  have hN4:aD w4 w2.heap.size:=by
   rw [<-hw4];exact ⟨zQ4 hN3.lt (dN w3 w2.heap.size _ _ _).size,pI hN3.c0,pJ hN3.c1,pK hN3.c2,(gT _ _ _ _ _ _).trans hN3.z0,(gT _ _ _ _ _ _).trans hN3.z1,(gT _ _ _ _ _ _).trans hN3.z2⟩
  obtain ⟨_,a0,a1,a2,a3,a4,a5⟩:=hN3;obtain ⟨_,c0,c1,c2,_,_,_⟩:=hN4;obtain ⟨_,r0,r1,r2,r3,r4,r5⟩:=hN2.since hS4
  go_wp2_with fail
  refine bodyPost_ret (v:=.tuple #[.agg #[.slice none 0 0,.slice none 0 0,.slice none 0 0],.int .i64 er]) ?_ rfl (show Hid _ from dS (aM hle (hS2.trans hS4)));simp [results,results33,go_sem,r0,r1,r2]
 | ok dm =>
  obtain ⟨d',m⟩:=dm
  go_enter func33,ntmps33
  go_wp2_with fail
  refine hDo.mono ?_;rintro e w2 hR;obtain ⟨L,rfl,hO,hF2⟩:=hR.out.2 d' m rfl;obtain ⟨hS2,hN2⟩:=hwx.out _ hF2;clear hR hw1 hwp hwq hwf;simp only [aS];obtain ⟨w3,hw3⟩:∃ y,w2.alloc (.cells #[.slice (L (0,0,0)).a d'.groups.length (L (0,0,0)).cap,.slice (L (1,0,0)).a d'.nodes.length (L (1,0,0)).cap,.slice (L (2,0,0)).a d'.wires.length (L (2,0,0)).cap] 26)=y:=⟨_,rfl⟩;have hS3:=ay hw3
  have hB3:jV w3 w2.heap.size L d':=by rw [<-hw3];constructor <;> simp [go_sem]
  obtain ⟨_,b0,b1,b2,_,_,_⟩:=hB3;obtain ⟨_,r0,r1,r2,r3,r4,r5⟩:=hN2.since hS3;obtain ⟨hO2,hSf⟩:=(hO.since hS3).result (w0:=w) (p:=wq.heap.size) hNB.lt hle (hS2.trans hS3) hS1.size
  go_wp2_with fail
  refine bodyPost_ret (v:=.tuple #[aS L d',.int .i64 0]) ?_ rfl (show Hid _ from iB hO2 hSf);simp [results,results33,go_sem,r0,r1,r2,aS]
theorem qR (f t:Nat):∀ (k:Nat) (d:Wd),dY f t (k+1) d=(dY f t k d).bind fun d'=>fO d' f t
 | 0,d=>by
  show (fO d f t).bind (dY f t 0)=fO d f t
  cases fO d f t <;> rfl
 | k+1,d=>by
  show (fO d f t).bind (dY f t (k+1))=((fO d f t).bind (dY f t k)).bind _
  cases h:fO d f t with
  | error e=>rfl
  | ok d1=>exact qR f t k d1
theorem vM {f t:Nat} {d:Wd} {e:Int} {k:Nat} (h:dY f t k d=.error e):∀ j,dY f t (k+j) d=.error e
 | 0=>h
 | j+1=>by rw [<-Nat.add_assoc,qR,vM h j];rfl
theorem Eu {d:Wd} {f t:Nat} (R:Right d) (hf:f < d.nodes.length) (ht:t < d.nodes.length):jr d (f:Int) (t:Int)=fO d f t:=by
 unfold jr;rw [if_pos ((dK d).2 R),if_pos (by simp [inB];omega),Int.toNat_natCast,Int.toNat_natCast]
def p8 (d:Wd) (f t:Int):Except Int (Wd × Int) :=
 if inB f 0 ((d.nodes.length:Int) - 1) && inB t 0 ((d.nodes.length:Int) - 1) then (oK d f.toNat t.toNat).bind fun r=>.ok (r.1,(r.2:Int)) else .error 4
theorem Ol (lo p qf qt:Nat) (f t:Int) (d:Wd) (L:Lay) (w:World) (hB:cB lo w p d L 0) (hcf:w.cell? ⟨qf,0,none⟩=some (.int .i64 f)) (hct:w.cell? ⟨qt,0,none⟩=some (.int .i64 t)) (hn:((decide (0<=f) && decide (f < (d.nodes.length:Int))) && (decide (0<=t) && decide (t < (d.nodes.length:Int))))=false) :
  Calls prog 95 #[.pointer (some ⟨p,0,none⟩),.pointer (some ⟨qf,0,none⟩),.pointer (some ⟨qt,0,none⟩)] w fun e w'=>e=.panicked (pan 4)/\Fr (Up lo fun _=>False) w w':=by
 have b1:=hB.made.box.c1;have hb:=Og p f t _ _ _ w b1 hn;clear hn
 go_enter func95,ntmps95
 go_wp2_with (go_at_call 87;refine hb.mono ?_;rintro e w' ⟨rfl,hw'⟩;obtain rfl:=hw'.symm)
 exact ⟨rfl,rfl,Fr.refl _ _⟩
theorem LQ (lo p qf qt f t:Nat) (d:Wd) (L:Lay) (w:World) (hB:cB lo w p d L 0) (R:Right d) (hqf:qf < lo) (hqt:qt < lo) (hcf:w.cell? ⟨qf,0,none⟩=some (.int .i64 f)) (hct:w.cell? ⟨qt,0,none⟩=some (.int .i64 t)) (hlo:lo<=w.heap.size) (hf:f < d.nodes.length) (ht:t < d.nodes.length) (N:Nat) (hN:(aA d f t).length=N) (Post:Ending->World->Prop)
  (jl:∀ er,dY f t N d=.error er->∀ w',Fr (Up lo fun _=>False) w w'->Post (.panicked (pan er)) w')
  (hOk:∀ d' L' w',dY f t N d=.ok d'->cB lo w' p d' L' (N:Int)->Fr (Up lo fun _=>False) w w'->Post (.returned (.tuple #[])) w') :
  Calls prog 95 #[.pointer (some ⟨p,0,none⟩),.pointer (some ⟨qf,0,none⟩),.pointer (some ⟨qt,0,none⟩)] w fun e w'=>Hid (Post e w'):=by
 have jo:=(show Hid _ from jl);have HOK:=(show Hid _ from hOk);have HN:Hid ((aA d f t).length=N):=hN;have Rl:Hid (N<=40):=by unfold Hid;rw [<-hN];exact R.oM f t
 have HR:Hid (Right d):=R;clear jl hOk hN R;have hpl:=hB.made.box.lt;have yF:=hB.lop;have zl:qf < w.heap.size:=by omega
 have uI:qt < w.heap.size:=by omega
 have htn:(t:Int) < (d.nodes.length:Int):=by omega
 have hfn:(f:Int) < (d.nodes.length:Int):=by omega
 have b1:=hB.made.box.c1
 have QF:Hid (∀ y,Fr (Up lo fun _=>False) w y->y.cell? ⟨qf,0,none⟩=some (.int .i64 f)/\y.cell? ⟨qt,0,none⟩=some (.int .i64 t)):=fun y hy =>
  ⟨(hy.cell (p:=⟨qf,0,none⟩) zl (by rintro (h | h);exact h hqf;exact h)).trans hcf,(hy.cell (p:=⟨qt,0,none⟩) uI (by rintro (h | h);exact h hqt;exact h)).trans hct⟩
 go_enter func95,ntmps95
 go_wp2_with (go_at_call 87;refine (Br p f t _ _ _ w b1 hfn htn).mono ?_;rintro e w' ⟨rfl,hw'⟩;obtain rfl:=hw'.symm)
 clear b1 hcf hct htn hfn
 go_loopw [] (fun wr=>∃ (k:Nat) (dk:Wd) (Lk:Lay),k<=N/\dY f t k d=.ok dk/\cB lo wr p dk Lk (k:Int)/\Fr (Up lo fun _=>False) w wr) (fun wr=>N - (intOf ((wr.cell? ⟨p,3,none⟩).getD (.int .i64 0))).toNat)
 case atStart=>exact ⟨0,d,L,Nat.zero_le _,rfl,hB,Fr.refl _ _⟩
 case round =>
  clear hB;obtain ⟨wo,rfl⟩:∃ wo,wo=wr:=⟨_,rfl⟩;obtain ⟨k,dk,Lk,hk,hmv,hSB,hUp⟩:=hrel;have HMV:Hid (dY f t k d=.ok dk):=hmv;have HSB:Hid (cB lo wo p dk Lk (k:Int)):=hSB;have hms:=sJ k d dk HR.out hf ht (by rw [HN.out];exact hk) hmv;have HRK:Hid (Right dk/\dk.nodes.length=d.nodes.length):=⟨hms.right,hms.grow.alike.n⟩;obtain ⟨nn,hnn⟩:∃ nn,(aA dk f t).length=nn:=⟨_,rfl⟩;have HNN:Hid ((aA dk f t).length=nn):=hnn;have HNK:Hid (nn=N - k):=by unfold Hid;rw [<-hnn,hms.here,List.length_drop,HN.out]
  have hlow:lo<=wo.heap.size:=zQ5 hlo hUp.size;have hfk:f < dk.nodes.length:=by rw [HRK.out.2];exact hf
  have htk:t < dk.nodes.length:=by rw [HRK.out.2];exact ht
  have hwn:(f:Int) < (dk.wires.length:Int):=by have:=HRK.out.1.uF;omega
  have htn:(t:Int) < (dk.nodes.length:Int):=by omega
  have hpl:=hSB.made.box.lt;have Pv:qf < wo.heap.size:=by omega
  have Pw:qt < wo.heap.size:=by omega
  obtain ⟨q1,q2⟩:=QF.out _ hUp;obtain ⟨bw2,ow2,cw2,br2,oR2,cr2,hH⟩:=hSB.made.pW HRK.out.1.rows hfk htk;obtain ⟨la,lcc,hL8⟩:∃ la lcc,Lk (8,f,t)=⟨la,lcc⟩:=⟨_,_,rfl⟩;have hcell:=hH.cell;rw [hL8,hnn] at hcell;dsimp only [Sl.v] at hcell;have hbr:=hH.ltr;have HK:Hid (k<=N):=hk;clear hmv hms hnn hL8 hk;by_cases hlt:k < N
  ·have hp:(0:Int) < (nn:Int):=by have:=HNK.out;omega
   have HLT:Hid (k < N):=hlt;clear hlt;obtain ⟨W0,hW0⟩:∃ y,wo.drew=y:=⟨_,rfl⟩;have hs0:=aQ hW0;obtain ⟨S0,hS0⟩:∃ S0:World->Prop,∀ w',S0 w'↔Since wo w':=⟨_,fun _=>Iff.rfl⟩;have c1:∀ y:ak S0,y.w.cell? ⟨p,2,none⟩=some (.slice (some ⟨bw2,ow2,none⟩) dk.wires.length cw2):=fun y=>(hH.since ((hS0 _).1 y.h)).top;have c2:∀ y:ak S0,y.w.cell? ⟨bw2,ow2+f,none⟩=some (.slice (some ⟨br2,oR2,none⟩) dk.nodes.length cr2):=fun y=>(hH.since ((hS0 _).1 y.h)).row;have c3:∀ y:ak S0,y.w.cell? ⟨br2,oR2+t,none⟩=some (.slice la nn lcc):=fun y=>(((hS0 _).1 y.h).cellAt hbr _).trans hcell;have c4:∀ y:ak S0,y.w.cell? ⟨qf,0,none⟩=some (.int .i64 f):=fun y=>(((hS0 _).1 y.h).cellAt Pv _).trans q1;have c5:∀ y:ak S0,y.w.cell? ⟨qt,0,none⟩=some (.int .i64 t):=fun y=>(((hS0 _).1 y.h).cellAt Pw _).trans q2;have au:=(hS0 W0).2 hs0;have hne:Nonempty (ak S0):=⟨⟨_,au⟩⟩;have dH:=aI w
   go_wp2_with fail
   refine aK (fun w'=>∃ x:ak S0,w'=x.w) (by kernel_rfl) ?_;rw [hW0];clear hW0;refine tW 0 rfl ?_;go_big_quiet_op;refine tW 1 rfl ?_;go_big_quiet_op;refine tW 2 rfl ?_;go_big_quiet_op;refine tW 3 rfl ?_;go_big_quiet_op;refine tM 4 rfl (aj au) ?_;go_big_quiet_op;refine tM 5 rfl (aj au) ?_;go_big_quiet_op;refine tW 6 rfl ?_;go_big_quiet_op;refine tM 7 rfl (aj au) ?_;go_big_quiet_op;refine tM 8 rfl (aj au) ?_;go_big_quiet_op;refine tW 9 rfl ?_;go_big_quiet_op;refine tM 10 rfl (aj au) ?_;go_big_quiet_op;refine tM 11 rfl (aj au) ?_;go_big_quiet_op;refine tW 12 rfl ?_;go_big_quiet_op;refine bH (by kernel_rfl) ?_;have hp':=hp;clear c1 c2 c3 c4 c5 hne;have hB0:=hSB.since hs0;have b0:=hB0.made.box.c0;have b1:=hB0.made.box.c1;have b2:=hB0.made.box.c2;have R6:=hB0.made.box.lt;have q1':=(hs0.cellAt Pv _).trans q1;have q2':=(hs0.cellAt Pw _).trans q2;have Wm:qf < W0.heap.size:=zQ4 Pv hs0.size;have Wn:qt < W0.heap.size:=zQ4 Pw hs0.size;clear q1 q2 hcell;obtain ⟨W1,hW0⟩:∃ y,W0.drew=y:=⟨_,rfl⟩;have hs1:=aQ hW0;obtain ⟨S1,hS1⟩:∃ S0:World->Prop,∀ w',S0 w'↔Since W0 w':=⟨_,fun _=>Iff.rfl⟩;have x0:∀ y:ak S1,y.w.cell? ⟨p,0,none⟩=some (.slice (Lk (0,0,0)).a dk.groups.length (Lk (0,0,0)).cap):=fun y=>(((hS1 _).1 y.h).cellAt R6 _).trans b0;have x1:∀ y:ak S1,y.w.cell? ⟨p,1,none⟩=some (.slice (Lk (1,0,0)).a dk.nodes.length (Lk (1,0,0)).cap):=fun y=>(((hS1 _).1 y.h).cellAt R6 _).trans b1;have x2:∀ y:ak S1,y.w.cell? ⟨p,2,none⟩=some (.slice (Lk (2,0,0)).a dk.wires.length (Lk (2,0,0)).cap):=fun y=>(((hS1 _).1 y.h).cellAt R6 _).trans b2;have x3:∀ y:ak S1,y.w.cell? ⟨qf,0,none⟩=some (.int .i64 f):=fun y=>(((hS1 _).1 y.h).cellAt Wm _).trans q1';have x4:∀ y:ak S1,y.w.cell? ⟨qt,0,none⟩=some (.int .i64 t):=fun y=>(((hS1 _).1 y.h).cellAt Wn _).trans q2';have wX:=(hS1 W1).2 hs1;have hne:Nonempty (ak S1):=⟨⟨_,wX⟩⟩;have Jt:=rY (fV Lk dk) dk f t W1 (hB0.made.own.since hs1).wat;unfold fV at Jt;rw [Eu HRK.out.1 hfk htk] at Jt;dsimp only at Jt;have HM1:Hid (dY f t (k+1) d=fO dk f t):=by unfold Hid;rw [qR,HMV.out];rfl
   obtain ⟨r,hr⟩:∃ r,fO dk f t=r:=⟨_,rfl⟩;rw [hr] at Jt;have HRR:Hid (dY f t (k+1) d=r):=by unfold Hid;rw [HM1.out,hr]
   have HNZ:Hid (∀ e,r=.error e->(e == 0)=false):=fun e h=>by rw [h] at hr;have:=xD hr;simpa using this
   clear hr b0 b1 b2 q1' q2'
   cases r with
   | error er =>
    have her:=HNZ.out er rfl
    go_wp2_with fail
    refine aK (fun w'=>∃ x:ak S1,w'=x.w) (by kernel_rfl) ?_;rw [hW0];clear hW0;refine tW 0 rfl ?_;go_big_quiet_op;refine tW 1 rfl ?_;go_big_quiet_op;refine tW 2 rfl ?_;go_big_quiet_op;refine tW 3 rfl ?_;go_big_quiet_op;refine tM 4 rfl (aj wX) ?_;go_big_quiet_op;refine tM 5 rfl (aj wX) ?_;go_big_quiet_op;refine tM 6 rfl (aj wX) ?_;go_big_quiet_op;refine aR 7 rfl (by kernel_rfl) ?_;intro K hK;go_simp;refine Jt.mono ?_;rintro e wT hR;obtain ⟨rfl,hST⟩:=hR.out.1 er rfl;dsimp only;refine hK _ _ (fun h=>absurd h (by decide +kernel)) ?_;clear hK K;refine tW 8 rfl ?_;go_big_quiet_op;refine tW 9 rfl ?_;go_big_quiet_op;refine aR 10 rfl (by kernel_rfl) ?_;intro K hK;go_simp;refine (vS p ⟨none,0,0,none,0,0,none,0,0⟩ er her wT).mono ?_;rintro e w' ⟨rfl,hS9⟩;dsimp only;exact ⟨rfl,jo.out er (by have:=vM HRR.out (N - (k+1));rwa [show k+1+(N - (k+1))=N from by have:=HLT.out;omega] at this) _ (hUp.aF ((((hs0.trans hs1).trans hST).trans hS9).up _ _))⟩
   | ok d2 =>
    go_wp2_with fail
    refine aK (fun w'=>∃ x:ak S1,w'=x.w) (by kernel_rfl) ?_;rw [hW0];clear hW0;refine tW 0 rfl ?_;go_big_quiet_op;refine tW 1 rfl ?_;go_big_quiet_op;refine tW 2 rfl ?_;go_big_quiet_op;refine tW 3 rfl ?_;go_big_quiet_op;refine tM 4 rfl (aj wX) ?_;go_big_quiet_op;refine tM 5 rfl (aj wX) ?_;go_big_quiet_op;refine tM 6 rfl (aj wX) ?_;go_big_quiet_op;refine aR 7 rfl (by kernel_rfl) ?_;intro K hK;go_simp;refine Jt.mono ?_;rintro e wT hR;obtain ⟨L6,rfl,hO6,hST⟩:=hR.out.2 d2 rfl;simp only [aS];refine hK _ _ (fun h=>absurd h (by decide +kernel)) ?_;clear hK K;refine tW 8 rfl ?_;go_big_quiet_op;refine tW 9 rfl ?_;go_big_quiet_op;refine aR 10 rfl (by kernel_rfl) ?_;intro K hK;go_simp;have hCt:=yG (L':=L6) (d':=d2) (hB0.since (hs1.trans hST)) (hO6.mono (by have:=hs1.size;have:=hB0.made.box.lt;omega));unfold aS at hCt;refine hCt.mono ?_;rintro e w9 ⟨rfl,hB9,hF9⟩;dsimp only;refine hK _ _ (fun h=>absurd h (by decide +kernel)) ?_;clear hK K;refine bH (by kernel_rfl) ?_;clear x0 x1 x2 x3 x4 hne dH Jt;have cm:=hB9.cm;have zm:=hB9.zm;have hk1:IntKind.i64.wrap ((k:Int)+1)=(k:Int)+1:=IntWalk.i64_in _ (by have:=HLT.out;have:=Rl.out;omega);have hU9:Fr (Up lo fun _=>False) w w9:=hUp.aF ((((hs0.trans hs1).trans hST).up _ _).aF (hF9.mono (fun i _ e=>.inl (by have e:i=p:=e;omega))));obtain ⟨wE,hwE⟩:∃ y,w9.setCell ⟨p,3,none⟩ (.int .i64 ((k:Int)+1))=y:=⟨_,rfl⟩;have hBE:=hB9.many ((k:Int)+1);rw [hwE] at hBE;have hUE:Fr (Up lo fun _=>False) w wE:=by rw [<-hwE];exact hU9.aF ((Fr.refl _ w9).setCell ⟨p,3,none⟩ _ (fun _=>.inl (by show ¬ p < lo;omega)))
    go_wp2
    go_roundw
    case rel=>exact ⟨k+1,d2,L6,HLT.out,HRR.out,by have:=hBE;rwa [show ((k+1:Nat):Int)=(k:Int)+1 from by omega],hUE⟩
    case measure =>
     have h1:=hBE.cm;have h2:=HSB.out.cm;have:=HLT.out;simp [h1,h2,intOf];omega
  ·have HE:Hid (N=k):=by unfold Hid;have:=HK.out;omega
   have hp:¬ (0:Int) < (nn:Int):=by have:=HNK.out;omega
   clear hlt;obtain ⟨W0,hW0⟩:∃ y,wo.drew=y:=⟨_,rfl⟩;have hs0:=aQ hW0;obtain ⟨S0,hS0⟩:∃ S0:World->Prop,∀ w',S0 w'↔Since wo w':=⟨_,fun _=>Iff.rfl⟩;have c1:∀ y:ak S0,y.w.cell? ⟨p,2,none⟩=some (.slice (some ⟨bw2,ow2,none⟩) dk.wires.length cw2):=fun y=>(hH.since ((hS0 _).1 y.h)).top;have c2:∀ y:ak S0,y.w.cell? ⟨bw2,ow2+f,none⟩=some (.slice (some ⟨br2,oR2,none⟩) dk.nodes.length cr2):=fun y=>(hH.since ((hS0 _).1 y.h)).row;have c3:∀ y:ak S0,y.w.cell? ⟨br2,oR2+t,none⟩=some (.slice la nn lcc):=fun y=>(((hS0 _).1 y.h).cellAt hbr _).trans hcell;have c4:∀ y:ak S0,y.w.cell? ⟨qf,0,none⟩=some (.int .i64 f):=fun y=>(((hS0 _).1 y.h).cellAt Pv _).trans q1;have c5:∀ y:ak S0,y.w.cell? ⟨qt,0,none⟩=some (.int .i64 t):=fun y=>(((hS0 _).1 y.h).cellAt Pw _).trans q2;have au:=(hS0 W0).2 hs0;have hne:Nonempty (ak S0):=⟨⟨_,au⟩⟩;have dH:=aI w
   go_wp2_with fail
   refine aK (fun w'=>∃ x:ak S0,w'=x.w) (by kernel_rfl) ?_;rw [hW0];clear hW0;refine tW 0 rfl ?_;go_big_quiet_op;refine tW 1 rfl ?_;go_big_quiet_op;refine tW 2 rfl ?_;go_big_quiet_op;refine tW 3 rfl ?_;go_big_quiet_op;refine tM 4 rfl (aj au) ?_;go_big_quiet_op;refine tM 5 rfl (aj au) ?_;go_big_quiet_op;refine tW 6 rfl ?_;go_big_quiet_op;refine tM 7 rfl (aj au) ?_;go_big_quiet_op;refine tM 8 rfl (aj au) ?_;go_big_quiet_op;refine tW 9 rfl ?_;go_big_quiet_op;refine tM 10 rfl (aj au) ?_;go_big_quiet_op;refine tM 11 rfl (aj au) ?_;go_big_quiet_op;refine tW 12 rfl ?_;go_big_quiet_op;refine bH (by kernel_rfl) ?_;clear c1 c2 c3 c4 c5 hne dH
   go_wp2
   go_end0
   have hmv:=HMV.out;rw [<-HE.out] at hmv;exact HOK.out dk Lk _ hmv (by have:=HSB.out.since hs0;rwa [<-HE.out] at this) (hUp.aF (hs0.up _ _))
theorem Ev (lo p qf qt:Nat) (f t:Int) (d:Wd) (L:Lay) (w:World) (hB:cB lo w p d L 0) (R:Right d) (hqf:qf < lo) (hqt:qt < lo) (hcf:w.cell? ⟨qf,0,none⟩=some (.int .i64 f)) (hct:w.cell? ⟨qt,0,none⟩=some (.int .i64 t)) (hlo:lo<=w.heap.size) :
  Calls prog 95 #[.pointer (some ⟨p,0,none⟩),.pointer (some ⟨qf,0,none⟩),.pointer (some ⟨qt,0,none⟩)] w fun e w'=>Hid (uH lo (fun _=>False) p w (p8 d f t) e w'):=by
 cases hi:(inB f 0 ((d.nodes.length:Int) - 1) && inB t 0 ((d.nodes.length:Int) - 1)) with
 | false =>
  have e:p8 d f t=.error 4:=by unfold p8;rw [hi];rfl
  rw [e];rw [zw,zw] at hi;exact (Ol lo p qf qt f t d L w hB hcf hct hi).mono fun _ _ ⟨he,hF⟩=>by rw [he];exact gu hF
 | true =>
  have hi':=hi;simp only [Bool.and_eq_true] at hi';obtain ⟨i1,i2⟩:=hi';have f0:0<=f/\f<=(d.nodes.length:Int) - 1:=by simpa [inB] using i1
  have t0:0<=t/\t<=(d.nodes.length:Int) - 1:=by simpa [inB] using i2
  obtain ⟨a,rfl⟩:∃ k:Nat,f=(k:Int):=⟨f.toNat,by omega⟩;obtain ⟨b,rfl⟩:∃ k:Nat,t=(k:Int):=⟨t.toNat,by omega⟩;have ha:a < d.nodes.length:=by omega
  have hb:b < d.nodes.length:=by omega
  have e:p8 d a b=(dY a b (aA d a b).length d).bind fun d'=>.ok (d',((aA d a b).length:Int)):=by
   unfold p8;rw [hi];show ((dY a b (aA d a b).length d).bind _).bind _=_
   cases dY a b (aA d a b).length d <;> rfl
  rw [e]
  exact LQ lo p qf qt a b d L w hB R hqf hqt hcf hct hlo ha hb _ rfl (fun e w'=>uH lo (fun _=>False) p w ((dY a b (aA d a b).length d).bind fun d'=>.ok (d',((aA d a b).length:Int))) e w')
   (fun er h w' hF=>by rw [h];exact gu hF) (fun d' L' w' h hB' hF=>by rw [h];exact oW hF hB')
theorem En (x:WV) (d:Wd) (f t:Int) (w:World) (hW:WAt w x d) :
  Calls prog 36 #[.agg #[.slice x.ga x.gl x.gc,.slice x.na x.nl x.nc,.slice x.wa x.wl x.wc],.int .i64 f,.int .i64 t] w fun e w'=>Hid (yA w (checked d (p8 d f t)) e w'):=by
 obtain ⟨ga,gl,gc,na,nl,nc,wa,wl,wc⟩:=x;dsimp only;obtain ⟨wp,hwp⟩:∃ wp,w.alloc (.cells #[.slice ga gl gc,.slice na nl nc,.slice wa wl wc] 26)=wp:=⟨_,rfl⟩;have hPp:aO wp w.heap.size ⟨ga,gl,gc,na,nl,nc,wa,wl,wc⟩:=by rw [<-hwp];exact aO.new w ⟨ga,gl,gc,na,nl,nc,wa,wl,wc⟩ _
 have hSp:=ay hwp;obtain ⟨wf,hwf⟩:∃ w1,wp.alloc (.cells #[.int .i64 f] 3)=w1:=⟨_,rfl⟩;have R5:=ay hwf;have hfl:wp.heap.size < wf.heap.size:=by rw [<-hwf];simp
 have hfc:wf.cell? ⟨wp.heap.size,0,none⟩=some (.int .i64 f):=by rw [<-hwf];simp [go_sem]
 obtain ⟨wq,hwq⟩:∃ w1,wf.alloc (.cells #[.int .i64 t] 3)=w1:=⟨_,rfl⟩;have Oj:=ay hwq;have Bp:=R5.trans Oj;have hql:wf.heap.size < wq.heap.size:=by rw [<-hwq];simp
 have hqc:wq.cell? ⟨wf.heap.size,0,none⟩=some (.int .i64 t):=by rw [<-hwq];simp [go_sem]
 obtain ⟨w1,hw1⟩:∃ w1,wq.alloc (.cells #[.slice none 0 0,.slice none 0 0,.slice none 0 0] 26)=w1:=⟨_,rfl⟩;have hNB:aD w1 wq.heap.size:=by rw [<-hw1];exact aD.new wq _
 have qH:=ay hw1;have cO:=Bp.trans qH;have hP1:=hPp.since cO;have hS1:=hSp.trans cO;have hW1:=hW.since hS1;have p0:=hP1.c0;have p1:=hP1.c1;have p2:=hP1.c2;dsimp only at p0 p1 p2
 have hmf:∀ (fn:Fn) (first cap:Array Value) (w:World),(Instr.makeFunc fn first cap).run prog w=.ok (.func fn first cap) w:=fun _ _ _ _=>rfl
 have hDo:=lY ⟨ga,gl,gc,na,nl,nc,wa,wl,wc⟩ d 95 #[.pointer (some ⟨wp.heap.size,0,none⟩),.pointer (some ⟨wf.heap.size,0,none⟩)] (fun _=>False) w1 hW1 (fun _ h=>h.elim) (p8 d f t) (enters_of func95 (by kernel_rfl) rfl)
  (fun hE lo p L y hlo hy hB=>Ev lo p wp.heap.size wf.heap.size f t d L y hB ((dK d).1 hE) (by have:=qH.size;omega) (by have:=qH.size;omega) ((((Oj.trans qH).trans hy).cellAt hfl _).trans hfc) (((qH.trans hy).cellAt hql _).trans hqc) (by have:=hB.made.box.lt;have:=hB.lop;omega))
 dsimp only at hDo;obtain ⟨r,hr⟩:∃ r,checked d (p8 d f t)=r:=⟨_,rfl⟩;rw [hr] at hDo ⊢;clear hr hW;have hle:=zQ5 hSp.size Bp.size
 cases r with
 | error er =>
  go_enter func36,ntmps36
  go_wp2_with (go_at_call 85;refine hDo.mono ?_;rintro e w2 hR;obtain ⟨rfl,hF2⟩:=hR.out.1 er rfl;have hS2:=hF2.none;obtain ⟨lt,r0,r1,r2,r3,r4,r5⟩:=hNB.since hS2)
  refine bodyPost_ret (v:=.tuple #[.agg #[.slice none 0 0,.slice none 0 0,.slice none 0 0],.int .i64 0,.int .i64 er]) ?_ rfl (show Hid _ from lG (aM hle (hS1.trans hS2)));simp [results,results36,go_sem,r0,r1,r2]
 | ok dm =>
  obtain ⟨d',m⟩:=dm
  go_enter func36,ntmps36
  go_wp2_with (go_at_call 85;refine hDo.mono ?_;rintro e w2 hR;obtain ⟨L,rfl,hO,hF2⟩:=hR.out.2 d' m rfl;have hS2:=hF2.none;simp only [aS];obtain ⟨lt,r0,r1,r2,r3,r4,r5⟩:=hNB.since hS2)
  obtain ⟨hO2,hSf⟩:=hO.result (w0:=w) (p:=wq.heap.size) hNB.lt hle (hS1.trans hS2) hS1.size;refine bodyPost_ret (v:=.tuple #[aS L d',.int .i64 m,.int .i64 0]) ?_ rfl (show Hid _ from oU hO2 hSf);simp [results,results36,go_sem,r0,r1,r2,aS]
end Go.Proofs.YtiiifecfdkjmbaaGreat
