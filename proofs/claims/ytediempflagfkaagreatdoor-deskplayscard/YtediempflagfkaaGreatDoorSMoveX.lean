/- Lemmas. -/
import Derived.Test.YtediempflagfkaaGreatDoorSCastX
import Derived.Test.YtediempflagfkaaGreatDoorPureW
import Derived.Test.YtediempflagfkaaGreatDoorRDoneX
set_option linter.unusedVariables false
set_option linter.unusedSimpArgs false
set_option linter.unnecessarySimpa false
set_option maxHeartbeats 4000000
namespace Go.Proofs.YtediempflagfkaaGreatDoor
open _root_.Go.Proofs.Tryz hiding checked
set_option maxRecDepth 8000
open Go.RowKit Go.Shelf
open Pu
theorem Cb(lo p f t:Nat)(d:Wd)(L:Lay)(w:World)(c:Int)(hB:dG lo w p d L c)(R:aL d)(hf:f < d.ah.length)(ht:t < d.ah.length)(M:Mg)(rest:List Mg)(hE:aJ d f t=M::rest)(hlo:lo<=w.heap.size)(Post:Ending->World->Prop)
  (jv:∀er,fP d f t=.error er->∀w',Fr (Up lo fun _=>False) w w'->Post (.panicked (pan er)) w')
  (hOk:∀d' L' w',fP d f t=.ok d'->dG lo w' p d' L' c->Fr (Up lo fun _=>False) w w'->Post (.returned (.tuple #[])) w') :
  Calls prog 100 #[.pointer (some ⟨p,0,none⟩),.int .i64 f,.int .i64 t] w fun e w'=>Hid (Post e w'):=by
 have hmv:fP d f t=eD (nC d f t M rest) t M:=by unfold fP;rw[hE]
 obtain⟨sn1,sn4,sg1,sg3⟩:=rQ R.chk;obtain⟨nd,hnd⟩:∃nd,d.ah[t]? = some nd:=⟨_,zQ1 ht⟩;have D5:=R.sK f t M (by rw[hE];simp);obtain⟨hc1,hc2⟩:=qV.1 D5.1;obtain⟨_,⟨hg0,hg1⟩,_,_⟩:=qW hc1;obtain⟨gg,hgg⟩:=Int.eq_ofNat_of_zero_le hg0;have Rn:gg < d.au.length:=by omega
 obtain⟨lW,uK⟩:∃r,nd.last[gg]? = some r:=⟨_,zQ1 (by rw[R.llen t nd hnd];exact Rn)⟩;have OG:=R.lW t nd gg lW hnd uK;obtain⟨lv,hlv⟩:∃v,lW[f]? = some v:=⟨_,zQ1 (by omega)⟩;obtain⟨X2,hX2⟩:∃y,oz nd M f=y:=⟨_,rfl⟩;have Ie:nC d f t M rest=aD (bK d f t rest) t X2:=by unfold nC;rw[hnd];show aD (bK d f t rest) t (oz nd M f)=_;rw[hX2]
 have OH:X2={ uJ nd M with last:=(uJ nd M).last.set gg (lW.set f (max lv M.st)) }:=by
  rw[<-hX2];unfold oz uJ;rw[hgg,Int.toNat_natCast];simp only[uK,Option.getD_some];have:eX nd.last gg f=lv:=uf uK hlv;rw[this]
 have hwn:(f:Int) < (d.aB.length:Int):=by have:=R.yu;omega
 have htn:(t:Int) < (d.ah.length:Int):=by omega
 have hrn:rest.length+1<=40:=by have:=R.pK f t;rw[hE]at this;simpa using this
 have HGG:Hid (M.gr=gg):=hgg;have HLR:=(show Hid _ from OG);have jB:=(show Hid _ from jv);have HOK:=(show Hid _ from hOk);have HR:Hid (aL d):=R;have HMV:=(show Hid _ from hmv);have HCO:=(show Hid _ from Ie);have HX:=(show Hid _ from OH);clear hgg D5 hc1 hc2 hg0 hg1 OG jv hOk hmv Ie OH hX2
 -- the wire
 have hpl:=hB.made.box.lt;obtain⟨row,hr,hrl⟩:=row_of R.rows hf;have wN:okI d (8,f,t):=⟨by rw[R.rows.1];exact hf,by rw[dP hr];omega⟩;have h8:Row w lo 5 (L (8,f,t)) (aJ d f t).length (flat (aJ d f t)):=hB.made.own.row (8,f,t) wN;obtain⟨bw2,ow2,cw2,br2,oR2,cr2,hH⟩:=hB.made.qy R.rows hf ht;rw[hE]at h8 hH;obtain⟨bl,ol,e8,hll,hbl,hcl,hxl⟩:=h8.body (by have:=h8.cap;simp at this;omega);obtain⟨lcc,hL8⟩:∃lcc,L (8,f,t)=⟨some ⟨bl,ol,none⟩,lcc⟩:=⟨(L (8,f,t)).cap,by rw[<-e8]⟩
 have hMs:cO w bl ol M:=by
  have:=dM hxl 0 M rfl;simp only[Nat.zero_mul,Nat.add_zero]at this;exact this
 obtain⟨w4,hw4⟩:∃y,w.alloc (.cells #[.int .i64 M.fr,.int .i64 M.gr,.int .i64 M.st,.bool M.nul,.string M.body] 95)=y:=⟨_,rfl⟩;have hS4:=aF hw4
 have hM4:cO w4 w.heap.size 0 M:=by rw[<-hw4];constructor <;> simp[go_sem]
 have Uh:w.heap.size < w4.heap.size:=by rw[<-hw4];simp
 have VH:¬ gT d L w.heap.size:=fun hb=>by have:=(hB.made.own.blk hb).2;omega
 have hB4:=hB.ay hS4;have hH4:=hH.ay hS4;rw[hL8]at h8;have h84:=h8.ay hS4;obtain⟨bn,on,cn,hL1,_,hbn,hbk,hcn⟩:=hB4.made.own.lies (ix:=(1,0,0)) ⟨rfl,rfl⟩ (by show 0 < d.ah.length;omega);obtain⟨sa,sc,hsl,hRs,hbs⟩:=K7 h84;have s2:=hH.top;have s3:=hH.row;have s4:=hH.cell;rw[hL8]at s4;dsimp only[Sl.v,List.length_cons]at s4;obtain⟨g0,g1,g2,g3,g4⟩:=hMs;have HL1:Hid (L (1,0,0)=⟨some ⟨bn,on,none⟩,cn⟩):=hL1;have HL8:Hid (L (8,f,t)=⟨some ⟨bl,ol,none⟩,lcc⟩):=hL8;have HSL:=(show Hid _ from hsl);clear hL1 hL8 e8 hE hsl hxl hcl
 go_enter func100,ntmps100
 go_wp2_with fail
 clear s2 s3 s4 g0 g1 g2 g3 g4 hw4;obtain⟨W0,hW0⟩:∃y,w4.drew=y:=⟨_,rfl⟩;have hs0:=aY hW0;obtain⟨S0,hS0⟩:∃S0:World->Prop,∀w',S0 w'↔ak w4 w':=⟨_,fun _=>Iff.rfl⟩;have c1:∀y:aA S0,y.w.cell? ⟨p,2,none⟩=some (.slice (some ⟨bw2,ow2,none⟩) d.aB.length cw2):=fun y=>(hH4.ay ((hS0 _).1 y.h)).top;have c2:∀y:aA S0,y.w.cell? ⟨bw2,ow2+f,none⟩=some (.slice (some ⟨br2,oR2,none⟩) d.ah.length cr2):=fun y=>(hH4.ay ((hS0 _).1 y.h)).row;have c3:∀y:aA S0,y.w.cell? ⟨br2,oR2+t,none⟩=some (.slice (some ⟨bl,ol,none⟩) (rest.length+1) lcc):=fun y=>by have:=(hH4.ay ((hS0 _).1 y.h)).cell;rw[HL8.out]at this;exact this
 have aC:=(hS0 W0).2 hs0;have hne:Nonempty (aA S0):=⟨⟨_,aC⟩⟩;have cB:=aO w;have y3:=(hH4.ay hs0).cell;have z3:=(hH4.ay hs0).free;rw[HL8.out]at y3;dsimp only[Sl.v,List.length_cons]at y3;have hcut:=hB4.made.K8 R.rows hf ht hH4.lay hs0 (rest:=rest) (by omega) (s:=⟨sa,sc⟩) (hRs.ay hs0) (by rw[HL8.out];exact hbs);obtain⟨W5,hW5⟩:∃y,W0.setCell ⟨br2,oR2+t,none⟩ (.slice sa rest.length sc)=y:=⟨_,rfl⟩;have JY:W0.setCell ⟨br2,oR2+t,none⟩ (Sl.v ⟨sa,sc⟩ rest.length)=W5:=hW5;rw[JY]at hcut;have Vh:(rest.length:Int)+1<=(lcc:Int):=by have:=h84.cap;simp only[List.length_cons]at this;omega
 have HW5:=(show Hid _ from JY);clear JY;have hsl:=HSL.out;refine aW (fun w'=>∃x:aA S0,w'=x.w) (by kernel_rfl) ?_;rw[hW0];clear hW0;refine tW 0 rfl ?_;go_big_quiet_op;refine tW 1 rfl ?_;go_big_quiet_op;refine tW 2 rfl ?_;go_big_quiet_op;refine tW 3 rfl ?_;go_big_quiet_op;refine tM 4 rfl (aj aC) ?_;go_big_quiet_op;refine tW 5 rfl ?_;go_big_quiet_op;refine tW 6 rfl ?_;go_big_quiet_op;refine tM 7 rfl (aj aC) ?_;go_big_quiet_op;refine tW 8 rfl ?_;go_big_quiet_op;refine tW 9 rfl ?_;go_big_quiet_op;refine tW 10 rfl ?_;go_big_quiet_op;refine tW 11 rfl ?_;go_big_quiet_op;refine tW 12 rfl ?_;go_big_quiet_op;refine tM 13 rfl (aj aC) ?_;go_big_quiet_op;refine tW 14 rfl ?_;go_big_quiet_op;refine tW 15 rfl ?_;go_big_quiet_op;refine tM 16 rfl (aj aC) ?_;go_big_quiet_op;refine tW 17 rfl ?_;go_big_quiet_op;refine tW 18 rfl ?_;go_big_quiet_op;refine tM 19 rfl (aj aC) ?_;go_big_quiet_op;refine tM 20 rfl (aj aC) ?_;refine nS (v:=.slice sa rest.length sc) ?_ ?_
 ·rcases hsl with ⟨h1,h2,h3,h4⟩ | ⟨h1,h3,h4⟩
  ·subst h1 h3 h4;have hr:rest=[]:=zQ6 h2;subst hr;go_big_quiet_op;simp[Act.put]
  ·subst h3 h4;have h1':(1:Int) < (lcc:Int):=by omega
   go_big_quiet_op;simp[Act.put]
 simp only[Act.put,zQ7,zQ8,zQ9];refine tW 21 rfl ?_;go_big_quiet_op;refine aV 22 rfl (by kernel_rfl) ?_;intro K hK;go_simp;refine hK _ _ (fun h=>absurd h (by decide +kernel)) ?_;clear hK K;refine bE (by kernel_rfl) ?_;clear hsl;obtain⟨hM5,wO⟩:=hcut;obtain⟨hq5,JZ⟩:=wO.beside Uh VH;have OI:=bS hM4 hq5;have EY:=zQ4 Uh wO.fr.size;have hB5:=hB4.step hM5 wO;have hU5:Fr (Up lo fun _=>False) w W5:=(hS4.up lo _).aT (wO.up hB4.made.own _);have BH:(L.upd (8,f,t) ⟨sa,sc⟩) (1,0,0)=⟨some ⟨bn,on,none⟩,cn⟩:=HL1.out;obtain⟨L5,hL5⟩:∃y,L.upd (8,f,t) ⟨sa,sc⟩=y:=⟨_,rfl⟩;obtain⟨D1,hD1⟩:∃y,bK d f t rest=y:=⟨_,rfl⟩;have J2:D1.ah[t]? = some nd:=by rw[<-hD1];exact hnd
 have hN1:D1.ah.length=d.ah.length:=by rw[<-hD1];rfl
 rw[hL5]at BH hM5 JZ hB5;rw[hD1]at hM5 JZ hB5;have HD1:=(show Hid _ from hD1);have HN1:=(show Hid _ from hN1);have b1:=hM5.box.c1;rw[BH,hN1]at b1;dsimp only at b1;obtain⟨q0,q1,_,_,qz⟩:=hM5.own.cells J2 BH;have hb5:bn < W5.heap.size:=zQ4 hbn wO.fr.size;have Ui:Hid (L5 (1,0,0)=⟨some ⟨bn,on,none⟩,cn⟩):=BH;clear hN1 hD1 hL5 c1 c2 c3 hne y3 z3 hW5 BH
 go_wp2_with fail
 obtain⟨W6,hW0⟩:∃y,W5.drew=y:=⟨_,rfl⟩;have hs6:=aY hW0;obtain⟨S7,hS7⟩:∃S0:World->Prop,∀w',S0 w'↔ak W5 w':=⟨_,fun _=>Iff.rfl⟩;have c1:∀y:aA S7,y.w.cell? ⟨bn,on+t*4,none⟩=some (.int .i64 nd.aK):=fun y=>(((hS7 _).1 y.h).av hb5 _).trans q0;have c2:∀y:aA S7,y.w.cell? ⟨w.heap.size,2,none⟩=some (.int .i64 M.st):=fun y=>(((hS7 _).1 y.h).av EY _).trans OI.c2;have qN:=(hS7 W6).2 hs6;have hne:Nonempty (aA S7):=⟨⟨_,qN⟩⟩;have e6:=(hs6.av hb5 _).trans q0;have z6:=(hs6.below.frozen (p:=⟨bn,on+t*4,none⟩) hb5).trans (by have:=qz 0 (by omega);simpa using this);obtain⟨W7,hW7⟩:∃y,W6.setCell ⟨bn,on+t*4,none⟩ (.int .i64 (max nd.aK M.st))=y:=⟨_,rfl⟩;obtain⟨hM7,rT⟩:=hM5.uL J2 Ui.out hs6 (max nd.aK M.st);rw[hW7]at hM7 rT;refine aW (fun w'=>∃x:aA S7,w'=x.w) (by kernel_rfl) ?_;rw[hW0];clear hW0;refine tW 0 rfl ?_;go_big_quiet_op;refine tW 1 rfl ?_;go_big_quiet_op;refine tW 2 rfl ?_;go_big_quiet_op;refine tW 3 rfl ?_;go_big_quiet_op;refine tM 4 rfl (aj qN) ?_;go_big_quiet_op;refine tW 5 rfl ?_;go_big_quiet_op;refine tM 6 rfl (aj qN) ?_;go_big_quiet_op;refine tM 7 rfl (aj qN) ?_;refine nS (v:=.int .i64 (max nd.aK M.st)) ?_ ?_
 ·go_big_quiet_op
  all_goals
   simp[Act.put]
   try omega
 simp only[Act.put,zQ7,zQ8,zQ9];refine tW 8 rfl ?_;go_big_quiet_op;refine tW 9 rfl ?_;go_big_quiet_op;refine aV 10 rfl (by kernel_rfl) ?_;intro K hK;go_simp;refine hK _ _ (fun h=>absurd h (by decide +kernel)) ?_;clear hK K;refine bE (by kernel_rfl) ?_;have hB7:=hB5.step hM7 rT;have hU7:=hU5.aT (rT.up hM5.own _)
 obtain⟨X1,hX1⟩:∃y,({ nd with aK:=max nd.aK M.st }:Nd)=y:=⟨_,rfl⟩
 have OJ:uJ nd M=X1:=hX1;rw[hX1]at hM7 rT hB7;have hla:X1.last=nd.last:=by rw[<-hX1]
 have Fa:(aD D1 t X1).ah[t]? = some X1:=by rw[dI _ J2,if_pos rfl]
 obtain⟨D2,hD2⟩:∃y,aD D1 t X1=y:=⟨_,rfl⟩;rw[hD2]at hM7 rT Fa hB7;obtain⟨hq7,Ro⟩:=rT.beside EY JZ;have J3:=bS OI hq7;have J4:=zQ4 EY rT.fr.size;have Ig:X1.last[gg]? = some lW:=by rw[hla];exact uK
 have hpl':0 < lW.length:=by rw[HLR.out];omega
 obtain⟨u0,u1,_,_,uz⟩:=hM7.own.cells Fa Ui.out;obtain⟨b3,o3,cc3,b4,o4,cc4,hL3,hL4,hb3,hb4,v1,v2,v3⟩:=hM7.own.D8 Fa Ig hpl';rw[hL3,hla]at u1;dsimp only[Sl.v]at u1;have HX1:=(show Hid _ from OJ);have HLA:=(show Hid _ from hla);have HD2:=(show Hid _ from hD2);have HL4:=(show Hid _ from hL4);have m1':=J3.c1;rw[HGG.out]at m1';have Vk:(gg:Int) < (nd.last.length:Int):=by have:=(zQ2.1 uK).1;omega
 have Vl:(f:Int) < (lW.length:Int):=by rw[HLR.out];omega
 have v4:=v2 f lv hlv;have v5:=v3 f (by omega);have hb7:bn < W7.heap.size:=zQ4 hb5 rT.fr.size;clear hX1 OJ hla hD2 hW7 c1 c2 hne e6 z6 q0 q1 b1 hL3 hL4
 go_wp2_with fail
 obtain⟨W8,hW0⟩:∃y,W7.drew=y:=⟨_,rfl⟩;have hs8:=aY hW0;obtain⟨S8,hS8⟩:∃S0:World->Prop,∀w',S0 w'↔ak W7 w':=⟨_,fun _=>Iff.rfl⟩;have c1:∀y:aA S8,y.w.cell? ⟨bn,on+t*4+1,none⟩=some (.slice (some ⟨b3,o3,none⟩) nd.last.length cc3):=fun y=>(((hS8 _).1 y.h).av hb7 _).trans u1;have c2:∀y:aA S8,y.w.cell? ⟨w.heap.size,1,none⟩=some (.int .i64 gg):=fun y=>(((hS8 _).1 y.h).av J4 _).trans m1';have c3:∀y:aA S8,y.w.cell? ⟨b3,o3+gg,none⟩=some (.slice (some ⟨b4,o4,none⟩) lW.length cc4):=fun y=>(((hS8 _).1 y.h).av hb3 _).trans v1;have c4:∀y:aA S8,y.w.cell? ⟨b4,o4+f,none⟩=some (.int .i64 lv):=fun y=>(((hS8 _).1 y.h).av hb4 _).trans v4;have c5:∀y:aA S8,y.w.cell? ⟨w.heap.size,2,none⟩=some (.int .i64 M.st):=fun y=>(((hS8 _).1 y.h).av J4 _).trans J3.c2;have jF:=(hS8 W8).2 hs8;have hne:Nonempty (aA S8):=⟨⟨_,jF⟩⟩;have e8:=(hs8.av hb4 _).trans v4;have z8:=(hs8.below.frozen (p:=⟨b4,o4+f,none⟩) hb4).trans v5;obtain⟨W9,hW9⟩:∃y,W8.setCell ⟨b4,o4+f,none⟩ (.int .i64 (max lv M.st))=y:=⟨_,rfl⟩;obtain⟨hM9,Db⟩:=hM7.OL (k:=f) Fa Ig (by omega) HL4.out hs8 (max lv M.st);rw[hW9]at hM9 Db;refine aW (fun w'=>∃x:aA S8,w'=x.w) (by kernel_rfl) ?_;rw[hW0];clear hW0;refine tW 0 rfl ?_;go_big_quiet_op;refine tW 1 rfl ?_;go_big_quiet_op;refine tW 2 rfl ?_;go_big_quiet_op;refine tM 3 rfl (aj jF) ?_;go_big_quiet_op;refine tW 4 rfl ?_;go_big_quiet_op;refine tM 5 rfl (aj jF) ?_;go_big_quiet_op;refine tW 6 rfl ?_;go_big_quiet_op;refine tM 7 rfl (aj jF) ?_;go_big_quiet_op;refine tW 8 rfl ?_;go_big_quiet_op;refine tW 9 rfl ?_;go_big_quiet_op;refine tW 10 rfl ?_;go_big_quiet_op;refine tW 11 rfl ?_;go_big_quiet_op;refine tM 12 rfl (aj jF) ?_;go_big_quiet_op;refine tW 13 rfl ?_;go_big_quiet_op;refine tM 14 rfl (aj jF) ?_;go_big_quiet_op;refine tW 15 rfl ?_;go_big_quiet_op;refine tM 16 rfl (aj jF) ?_;go_big_quiet_op;refine tW 17 rfl ?_;go_big_quiet_op;refine tW 18 rfl ?_;go_big_quiet_op;refine tM 19 rfl (aj jF) ?_;go_big_quiet_op;refine tW 20 rfl ?_;go_big_quiet_op;refine tM 21 rfl (aj jF) ?_;go_big_quiet_op;refine tM 22 rfl (aj jF) ?_;refine nS (v:=.int .i64 (max lv M.st)) ?_ ?_
 ·go_big_quiet_op
  all_goals
   simp[Act.put]
   try omega
 simp only[Act.put,zQ7,zQ8,zQ9];refine tW 23 rfl ?_;go_big_quiet_op;refine aV 24 rfl (by kernel_rfl) ?_;intro K hK;go_simp;refine hK _ _ (fun h=>absurd h (by decide +kernel)) ?_;clear hK K;refine bE (by kernel_rfl) ?_;have hB9:=hB7.step hM9 Db;have hU9:=hU7.aT (Db.up hM7.own _);obtain⟨dk,hdk⟩:∃y,nC d f t M rest=y:=⟨_,rfl⟩
 have hDc:aD D2 t { X1 with last:=X1.last.set gg (lW.set f (max lv M.st)) }=dk:=by
  rw[<-hdk,HCO.out,HX.out,HX1.out,<-HD2.out,<-HD1.out];unfold aD;simp[List.set_set]
 rw[hDc]at hB9 Db hM9
 have hxk:dk.ah[t]? = some X2:=by
  rw[<-hdk,HCO.out];have h1:(bK d f t rest).ah[t]? = some nd:=hnd;rw[dI _ h1,if_pos rfl]
 obtain⟨hq9,Vm⟩:=Db.beside J4 Ro;have J5:=bS J3 hq9;obtain⟨m0,m1,m2,m3,m4⟩:=J5;have HMC:Hid (fP d f t=eD dk t M):=by unfold Hid;rw[HMV.out,hdk]
 have Uj:lo<=W9.heap.size:=zQ5 hlo hU9.size;clear hDc hdk c1 c2 c3 c4 c5 hne cB e8 z8 hW9 u0 u1 v1 v4 v5 m1';simp only[Nat.zero_add]at m0 m1 m2 m3 m4;cases hmn:M.nul
 ·have HN:Hid (M.nul=false):=hmn;by_cases h0:dV M X2.held=0
  ·have H0:Hid (dV M X2.held=0):=h0
   have nD:=mY lo p t M dk L5 W9 X2 c hB9 hxk hmn Uj _ _ rfl rfl (fun e w'=>e=.returned (.tuple #[])/\Post e w')
    (fun hne w' hS=>absurd H0.out hne)
    (fun h0 w' L' hB' hF=>⟨rfl,HOK.out _ L' w' (by rw[HMC.out];unfold eD sJ;rw[HN.out,hxk];simp only[h0,if_true,Bool.false_eq_true,if_false]) hB' (hU9.aT hF)⟩)
   clear hmn h0
   go_wp2_with (go_at_call 126;refine nD.mono ?_;rintro e w6 hP;obtain⟨rfl,hP'⟩:=hP.out)
   go_end0
   exact hP'
  ·have H0:Hid (¬ dV M X2.held=0):=h0
   have nD:=mY lo p t M dk L5 W9 X2 c hB9 hxk hmn Uj _ _ rfl rfl (fun e w'=>e=.panicked (pan (dV M X2.held))/\Post e w')
    (fun hne w' hS=>⟨rfl,jB.out _ (by rw[HMC.out];unfold eD sJ;rw[HN.out,hxk];simp only[hne,Bool.false_eq_true,if_false]) w' (hU9.aT (hS.up lo _))⟩)
    (fun h0 w' L' hB' hF=>absurd h0 H0.out)
   clear hmn h0
   go_wp2_with (go_at_call 126;refine nD.mono ?_;rintro e w6 hP;obtain⟨rfl,hP'⟩:=hP.out)
   exact⟨rfl,hP'⟩
 ·have HN:Hid (M.nul=true):=hmn;have nD:=rY lo p t M dk L5 W9 X2 c hB9 hxk hmn;clear hmn
  go_wp2_with (go_at_call 126;refine nD.mono ?_;rintro e w6 ⟨rfl,hS⟩)
  go_end0
  exact HOK.out _ L5 _ (by rw[HMC.out];unfold eD;rw[HN.out];rfl) (hB9.ay hS) (hU9.aT (hS.up lo _))
theorem Cc(p:Nat)(f t:Int)(a:Option Addr)(n c:Nat)(w:World)(hc:w.cell? ⟨p,1,none⟩=some (.slice a n c))(hf:f < (n:Int))(ht:t < (n:Int))(hf0:0<=f:=by omega)(ht0:0<=t:=by omega) :
  Calls prog 98 #[.pointer (some ⟨p,0,none⟩),.int .i64 f,.int .i64 t] w fun e w'=>e=.returned (.tuple #[])/\w'=w:=by
 have h1:=iq p f a n c w hc;have h2:=iq p t a n c w hc;rw[decide_eq_true hf0,decide_eq_true hf]at h1;rw[decide_eq_true ht0,decide_eq_true ht]at h2
 go_enter func98,ntmps98
 go_wp2_with fail
 refine h1.mono ?_;rintro e w' ⟨rfl,hw'⟩;obtain rfl:=hw'.symm
 go_wp2_with fail
 refine h2.mono ?_;rintro e w' ⟨rfl,hw'⟩;obtain rfl:=hw'.symm
 go_wp2_with fail
 refine(dJ 4 _).mono ?_;rintro e w' ⟨rfl,hw'⟩;obtain rfl:=hw'.symm
 go_wp2
 go_end0
 exact⟨rfl,rfl⟩
theorem O1(p:Nat)(f t:Int)(a:Option Addr)(n c:Nat)(w:World)(hc:w.cell? ⟨p,1,none⟩=some (.slice a n c))(hn:((decide (0<=f) && decide (f < (n:Int))) && (decide (0<=t) && decide (t < (n:Int))))=false) :
  Calls prog 98 #[.pointer (some ⟨p,0,none⟩),.int .i64 f,.int .i64 t] w fun e w'=>e=.panicked (pan 4)/\w'=w:=by
 have h1:=iq p f a n c w hc;have h2:=iq p t a n c w hc
 cases hA:(decide (0<=f) && decide (f < (n:Int))) with
 | false =>
  rw[hA]at h1;clear hA hn h2
  go_enter func98,ntmps98
  go_wp2_with fail
  refine h1.mono ?_;rintro e w' ⟨rfl,hw'⟩;obtain rfl:=hw'.symm
  go_wp2_with fail
  refine(gH 4 _).mono ?_;rintro e w' ⟨rfl,hw'⟩;obtain rfl:=hw'.symm;exact⟨rfl,rfl,rfl⟩
 | true =>
  rw[hA]at h1 hn;rw[Bool.true_and]at hn;rw[hn]at h2;clear hA hn
  go_enter func98,ntmps98
  go_wp2_with fail
  refine h1.mono ?_;rintro e w' ⟨rfl,hw'⟩;obtain rfl:=hw'.symm
  go_wp2_with fail
  refine h2.mono ?_;rintro e w' ⟨rfl,hw'⟩;obtain rfl:=hw'.symm
  go_wp2_with fail
  refine(gH 4 _).mono ?_;rintro e w' ⟨rfl,hw'⟩;obtain rfl:=hw'.symm;exact⟨rfl,rfl,rfl⟩
theorem P7(lo p qf qt:Nat)(f t:Int)(d:Wd)(L:Lay)(w:World)(hB:dG lo w p d L 0)(hcf:w.cell? ⟨qf,0,none⟩=some (.int .i64 f))(hct:w.cell? ⟨qt,0,none⟩=some (.int .i64 t))(hn:((decide (0<=f) && decide (f < (d.ah.length:Int))) && (decide (0<=t) && decide (t < (d.ah.length:Int))))=false) :
  Calls prog 97 #[.pointer (some ⟨p,0,none⟩),.pointer (some ⟨qf,0,none⟩),.pointer (some ⟨qt,0,none⟩)] w fun e w'=>e=.panicked (pan 4)/\Fr (Up lo fun _=>False) w w':=by
 have b1:=hB.made.box.c1;have hb:=O1 p f t _ _ _ w b1 hn;clear hn
 go_enter func97,ntmps97
 go_wp2_with (go_at_call 98;refine hb.mono ?_;rintro e w' ⟨rfl,hw'⟩;obtain rfl:=hw'.symm)
 exact⟨rfl,rfl,Fr.refl _ _⟩
theorem Kl(lo p qf qt f t:Nat)(d:Wd)(L:Lay)(w:World)(hB:dG lo w p d L 0)(R:aL d)(hqf:qf < lo)(hqt:qt < lo)(hcf:w.cell? ⟨qf,0,none⟩=some (.int .i64 f))(hct:w.cell? ⟨qt,0,none⟩=some (.int .i64 t))(hlo:lo<=w.heap.size)(hf:f < d.ah.length)(ht:t < d.ah.length)(hE:aJ d f t=[]) :
  Calls prog 97 #[.pointer (some ⟨p,0,none⟩),.pointer (some ⟨qf,0,none⟩),.pointer (some ⟨qt,0,none⟩)] w fun e w'=>e=.panicked (pan 7)/\Fr (Up lo fun _=>False) w w':=by
 have hpl:=hB.made.box.lt;have zh:=hB.lop;have zL:qf < w.heap.size:=by omega
 have vF:qt < w.heap.size:=by omega
 have hwn:(f:Int) < (d.aB.length:Int):=by have:=R.yu;omega
 have htn:(t:Int) < (d.ah.length:Int):=by omega
 have hfn:(f:Int) < (d.ah.length:Int):=by omega
 obtain⟨bw2,ow2,cw2,br2,oR2,cr2,hH⟩:=hB.made.qy R.rows hf ht;obtain⟨la,lcc,hL8⟩:∃la lcc,L (8,f,t)=⟨la,lcc⟩:=⟨_,_,rfl⟩;have b1:=hB.made.box.c1;have HE:=(show Hid _ from hE);rw[hE]at hH
 go_enter func97,ntmps97
 go_wp2_with (go_at_call 98;refine(Cc p f t _ _ _ w b1 hfn htn).mono ?_;rintro e w' ⟨rfl,hw'⟩;obtain rfl:=hw'.symm)
 obtain⟨W0,hW0⟩:∃y,w.drew=y:=⟨_,rfl⟩;have hs0:=aY hW0;obtain⟨S0,hS0⟩:∃S0:World->Prop,∀w',S0 w'↔ak w w':=⟨_,fun _=>Iff.rfl⟩;have c1:∀y:aA S0,y.w.cell? ⟨p,2,none⟩=some (.slice (some ⟨bw2,ow2,none⟩) d.aB.length cw2):=fun y=>(hH.ay ((hS0 _).1 y.h)).top;have c2:∀y:aA S0,y.w.cell? ⟨bw2,ow2+f,none⟩=some (.slice (some ⟨br2,oR2,none⟩) d.ah.length cr2):=fun y=>(hH.ay ((hS0 _).1 y.h)).row;have c3:∀y:aA S0,y.w.cell? ⟨br2,oR2+t,none⟩=some (.slice la 0 lcc):=fun y=>by have:=(hH.ay ((hS0 _).1 y.h)).cell;rw[hL8]at this;exact this
 have c4:∀y:aA S0,y.w.cell? ⟨qf,0,none⟩=some (.int .i64 f):=fun y=>(((hS0 _).1 y.h).av zL _).trans hcf;have c5:∀y:aA S0,y.w.cell? ⟨qt,0,none⟩=some (.int .i64 t):=fun y=>(((hS0 _).1 y.h).av vF _).trans hct;have aC:=(hS0 W0).2 hs0;have hne:Nonempty (aA S0):=⟨⟨_,aC⟩⟩;have cB:=aO w;clear hL8 hE b1;refine aW (fun w'=>∃x:aA S0,w'=x.w) (by kernel_rfl) ?_;rw[hW0];clear hW0;refine tW 0 rfl ?_;go_big_quiet_op;refine tW 1 rfl ?_;go_big_quiet_op;refine tW 2 rfl ?_;go_big_quiet_op;refine tW 3 rfl ?_;go_big_quiet_op;refine tM 4 rfl (aj aC) ?_;go_big_quiet_op;refine tM 5 rfl (aj aC) ?_;go_big_quiet_op;refine tW 6 rfl ?_;go_big_quiet_op;refine tM 7 rfl (aj aC) ?_;go_big_quiet_op;refine tM 8 rfl (aj aC) ?_;go_big_quiet_op;refine tW 9 rfl ?_;go_big_quiet_op;refine tM 10 rfl (aj aC) ?_;go_big_quiet_op;refine tM 11 rfl (aj aC) ?_;go_big_quiet_op;refine tW 12 rfl ?_;go_big_quiet_op;refine aV 13 rfl (by kernel_rfl) ?_;intro K hK;go_simp;refine(gH 7 _).mono ?_;rintro e w' ⟨rfl,hw'⟩;obtain rfl:=hw'.symm;dsimp only;exact⟨rfl,rfl,hs0.up lo _⟩
theorem M5(lo p qf qt f t:Nat)(d:Wd)(L:Lay)(w:World)(hB:dG lo w p d L 0)(R:aL d)(hqf:qf < lo)(hqt:qt < lo)(hcf:w.cell? ⟨qf,0,none⟩=some (.int .i64 f))(hct:w.cell? ⟨qt,0,none⟩=some (.int .i64 t))(hlo:lo<=w.heap.size)(hf:f < d.ah.length)(ht:t < d.ah.length)(M:Mg)(rest:List Mg)(hE:aJ d f t=M::rest)(er:Int)(HPM:Hid (fP d f t=.error er)) :
  Calls prog 97 #[.pointer (some ⟨p,0,none⟩),.pointer (some ⟨qf,0,none⟩),.pointer (some ⟨qt,0,none⟩)] w fun e w'=>e=.panicked (pan er)/\Fr (Up lo fun _=>False) w w':=by
 have hpl:=hB.made.box.lt;have zh:=hB.lop;have zL:qf < w.heap.size:=by omega
 have vF:qt < w.heap.size:=by omega
 have hwn:(f:Int) < (d.aB.length:Int):=by have:=R.yu;omega
 have htn:(t:Int) < (d.ah.length:Int):=by omega
 have hfn:(f:Int) < (d.ah.length:Int):=by omega
 obtain⟨bw2,ow2,cw2,br2,oR2,cr2,hH⟩:=hB.made.qy R.rows hf ht;obtain⟨la,lcc,hL8⟩:∃la lcc,L (8,f,t)=⟨la,lcc⟩:=⟨_,_,rfl⟩;have b1:=hB.made.box.c1;have HE:=(show Hid _ from hE);rw[hE]at hH
 go_enter func97,ntmps97
 go_wp2_with (go_at_call 98;refine(Cc p f t _ _ _ w b1 hfn htn).mono ?_;rintro e w' ⟨rfl,hw'⟩;obtain rfl:=hw'.symm)
 obtain⟨W0,hW0⟩:∃y,w.drew=y:=⟨_,rfl⟩;have hs0:=aY hW0;obtain⟨S0,hS0⟩:∃S0:World->Prop,∀w',S0 w'↔ak w w':=⟨_,fun _=>Iff.rfl⟩;have c1:∀y:aA S0,y.w.cell? ⟨p,2,none⟩=some (.slice (some ⟨bw2,ow2,none⟩) d.aB.length cw2):=fun y=>(hH.ay ((hS0 _).1 y.h)).top;have c2:∀y:aA S0,y.w.cell? ⟨bw2,ow2+f,none⟩=some (.slice (some ⟨br2,oR2,none⟩) d.ah.length cr2):=fun y=>(hH.ay ((hS0 _).1 y.h)).row;have c3:∀y:aA S0,y.w.cell? ⟨br2,oR2+t,none⟩=some (.slice la (rest.length+1) lcc):=fun y=>by have:=(hH.ay ((hS0 _).1 y.h)).cell;rw[hL8]at this;exact this
 have c4:∀y:aA S0,y.w.cell? ⟨qf,0,none⟩=some (.int .i64 f):=fun y=>(((hS0 _).1 y.h).av zL _).trans hcf;have c5:∀y:aA S0,y.w.cell? ⟨qt,0,none⟩=some (.int .i64 t):=fun y=>(((hS0 _).1 y.h).av vF _).trans hct;have aC:=(hS0 W0).2 hs0;have hne:Nonempty (aA S0):=⟨⟨_,aC⟩⟩;have cB:=aO w;clear hL8 hE b1;refine aW (fun w'=>∃x:aA S0,w'=x.w) (by kernel_rfl) ?_;rw[hW0];clear hW0;refine tW 0 rfl ?_;go_big_quiet_op;refine tW 1 rfl ?_;go_big_quiet_op;refine tW 2 rfl ?_;go_big_quiet_op;refine tW 3 rfl ?_;go_big_quiet_op;refine tM 4 rfl (aj aC) ?_;go_big_quiet_op;refine tM 5 rfl (aj aC) ?_;go_big_quiet_op;refine tW 6 rfl ?_;go_big_quiet_op;refine tM 7 rfl (aj aC) ?_;go_big_quiet_op;refine tM 8 rfl (aj aC) ?_;go_big_quiet_op;refine tW 9 rfl ?_;go_big_quiet_op;refine tM 10 rfl (aj aC) ?_;go_big_quiet_op;refine tM 11 rfl (aj aC) ?_;go_big_quiet_op;refine tW 12 rfl ?_;go_big_quiet_op;refine aV 13 rfl (by kernel_rfl) ?_;intro K hK;go_simp;refine(dJ 7 _).mono ?_;rintro e w' ⟨rfl,hw'⟩;obtain rfl:=hw'.symm;dsimp only;refine hK _ _ (fun h=>absurd h (by decide +kernel)) ?_;clear hK K;refine bE (by kernel_rfl) ?_;clear c1 c2 c3 c4 c5 hne cB;have P8:=(hs0.av zL _).trans hcf;have M6:=(hs0.av vF _).trans hct;have hlo0:lo<=W0.heap.size:=zQ5 hlo hs0.size;have hB0:=hB.ay hs0;clear hcf hct;have hCo:=Cb lo p f t d L W0 0 hB0 R hf ht M rest HE.out hlo0 (fun e w'=>e=.panicked (pan er)/\Fr (Up lo fun _=>False) W0 w') (fun er' h w' hF=>by rw[HPM.out]at h;cases h;exact⟨rfl,hF⟩) (fun d' L' w' h=>by rw[HPM.out]at h;cases h)
 go_wp2_with (go_at_call 100;refine hCo.mono ?_;rintro e w2 hR;obtain⟨rfl,hF2⟩:=hR.out)
 exact⟨rfl,rfl,(hs0.up lo _).aT hF2⟩
theorem M7(lo p qf qt f t:Nat)(d:Wd)(L:Lay)(w:World)(hB:dG lo w p d L 0)(R:aL d)(hqf:qf < lo)(hqt:qt < lo)(hcf:w.cell? ⟨qf,0,none⟩=some (.int .i64 f))(hct:w.cell? ⟨qt,0,none⟩=some (.int .i64 t))(hlo:lo<=w.heap.size)(hf:f < d.ah.length)(ht:t < d.ah.length)(M:Mg)(rest:List Mg)(hE:aJ d f t=M::rest)(d3:Wd)(HPM:Hid (fP d f t=.ok d3))(er:Int)(her:(er == 0)=false)(HTL:Hid (checked d3 (iH d3 (t:Int))=.error er)) :
  Calls prog 97 #[.pointer (some ⟨p,0,none⟩),.pointer (some ⟨qf,0,none⟩),.pointer (some ⟨qt,0,none⟩)] w fun e w'=>e=.panicked (pan er)/\Fr (Up lo fun _=>False) w w':=by
 have hpl:=hB.made.box.lt;have zh:=hB.lop;have zL:qf < w.heap.size:=by omega
 have vF:qt < w.heap.size:=by omega
 have hwn:(f:Int) < (d.aB.length:Int):=by have:=R.yu;omega
 have htn:(t:Int) < (d.ah.length:Int):=by omega
 have hfn:(f:Int) < (d.ah.length:Int):=by omega
 obtain⟨bw2,ow2,cw2,br2,oR2,cr2,hH⟩:=hB.made.qy R.rows hf ht;obtain⟨la,lcc,hL8⟩:∃la lcc,L (8,f,t)=⟨la,lcc⟩:=⟨_,_,rfl⟩;have b1:=hB.made.box.c1;have HE:=(show Hid _ from hE);rw[hE]at hH
 go_enter func97,ntmps97
 go_wp2_with (go_at_call 98;refine(Cc p f t _ _ _ w b1 hfn htn).mono ?_;rintro e w' ⟨rfl,hw'⟩;obtain rfl:=hw'.symm)
 obtain⟨W0,hW0⟩:∃y,w.drew=y:=⟨_,rfl⟩;have hs0:=aY hW0;obtain⟨S0,hS0⟩:∃S0:World->Prop,∀w',S0 w'↔ak w w':=⟨_,fun _=>Iff.rfl⟩;have c1:∀y:aA S0,y.w.cell? ⟨p,2,none⟩=some (.slice (some ⟨bw2,ow2,none⟩) d.aB.length cw2):=fun y=>(hH.ay ((hS0 _).1 y.h)).top;have c2:∀y:aA S0,y.w.cell? ⟨bw2,ow2+f,none⟩=some (.slice (some ⟨br2,oR2,none⟩) d.ah.length cr2):=fun y=>(hH.ay ((hS0 _).1 y.h)).row;have c3:∀y:aA S0,y.w.cell? ⟨br2,oR2+t,none⟩=some (.slice la (rest.length+1) lcc):=fun y=>by have:=(hH.ay ((hS0 _).1 y.h)).cell;rw[hL8]at this;exact this
 have c4:∀y:aA S0,y.w.cell? ⟨qf,0,none⟩=some (.int .i64 f):=fun y=>(((hS0 _).1 y.h).av zL _).trans hcf;have c5:∀y:aA S0,y.w.cell? ⟨qt,0,none⟩=some (.int .i64 t):=fun y=>(((hS0 _).1 y.h).av vF _).trans hct;have aC:=(hS0 W0).2 hs0;have hne:Nonempty (aA S0):=⟨⟨_,aC⟩⟩;have cB:=aO w;clear hL8 hE b1;refine aW (fun w'=>∃x:aA S0,w'=x.w) (by kernel_rfl) ?_;rw[hW0];clear hW0;refine tW 0 rfl ?_;go_big_quiet_op;refine tW 1 rfl ?_;go_big_quiet_op;refine tW 2 rfl ?_;go_big_quiet_op;refine tW 3 rfl ?_;go_big_quiet_op;refine tM 4 rfl (aj aC) ?_;go_big_quiet_op;refine tM 5 rfl (aj aC) ?_;go_big_quiet_op;refine tW 6 rfl ?_;go_big_quiet_op;refine tM 7 rfl (aj aC) ?_;go_big_quiet_op;refine tM 8 rfl (aj aC) ?_;go_big_quiet_op;refine tW 9 rfl ?_;go_big_quiet_op;refine tM 10 rfl (aj aC) ?_;go_big_quiet_op;refine tM 11 rfl (aj aC) ?_;go_big_quiet_op;refine tW 12 rfl ?_;go_big_quiet_op;refine aV 13 rfl (by kernel_rfl) ?_;intro K hK;go_simp;refine(dJ 7 _).mono ?_;rintro e w' ⟨rfl,hw'⟩;obtain rfl:=hw'.symm;dsimp only;refine hK _ _ (fun h=>absurd h (by decide +kernel)) ?_;clear hK K;refine bE (by kernel_rfl) ?_;clear c1 c2 c3 c4 c5 hne cB;have P8:=(hs0.av zL _).trans hcf;have M6:=(hs0.av vF _).trans hct;have hlo0:lo<=W0.heap.size:=zQ5 hlo hs0.size;have hB0:=hB.ay hs0;clear hcf hct;have hCo:=Cb lo p f t d L W0 0 hB0 R hf ht M rest HE.out hlo0 (fun e w'=>e=.returned (.tuple #[])/\∃L',dG lo w' p d3 L' 0/\Fr (Up lo fun _=>False) W0 w') (fun er' h w' hF=>by rw[HPM.out]at h;cases h) (fun d' L' w' h hB' hF=>by rw[HPM.out]at h;cases h;exact⟨rfl,L',hB',hF⟩)
 go_wp2_with (go_at_call 100;refine hCo.mono ?_;rintro e w5 hR;obtain⟨rfl,L5,hB5,O4⟩:=hR.out)
 have hF5:=(hs0.up lo (fun _=>False)).aT O4;have RI:=(O4.cell (p:=⟨qt,0,none⟩) (zQ4 vF hs0.size) (by rintro(h | h);exact h hqt;exact h)).trans M6;have RJ:qt < w5.heap.size:=zQ4 vF hF5.size;clear hR hCo P8 M6;have oM:=hB5.made.box.lt;have b0:=hB5.made.box.c0;have b1:=hB5.made.box.c1;have b2:=hB5.made.box.c2;obtain⟨U0,hW0⟩:∃y,w5.drew=y:=⟨_,rfl⟩;have hs5:=aY hW0;obtain⟨S5,hS5⟩:∃S0:World->Prop,∀w',S0 w'↔ak w5 w':=⟨_,fun _=>Iff.rfl⟩;have x0:∀y:aA S5,y.w.cell? ⟨p,0,none⟩=some (.slice (L5 (0,0,0)).a d3.au.length (L5 (0,0,0)).cap):=fun y=>(((hS5 _).1 y.h).av oM _).trans b0;have x1:∀y:aA S5,y.w.cell? ⟨p,1,none⟩=some (.slice (L5 (1,0,0)).a d3.ah.length (L5 (1,0,0)).cap):=fun y=>(((hS5 _).1 y.h).av oM _).trans b1;have x2:∀y:aA S5,y.w.cell? ⟨p,2,none⟩=some (.slice (L5 (2,0,0)).a d3.aB.length (L5 (2,0,0)).cap):=fun y=>(((hS5 _).1 y.h).av oM _).trans b2;have x3:∀y:aA S5,y.w.cell? ⟨qt,0,none⟩=some (.int .i64 t):=fun y=>(((hS5 _).1 y.h).av RJ _).trans RI;have Km:=(hS5 U0).2 hs5;have hne:Nonempty (aA S5):=⟨⟨_,Km⟩⟩;have cB:=aO w;have hTN:=jZ (fE L5 d3) d3 t U0 (hB5.made.own.ay hs5).wat;unfold fE at hTN;rw[HTL.out]at hTN;dsimp only at hTN;refine aW (fun w'=>∃x:aA S5,w'=x.w) (by kernel_rfl) ?_;rw[hW0];clear hW0;refine tW 0 rfl ?_;go_big_quiet_op;refine tW 1 rfl ?_;go_big_quiet_op;refine tW 2 rfl ?_;go_big_quiet_op;refine tW 3 rfl ?_;go_big_quiet_op;refine tM 4 rfl (aj Km) ?_;go_big_quiet_op;refine tM 5 rfl (aj Km) ?_;go_big_quiet_op;refine aV 6 rfl (by kernel_rfl) ?_;intro K hK;go_simp;refine hTN.mono ?_;rintro e wT hR;obtain⟨rfl,hFT⟩:=hR.out.1 er rfl;have hST:=hFT.none;dsimp only;refine hK _ _ (fun h=>absurd h (by decide +kernel)) ?_;clear hK K;refine tW 7 rfl ?_;go_big_quiet_op;refine tW 8 rfl ?_;go_big_quiet_op;refine tW 9 rfl ?_;go_big_quiet_op;refine aV 10 rfl (by kernel_rfl) ?_;intro K hK;go_simp;refine(mq p ⟨none,0,0,none,0,0,none,0,0⟩ 0 er her wT).mono ?_;rintro e w' ⟨rfl,hS9⟩;dsimp only;exact⟨rfl,rfl,hF5.aT (((hs5.trans hST).trans hS9).up _ _)⟩
theorem O5(lo p qf qt f t:Nat)(d:Wd)(L:Lay)(w:World)(hB:dG lo w p d L 0)(R:aL d)(hqf:qf < lo)(hqt:qt < lo)(hcf:w.cell? ⟨qf,0,none⟩=some (.int .i64 f))(hct:w.cell? ⟨qt,0,none⟩=some (.int .i64 t))(hlo:lo<=w.heap.size)(hf:f < d.ah.length)(ht:t < d.ah.length)(M:Mg)(rest:List Mg)(hE:aJ d f t=M::rest)(d3:Wd)(HPM:Hid (fP d f t=.ok d3))(d4:Wd)(mm:Int)(hmm:0<=mm/\mm<=100000)(HTL:Hid (checked d3 (iH d3 (t:Int))=.ok (d4,mm))) :
  Calls prog 97 #[.pointer (some ⟨p,0,none⟩),.pointer (some ⟨qf,0,none⟩),.pointer (some ⟨qt,0,none⟩)] w fun e w'=>e=.returned (.tuple #[])/\∃L',dG lo w' p d4 L' mm/\Fr (Up lo fun _=>False) w w':=by
 have hpl:=hB.made.box.lt;have zh:=hB.lop;have zL:qf < w.heap.size:=by omega
 have vF:qt < w.heap.size:=by omega
 have hwn:(f:Int) < (d.aB.length:Int):=by have:=R.yu;omega
 have htn:(t:Int) < (d.ah.length:Int):=by omega
 have hfn:(f:Int) < (d.ah.length:Int):=by omega
 obtain⟨bw2,ow2,cw2,br2,oR2,cr2,hH⟩:=hB.made.qy R.rows hf ht;obtain⟨la,lcc,hL8⟩:∃la lcc,L (8,f,t)=⟨la,lcc⟩:=⟨_,_,rfl⟩;have b1:=hB.made.box.c1;have HE:=(show Hid _ from hE);rw[hE]at hH
 go_enter func97,ntmps97
 go_wp2_with (go_at_call 98;refine(Cc p f t _ _ _ w b1 hfn htn).mono ?_;rintro e w' ⟨rfl,hw'⟩;obtain rfl:=hw'.symm)
 obtain⟨W0,hW0⟩:∃y,w.drew=y:=⟨_,rfl⟩;have hs0:=aY hW0;obtain⟨S0,hS0⟩:∃S0:World->Prop,∀w',S0 w'↔ak w w':=⟨_,fun _=>Iff.rfl⟩;have c1:∀y:aA S0,y.w.cell? ⟨p,2,none⟩=some (.slice (some ⟨bw2,ow2,none⟩) d.aB.length cw2):=fun y=>(hH.ay ((hS0 _).1 y.h)).top;have c2:∀y:aA S0,y.w.cell? ⟨bw2,ow2+f,none⟩=some (.slice (some ⟨br2,oR2,none⟩) d.ah.length cr2):=fun y=>(hH.ay ((hS0 _).1 y.h)).row;have c3:∀y:aA S0,y.w.cell? ⟨br2,oR2+t,none⟩=some (.slice la (rest.length+1) lcc):=fun y=>by have:=(hH.ay ((hS0 _).1 y.h)).cell;rw[hL8]at this;exact this
 have c4:∀y:aA S0,y.w.cell? ⟨qf,0,none⟩=some (.int .i64 f):=fun y=>(((hS0 _).1 y.h).av zL _).trans hcf;have c5:∀y:aA S0,y.w.cell? ⟨qt,0,none⟩=some (.int .i64 t):=fun y=>(((hS0 _).1 y.h).av vF _).trans hct;have aC:=(hS0 W0).2 hs0;have hne:Nonempty (aA S0):=⟨⟨_,aC⟩⟩;have cB:=aO w;clear hL8 hE b1;refine aW (fun w'=>∃x:aA S0,w'=x.w) (by kernel_rfl) ?_;rw[hW0];clear hW0;refine tW 0 rfl ?_;go_big_quiet_op;refine tW 1 rfl ?_;go_big_quiet_op;refine tW 2 rfl ?_;go_big_quiet_op;refine tW 3 rfl ?_;go_big_quiet_op;refine tM 4 rfl (aj aC) ?_;go_big_quiet_op;refine tM 5 rfl (aj aC) ?_;go_big_quiet_op;refine tW 6 rfl ?_;go_big_quiet_op;refine tM 7 rfl (aj aC) ?_;go_big_quiet_op;refine tM 8 rfl (aj aC) ?_;go_big_quiet_op;refine tW 9 rfl ?_;go_big_quiet_op;refine tM 10 rfl (aj aC) ?_;go_big_quiet_op;refine tM 11 rfl (aj aC) ?_;go_big_quiet_op;refine tW 12 rfl ?_;go_big_quiet_op;refine aV 13 rfl (by kernel_rfl) ?_;intro K hK;go_simp;refine(dJ 7 _).mono ?_;rintro e w' ⟨rfl,hw'⟩;obtain rfl:=hw'.symm;dsimp only;refine hK _ _ (fun h=>absurd h (by decide +kernel)) ?_;clear hK K;refine bE (by kernel_rfl) ?_;clear c1 c2 c3 c4 c5 hne cB;have P8:=(hs0.av zL _).trans hcf;have M6:=(hs0.av vF _).trans hct;have hlo0:lo<=W0.heap.size:=zQ5 hlo hs0.size;have hB0:=hB.ay hs0;clear hcf hct;have hCo:=Cb lo p f t d L W0 0 hB0 R hf ht M rest HE.out hlo0 (fun e w'=>e=.returned (.tuple #[])/\∃L',dG lo w' p d3 L' 0/\Fr (Up lo fun _=>False) W0 w') (fun er' h w' hF=>by rw[HPM.out]at h;cases h) (fun d' L' w' h hB' hF=>by rw[HPM.out]at h;cases h;exact⟨rfl,L',hB',hF⟩)
 go_wp2_with (go_at_call 100;refine hCo.mono ?_;rintro e w5 hR;obtain⟨rfl,L5,hB5,O4⟩:=hR.out)
 have hF5:=(hs0.up lo (fun _=>False)).aT O4;have RI:=(O4.cell (p:=⟨qt,0,none⟩) (zQ4 vF hs0.size) (by rintro(h | h);exact h hqt;exact h)).trans M6;have RJ:qt < w5.heap.size:=zQ4 vF hF5.size;clear hR hCo P8 M6;have oM:=hB5.made.box.lt;have b0:=hB5.made.box.c0;have b1:=hB5.made.box.c1;have b2:=hB5.made.box.c2;obtain⟨U0,hW0⟩:∃y,w5.drew=y:=⟨_,rfl⟩;have hs5:=aY hW0;obtain⟨S5,hS5⟩:∃S0:World->Prop,∀w',S0 w'↔ak w5 w':=⟨_,fun _=>Iff.rfl⟩;have x0:∀y:aA S5,y.w.cell? ⟨p,0,none⟩=some (.slice (L5 (0,0,0)).a d3.au.length (L5 (0,0,0)).cap):=fun y=>(((hS5 _).1 y.h).av oM _).trans b0;have x1:∀y:aA S5,y.w.cell? ⟨p,1,none⟩=some (.slice (L5 (1,0,0)).a d3.ah.length (L5 (1,0,0)).cap):=fun y=>(((hS5 _).1 y.h).av oM _).trans b1;have x2:∀y:aA S5,y.w.cell? ⟨p,2,none⟩=some (.slice (L5 (2,0,0)).a d3.aB.length (L5 (2,0,0)).cap):=fun y=>(((hS5 _).1 y.h).av oM _).trans b2;have x3:∀y:aA S5,y.w.cell? ⟨qt,0,none⟩=some (.int .i64 t):=fun y=>(((hS5 _).1 y.h).av RJ _).trans RI;have Km:=(hS5 U0).2 hs5;have hne:Nonempty (aA S5):=⟨⟨_,Km⟩⟩;have cB:=aO w;have hTN:=jZ (fE L5 d3) d3 t U0 (hB5.made.own.ay hs5).wat;unfold fE at hTN;rw[HTL.out]at hTN;dsimp only at hTN;refine aW (fun w'=>∃x:aA S5,w'=x.w) (by kernel_rfl) ?_;rw[hW0];clear hW0;refine tW 0 rfl ?_;go_big_quiet_op;refine tW 1 rfl ?_;go_big_quiet_op;refine tW 2 rfl ?_;go_big_quiet_op;refine tW 3 rfl ?_;go_big_quiet_op;refine tM 4 rfl (aj Km) ?_;go_big_quiet_op;refine tM 5 rfl (aj Km) ?_;go_big_quiet_op;refine aV 6 rfl (by kernel_rfl) ?_;intro K hK;go_simp;refine hTN.mono ?_;rintro e wT hR;obtain⟨L6,rfl,hO6,hFT⟩:=hR.out.2 d4 mm rfl;have hST:=hFT.none;simp only[bF];refine hK _ _ (fun h=>absurd h (by decide +kernel)) ?_;clear hK K;refine tW 7 rfl ?_;go_big_quiet_op;refine tW 8 rfl ?_;go_big_quiet_op;refine tW 9 rfl ?_;go_big_quiet_op;refine aV 10 rfl (by kernel_rfl) ?_;intro K hK;go_simp;have hCt:=oJ (L':=L6) (d':=d4) mm (by omega) hmm (hB5.ay (hs5.trans hST)) (hO6.mono (by have:=hs5.size;have:=hB5.made.box.lt;omega));unfold bF at hCt;refine hCt.mono ?_;rintro e w9 ⟨rfl,hB9,hF9⟩;dsimp only;refine hK _ _ (fun h=>absurd h (by decide +kernel)) ?_;clear hK K;refine bE (by kernel_rfl) ?_;clear x0 x1 x2 x3 hne cB
 go_end0
 rw[Int.zero_add]at hB9;exact⟨rfl,L6,hB9,hF5.aT ((((hs5.trans hST).up _ _).aT (hF9.mono (fun i _ e=>.inl (by have e:i=p:=e;omega)))))⟩
def rZ(d:Wd)(f t:Int):Except Int (Wd × Int) :=
 if inB f 0 ((d.ah.length:Int) - 1) && inB t 0 ((d.ah.length:Int) - 1) then (fP d f.toNat t.toNat).bind fun d3=>(eZ d3 t.toNat).bind fun p=>.ok (p.1,(p.2:Int)) else .error 4
theorem Iq(d:Wd)(f t:Int):fC d f t=checked d ((rZ d f t).bind fun p=>.ok p.1):=by
 unfold fC checked rZ;split
 ·split
  ·rw[G8]
   cases fP d f.toNat t.toNat with
   | error e=>rfl
   | ok d3=>show(eZ d3 t.toNat).bind _=((eZ d3 t.toNat).bind _).bind _;cases eZ d3 t.toNat <;> rfl
  ·rfl
 ·rfl
theorem zY(n:Int)(k:Nat):inB n 0 ((k:Int) - 1)=(decide (0<=n) && decide (n < (k:Int))):=by
 unfold inB;have:(n<=(k:Int) - 1)=(n < (k:Int)):=propext ⟨fun h=>by omega,fun h=>by omega⟩;simp[this,Bool.decide_and]
theorem Ir(lo p qf qt:Nat)(f t:Int)(d:Wd)(L:Lay)(w:World)(hB:dG lo w p d L 0)(R:aL d)(hqf:qf < lo)(hqt:qt < lo)(hcf:w.cell? ⟨qf,0,none⟩=some (.int .i64 f))(hct:w.cell? ⟨qt,0,none⟩=some (.int .i64 t))(hlo:lo<=w.heap.size) :
  Calls prog 97 #[.pointer (some ⟨p,0,none⟩),.pointer (some ⟨qf,0,none⟩),.pointer (some ⟨qt,0,none⟩)] w fun e w'=>Hid (vE lo (fun _=>False) p w (rZ d f t) e w'):=by
 cases hi:(inB f 0 ((d.ah.length:Int) - 1) && inB t 0 ((d.ah.length:Int) - 1)) with
 | false =>
  have e:rZ d f t=.error 4:=by unfold rZ;rw[hi];rfl
  rw[e];rw[zY,zY]at hi;exact(P7 lo p qf qt f t d L w hB hcf hct hi).mono fun _ _ ⟨he,hF⟩=>by rw[he];exact gu hF
 | true =>
  have hi':=hi;simp only[Bool.and_eq_true]at hi';obtain⟨i1,i2⟩:=hi';have f0:0<=f/\f<=(d.ah.length:Int) - 1:=by simpa[inB] using i1
  have t0:0<=t/\t<=(d.ah.length:Int) - 1:=by simpa[inB] using i2
  obtain⟨a,rfl⟩:∃k:Nat,f=(k:Int):=⟨f.toNat,by omega⟩;obtain⟨b,rfl⟩:∃k:Nat,t=(k:Int):=⟨t.toNat,by omega⟩;have ha:a < d.ah.length:=by omega
  have hb:b < d.ah.length:=by omega
  have e:rZ d a b=(fP d a b).bind fun d3=>(eZ d3 b).bind fun p=>.ok (p.1,(p.2:Int)):=by unfold rZ;rw[hi];rfl
  rw[e]
  cases hE:aJ d a b with
  | nil =>
   have e1:fP d a b=.error 7:=by unfold fP;rw[hE]
   rw[e1];exact(Kl lo p qf qt a b d L w hB R hqf hqt hcf hct hlo ha hb hE).mono fun _ _ ⟨he,hF⟩=>by rw[he];exact gu hF
  | cons M rest =>
   cases hP:fP d a b with
   | error er=>exact(M5 lo p qf qt a b d L w hB R hqf hqt hcf hct hlo ha hb M rest hE er hP).mono fun _ _ ⟨he,hF⟩=>by rw[he];exact gu hF
   | ok d3 =>
    obtain⟨m,S⟩:=Bf R ha hb hP;have R3:=qx R S;have hb3:b < d3.ah.length:=by rw[S.alike.n];exact hb
    have hTC:=oN R3 hb3;show Calls _ _ _ _ fun e w'=>Hid (vE lo (fun _=>False) p w ((eZ d3 b).bind fun p=>.ok (p.1,(p.2:Int))) e w')
    cases hT:eZ d3 b with
    | error er =>
     rw[hT]at hTC
     have her:(er == 0)=false:=by rcases yZ hb3 hT with rfl | ⟨rfl,_⟩ <;> rfl
     exact(M7 lo p qf qt a b d L w hB R hqf hqt hcf hct hlo ha hb M rest hE d3 hP er her hTC).mono fun _ _ ⟨he,hF⟩=>by rw[he];exact gu hF
    | ok pp =>
     obtain⟨d4,mm⟩:=pp;rw[hT]at hTC;exact(O5 lo p qf qt a b d L w hB R hqf hqt hcf hct hlo ha hb M rest hE d3 hP d4 mm (wR R3 hT) hTC).mono fun _ _ ⟨he,L',hB',hF⟩=>by rw[he];exact pX hF hB'
theorem tq(x:WV)(d:Wd)(f t:Int)(w:World)(hW:WAt w x d) :
  Calls prog 77 #[.agg #[.slice x.ga x.gl x.gc,.slice x.na x.nl x.nc,.slice x.wa x.wl x.wc],.int .i64 f,.int .i64 t] w fun e w'=>Hid (vW w (fC d f t) e w'):=by
 obtain⟨ga,gl,gc,na,nl,nc,wa,wl,wc⟩:=x;dsimp only;obtain⟨wp,hwp⟩:∃wp,w.alloc (.cells #[.slice ga gl gc,.slice na nl nc,.slice wa wl wc] 31)=wp:=⟨_,rfl⟩;have hPp:aP wp w.heap.size ⟨ga,gl,gc,na,nl,nc,wa,wl,wc⟩:=by rw[<-hwp];exact aP.new w ⟨ga,gl,gc,na,nl,nc,wa,wl,wc⟩ _
 have hSp:=aF hwp;obtain⟨wf,hwf⟩:∃w1,wp.alloc (.cells #[.int .i64 f] 3)=w1:=⟨_,rfl⟩;have RL:=aF hwf;have hfl:wp.heap.size < wf.heap.size:=by rw[<-hwf];simp
 have hfc:wf.cell? ⟨wp.heap.size,0,none⟩=some (.int .i64 f):=by rw[<-hwf];simp[go_sem]
 obtain⟨wq,hwq⟩:∃w1,wf.alloc (.cells #[.int .i64 t] 3)=w1:=⟨_,rfl⟩;have O6:=aF hwq;have Ca:=RL.trans O6;have hql:wf.heap.size < wq.heap.size:=by rw[<-hwq];simp
 have hqc:wq.cell? ⟨wf.heap.size,0,none⟩=some (.int .i64 t):=by rw[<-hwq];simp[go_sem]
 obtain⟨w1,hw1⟩:∃w1,wq.alloc (.cells #[.slice none 0 0,.slice none 0 0,.slice none 0 0] 31)=w1:=⟨_,rfl⟩;have hNB:aU w1 wq.heap.size:=by rw[<-hw1];exact aU.new wq _
 have q9:=aF hw1;have dZ:=Ca.trans q9;have hP1:=hPp.ay dZ;have hS1:=hSp.trans dZ;have hW1:=hW.ay hS1;have p0:=hP1.c0;have p1:=hP1.c1;have p2:=hP1.c2;dsimp only at p0 p1 p2
 have hmf:∀(fn:Fn) (first cap:Array Value) (w:World),(Instr.makeFunc fn first cap).run prog w=.ok (.func fn first cap) w:=fun _ _ _ _=>rfl
 have hDo:=mD ⟨ga,gl,gc,na,nl,nc,wa,wl,wc⟩ d 97 #[.pointer (some ⟨wp.heap.size,0,none⟩),.pointer (some ⟨wf.heap.size,0,none⟩)] (fun _=>False) w1 hW1 (fun _ h=>h.elim) (rZ d f t) (enters_of func97 (by kernel_rfl) rfl)
  (fun hE lo p L y hlo hy hB=>Ir lo p wp.heap.size wf.heap.size f t d L y hB ((cZ d).1 hE) (by have:=q9.size;omega) (by have:=q9.size;omega) ((((O6.trans q9).trans hy).av hfl _).trans hfc) (((q9.trans hy).av hql _).trans hqc) (by have:=hB.made.box.lt;have:=hB.lop;omega))
 dsimp only at hDo;rw[Iq,rW];obtain⟨r,hr⟩:∃r,checked d (rZ d f t)=r:=⟨_,rfl⟩;rw[hr]at hDo ⊢;clear hr hW;have hle:=zQ5 hSp.size Ca.size;have hwx:Hid (∀y,Fr (fun _=>False) w1 y->ak w y/\aU y wq.heap.size):=fun y hy=>⟨hS1.trans hy.none,hNB.ay hy.none⟩
 cases r with
 | error er =>
  go_enter func77,ntmps77
  go_wp2_with fail
  refine hDo.mono ?_;rintro e w2 hR;obtain⟨rfl,hF2⟩:=hR.out.1 er rfl;obtain⟨hS2,hN2⟩:=hwx.out _ hF2;clear hR hw1 hwp hwq hwf;obtain⟨w3,hw3⟩:∃y,w2.alloc (.cells #[.slice none 0 0,.slice none 0 0,.slice none 0 0] 31)=y:=⟨_,rfl⟩;have JX:=aF hw3;have hN3:aU w3 w2.heap.size:=by rw[<-hw3];exact aU.new w2 _
  obtain⟨w4,hw4⟩:∃y,((w3.setCell ⟨w2.heap.size,0,none⟩ (.slice none 0 0)).setCell ⟨w2.heap.size,1,none⟩ (.slice none 0 0)).setCell ⟨w2.heap.size,2,none⟩ (.slice none 0 0)=y:=⟨_,rfl⟩;have hF4:Fr (fun i=>i=w2.heap.size) w3 w4:=by rw[<-hw4];exact aS w3 w2.heap.size _ _ _
  have hS4:ak w2 w4:=hF4.aI JX (fun i hi e=>by omega)
  have hN4:aU w4 w2.heap.size:=by
   rw[<-hw4];exact⟨zQ4 hN3.lt (aS w3 w2.heap.size _ _ _).size,uw hN3.c0,uy hN3.c1,uD hN3.c2,(iC _ _ _ _ _ _).trans hN3.z0,(iC _ _ _ _ _ _).trans hN3.z1,(iC _ _ _ _ _ _).trans hN3.z2⟩
  obtain⟨_,a0,a1,a2,a3,a4,a5⟩:=hN3;obtain⟨_,c0,c1,c2,_,_,_⟩:=hN4;obtain⟨_,r0,r1,r2,r3,r4,r5⟩:=hN2.ay hS4
  go_wp2_with fail
  refine bodyPost_ret (v:=.tuple #[.agg #[.slice none 0 0,.slice none 0 0,.slice none 0 0],.int .i64 er]) ?_ rfl (show Hid _ from iU (cu hle (hS2.trans hS4)));simp[results,results77,go_sem,r0,r1,r2]
 | ok dm =>
  obtain⟨d',m⟩:=dm
  go_enter func77,ntmps77
  go_wp2_with fail
  refine hDo.mono ?_;rintro e w2 hR;obtain⟨L,rfl,hO,hF2⟩:=hR.out.2 d' m rfl;obtain⟨hS2,hN2⟩:=hwx.out _ hF2;clear hR hw1 hwp hwq hwf;simp only[bF];obtain⟨w3,hw3⟩:∃y,w2.alloc (.cells #[.slice (L (0,0,0)).a d'.au.length (L (0,0,0)).cap,.slice (L (1,0,0)).a d'.ah.length (L (1,0,0)).cap,.slice (L (2,0,0)).a d'.aB.length (L (2,0,0)).cap] 31)=y:=⟨_,rfl⟩;have hS3:=aF hw3
  have hB3:kF w3 w2.heap.size L d':=by rw[<-hw3];constructor <;> simp[go_sem]
  obtain⟨_,b0,b1,b2,_,_,_⟩:=hB3;obtain⟨_,r0,r1,r2,r3,r4,r5⟩:=hN2.ay hS3;obtain⟨hO2,hSf⟩:=(hO.ay hS3).result (w0:=w) (p:=wq.heap.size) hNB.lt hle (hS2.trans hS3) hS1.size
  go_wp2_with fail
  refine bodyPost_ret (v:=.tuple #[bF L d',.int .i64 0]) ?_ rfl (show Hid _ from mH hO2 hSf);simp[results,results77,go_sem,r0,r1,r2,bF]
theorem rP(f t:Nat):∀(k:Nat) (d:Wd),eO f t (k+1) d=(eO f t k d).bind fun d'=>fI d' f t
 | 0,d=>by
  show(fI d f t).bind (eO f t 0)=fI d f t
  cases fI d f t <;> rfl
 | k+1,d=>by
  show(fI d f t).bind (eO f t (k+1))=((fI d f t).bind (eO f t k)).bind _
  cases h:fI d f t with
  | error e=>rfl
  | ok d1=>exact rP f t k d1
theorem wJ{f t:Nat}{d:Wd}{e:Int}{k:Nat}(h:eO f t k d=.error e):∀j,eO f t (k+j) d=.error e
 | 0=>h
 | j+1=>by rw[<-Nat.add_assoc,rP,wJ h j];rfl
theorem Fy{d:Wd}{f t:Nat}(R:aL d)(hf:f < d.ah.length)(ht:t < d.ah.length):fC d (f:Int) (t:Int)=fI d f t:=by
 unfold fC;rw[if_pos ((cZ d).2 R),if_pos (by simp[inB];omega),Int.toNat_natCast,Int.toNat_natCast]
def qD(d:Wd)(f t:Int):Except Int (Wd × Int) :=
 if inB f 0 ((d.ah.length:Int) - 1) && inB t 0 ((d.ah.length:Int) - 1) then (pJ d f.toNat t.toNat).bind fun r=>.ok (r.1,(r.2:Int)) else .error 4
theorem O7(lo p qf qt:Nat)(f t:Int)(d:Wd)(L:Lay)(w:World)(hB:dG lo w p d L 0)(hcf:w.cell? ⟨qf,0,none⟩=some (.int .i64 f))(hct:w.cell? ⟨qt,0,none⟩=some (.int .i64 t))(hn:((decide (0<=f) && decide (f < (d.ah.length:Int))) && (decide (0<=t) && decide (t < (d.ah.length:Int))))=false) :
  Calls prog 160 #[.pointer (some ⟨p,0,none⟩),.pointer (some ⟨qf,0,none⟩),.pointer (some ⟨qt,0,none⟩)] w fun e w'=>e=.panicked (pan 4)/\Fr (Up lo fun _=>False) w w':=by
 have b1:=hB.made.box.c1;have hb:=O1 p f t _ _ _ w b1 hn;clear hn
 go_enter func160,ntmps160
 go_wp2_with (go_at_call 98;refine hb.mono ?_;rintro e w' ⟨rfl,hw'⟩;obtain rfl:=hw'.symm)
 exact⟨rfl,rfl,Fr.refl _ _⟩
theorem M8(lo p qf qt f t:Nat)(d:Wd)(L:Lay)(w:World)(hB:dG lo w p d L 0)(R:aL d)(hqf:qf < lo)(hqt:qt < lo)(hcf:w.cell? ⟨qf,0,none⟩=some (.int .i64 f))(hct:w.cell? ⟨qt,0,none⟩=some (.int .i64 t))(hlo:lo<=w.heap.size)(hf:f < d.ah.length)(ht:t < d.ah.length)(N:Nat)(hN:(aJ d f t).length=N)(Post:Ending->World->Prop)
  (jv:∀er,eO f t N d=.error er->∀w',Fr (Up lo fun _=>False) w w'->Post (.panicked (pan er)) w')
  (hOk:∀d' L' w',eO f t N d=.ok d'->dG lo w' p d' L' (N:Int)->Fr (Up lo fun _=>False) w w'->Post (.returned (.tuple #[])) w') :
  Calls prog 160 #[.pointer (some ⟨p,0,none⟩),.pointer (some ⟨qf,0,none⟩),.pointer (some ⟨qt,0,none⟩)] w fun e w'=>Hid (Post e w'):=by
 have jB:=(show Hid _ from jv);have HOK:=(show Hid _ from hOk);have HN:Hid ((aJ d f t).length=N):=hN;have Rj:Hid (N<=40):=by unfold Hid;rw[<-hN];exact R.pK f t
 have HR:Hid (aL d):=R;clear jv hOk hN R;have hpl:=hB.made.box.lt;have zh:=hB.lop;have zL:qf < w.heap.size:=by omega
 have vF:qt < w.heap.size:=by omega
 have htn:(t:Int) < (d.ah.length:Int):=by omega
 have hfn:(f:Int) < (d.ah.length:Int):=by omega
 have b1:=hB.made.box.c1
 have QF:Hid (∀y,Fr (Up lo fun _=>False) w y->y.cell? ⟨qf,0,none⟩=some (.int .i64 f)/\y.cell? ⟨qt,0,none⟩=some (.int .i64 t)):=fun y hy =>
  ⟨(hy.cell (p:=⟨qf,0,none⟩) zL (by rintro(h | h);exact h hqf;exact h)).trans hcf,(hy.cell (p:=⟨qt,0,none⟩) vF (by rintro(h | h);exact h hqt;exact h)).trans hct⟩
 go_enter func160,ntmps160
 go_wp2_with (go_at_call 98;refine(Cc p f t _ _ _ w b1 hfn htn).mono ?_;rintro e w' ⟨rfl,hw'⟩;obtain rfl:=hw'.symm)
 clear b1 hcf hct htn hfn
 go_loopw [] (fun wr=>∃(k:Nat) (dk:Wd) (Lk:Lay),k<=N/\eO f t k d=.ok dk/\dG lo wr p dk Lk (k:Int)/\Fr (Up lo fun _=>False) w wr) (fun wr=>N - (intOf ((wr.cell? ⟨p,3,none⟩).getD (.int .i64 0))).toNat)
 case atStart=>exact⟨0,d,L,Nat.zero_le _,rfl,hB,Fr.refl _ _⟩
 case round =>
  clear hB;obtain⟨wo,rfl⟩:∃wo,wo=wr:=⟨_,rfl⟩;obtain⟨k,dk,Lk,hk,hmv,hSB,hUp⟩:=hrel;have HMV:Hid (eO f t k d=.ok dk):=hmv;have HSB:Hid (dG lo wo p dk Lk (k:Int)):=hSB;have hms:=tZ k d dk HR.out hf ht (by rw[HN.out];exact hk) hmv;have HRK:Hid (aL dk/\dk.ah.length=d.ah.length):=⟨hms.right,hms.grow.alike.n⟩;obtain⟨nn,hnn⟩:∃nn,(aJ dk f t).length=nn:=⟨_,rfl⟩;have HNN:Hid ((aJ dk f t).length=nn):=hnn;have HNK:Hid (nn=N - k):=by unfold Hid;rw[<-hnn,hms.here,List.length_drop,HN.out]
  have hlow:lo<=wo.heap.size:=zQ5 hlo hUp.size;have hfk:f < dk.ah.length:=by rw[HRK.out.2];exact hf
  have htk:t < dk.ah.length:=by rw[HRK.out.2];exact ht
  have hwn:(f:Int) < (dk.aB.length:Int):=by have:=HRK.out.1.yu;omega
  have htn:(t:Int) < (dk.ah.length:Int):=by omega
  have hpl:=hSB.made.box.lt;have P9:qf < wo.heap.size:=by omega
  have Qa:qt < wo.heap.size:=by omega
  obtain⟨q1,q2⟩:=QF.out _ hUp;obtain⟨bw2,ow2,cw2,br2,oR2,cr2,hH⟩:=hSB.made.qy HRK.out.1.rows hfk htk;obtain⟨la,lcc,hL8⟩:∃la lcc,Lk (8,f,t)=⟨la,lcc⟩:=⟨_,_,rfl⟩;have hcell:=hH.cell;rw[hL8,hnn]at hcell;dsimp only[Sl.v]at hcell;have hbr:=hH.ltr;have HK:Hid (k<=N):=hk;clear hmv hms hnn hL8 hk;by_cases hlt:k < N
  ·have hp:(0:Int) < (nn:Int):=by have:=HNK.out;omega
   have HLT:Hid (k < N):=hlt;clear hlt;obtain⟨W0,hW0⟩:∃y,wo.drew=y:=⟨_,rfl⟩;have hs0:=aY hW0;obtain⟨S0,hS0⟩:∃S0:World->Prop,∀w',S0 w'↔ak wo w':=⟨_,fun _=>Iff.rfl⟩;have c1:∀y:aA S0,y.w.cell? ⟨p,2,none⟩=some (.slice (some ⟨bw2,ow2,none⟩) dk.aB.length cw2):=fun y=>(hH.ay ((hS0 _).1 y.h)).top;have c2:∀y:aA S0,y.w.cell? ⟨bw2,ow2+f,none⟩=some (.slice (some ⟨br2,oR2,none⟩) dk.ah.length cr2):=fun y=>(hH.ay ((hS0 _).1 y.h)).row;have c3:∀y:aA S0,y.w.cell? ⟨br2,oR2+t,none⟩=some (.slice la nn lcc):=fun y=>(((hS0 _).1 y.h).av hbr _).trans hcell;have c4:∀y:aA S0,y.w.cell? ⟨qf,0,none⟩=some (.int .i64 f):=fun y=>(((hS0 _).1 y.h).av P9 _).trans q1;have c5:∀y:aA S0,y.w.cell? ⟨qt,0,none⟩=some (.int .i64 t):=fun y=>(((hS0 _).1 y.h).av Qa _).trans q2;have aC:=(hS0 W0).2 hs0;have hne:Nonempty (aA S0):=⟨⟨_,aC⟩⟩;have cB:=aO w
   go_wp2_with fail
   refine aW (fun w'=>∃x:aA S0,w'=x.w) (by kernel_rfl) ?_;rw[hW0];clear hW0;refine tW 0 rfl ?_;go_big_quiet_op;refine tW 1 rfl ?_;go_big_quiet_op;refine tW 2 rfl ?_;go_big_quiet_op;refine tW 3 rfl ?_;go_big_quiet_op;refine tM 4 rfl (aj aC) ?_;go_big_quiet_op;refine tM 5 rfl (aj aC) ?_;go_big_quiet_op;refine tW 6 rfl ?_;go_big_quiet_op;refine tM 7 rfl (aj aC) ?_;go_big_quiet_op;refine tM 8 rfl (aj aC) ?_;go_big_quiet_op;refine tW 9 rfl ?_;go_big_quiet_op;refine tM 10 rfl (aj aC) ?_;go_big_quiet_op;refine tM 11 rfl (aj aC) ?_;go_big_quiet_op;refine tW 12 rfl ?_;go_big_quiet_op;refine bE (by kernel_rfl) ?_;have hp':=hp;clear c1 c2 c3 c4 c5 hne;have hB0:=hSB.ay hs0;have b0:=hB0.made.box.c0;have b1:=hB0.made.box.c1;have b2:=hB0.made.box.c2;have RN:=hB0.made.box.lt;have q1':=(hs0.av P9 _).trans q1;have q2':=(hs0.av Qa _).trans q2;have VI:qf < W0.heap.size:=zQ4 P9 hs0.size;have VJ:qt < W0.heap.size:=zQ4 Qa hs0.size;clear q1 q2 hcell;obtain⟨W1,hW0⟩:∃y,W0.drew=y:=⟨_,rfl⟩;have hs1:=aY hW0;obtain⟨S1,hS1⟩:∃S0:World->Prop,∀w',S0 w'↔ak W0 w':=⟨_,fun _=>Iff.rfl⟩;have x0:∀y:aA S1,y.w.cell? ⟨p,0,none⟩=some (.slice (Lk (0,0,0)).a dk.au.length (Lk (0,0,0)).cap):=fun y=>(((hS1 _).1 y.h).av RN _).trans b0;have x1:∀y:aA S1,y.w.cell? ⟨p,1,none⟩=some (.slice (Lk (1,0,0)).a dk.ah.length (Lk (1,0,0)).cap):=fun y=>(((hS1 _).1 y.h).av RN _).trans b1;have x2:∀y:aA S1,y.w.cell? ⟨p,2,none⟩=some (.slice (Lk (2,0,0)).a dk.aB.length (Lk (2,0,0)).cap):=fun y=>(((hS1 _).1 y.h).av RN _).trans b2;have x3:∀y:aA S1,y.w.cell? ⟨qf,0,none⟩=some (.int .i64 f):=fun y=>(((hS1 _).1 y.h).av VI _).trans q1';have x4:∀y:aA S1,y.w.cell? ⟨qt,0,none⟩=some (.int .i64 t):=fun y=>(((hS1 _).1 y.h).av VJ _).trans q2';have xX:=(hS1 W1).2 hs1;have hne:Nonempty (aA S1):=⟨⟨_,xX⟩⟩;have Kn:=tq (fE Lk dk) dk f t W1 (hB0.made.own.ay hs1).wat;unfold fE at Kn;rw[Fy HRK.out.1 hfk htk]at Kn;dsimp only at Kn;have HM1:Hid (eO f t (k+1) d=fI dk f t):=by unfold Hid;rw[rP,HMV.out];rfl
   obtain⟨r,hr⟩:∃r,fI dk f t=r:=⟨_,rfl⟩;rw[hr]at Kn;have HRR:Hid (eO f t (k+1) d=r):=by unfold Hid;rw[HM1.out,hr]
   have HNZ:Hid (∀e,r=.error e->(e == 0)=false):=fun e h=>by rw[h]at hr;have:=Bz hr;simpa using this
   clear hr b0 b1 b2 q1' q2'
   cases r with
   | error er =>
    have her:=HNZ.out er rfl
    go_wp2_with fail
    refine aW (fun w'=>∃x:aA S1,w'=x.w) (by kernel_rfl) ?_;rw[hW0];clear hW0;refine tW 0 rfl ?_;go_big_quiet_op;refine tW 1 rfl ?_;go_big_quiet_op;refine tW 2 rfl ?_;go_big_quiet_op;refine tW 3 rfl ?_;go_big_quiet_op;refine tM 4 rfl (aj xX) ?_;go_big_quiet_op;refine tM 5 rfl (aj xX) ?_;go_big_quiet_op;refine tM 6 rfl (aj xX) ?_;go_big_quiet_op;refine aV 7 rfl (by kernel_rfl) ?_;intro K hK;go_simp;refine Kn.mono ?_;rintro e wT hR;obtain⟨rfl,hST⟩:=hR.out.1 er rfl;dsimp only;refine hK _ _ (fun h=>absurd h (by decide +kernel)) ?_;clear hK K;refine tW 8 rfl ?_;go_big_quiet_op;refine tW 9 rfl ?_;go_big_quiet_op;refine aV 10 rfl (by kernel_rfl) ?_;intro K hK;go_simp;refine(wP p ⟨none,0,0,none,0,0,none,0,0⟩ er her wT).mono ?_;rintro e w' ⟨rfl,hS9⟩;dsimp only;exact⟨rfl,jB.out er (by have:=wJ HRR.out (N - (k+1));rwa[show k+1+(N - (k+1))=N from by have:=HLT.out;omega]at this) _ (hUp.aT ((((hs0.trans hs1).trans hST).trans hS9).up _ _))⟩
   | ok d2 =>
    go_wp2_with fail
    refine aW (fun w'=>∃x:aA S1,w'=x.w) (by kernel_rfl) ?_;rw[hW0];clear hW0;refine tW 0 rfl ?_;go_big_quiet_op;refine tW 1 rfl ?_;go_big_quiet_op;refine tW 2 rfl ?_;go_big_quiet_op;refine tW 3 rfl ?_;go_big_quiet_op;refine tM 4 rfl (aj xX) ?_;go_big_quiet_op;refine tM 5 rfl (aj xX) ?_;go_big_quiet_op;refine tM 6 rfl (aj xX) ?_;go_big_quiet_op;refine aV 7 rfl (by kernel_rfl) ?_;intro K hK;go_simp;refine Kn.mono ?_;rintro e wT hR;obtain⟨L6,rfl,hO6,hST⟩:=hR.out.2 d2 rfl;simp only[bF];refine hK _ _ (fun h=>absurd h (by decide +kernel)) ?_;clear hK K;refine tW 8 rfl ?_;go_big_quiet_op;refine tW 9 rfl ?_;go_big_quiet_op;refine aV 10 rfl (by kernel_rfl) ?_;intro K hK;go_simp;have hCt:=zi (L':=L6) (d':=d2) (hB0.ay (hs1.trans hST)) (hO6.mono (by have:=hs1.size;have:=hB0.made.box.lt;omega));unfold bF at hCt;refine hCt.mono ?_;rintro e w9 ⟨rfl,hB9,hF9⟩;dsimp only;refine hK _ _ (fun h=>absurd h (by decide +kernel)) ?_;clear hK K;refine bE (by kernel_rfl) ?_;clear x0 x1 x2 x3 x4 hne cB Kn;have cm:=hB9.cm;have zm:=hB9.zm;have hk1:IntKind.i64.wrap ((k:Int)+1)=(k:Int)+1:=IntWalk.i64_in _ (by have:=HLT.out;have:=Rj.out;omega);have hU9:Fr (Up lo fun _=>False) w w9:=hUp.aT ((((hs0.trans hs1).trans hST).up _ _).aT (hF9.mono (fun i _ e=>.inl (by have e:i=p:=e;omega))));obtain⟨wE,hwE⟩:∃y,w9.setCell ⟨p,3,none⟩ (.int .i64 ((k:Int)+1))=y:=⟨_,rfl⟩;have hBE:=hB9.many ((k:Int)+1);rw[hwE]at hBE;have hUE:Fr (Up lo fun _=>False) w wE:=by rw[<-hwE];exact hU9.aT ((Fr.refl _ w9).setCell ⟨p,3,none⟩ _ (fun _=>.inl (by show ¬ p < lo;omega)))
    go_wp2
    go_roundw
    case rel=>exact⟨k+1,d2,L6,HLT.out,HRR.out,by have:=hBE;rwa[show((k+1:Nat):Int)=(k:Int)+1 from by omega],hUE⟩
    case measure =>
     have h1:=hBE.cm;have h2:=HSB.out.cm;have:=HLT.out;simp[h1,h2,intOf];omega
  ·have HE:Hid (N=k):=by unfold Hid;have:=HK.out;omega
   have hp:¬ (0:Int) < (nn:Int):=by have:=HNK.out;omega
   clear hlt;obtain⟨W0,hW0⟩:∃y,wo.drew=y:=⟨_,rfl⟩;have hs0:=aY hW0;obtain⟨S0,hS0⟩:∃S0:World->Prop,∀w',S0 w'↔ak wo w':=⟨_,fun _=>Iff.rfl⟩;have c1:∀y:aA S0,y.w.cell? ⟨p,2,none⟩=some (.slice (some ⟨bw2,ow2,none⟩) dk.aB.length cw2):=fun y=>(hH.ay ((hS0 _).1 y.h)).top;have c2:∀y:aA S0,y.w.cell? ⟨bw2,ow2+f,none⟩=some (.slice (some ⟨br2,oR2,none⟩) dk.ah.length cr2):=fun y=>(hH.ay ((hS0 _).1 y.h)).row;have c3:∀y:aA S0,y.w.cell? ⟨br2,oR2+t,none⟩=some (.slice la nn lcc):=fun y=>(((hS0 _).1 y.h).av hbr _).trans hcell;have c4:∀y:aA S0,y.w.cell? ⟨qf,0,none⟩=some (.int .i64 f):=fun y=>(((hS0 _).1 y.h).av P9 _).trans q1;have c5:∀y:aA S0,y.w.cell? ⟨qt,0,none⟩=some (.int .i64 t):=fun y=>(((hS0 _).1 y.h).av Qa _).trans q2;have aC:=(hS0 W0).2 hs0;have hne:Nonempty (aA S0):=⟨⟨_,aC⟩⟩;have cB:=aO w
   go_wp2_with fail
   refine aW (fun w'=>∃x:aA S0,w'=x.w) (by kernel_rfl) ?_;rw[hW0];clear hW0;refine tW 0 rfl ?_;go_big_quiet_op;refine tW 1 rfl ?_;go_big_quiet_op;refine tW 2 rfl ?_;go_big_quiet_op;refine tW 3 rfl ?_;go_big_quiet_op;refine tM 4 rfl (aj aC) ?_;go_big_quiet_op;refine tM 5 rfl (aj aC) ?_;go_big_quiet_op;refine tW 6 rfl ?_;go_big_quiet_op;refine tM 7 rfl (aj aC) ?_;go_big_quiet_op;refine tM 8 rfl (aj aC) ?_;go_big_quiet_op;refine tW 9 rfl ?_;go_big_quiet_op;refine tM 10 rfl (aj aC) ?_;go_big_quiet_op;refine tM 11 rfl (aj aC) ?_;go_big_quiet_op;refine tW 12 rfl ?_;go_big_quiet_op;refine bE (by kernel_rfl) ?_;clear c1 c2 c3 c4 c5 hne cB
   go_wp2
   go_end0
   have hmv:=HMV.out;rw[<-HE.out]at hmv;exact HOK.out dk Lk _ hmv (by have:=HSB.out.ay hs0;rwa[<-HE.out]at this) (hUp.aT (hs0.up _ _))
theorem Fz(lo p qf qt:Nat)(f t:Int)(d:Wd)(L:Lay)(w:World)(hB:dG lo w p d L 0)(R:aL d)(hqf:qf < lo)(hqt:qt < lo)(hcf:w.cell? ⟨qf,0,none⟩=some (.int .i64 f))(hct:w.cell? ⟨qt,0,none⟩=some (.int .i64 t))(hlo:lo<=w.heap.size) :
  Calls prog 160 #[.pointer (some ⟨p,0,none⟩),.pointer (some ⟨qf,0,none⟩),.pointer (some ⟨qt,0,none⟩)] w fun e w'=>Hid (vE lo (fun _=>False) p w (qD d f t) e w'):=by
 cases hi:(inB f 0 ((d.ah.length:Int) - 1) && inB t 0 ((d.ah.length:Int) - 1)) with
 | false =>
  have e:qD d f t=.error 4:=by unfold qD;rw[hi];rfl
  rw[e];rw[zY,zY]at hi;exact(O7 lo p qf qt f t d L w hB hcf hct hi).mono fun _ _ ⟨he,hF⟩=>by rw[he];exact gu hF
 | true =>
  have hi':=hi;simp only[Bool.and_eq_true]at hi';obtain⟨i1,i2⟩:=hi';have f0:0<=f/\f<=(d.ah.length:Int) - 1:=by simpa[inB] using i1
  have t0:0<=t/\t<=(d.ah.length:Int) - 1:=by simpa[inB] using i2
  obtain⟨a,rfl⟩:∃k:Nat,f=(k:Int):=⟨f.toNat,by omega⟩;obtain⟨b,rfl⟩:∃k:Nat,t=(k:Int):=⟨t.toNat,by omega⟩;have ha:a < d.ah.length:=by omega
  have hb:b < d.ah.length:=by omega
  have e:qD d a b=(eO a b (aJ d a b).length d).bind fun d'=>.ok (d',((aJ d a b).length:Int)):=by
   unfold qD;rw[hi];show((eO a b (aJ d a b).length d).bind _).bind _=_
   cases eO a b (aJ d a b).length d <;> rfl
  rw[e]
  exact M8 lo p qf qt a b d L w hB R hqf hqt hcf hct hlo ha hb _ rfl (fun e w'=>vE lo (fun _=>False) p w ((eO a b (aJ d a b).length d).bind fun d'=>.ok (d',((aJ d a b).length:Int))) e w')
   (fun er h w' hF=>by rw[h];exact gu hF) (fun d' L' w' h hB' hF=>by rw[h];exact pX hF hB')
theorem Fp(x:WV)(d:Wd)(f t:Int)(w:World)(hW:WAt w x d) :
  Calls prog 137 #[.agg #[.slice x.ga x.gl x.gc,.slice x.na x.nl x.nc,.slice x.wa x.wl x.wc],.int .i64 f,.int .i64 t] w fun e w'=>Hid (y8 w (checked d (qD d f t)) e w'):=by
 obtain⟨ga,gl,gc,na,nl,nc,wa,wl,wc⟩:=x;dsimp only;obtain⟨wp,hwp⟩:∃wp,w.alloc (.cells #[.slice ga gl gc,.slice na nl nc,.slice wa wl wc] 31)=wp:=⟨_,rfl⟩;have hPp:aP wp w.heap.size ⟨ga,gl,gc,na,nl,nc,wa,wl,wc⟩:=by rw[<-hwp];exact aP.new w ⟨ga,gl,gc,na,nl,nc,wa,wl,wc⟩ _
 have hSp:=aF hwp;obtain⟨wf,hwf⟩:∃w1,wp.alloc (.cells #[.int .i64 f] 3)=w1:=⟨_,rfl⟩;have RL:=aF hwf;have hfl:wp.heap.size < wf.heap.size:=by rw[<-hwf];simp
 have hfc:wf.cell? ⟨wp.heap.size,0,none⟩=some (.int .i64 f):=by rw[<-hwf];simp[go_sem]
 obtain⟨wq,hwq⟩:∃w1,wf.alloc (.cells #[.int .i64 t] 3)=w1:=⟨_,rfl⟩;have O6:=aF hwq;have Ca:=RL.trans O6;have hql:wf.heap.size < wq.heap.size:=by rw[<-hwq];simp
 have hqc:wq.cell? ⟨wf.heap.size,0,none⟩=some (.int .i64 t):=by rw[<-hwq];simp[go_sem]
 obtain⟨w1,hw1⟩:∃w1,wq.alloc (.cells #[.slice none 0 0,.slice none 0 0,.slice none 0 0] 31)=w1:=⟨_,rfl⟩;have hNB:aU w1 wq.heap.size:=by rw[<-hw1];exact aU.new wq _
 have q9:=aF hw1;have dZ:=Ca.trans q9;have hP1:=hPp.ay dZ;have hS1:=hSp.trans dZ;have hW1:=hW.ay hS1;have p0:=hP1.c0;have p1:=hP1.c1;have p2:=hP1.c2;dsimp only at p0 p1 p2
 have hmf:∀(fn:Fn) (first cap:Array Value) (w:World),(Instr.makeFunc fn first cap).run prog w=.ok (.func fn first cap) w:=fun _ _ _ _=>rfl
 have hDo:=mD ⟨ga,gl,gc,na,nl,nc,wa,wl,wc⟩ d 160 #[.pointer (some ⟨wp.heap.size,0,none⟩),.pointer (some ⟨wf.heap.size,0,none⟩)] (fun _=>False) w1 hW1 (fun _ h=>h.elim) (qD d f t) (enters_of func160 (by kernel_rfl) rfl)
  (fun hE lo p L y hlo hy hB=>Fz lo p wp.heap.size wf.heap.size f t d L y hB ((cZ d).1 hE) (by have:=q9.size;omega) (by have:=q9.size;omega) ((((O6.trans q9).trans hy).av hfl _).trans hfc) (((q9.trans hy).av hql _).trans hqc) (by have:=hB.made.box.lt;have:=hB.lop;omega))
 dsimp only at hDo;obtain⟨r,hr⟩:∃r,checked d (qD d f t)=r:=⟨_,rfl⟩;rw[hr]at hDo ⊢;clear hr hW;have hle:=zQ5 hSp.size Ca.size
 cases r with
 | error er =>
  go_enter func137,ntmps137
  go_wp2_with (go_at_call 96;refine hDo.mono ?_;rintro e w2 hR;obtain⟨rfl,hF2⟩:=hR.out.1 er rfl;have hS2:=hF2.none;obtain⟨lt,r0,r1,r2,r3,r4,r5⟩:=hNB.ay hS2)
  refine bodyPost_ret (v:=.tuple #[.agg #[.slice none 0 0,.slice none 0 0,.slice none 0 0],.int .i64 0,.int .i64 er]) ?_ rfl (show Hid _ from lQ (cu hle (hS1.trans hS2)));simp[results,results137,go_sem,r0,r1,r2]
 | ok dm =>
  obtain⟨d',m⟩:=dm
  go_enter func137,ntmps137
  go_wp2_with (go_at_call 96;refine hDo.mono ?_;rintro e w2 hR;obtain⟨L,rfl,hO,hF2⟩:=hR.out.2 d' m rfl;have hS2:=hF2.none;simp only[bF];obtain⟨lt,r0,r1,r2,r3,r4,r5⟩:=hNB.ay hS2)
  obtain⟨hO2,hSf⟩:=hO.result (w0:=w) (p:=wq.heap.size) hNB.lt hle (hS1.trans hS2) hS1.size;refine bodyPost_ret (v:=.tuple #[bF L d',.int .i64 m,.int .i64 0]) ?_ rfl (show Hid _ from pV hO2 hSf);simp[results,results137,go_sem,r0,r1,r2,bF]
end Go.Proofs.YtediempflagfkaaGreatDoor
