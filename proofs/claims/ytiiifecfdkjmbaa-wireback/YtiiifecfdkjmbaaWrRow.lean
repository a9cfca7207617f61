/- Lemmas. Lemmas. -/
import Derived.Shelf.Pu.Clone
import Derived.Shelf.Lay
import Derived.Ground.MpProg
import Derived.Test.YtiiifecfdkjmbaaWrNum
set_option maxHeartbeats 2000000
namespace Go.Proofs
open Go.Shelf
shelf_lay LaysPu.n25 Mp 25 at Try as Try.Fj
end Go.Proofs
namespace Go.Proofs.Ytiiifecfdkjmbaa
open _root_.Go.Proofs.Try hiding checked
set_option maxRecDepth 8000
open Go.RowKit Go.Shelf
open Pu
set_option linter.unusedVariables false
set_option linter.unusedSimpArgs false
theorem uU (s:ByteArray) (hs:s.size<=1000) (w:World):Calls prog 176 #[.string s] w fun e w'=>e=.returned (.string s)/\Since w w':=by
 go_enter func176,ntmps176
 go_wp2_with (go_at_call 179;refine (AnyPu.stringslite_Clone Try.Fj s w (by omega)).mono ?_;rintro e w' ⟨rfl,hB⟩)
 go_ret
 exact ⟨rfl,⟨hB⟩⟩
structure MBx (w:World) (p:Nat) (m:Mg):Prop where
 lt:p < w.heap.size
 c0:w.cell? ⟨p,0,none⟩=some (.int .i64 m.fr)
 c1:w.cell? ⟨p,1,none⟩=some (.int .i64 m.gr)
 c2:w.cell? ⟨p,2,none⟩=some (.int .i64 m.st)
 c3:w.cell? ⟨p,3,none⟩=some (.bool m.nul)
 c4:w.cell? ⟨p,4,none⟩=some (.string m.body)
 z:∀ o,o < 5->w.frozen? ⟨p,o,none⟩=false
theorem MBx.fr {X:Nat->Prop} {w w':World} {p:Nat} {m:Mg} (h:MBx w p m) (k:Fr X w w') (hX:¬ X p):MBx w' p m :=
 ⟨zQ4 h.lt k.size,(k.cell (p:=⟨p,0,none⟩) h.lt hX).trans h.c0,(k.cell (p:=⟨p,1,none⟩) h.lt hX).trans h.c1,(k.cell (p:=⟨p,2,none⟩) h.lt hX).trans h.c2,(k.cell (p:=⟨p,3,none⟩) h.lt hX).trans h.c3,(k.cell (p:=⟨p,4,none⟩) h.lt hX).trans h.c4,
  fun o ho=>(k.frozen (p:=⟨p,o,none⟩) h.lt hX).trans (h.z o ho)⟩
theorem MBx.new (w:World) (T:TypeId):MBx (w.alloc (.cells #[.int .i64 0,.int .i64 0,.int .i64 0,.bool false,.string ⟨#[]⟩] T)) w.heap.size ⟨0,0,0,false,⟨#[]⟩⟩:=by
 refine ⟨by simp, ?_, ?_, ?_, ?_, ?_,fun o ho=>?_⟩ <;> simp [go_sem]
theorem eD (w:World) (p o:Nat) (v:Value):Fr (fun i=>i=p) w (w.setCell ⟨p,o,none⟩ v):=(Fr.refl (fun i=>i=p) w).setCell ⟨p,o,none⟩ _ (fun _=>rfl)
theorem dA {w:World} {p q o:Nat} {v:Value} (h:q < w.heap.size):q < (w.setCell ⟨p,o,none⟩ v).heap.size:=by simpa using h
theorem MBx.s0 {w:World} {p:Nat} {m:Mg} (h:MBx w p m) (x:Int):MBx (w.setCell ⟨p,0,none⟩ (.int .i64 x)) p ⟨x,m.gr,m.st,m.nul,m.body⟩ :=
 ⟨dA h.lt,dP _ _ _ _ h.c0,(aJ _ _ _ (by decide)).trans h.c1,(aJ _ _ _ (by decide)).trans h.c2,(aJ _ _ _ (by decide)).trans h.c3,(aJ _ _ _ (by decide)).trans h.c4,fun o ho=>by rw [World.frozen?_setCell];exact h.z o ho⟩
theorem MBx.s1 {w:World} {p:Nat} {m:Mg} (h:MBx w p m) (x:Int):MBx (w.setCell ⟨p,1,none⟩ (.int .i64 x)) p ⟨m.fr,x,m.st,m.nul,m.body⟩ :=
 ⟨dA h.lt,(aJ _ _ _ (by decide)).trans h.c0,dP _ _ _ _ h.c1,(aJ _ _ _ (by decide)).trans h.c2,(aJ _ _ _ (by decide)).trans h.c3,(aJ _ _ _ (by decide)).trans h.c4,fun o ho=>by rw [World.frozen?_setCell];exact h.z o ho⟩
theorem MBx.s2 {w:World} {p:Nat} {m:Mg} (h:MBx w p m) (x:Int):MBx (w.setCell ⟨p,2,none⟩ (.int .i64 x)) p ⟨m.fr,m.gr,x,m.nul,m.body⟩ :=
 ⟨dA h.lt,(aJ _ _ _ (by decide)).trans h.c0,(aJ _ _ _ (by decide)).trans h.c1,dP _ _ _ _ h.c2,(aJ _ _ _ (by decide)).trans h.c3,(aJ _ _ _ (by decide)).trans h.c4,fun o ho=>by rw [World.frozen?_setCell];exact h.z o ho⟩
theorem MBx.s3 {w:World} {p:Nat} {m:Mg} (h:MBx w p m) (x:Bool):MBx (w.setCell ⟨p,3,none⟩ (.bool x)) p ⟨m.fr,m.gr,m.st,x,m.body⟩ :=
 ⟨dA h.lt,(aJ _ _ _ (by decide)).trans h.c0,(aJ _ _ _ (by decide)).trans h.c1,(aJ _ _ _ (by decide)).trans h.c2,dP _ _ _ _ h.c3,(aJ _ _ _ (by decide)).trans h.c4,fun o ho=>by rw [World.frozen?_setCell];exact h.z o ho⟩
theorem MBx.s4 {w:World} {p:Nat} {m:Mg} (h:MBx w p m) (x:ByteArray):MBx (w.setCell ⟨p,4,none⟩ (.string x)) p ⟨m.fr,m.gr,m.st,m.nul,x⟩ :=
 ⟨dA h.lt,(aJ _ _ _ (by decide)).trans h.c0,(aJ _ _ _ (by decide)).trans h.c1,(aJ _ _ _ (by decide)).trans h.c2,(aJ _ _ _ (by decide)).trans h.c3,dP _ _ _ _ h.c4,fun o ho=>by rw [World.frozen?_setCell];exact h.z o ho⟩
theorem RdB.off {w:World} {B p o:Nat} {s:List UInt8} {g n:Int} (h:RdB w B s g n) (hp:B≠p) (v:Value):RdB (w.setCell ⟨p,o,none⟩ v) B s g n:=h.fr (eD w p o v) hp
theorem FB.put {B p o:Nat} {w w':World} (h:FB B w w') (hp:w.heap.size<=p) (v:Value):FB B w (w'.setCell ⟨p,o,none⟩ v):=Fr.setCell h ⟨p,o,none⟩ v (fun hl=>absurd hl (by show ¬ p < _;omega))
theorem MBx.all {w:World} {p:Nat} {m:Mg} (h:MBx w p m) (x:Mg):MBx (((((w.setCell ⟨p,0,none⟩ (.int .i64 x.fr)).setCell ⟨p,1,none⟩ (.int .i64 x.gr)).setCell ⟨p,2,none⟩ (.int .i64 x.st)).setCell ⟨p,3,none⟩ (.bool x.nul)).setCell ⟨p,4,none⟩ (.string x.body)) p x :=
 ((((h.s0 x.fr).s1 x.gr).s2 x.st).s3 x.nul).s4 x.body
theorem Dt (w:World) (p:Nat) (a b c d e:Value):Fr (fun i=>i=p) w (((((w.setCell ⟨p,0,none⟩ a).setCell ⟨p,1,none⟩ b).setCell ⟨p,2,none⟩ c).setCell ⟨p,3,none⟩ d).setCell ⟨p,4,none⟩ e) :=
 (((((Fr.refl (fun i=>i=p) w).setCell ⟨p,0,none⟩ a (fun _=>rfl)).setCell ⟨p,1,none⟩ b (fun _=>rfl)).setCell ⟨p,2,none⟩ c (fun _=>rfl)).setCell ⟨p,3,none⟩ d (fun _=>rfl)).setCell ⟨p,4,none⟩ e (fun _=>rfl)
theorem Cx (B n:Nat) (hn:n<=1000) (s:List UInt8) (g m:Int) (w:World) (h:RdB w B s g m) :
  Calls prog 169 #[.pointer (some ⟨B,0,none⟩),.int .i64 n] w fun e w'=>FB B w w'/\((ou n s=none/\e=.panicked (pan 1))\/∃ x r,ou n s=some (x,r)/\e=.returned (.string (bs x))/\x.length=n/\RdB w' B r g m):=by
 cases hp:ou n s with
 | none=>exact (zB B n hn s g m w h hp).mono fun e w' ⟨he,hw⟩=>⟨by rw [hw];exact Fr.refl _ _,.inl ⟨rfl,he⟩⟩
 | some p =>
  obtain ⟨t,r⟩:=p
  exact (zC B n hn s t r g m w h hp).mono fun e w' ⟨he,hR,hF⟩=>⟨hF,.inr ⟨t,r,rfl,he,(jG.1 hp).2,hR⟩⟩
set_option maxRecDepth 8000 in
theorem wX (B:Nat) (s:List UInt8) (g m:Int) (w:World) (h:RdB w B s g m) :
  Calls prog 171 #[.pointer (some ⟨B,0,none⟩)] w fun e w'=>FB B w w'/\((iR s=none/\e=.panicked (pan 1))\/∃ x r,iR s=some (x,r)/\e=.returned (.agg #[.int .i64 x.fr,.int .i64 x.gr,.int .i64 x.st,.bool x.nul,.string x.body])/\RdB w' B r g m):=by
 obtain ⟨w1,hw1⟩:∃ y,w.alloc (.cells #[.int .i64 0,.int .i64 0,.int .i64 0,.bool false,.string ⟨#[]⟩] 48)=y:=⟨_,rfl⟩
 obtain ⟨w2,hw2⟩:∃ y,w1.alloc (.cells #[.int .i64 0,.int .i64 0,.int .i64 0,.bool false,.string ⟨#[]⟩] 48)=y:=⟨_,rfl⟩
 have hS1:=au hw1
 have hS2:=au hw2
 have hl1:w.heap.size < w1.heap.size:=by rw [<-hw1];simp
 have hA1:MBx w1 w.heap.size ⟨0,0,0,false,⟨#[]⟩⟩:=by rw [<-hw1];exact MBx.new w _
 have hA2:=hA1.fr (hS2.fr fun _=>False) (fun x=>x)
 have hP2:MBx w2 w1.heap.size ⟨0,0,0,false,⟨#[]⟩⟩:=by rw [<-hw2];exact MBx.new w1 _
 have hR2:=h.since (hS1.trans hS2)
 have hF2:FB B w w2:=(hS1.trans hS2).fb
 have hBp:B≠w1.heap.size:=by have:=h.lt;omega
 have hBa:B≠w.heap.size:=by have:=h.lt;omega
 clear hA1
 go_enter func171,ntmps171
 have hQ0:=hR2
 have hF0:=hF2
 have hP0:=hP2
 have hA0:=hA2
 clear hR2 hF2 hP2 hA2
 go_wp2_with (first
  | (go_at_call 128;refine (gW B s g m w2 hQ0).mono ?_;rintro e W1 ⟨hG1,(⟨hn,rfl⟩ | ⟨x1,r1,hs1,rfl,hx1,hR1⟩)⟩;have HNO:Hid (iR s=none):=(by unfold Hid iR;rw [hn];rfl);have HFX:FB B w W1:=FB.trans' hF0 hG1;rotate_left;have wZ:FB B w W1:=FB.trans' hF0 hG1;have pI:=hP0.fr hG1 (Ne.symm hBp);have xg:=hA0.fr hG1 (Ne.symm hBa);obtain ⟨U1,hU1⟩:∃ y,W1.setCell ⟨w1.heap.size,0,none⟩ (.int .i64 x1)=y:=⟨_,rfl⟩;have hP1:=pI.s0 x1;have hA1:=xg.fr (eD W1 w1.heap.size 0 (.int .i64 x1)) (by omega);have hQ1:=RdB.off (p:=w1.heap.size) (o:=0) hR1 hBp (.int .i64 x1);have hF1:=FB.put (p:=w1.heap.size) (o:=0) wZ (by omega) (.int .i64 x1);rw [hU1] at hP1 hA1 hQ1 hF1;have q1:=pI.c0;have z1:=pI.z 0 (by decide);clear pI xg wZ)
  | (go_at_call 128;refine (gW B r1 g m U1 hQ1).mono ?_;rintro e W2 ⟨hG2,(⟨hn,rfl⟩ | ⟨x2,r2,hs2,rfl,hx2,hR2⟩)⟩;have HNO:Hid (iR s=none):=(by unfold Hid iR;rw [hs1,ak,hn];rfl);have HFX:FB B w W2:=FB.trans' hF1 hG2;rotate_left;have xk:FB B w W2:=FB.trans' hF1 hG2;have nW:=hP1.fr hG2 (Ne.symm hBp);have xq:=hA1.fr hG2 (Ne.symm hBa);obtain ⟨U2,hU2⟩:∃ y,W2.setCell ⟨w1.heap.size,1,none⟩ (.int .i64 x2)=y:=⟨_,rfl⟩;have hP2:=nW.s1 x2;have hA2:=xq.fr (eD W2 w1.heap.size 1 (.int .i64 x2)) (by omega);have hQ2:=RdB.off (p:=w1.heap.size) (o:=1) hR2 hBp (.int .i64 x2);have hF2:=FB.put (p:=w1.heap.size) (o:=1) xk (by omega) (.int .i64 x2);rw [hU2] at hP2 hA2 hQ2 hF2;have q2:=nW.c1;have z2:=nW.z 1 (by decide);clear nW xq xk)
  | (go_at_call 175;refine (Cy B r2 g m U2 hQ2).mono ?_;rintro e W3 ⟨hG3,(⟨hn,rfl⟩ | ⟨x3,r3,hs3,rfl,hR3⟩)⟩;have HNO:Hid (iR s=none):=(by unfold Hid iR;rw [hs1,ak,hs2,ak,hn];rfl);have HFX:FB B w W3:=FB.trans' hF2 hG3;rotate_left;have xu:FB B w W3:=FB.trans' hF2 hG3;have pJ:=hP2.fr hG3 (Ne.symm hBp);have xw:=hA2.fr hG3 (Ne.symm hBa);obtain ⟨U3,hU3⟩:∃ y,W3.setCell ⟨w1.heap.size,3,none⟩ (.bool x3)=y:=⟨_,rfl⟩;have hP3:=pJ.s3 x3;have hA3:=xw.fr (eD W3 w1.heap.size 3 (.bool x3)) (by omega);have hQ3:=RdB.off (p:=w1.heap.size) (o:=3) hR3 hBp (.bool x3);have hF3:=FB.put (p:=w1.heap.size) (o:=3) xu (by omega) (.bool x3);rw [hU3] at hP3 hA3 hQ3 hF3;have q3:=pJ.c3;have z3:=pJ.z 3 (by decide);clear pJ xw xu)
  | (go_at_call 128;refine (gW B r3 g m U3 hQ3).mono ?_;rintro e W4 ⟨hG4,(⟨hn,rfl⟩ | ⟨x4,r4,hs4,rfl,hx4,hR4⟩)⟩;have HNO:Hid (iR s=none):=(by unfold Hid iR;rw [hs1,ak,hs2,ak,hs3,ak,hn];rfl);have HFX:FB B w W4:=FB.trans' hF3 hG4;rotate_left;have xA:FB B w W4:=FB.trans' hF3 hG4;have pK:=hP3.fr hG4 (Ne.symm hBp);have xB:=hA3.fr hG4 (Ne.symm hBa);obtain ⟨n4,rfl⟩:∃ n:Nat,x4=(n:Int):=⟨x4.toNat,by omega⟩;have hP4:=pK;have hA4:=xB;have hQ4:=hR4;have hF4:=xA;clear pK xB xA)
  | (go_at_call 169;refine (Cx B n4 (by omega) r4 g m W4 hQ4).mono ?_;rintro e W5 ⟨hG5,(⟨hn,rfl⟩ | ⟨x5,r5,hs5,rfl,hl5,hR5⟩)⟩;have HNO:Hid (iR s=none):=(by unfold Hid iR;rw [hs1,ak,hs2,ak,hs3,ak,hs4,ak,Int.toNat_natCast,hn];rfl);have HFX:FB B w W5:=FB.trans' hF4 hG5;rotate_left;have Jm:FB B w W5:=FB.trans' hF4 hG5;have Jo:=hP4.fr hG5 (Ne.symm hBp);have Jq:=hA4.fr hG5 (Ne.symm hBa))
  | (go_at_call 176;refine (uU (bs x5) (by rw [iL];omega) W5).mono ?_;rintro e W6 ⟨rfl,hG6⟩;have Jr:=hR5.since hG6;have Cz:FB B w W6:=FB.trans' Jm hG6.fb;have uV:=Jo.fr (hG6.fr fun _=>False) (fun x=>x);have CB:=Jq.fr (hG6.fr fun _=>False) (fun x=>x);obtain ⟨U5,hU5⟩:∃ y,W6.setCell ⟨w1.heap.size,4,none⟩ (.string (bs x5))=y:=⟨_,rfl⟩;have hP5:=uV.s4 (bs x5);have hA5:=CB.fr (eD W6 w1.heap.size 4 (.string (bs x5))) (by omega);have hQ5:=RdB.off (p:=w1.heap.size) (o:=4) Jr hBp (.string (bs x5));have hF5:=FB.put (p:=w1.heap.size) (o:=4) Cz (by omega) (.string (bs x5));rw [hU5] at hP5 hA5 hQ5 hF5;have q5:=uV.c4;have z5:=uV.z 4 (by decide);clear uV CB Cz)
  | (go_at_call 152;refine (qZ B r5 g m U5 hQ5).mono ?_;rintro e W7 ⟨hG7,(⟨hn,rfl⟩ | ⟨x7,r7,hs7,rfl,hR7⟩)⟩;have HNO:Hid (iR s=none):=(by unfold Hid iR;rw [hs1,ak,hs2,ak,hs3,ak,hs4,ak,Int.toNat_natCast,hs5,ak,hn];rfl);have HFX:FB B w W7:=FB.trans' hF5 hG7;rotate_left;have G6:FB B w W7:=FB.trans' hF5 hG7;have Du:=hP5.fr hG7 (Ne.symm hBp);have G7:=hA5.fr hG7 (Ne.symm hBa);obtain ⟨U7,hU7⟩:∃ y,W7.setCell ⟨w1.heap.size,2,none⟩ (.int .i64 x7)=y:=⟨_,rfl⟩;have hP7:=Du.s2 x7;have hA7:=G7.fr (eD W7 w1.heap.size 2 (.int .i64 x7)) (by omega);have hQ7:=RdB.off (p:=w1.heap.size) (o:=2) hR7 hBp (.int .i64 x7);have hF7:=FB.put (p:=w1.heap.size) (o:=2) G6 (by omega) (.int .i64 x7);rw [hU7] at hP7 hA7 hQ7 hF7;have q7:=Du.c2;have z7:=Du.z 2 (by decide);clear Du G7 G6;have hAV:=hA7.all ⟨x1,x2,x7,x3,bs x5⟩;obtain ⟨_,e0,e1,e2,e3,e4,_⟩:=hP7;obtain ⟨_,a0,a1,a2,a3,a4,az⟩:=hA7;have y0:=az 0 (by decide);have y1:=az 1 (by decide);have y2:=az 2 (by decide);have y3:=az 3 (by decide);have y4:=az 4 (by decide);obtain ⟨V,hV⟩:∃ y,(((((U7.setCell ⟨w.heap.size,0,none⟩ (.int .i64 x1)).setCell ⟨w.heap.size,1,none⟩ (.int .i64 x2)).setCell ⟨w.heap.size,2,none⟩ (.int .i64 x7)).setCell ⟨w.heap.size,3,none⟩ (.bool x3)).setCell ⟨w.heap.size,4,none⟩ (.string (bs x5)))=y:=⟨_,rfl⟩;have hpf:=Dt U7 w.heap.size (.int .i64 x1) (.int .i64 x2) (.int .i64 x7) (.bool x3) (.string (bs x5));have hFV:FB B w _:=Fr.trans hF7 hpf (fun _ _ e=>e) (fun i hi e=>absurd e (by omega));have hQV:=hQ7.fr hpf hBa;rw [hV] at hAV hFV hQV;obtain ⟨_,v0,v1,v2,v3,v4,_⟩:=hAV))
 all_goals first | exact ⟨rfl,HFX,.inl ⟨HNO.out,rfl⟩⟩ | skip
 refine bodyPost_ret (v:=.agg #[.int .i64 x1,.int .i64 x2,.int .i64 x7,.bool x3,.string (bs x5)]) ?_ rfl ?_
 ·simp [results,results171,go_sem,v0,v1,v2,v3,v4]
 refine ⟨hFV,.inr ⟨⟨x1,x2,x7,x3,bs x5⟩,r7, ?_,rfl,hQV⟩⟩
 unfold iR;rw [hs1,ak,hs2,ak,hs3,ak,hs4,ak,Int.toNat_natCast,hs5,ak,hs7,ak];rfl
def Els {α:Type} (V:World->Value->α->Prop) (n0:Nat) (w:World) (s:Sl) (vs:List Value) (xs:List α):Prop :=
 vs.length=xs.length/\∀ (i:Nat) (v:Value) (x:α),vs[i]? = some v->xs[i]? = some x->∃ lo hi,n0<=lo/\Sg lo hi (fun W=>V W v x) w/\∀ b,s.blk=some b->¬ (lo<=b/\b < hi)
theorem Els.nil {α:Type} (V:World->Value->α->Prop) (n0:Nat) (w:World) (s:Sl):Els V n0 w s [] []:=⟨rfl,fun i v x h=>by simp at h⟩
theorem Els.fr {α:Type} {V:World->Value->α->Prop} {n0:Nat} {w w':World} {s:Sl} {vs:List Value} {xs:List α} (h:Els V n0 w s vs xs) {X:Nat->Prop} (k:Fr X w w') (hX:∀ i,n0<=i->¬ X i):Els V n0 w' s vs xs :=
 ⟨h.1,fun i v x hv hx=>by obtain ⟨lo,hi,h1,h2,h3⟩:=h.2 i v x hv hx;exact ⟨lo,hi,h1,h2.fr k (fun j hj _=>hX j (by omega)),h3⟩⟩
theorem Els.app {α:Type} {V:World->Value->α->Prop} {n0:Nat} {w w':World} {s s':Sl} {vs:List Value} {xs:List α} (h:Els V n0 w s vs xs) {v:Value} {x:α} {lo hi:Nat} (hlo:n0<=lo) (hv:Sg lo hi (fun W=>V W v x) w)
  (hs:∀ b,s.blk=some b->b < lo) (k:Fr (fun i=>s.blk=some i) w w') (hs':s'=s\/(Since w w'/\s'.blk=some w.heap.size)):Els V n0 w' s' (vs++[v]) (xs++[x]):=by
 refine ⟨by simp [h.1],fun i u y hu hy=>?_⟩
 by_cases hi:i < vs.length
 ·rw [List.getElem?_append_left hi] at hu
  rw [List.getElem?_append_left (by rw [<-h.1];exact hi)] at hy
  obtain ⟨l,r,h1,h2,h3⟩:=h.2 i u y hu hy
  refine ⟨l,r,h1,h2.fr k (fun j a b e=>h3 j e ⟨a,b⟩),fun b hb=>?_⟩
  rcases hs' with rfl | ⟨_,e⟩
  ·exact h3 b hb
  ·rw [e] at hb;cases hb;have:=h2.1;omega
 ·obtain rfl:i=vs.length:=by
   have:=(zQ2.1 hu).1
   simp at this;omega
  rw [List.getElem?_append_right (Nat.le_refl _)] at hu
  rw [List.getElem?_append_right (by rw [h.1];exact Nat.le_refl _)] at hy
  simp at hu
  simp [h.1] at hy
  subst hu hy
  refine ⟨lo,_,hlo,hv.fr k (fun j a b e=>by have:=hs j e;omega),fun b hb=>?_⟩
  rcases hs' with rfl | ⟨_,e⟩
  ·have:=hs b hb;omega
  ·rw [e] at hb;cases hb;have:=hv.1;omega
def bI (vs:List Value):List Value:=vs.flatMap fun v=>v.cells.toList
theorem fG (vs:List Value) (v:Value):bI (vs++[v])=bI vs++v.cells.toList:=by unfold bI;simp
theorem Els.read {α:Type} {V:World->Value->α->Prop} {n0:Nat} {w:World} {s:Sl} {vs:List Value} {xs:List α} {sz n:Nat} (h:Els V n0 w s vs xs) (hR:Row w n0 sz s n (bI vs)) {Q:World->Prop}
  (hQ:∀ W,Row W n0 sz s n (bI vs)->(∀ (i:Nat) (v:Value) (x:α),vs[i]? = some v->xs[i]? = some x->V W v x)->Q W):Sg n0 w.heap.size Q w:=by
 refine ⟨Nat.le_refl _,fun W hW hk=>hQ W (hR.kept hW fun b hb=>?_) (fun i v x hv hx=>?_)⟩
 ·obtain ⟨_,h1,h2,_⟩:=hR.aR hb
  exact hk b h1 h2
 ·obtain ⟨lo,hi,h1,h2,_⟩:=h.2 i v x hv hx
  exact h2.2 W (zQ5 h2.1 hW) (fun j a b=>hk j (by omega) (zQ4 b h2.1))
def VI:World->Value->Int->Prop:=fun _ v x=>v=.int .i64 x
def VM:World->Value->Mg->Prop:=fun _ v x=>v=.agg #[.int .i64 x.fr,.int .i64 x.gr,.int .i64 x.st,.bool x.nul,.string x.body]
def VN:World->Value->Nd->Prop:=fun w v x=>∃ l h t:Value,(l.oneCell'=true/\h.oneCell'=true/\t.oneCell'=true)/\v=.agg #[.int .i64 x.clock,l,h,t]/\bW iq w l x.last/\dI w h x.held/\dI w t x.told
def yQ (w:World) (v:Value) (xs:List Nd):Prop:=∃ a cap,v=.slice a xs.length cap/\xs.length<=cap/\Nodes w a xs.length xs
theorem q9:∀ (vs:List Value) (xs:List Int),vs.length=xs.length->(∀ (i:Nat) (v:Value) (x:Int),vs[i]? = some v->xs[i]? = some x->v=.int .i64 x)->bI vs=xs.map (.int .i64)
 | [],[],_,_=>rfl
 | [],_::_,h,_=>by cases h
 | _::_,[],h,_=>by cases h
 | v::vs,x::xs,h,hv=>by
  have h0:=hv 0 v x rfl rfl
  have hr:=q9 vs xs (by simpa using h) (fun i v x a b=>hv (i+1) v x (by simpa using a) (by simpa using b))
  unfold bI at hr ⊢
  rw [List.flatMap_cons,hr,h0]
  rfl
theorem ru {w:World}:∀ (vs:List Value) (xs:List Mg),vs.length=xs.length->(∀ (i:Nat) (v:Value) (x:Mg),vs[i]? = some v->xs[i]? = some x->VM w v x)->bI vs=flat xs
 | [],[],_,_=>rfl
 | [],_::_,h,_=>by cases h
 | _::_,[],h,_=>by cases h
 | v::vs,x::xs,h,hv=>by
  have h0:=hv 0 v x rfl rfl
  have hr:=ru vs xs (by simpa using h) (fun i v x a b=>hv (i+1) v x (by simpa using a) (by simpa using b))
  unfold bI flat at hr ⊢
  rw [List.flatMap_cons,List.flatMap_cons,hr,h0]
  rfl
theorem wV {W:World} {n0:Nat} {s:Sl} {vs:List Value} {xs:List Int} (hR:Row W n0 1 s xs.length (bI vs)) (hl:vs.length=xs.length) (hm:xs.length<=100000) (hv:∀ (i:Nat) (v:Value) (x:Int),vs[i]? = some v->xs[i]? = some x->VI W v x):iq W (.slice s.a xs.length s.cap) xs:=by
 refine ⟨_,_,rfl,hR.cap,rfl,by omega,fun hp=>?_⟩
 obtain ⟨b,off,e,_,hb,_,hc⟩:=hR.body (by have:=hR.cap;omega)
 refine ⟨b,off,e,hb,fun i hi=>hc i _ ?_⟩
 rw [q9 vs xs hl hv,List.getElem?_map]
 simp [hi]
theorem Cw {W:World} {n0:Nat} {s:Sl} {vs:List Value} {xs:List Mg} (hR:Row W n0 5 s xs.length (bI vs)) (hl:vs.length=xs.length) (hm:xs.length<=100000) (hv:∀ (i:Nat) (v:Value) (x:Mg),vs[i]? = some v->xs[i]? = some x->VM W v x):dI W (.slice s.a xs.length s.cap) xs:=by
 refine ⟨_,_,rfl,hR.cap,rfl,by omega,fun hp=>?_⟩
 obtain ⟨b,off,e,_,hb,_,hc⟩:=hR.body (by have:=hR.cap;omega)
 refine ⟨b,off,e,hb,fun j u hj=>hc j u ?_⟩
 rw [ru (w:=W) vs xs hl hv];exact hj
theorem cells_one:∀ (vs:List Value),(∀ v∈vs,v.cells.toList=[v])->bI vs=vs
 | [],_=>rfl
 | v::vs,h=>by
  have hr:=cells_one vs (fun u hu=>h u (by simp [hu]))
  unfold bI at hr ⊢
  rw [List.flatMap_cons,hr,h v (by simp)];rfl
theorem nE {α:Type} {P:World->Value->α->Prop} {W:World} {n0:Nat} {s:Sl} {vs:List Value} {xs:List α} (hP:∀ v x,P W v x->v.cells.toList=[v]) (hR:Row W n0 1 s xs.length (bI vs)) (hl:vs.length=xs.length) (hm:xs.length<=100000)
  (hv:∀ (i:Nat) (v:Value) (x:α),vs[i]? = some v->xs[i]? = some x->P W v x):bW P W (.slice s.a xs.length s.cap) xs:=by
 have hall:∀ v∈vs,v.cells.toList=[v]:=by
  intro v hv'
  obtain ⟨i,hi⟩:=List.getElem?_of_mem hv'
  obtain ⟨x,hx⟩:∃ x,xs[i]? = some x:=⟨_,zQ1 (by rw [<-hl];exact (zQ2.1 hi).1)⟩
  exact hP v x (hv i v x hi hx)
 refine ⟨_,_,rfl,hR.cap,rfl,by omega,fun hp=>?_⟩
 obtain ⟨b,off,e,_,hb,_,hc⟩:=hR.body (by have:=hR.cap;omega)
 refine ⟨b,off,e,hb,fun i x hx=>?_⟩
 obtain ⟨v,hi⟩:∃ v,vs[i]? = some v:=⟨_,zQ1 (by rw [hl];exact (zQ2.1 hx).1)⟩
 exact ⟨v,hc i v (by rw [cells_one vs hall];exact hi),hv i v x hi hx⟩
theorem pz {W:World}:∀ (vs:List Value) (xs:List Nd),vs.length=xs.length->(∀ (i:Nat) (v:Value) (x:Nd),vs[i]? = some v->xs[i]? = some x->VN W v x) ->
  ∀ (i:Nat) (x:Nd),xs[i]? = some x->∃ l h t:Value,(bI vs)[i*4]? = some (.int .i64 x.clock)/\(bI vs)[i*4+1]? = some l/\(bI vs)[i*4+2]? = some h/\(bI vs)[i*4+3]? = some t/\bW iq W l x.last/\dI W h x.held/\dI W t x.told
 | [],[],_,_,i,x,hx=>by simp at hx
 | [],_::_,h,_,_,_,_=>by cases h
 | _::_,[],h,_,_,_,_=>by cases h
 | v::vs,x::xs,h,hv,i,y,hy=>by
  obtain ⟨l,hh,t,h1,rfl,h2⟩:=hv 0 v x rfl rfl
  have e:bI (.agg #[.int .i64 x.clock,l,hh,t]::vs)=[.int .i64 x.clock,l,hh,t]++bI vs:=rfl
  cases i with
  | zero =>
   simp at hy
   subst hy
   exact ⟨l,hh,t,by rw [e];rfl,by rw [e];rfl,by rw [e];rfl,by rw [e];rfl,h2⟩
  | succ i =>
   obtain ⟨a,b,c,k0,k1,k2,k3,k4⟩:=pz vs xs (by simpa using h) (fun i v x a b=>hv (i+1) v x (by simpa using a) (by simpa using b)) i y (by simpa using hy)
   have g:∀ r,([.int .i64 x.clock,l,hh,t]++bI vs)[(i+1)*4+r]? = (bI vs)[i*4+r]?:=fun r=>by
    rw [List.getElem?_append_right (by simp;omega)]
    congr 1
    simp;omega
   refine ⟨a,b,c, ?_, ?_, ?_, ?_,k4⟩
   ·rw [e];exact (g 0).trans k0
   ·rw [e];exact (g 1).trans k1
   ·rw [e];exact (g 2).trans k2
   ·rw [e];exact (g 3).trans k3
theorem AA {W:World} {n0:Nat} {s:Sl} {vs:List Value} {xs:List Nd} (hR:Row W n0 4 s xs.length (bI vs)) (hl:vs.length=xs.length) (hm:xs.length<=100000) (hv:∀ (i:Nat) (v:Value) (x:Nd),vs[i]? = some v->xs[i]? = some x->VN W v x):yQ W (.slice s.a xs.length s.cap) xs:=by
 refine ⟨_,_,rfl,hR.cap,rfl,by omega,fun hp=>?_⟩
 obtain ⟨b,off,e,_,hb,_,hc⟩:=hR.body (by have:=hR.cap;omega)
 refine ⟨b,off,e,hb,fun i x hx=>?_⟩
 obtain ⟨l,h,t,k0,k1,k2,k3,k4,k5,k6⟩:=pz vs xs hl hv i x hx
 have g:∀ r u,(bI vs)[i*4+r]? = some u->W.cell? ⟨b,off+i*4+r,none⟩=some u:=fun r u hu=>by have:=hc _ _ hu;rwa [<-Nat.add_assoc] at this
 exact ⟨g 0 _ k0,⟨l,g 1 _ k1,k4⟩,⟨h,g 2 _ k2,k5⟩,⟨t,g 3 _ k3,k6⟩⟩
theorem yO {W:World} {v:Value} {x:List Int} (h:iq W v x):v.cells.toList=[v]:=by obtain ⟨a,c,rfl,_⟩:=h;rfl
theorem yN {W:World} {v:Value} {x:List Mg} (h:dI W v x):v.cells.toList=[v]:=by obtain ⟨a,c,rfl,_⟩:=h;rfl
theorem uT {α:Type} {P:World->Value->α->Prop} {W:World} {v:Value} {x:List α} (h:bW P W v x):v.cells.toList=[v]:=by obtain ⟨a,c,rfl,_⟩:=h;rfl
theorem gP {α:Type} {p:Ps α} {N:Nat} {s s' r:List UInt8} {xs:List α} {x:α} {k:Nat} (h:aD p N s=dK (aD p (N - k) s') fun ys r=>some (xs++ys,r)) (hk:k < N) (hp:p s'=some (x,r)) :
  aD p N s=dK (aD p (N - (k+1)) r) fun ys r=>some ((xs++[x])++ys,r):=by
 rw [h]
 obtain ⟨m,hm⟩:∃ m,N - k=m+1:=⟨N - k - 1,by omega⟩
 rw [hm,show N - (k+1)=m from by omega]
 have e:aD p (m+1) s'=dK (p s') fun x s=>dK (aD p m s) fun xs s=>some (x::xs,s):=rfl
 rw [e,hp,ak]
 cases aD p m r with
 | none=>rfl
 | some q=>obtain ⟨ys,r'⟩:=q;simp [ak]
theorem jL {α:Type} {p:Ps α} {N:Nat} {s s':List UInt8} {xs:List α} {k:Nat} (h:aD p N s=dK (aD p (N - k) s') fun ys r=>some (xs++ys,r)) (hk:k < N) (hp:p s'=none):aD p N s=none:=by
 rw [h]
 obtain ⟨m,hm⟩:∃ m,N - k=m+1:=⟨N - k - 1,by omega⟩
 rw [hm]
 unfold aD
 rw [hp]
 rfl
theorem fF {α:Type} (p:Ps α) (N:Nat) (s:List UInt8):aD p N s=dK (aD p (N - 0) s) fun ys r=>some (([]:List α)++ys,r):=by
 rw [Nat.sub_zero]
 cases aD p N s with
 | none=>rfl
 | some q=>obtain ⟨ys,r'⟩:=q;rfl
theorem iK {α:Type} {p:Ps α} {N:Nat} {s s':List UInt8} {xs:List α} (h:aD p N s=dK (aD p (N - N) s') fun ys r=>some (xs++ys,r)):aD p N s=some (xs,s'):=by
 rw [h,Nat.sub_self]
 show some (xs++[],s')=_
 rw [List.append_nil]
theorem iJ {t e:TypeId} {size bytes:Nat} (hE:ET t e size bytes) (hz:size<=1000) (hb:bytes<=1000) (N:Nat) (hN:N<=1000) (y:World):∃ y',(Instr.makeSlice t (.int .i64 0) (.int .i64 N)).run prog y=.ok (.slice (some ⟨y.heap.size,0,none⟩) 0 N) y'/\Since y y'/\y.heap.size < y'.heap.size/\Row y' y.heap.size size ⟨some ⟨y.heap.size,0,none⟩,N⟩ 0 []:=by
 obtain ⟨i,z,h1,h2,h3,h4,h5⟩:=hE.info
 have hNb:N*bytes<=1000*1000:=Nat.mul_le_mul hN hb
 have hNz:N*size<=1000*1000:=Nat.mul_le_mul hN hz
 have h:=run_makeSlice (P:=prog) y t e i z hE.und h1 h2 .i64 .i64 0 (N:Int) (by omega) (by omega) (by rw [h3,Int.toNat_natCast];omega) (by rw [h4,Int.mul_comm];omega) (by omega)
 rw [Int.toNat_natCast] at h
 refine ⟨_,h,(Since.refl y).alloc _,by simp, ?_⟩
 have hrow:=Row.new y y.heap.size size (madeCells z.cells (N*i.size)) e N (Nat.le_refl _) (by rw [size_madeCells,h3]) (by unfold maxLen;omega)
 exact hrow.take 0 (Nat.zero_le _) |> fun h=>by simpa using h
end Go.Proofs.Ytiiifecfdkjmbaa
