/- Lemmas. -/
import Derived.Test.YtediempflagfkaaGreatDoorDkC2N
import Derived.Test.YtediempflagfkaaGreatDoorDkNums
import Derived.Test.YtediempflagfkaaGreatDoorWrWorld
set_option linter.unusedVariables false
set_option linter.unusedSimpArgs false
set_option linter.unnecessarySimpa false
set_option maxHeartbeats 4000000
namespace Go.Proofs.YtediempflagfkaaGreatDoor
open _root_.Go.Proofs.Tryz hiding checked
set_option maxRecDepth 8000
open Go.RowKit Go.Shelf
open Pu
def rdN:Nat->List UInt8->Bool->List UInt8 × Bool
 | 0,r,m=>(r,m)
 | i+1,r,m=>(wB (rdN i r m).1,wM (rdN i r m).1)
def rdV(i:Nat)(r:List UInt8)(m:Bool):Int:=bZ (wA (rdN i r m).1)
def I5(k:Nat)(r:List UInt8)(m:Bool):Prop:=∀i,i < k->0<=rdV i r m
def rdC(i j:Nat)(r:List UInt8)(m:Bool):Int:=if j < i then rdV j r m else 0
theorem KJ(r:List UInt8)(m:Bool):∀i,(rdN i r m).1.length<=r.length
 | 0=>Nat.le_refl _
 | i+1=>zQ5 (jA _) (KJ r m i)
def Sc(k:Nat)(bd:Bool)(r:List UInt8)(m:Bool)(w:World)(e:Ending)(w':World):Prop :=
 ak w w'/\((¬ (I5 k r m/\(rdN k r m).2=bd)/\e=.panicked (pan 1)) \/
  ((I5 k r m/\(rdN k r m).2=bd)/\e=.returned (.agg #[.int .i64 (rdC k 0 r m),.int .i64 (rdC k 1 r m),.string (bs (rdN k r m).1)])))
set_option maxRecDepth 8000 in
theorem Nv(k:Nat)(hk:k<=2)(bd:Bool)(gf B:Nat)(r:List UInt8)(m:Bool)(hr:r.length<=100000)(w:World)(hT:Tb w) :
  Calls prog 33 #[.agg #[.int .i64 k,.bool bd,.func (.func gf) #[.pointer (some ⟨B,0,none⟩)] #[]],.string (bs r),.bool m] w fun e w'=>Hid (Sc k bd r m w e w'):=by
 obtain⟨w1,hw1⟩:∃y,w.alloc (.cells #[.int .i64 k,.bool bd,.func (.func gf) #[.pointer (some ⟨B,0,none⟩)] #[]] 74)=y:=⟨_,rfl⟩;obtain⟨w2,hw2⟩:∃y,w1.alloc (.cells #[.int .i64 0,.int .i64 0,.string ⟨#[]⟩] 80)=y:=⟨_,rfl⟩;obtain⟨w3,hw3⟩:∃y,w2.alloc (.cells #[.int .i64 0,.int .i64 0] 100)=y:=⟨_,rfl⟩;have hS1:=aF hw1;have hS2:=aF hw2;have hS3:=aF hw3;have hl1:w.heap.size < w1.heap.size:=by rw[<-hw1];simp
 have hl2:w1.heap.size < w2.heap.size:=by rw[<-hw2];simp
 have hl3:w2.heap.size < w3.heap.size:=by rw[<-hw3];simp
 have q0:w3.cell? ⟨w.heap.size,0,none⟩=some (.int .i64 k):=((hS2.trans hS3).av hl1 _).trans (by rw[<-hw1];simp[go_sem]);have q1:w3.cell? ⟨w.heap.size,1,none⟩=some (.bool bd):=((hS2.trans hS3).av hl1 _).trans (by rw[<-hw1];simp[go_sem])
 go_enter func33,ntmps33
 go_wp2_with fail
 obtain⟨A,hA⟩:∃y,w2.heap.size=y:=⟨_,rfl⟩;obtain⟨O,hO⟩:∃y,w1.heap.size=y:=⟨_,rfl⟩;obtain⟨P0,hP0⟩:∃y,w.heap.size=y:=⟨_,rfl⟩;have a0:w3.cell? ⟨A,0,none⟩=some (.int .i64 0):=by rw[<-hA,<-hw3];simp[go_sem]
 have a1:w3.cell? ⟨A,1,none⟩=some (.int .i64 0):=by rw[<-hA,<-hw3];simp[go_sem]
 have az:∀o,w3.frozen? ⟨A,o,none⟩=false:=fun o=>by rw[<-hA,<-hw3];simp[go_sem]
 have o0:Bx3 w3 O (.int .i64 0) (.int .i64 0) (.string ⟨#[]⟩):=by
  have h:Bx3 w2 O (.int .i64 0) (.int .i64 0) (.string ⟨#[]⟩):=by rw[<-hO,<-hw2];constructor <;> simp[go_sem]
  exact h.fr (hS3.fr fun _=>False) (fun x=>x)
 rw[hA]at hl3 ⊢;rw[hO]at hl2 ⊢;rw[hP0]at hl1 q0 q1 ⊢;have hAO:O < A:=by omega
 have hPO:P0 < O:=by omega
 have hPA:P0 < A:=by omega
 have HW:Hid (ak w w3):=(hS1.trans hS2).trans hS3
 have HTB:Hid (∀y,Fr (fun i=>i=A) w3 y->Tb y):=fun y hy=>(hT.ay HW.out).fr hy (fun i hi e=>by
  have:3 < w.heap.size:=by
   obtain⟨tp,p,h⟩:=hT.rng;unfold World.var? at h;rw[Kw]at h;simp only[Option.bind_some]at h;rcases Nat.lt_or_ge 3 w.heap.size with h1 | h1
   ·exact h1
   ·rw[Array.getElem?_eq_none h1]at h;cases h
  omega)
 have HP0:Hid (w.heap.size=P0):=hP0;have HA:Hid (A < w3.heap.size):=hl3
 have CF:Hid (∀y,Fr (fun i=>i=A) w3 y->y.cell? ⟨P0,0,none⟩=some (.int .i64 k)/\y.cell? ⟨P0,1,none⟩=some (.bool bd)/\Bx3 y O (.int .i64 0) (.int .i64 0) (.string ⟨#[]⟩)/\∀o,y.frozen? ⟨A,o,none⟩=w3.frozen? ⟨A,o,none⟩->True):=fun y hy =>
  ⟨(hy.cell (p:=⟨P0,0,none⟩) (by show P0 < _;omega) (by show ¬ P0=A;omega)).trans q0,(hy.cell (p:=⟨P0,1,none⟩) (by show P0 < _;omega) (by show ¬ P0=A;omega)).trans q1,o0.fr hy (by show ¬ O=A;omega),fun _ _=>trivial⟩
 clear hS1 hS2 hS3 hl1 hl2 hl3 hw1 hw2 hw3 hA hO hP0 hT q0 q1 o0
 go_loopw [1,2,8,9,12] (fun rv mv _ _ iv wr=>∃i:Nat,i<=k/\I5 i r m/\iv=.int .i64 i/\rv=.string (bs (rdN i r m).1)/\mv=.bool (rdN i r m).2/\Fr (fun i=>i=A) w3 wr/\wr.cell? ⟨A,0,none⟩=some (.int .i64 (rdC i 0 r m))/\wr.cell? ⟨A,1,none⟩=some (.int .i64 (rdC i 1 r m))/\∀o,wr.frozen? ⟨A,o,none⟩=false) (fun _ _ _ _ iv _=>2 - (intOf iv).toNat)
 case atStart=>exact⟨0,Nat.zero_le _,fun i h=>by omega,rfl,rfl,rfl,Fr.refl _ _,a0,a1,az⟩
 case round =>
  obtain⟨i,hik,hok,rfl,rfl,rfl,hF,b0,b1,bz⟩:=hrel;obtain⟨p0,p1,hOb,-⟩:=CF.out wr hF;have HOK:Hid (I5 i r m):=hok;clear hok a0 a1 az;obtain⟨R,hR⟩:∃y,(rdN i r m).1=y:=⟨_,rfl⟩;obtain⟨M,hM⟩:∃y,(rdN i r m).2=y:=⟨_,rfl⟩;have hRl:R.length<=100000:=by rw[<-hR];have:=KJ r m i;omega
  rw[hR,hM];have HM:Hid ((rdN i r m).2=M):=hM;have HR:Hid ((rdN i r m).1=R):=hR;clear hR hM;by_cases hlt:i < k
  ·have hi2:i < 2:=by omega
   have d1:decide ((i:Int) < (k:Int))=true:=by simpa using hlt
   have hcut:=fun y=>Eh R (by omega) y;obtain⟨WA,hWA⟩:∃y,wA R=y:=⟨_,rfl⟩;obtain⟨WB,hWB⟩:∃y,wB R=y:=⟨_,rfl⟩;obtain⟨WM,hWM⟩:∃y,wM R=y:=⟨_,rfl⟩;have UH:WA.length<=1000000:=by rw[<-hWA];have:=sZ R;omega
   rw[hWA,hWB,hWM]at hcut;have HV:Hid (rdV i r m=bZ WA):=by unfold Hid rdV;rw[HR.out,hWA]
   have HN:Hid (rdN (i+1) r m=(WB,WM)):=by unfold Hid rdN;rw[HR.out,hWB,hWM]
   have UJ:=fun y (hy:Tb y)=>Jf WA UH y hy;obtain⟨nv,hnv⟩:∃y,bZ WA=y:=⟨_,rfl⟩;have HNV:Hid (bZ WA=nv):=hnv;clear hWA hWB hWM hnv;have FFr:Hid (∀y,ak wr y->Fr (fun i=>i=A) w3 y):=fun y hy=>hF.trans (hy.fr _) (fun _ _ x=>x) (fun _ _ x=>x)
   have SF:Hid (∀y,ak wr y->y.cell? ⟨A,0,none⟩=some (.int .i64 (rdC i 0 r m))/\y.cell? ⟨A,1,none⟩=some (.int .i64 (rdC i 1 r m))/\∀o,y.frozen? ⟨A,o,none⟩=false):=fun y hy=>by
    have hl:A < wr.heap.size:=zQ4 HA.out hF.size;exact⟨(hy.av hl _).trans b0,(hy.av hl _).trans b1,fun o=>(hy.below.frozen (p:=⟨A,o,none⟩) hl).trans (bz o)⟩
   clear b0 b1 bz
   go_wp2_with (first
    | (go_at_call 30;refine(hcut _).mono ?_;rintro e W1 ⟨rfl,hS1⟩)
    | (go_at_call 61;refine(UJ _ (HTB.out _ (FFr.out _ hS1))).mono ?_;rintro e W2 ⟨hS2,hcase⟩;have dO:=hS1.trans hS2;rcases hcase with ⟨hbad,rfl⟩ | ⟨hgood,rfl⟩;rotate_left;(have HG:Hid (0<=bZ WA):=hgood);clear hgood;rw[HNV.out];obtain⟨s0,s1,sz⟩:=SF.out W2 dO;have si:W2.cell? ⟨A,i,none⟩=some (.int .i64 (rdC i i r m)):=(by have:i=0\/i=1:=(by omega);rcases this with rfl | rfl;exact s0;exact s1);have szi:=sz i;obtain⟨V,hV⟩:∃y,W2.setCell ⟨A,i,none⟩ (.int .i64 nv)=y:=⟨_,rfl⟩)
    )
   ·have hFV:Fr (fun i=>i=A) w3 V:=by rw[<-hV];exact(FFr.out _ dO).setCell _ _ (fun _=>rfl)
    have hc:∀j u,W2.cell? ⟨A,j,none⟩=some (.int .i64 (rdC i j r m))->u=j->V.cell? ⟨A,j,none⟩=some (.int .i64 (rdC (i+1) j r m)):=by
     intro j u h _;by_cases hji:j=i
     ·subst hji;have e:rdC (j+1) j r m=nv:=by unfold rdC;rw[if_pos (by omega),HV.out,HNV.out]
      rw[e,<-hV];exact gN _ _ _ _ h
     ·have e:rdC (i+1) j r m=rdC i j r m:=by
       unfold rdC;by_cases h1:j < i
       ·rw[if_pos h1,if_pos (by omega)]
       ·rw[if_neg h1,if_neg (by omega)]
      rw[e,<-hV];exact(bH _ _ _ (fun x=>hji x.symm)).trans h
    refine⟨⟨i+1,by omega, ?_,by go_num,by rw[HN.out],by rw[HN.out],hFV,hc 0 0 s0 rfl,hc 1 1 s1 rfl,fun o=>by rw[<-hV,World.frozen?_setCell];exact sz o⟩,by simp[intOf];omega⟩;intro j hj;by_cases hji:j < i
    ·exact HOK.out j hji
    ·obtain rfl:j=i:=by omega
     rw[HV.out];exact HG.out
   ·refine⟨rfl, ?_,.inl ⟨fun h=>?_,rfl⟩⟩
    ·exact(FFr.out _ dO).aI HW.out (fun i hi e=>by have:=HP0.out;omega)
    ·have:=h.1 i hlt;rw[HV.out]at this;exact hbad this
  ·obtain rfl:i=k:=by omega
   have d1:decide ((i:Int) < (i:Int))=false:=by simp
   have HMB:Hid ((rdN i r m).2=M):=HM;have hS0:Hid (ak w wr):=hF.aI HW.out (fun i hi e=>by have:=HP0.out;omega);cases hbm:(M == bd)
   ·have hne:¬ M=bd:=by simpa using hbm
    go_wp2_with (go_at_call 32;refine(iZ _ _).mono ?_;rintro e W3 ⟨rfl,hw⟩;obtain rfl:=hw.symm)
    exact⟨rfl,hS0.out,.inl ⟨fun h=>hne (by rw[<-HMB.out];exact h.2),rfl⟩⟩
   ·obtain rfl:M=bd:=by simpa using hbm
    have hOV:=hOb.all (.int .i64 (rdC i 0 r m)) (.int .i64 (rdC i 1 r m)) (.string (bs R));have hpf:=aS wr O (.int .i64 (rdC i 0 r m)) (.int .i64 (rdC i 1 r m)) (.string (bs R));unfold iB at hpf;obtain⟨V,hV⟩:∃y,(((wr.setCell ⟨O,0,none⟩ (.int .i64 (rdC i 0 r m))).setCell ⟨O,1,none⟩ (.int .i64 (rdC i 1 r m))).setCell ⟨O,2,none⟩ (.string (bs R)))=y:=⟨_,rfl⟩;rw[hV]at hOV hpf;obtain⟨_,m0,m1,m2,k0,k1,k2⟩:=hOb;obtain⟨_,v0,v1,v2,_,_,_⟩:=hOV
    go_wp2_with (go_at_call 32;refine(l9 _ _).mono ?_;rintro e W3 ⟨rfl,hw⟩;obtain rfl:=hw.symm)
    refine bodyPost_ret (v:=.agg #[.int .i64 (rdC i 0 r m),.int .i64 (rdC i 1 r m),.string (bs R)]) ?_ rfl ⟨hpf.aI hS0.out (fun j hj e=>by have:=HP0.out;omega),.inr ⟨⟨HOK.out,HMB.out⟩,by rw[HR.out]⟩⟩;simp[results,results33,go_sem,v0,v1,v2]
end Go.Proofs.YtediempflagfkaaGreatDoor
