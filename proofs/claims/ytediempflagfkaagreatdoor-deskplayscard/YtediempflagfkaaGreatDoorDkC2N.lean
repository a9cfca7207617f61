/- Lemmas. -/
import Derived.Test.YtediempflagfkaaGreatDoorDkLibA
import Derived.Test.YtediempflagfkaaGreatDoorDkLn
set_option linter.unusedVariables false
set_option linter.unusedSimpArgs false
set_option linter.unnecessarySimpa false
set_option maxHeartbeats 2000000
namespace Go.Proofs.YtediempflagfkaaGreatDoor
open _root_.Go.Proofs.Tryz hiding checked
set_option maxRecDepth 8000
open Go.RowKit Go.Shelf
open Pu
theorem NA{s:List UInt8}(hs:s.length<=1000000)(h:∀v,Lib.atoiAll s≠.ok v)(w:World)(hT:Tb w) :
  Calls prog 81 #[.string (bs s)] w fun e w'=>∃(v:Int) (T:TypeId) (N:Nat),e=.returned (.tuple #[.int .i64 v,.iface T (.pointer (some ⟨N,0,none⟩))])/\ak w w':=by
 have hd:(bs s).data.toList=s:=kK s;have hz:=bX s
 cases hA:Lib.atoiAll s with
 | ok v=>exact absurd hA (h v)
 | «syntax» =>
  obtain⟨tp,p,hv⟩:=hT.syn;refine(Any.strconv_Atoi_syntax_var Tryz.ND (bs s) (by omega) (by rw[hd];exact hA) tp p w hv).mono ?_;rintro e w' ⟨N,rfl,_,_,hB⟩;exact⟨_,_,N,rfl,⟨hB⟩⟩
 | range =>
  obtain⟨tp,p,hv⟩:=hT.rng;refine(Any.strconv_Atoi_range_var Tryz.ND (bs s) (by omega) (by rw[hd];exact hA) tp p w hv).mono ?_;rintro e w' ⟨N,rfl,_,_,hB⟩;exact⟨_,_,N,rfl,⟨hB⟩⟩
theorem LG{s:List UInt8}(hs:s.length<=1000000){v:Int}(h:Lib.atoiAll s=.ok v)(w:World) :
  Calls prog 81 #[.string (bs s)] w fun e w'=>e=.returned (.tuple #[.int .i64 v,.nilIface])/\ak w w':=by
 have hz:=bX s;refine(Any.strconv_Atoi_ok Tryz.ND (bs s) (by omega) v (by rw[kK];exact h) w).mono ?_;rintro e w' ⟨rfl,rfl | ⟨t,rfl⟩⟩
 ·exact⟨rfl,ak.refl _⟩
 ·exact⟨rfl,⟨rfl,rfl,rfl,by rw[Lib.bytesWorld_size];omega,fun k hk=>Lib.bytesWorld_at_old _ _ _ _ hk⟩⟩
def NG(s:List UInt8):Prop:=¬ 0<=bZ s
def UG(s:List UInt8)(w:World)(e:Ending)(w':World):Prop:=ak w w'/\((NG s/\e=.panicked (pan 1))\/(0<=bZ s/\e=.returned (.int .i64 (bZ s))))
set_option maxRecDepth 8000 in
theorem Jf(s:List UInt8)(hs:s.length<=1000000)(w:World)(hT:Tb w):Calls prog 61 #[.string (bs s)] w fun e w'=>Hid (UG s w e w'):=by
 have hsz:=bX s;by_cases hA:∃v,Lib.atoiAll s=.ok v
 ·obtain⟨v,hA⟩:=hA;have ha:=fun y=>LG hs hA y;by_cases h0:0<=v
  ·obtain⟨n,rfl⟩:=Int.eq_ofNat_of_zero_le h0;have hb:=(Lib.atoiAll_bounds hA).2;have hit:=fun y (hy:Tb y)=>qK n (by omega) y hy;have HT:Hid (∀y,ak w y->Tb y):=fun y hy=>hT.ay hy;have d0:decide (0<=(n:Int))=true:=by simp
   by_cases he:dn n=s
   case neg =>
    have HN:NG s:=Ef (fun u hu h1 h2=>by
     rw[hA]at hu;cases hu;rw[sQ]at h2;exact absurd h2 he)
    obtain⟨D,hD⟩:∃y,dn n=y:=⟨_,rfl⟩;rw[hD]at hit he;have hi:((bs D).toList == (bs s).toList)=false:=by rw[jc,jc];simpa using he
    clear hT hA h0 hD he
    go_enter func61,ntmps61
    go_wp2_with (first
     | (go_at_call 81;refine(ha _).mono ?_;rintro e w1 ⟨rfl,hS1⟩)
     | (go_at_call 29;refine(hit _ (HT.out _ hS1)).mono ?_;rintro e w2 ⟨rfl,hS2⟩)
     | (go_at_call 32;refine(iZ _ _).mono ?_;rintro e w3 ⟨rfl,hw⟩;obtain rfl:=hw.symm))
    exact⟨rfl,hS1.trans hS2,.inl ⟨HN,rfl⟩⟩
   case pos =>
    rw[he]at hit;by_cases hl:s.length<=6
    ·have HN:Hid (bZ s=(n:Int)):=QK h0 (by rw[sQ];exact he) hl;have d6:decide (((bs s).size:Int)<=6)=true:=by rw[hsz];simp;omega
     clear hT hA h0 he hl hsz
     go_enter func61,ntmps61
     go_wp2_with (first
      | (go_at_call 81;refine(ha _).mono ?_;rintro e w1 ⟨rfl,hS1⟩)
      | (go_at_call 29;refine(hit _ (HT.out _ hS1)).mono ?_;rintro e w2 ⟨rfl,hS2⟩)
      | (go_at_call 32;refine(l9 _ _).mono ?_;rintro e w3 ⟨rfl,hw⟩;obtain rfl:=hw.symm))
     go_ret
     exact⟨hS1.trans hS2,.inr ⟨by rw[HN.out];omega,by rw[HN.out];rfl⟩⟩
    ·have HN:NG s:=Ef (fun u hu h1 h2=>hl);have d6:decide (((bs s).size:Int)<=6)=false:=by rw[hsz];simp;omega
     clear hT hA h0 he hl hsz
     go_enter func61,ntmps61
     go_wp2_with (first
      | (go_at_call 81;refine(ha _).mono ?_;rintro e w1 ⟨rfl,hS1⟩)
      | (go_at_call 29;refine(hit _ (HT.out _ hS1)).mono ?_;rintro e w2 ⟨rfl,hS2⟩)
      | (go_at_call 32;refine(iZ _ _).mono ?_;rintro e w3 ⟨rfl,hw⟩;obtain rfl:=hw.symm))
     exact⟨rfl,hS1.trans hS2,.inl ⟨HN,rfl⟩⟩
  ·have HN:NG s:=Ef (fun u hu h1 h2=>by rw[hA]at hu;cases hu;exact absurd h1 h0);have d0:decide (0<=v)=false:=by simpa using h0
   clear hT hA h0
   go_enter func61,ntmps61
   go_wp2_with (first
    | (go_at_call 81;refine(ha _).mono ?_;rintro e w1 ⟨rfl,hS1⟩)
    | (go_at_call 32;refine(iZ _ _).mono ?_;rintro e w3 ⟨rfl,hw⟩;obtain rfl:=hw.symm))
   exact⟨rfl,hS1,.inl ⟨HN,rfl⟩⟩
 ·have HN:NG s:=Ef (fun u hu h1 h2=>absurd ⟨u,hu⟩ hA);have ha:=fun y (hy:Tb y)=>NA hs (fun v hv=>hA ⟨v,hv⟩) y hy;clear hA
  go_enter func61,ntmps61
  go_wp2_with (first
   | (go_at_call 81;refine(ha _ hT).mono ?_;rintro e w1 ⟨v,T,N,rfl,hS1⟩)
   | (go_at_call 32;refine(iZ _ _).mono ?_;rintro e w3 ⟨rfl,hw⟩;obtain rfl:=hw.symm))
  exact⟨rfl,hS1,.inl ⟨HN,rfl⟩⟩
end Go.Proofs.YtediempflagfkaaGreatDoor
