/- The laws' helper choose: one of n, whatever it is handed; conditions: n is 1 at least, the number is an int. -/
import Derived.Test.YtiiifecfdkjmbaaGreatBGLaws
namespace Go.Proofs.YtiiifecfdkjmbaaGreat
set_option maxRecDepth 8000
open Go.RowKit Go.Shelf
set_option linter.unusedVariables false
def I64 (c:Int):Prop:=-9223372036854775808≤c∧c≤9223372036854775807
theorem G7 {c:Int} (h:(Lit.int .i64 c).wf=true):I64 c:=by
 simp only [Lit.wf,Bool.and_eq_true,decide_eq_true_eq] at h
 exact h
def iV (c:Int) (n:Nat):Nat:=((if c < 0 then -(c+1) else c) % (n:Int)).toNat
theorem nI (c:Int) {n:Nat} (hn:0 < n):iV c n < n:=by
 unfold iV
 have h1:=Int.emod_nonneg (if c < 0 then -(c+1) else c) (show (n:Int)≠0 by omega)
 have h2:=Int.emod_lt_of_pos (if c < 0 then -(c+1) else c) (show (0:Int) < (n:Int) by omega)
 omega
theorem Me (c:Int) (n:Nat) (hc:I64 c) (hn:0 < n) (hm:n≤1000000) (w:World) :
  Calls Tryz.prog 52 #[.int .i64 c,.int .i64 n] w fun e w'=>e=.returned (.int .i64 (iV c n))∧w'=w:=by
 obtain ⟨h1,h2⟩:=hc
 have hz:((n:Int) == 0)=false:=by rw [beq_eq_false_iff_ne];omega
 have hz':¬ (n:Int)=0:=by omega
 by_cases hl:c < 0
 ·have l1:decide (c < 0)=true:=by simpa using hl
  have e1:IntKind.i64.wrap (c+1)=c+1:=IntWalk.i64_in _ (by omega)
  have e2:IntKind.i64.wrap (-(c+1))=-(c+1):=IntWalk.i64_in _ (by omega)
  have e3:(-(c+1)).tmod (n:Int)=(iV c n:Int):=by
   unfold iV;rw [if_pos hl,Int.tmod_eq_emod_of_nonneg (by omega),Int.toNat_of_nonneg (Int.emod_nonneg _ (by omega))]
  have hlt:=nI c hn
  have e4:IntKind.i64.wrap (iV c n:Int)=(iV c n:Int):=IntWalk.i64_in _ (by omega)
  clear hl
  go_enter Tryz.func52,Tryz.ntmps52
  go_wp2
  go_ret
  simp_all
 ·have l1:decide (c < 0)=false:=by simpa using hl
  have e3:c.tmod (n:Int)=(iV c n:Int):=by
   unfold iV;rw [if_neg hl,Int.tmod_eq_emod_of_nonneg (by omega),Int.toNat_of_nonneg (Int.emod_nonneg _ (by omega))]
  have hlt:=nI c hn
  have e4:IntKind.i64.wrap (iV c n:Int)=(iV c n:Int):=IntWalk.i64_in _ (by omega)
  clear hl
  go_enter Tryz.func52,Tryz.ntmps52
  go_wp2
  go_ret
  simp_all
theorem uV (c:Int) (n:Nat) (hc:I64 c) (hn:0 < n) (hm:n≤4) (w:World) :
  Calls Tryz.prog 52 #[.int .i64 c,.int .i64 n] w fun e w'=>e=.returned (.int .i64 (iV c n))∧w'=w :=
 Me c n hc hn (by omega) w
end Go.Proofs.YtiiifecfdkjmbaaGreat
