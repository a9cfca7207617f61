/- Lemmas. -/
import Derived.Test.YtediempflagfkaaGreatDoorPureX
set_option linter.unusedVariables false
set_option linter.unusedSimpArgs false
set_option linter.unnecessarySimpa false
namespace Go.Proofs.YtediempflagfkaaGreatDoor.Pu
set_option maxRecDepth 8000
def b1(n:Int):List UInt8:=[UInt8.ofNat (n % 256).toNat]
def b3(n:Int):List UInt8:=b1 (n / 65536)++(b1 (n / 256)++b1 n)
theorem len1{t:List UInt8}(h:t.length=1):∃a,t=[a]:=by
 match t,h with
 | [a],_=>exact⟨a,rfl⟩
end Go.Proofs.YtediempflagfkaaGreatDoor.Pu
