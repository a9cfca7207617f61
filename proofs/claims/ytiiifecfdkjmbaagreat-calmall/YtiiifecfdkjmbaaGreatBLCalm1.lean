/- Worlds of the laws' helper calmBegun; no condition. -/
import Derived.Test.YtiiifecfdkjmbaaGreatBSCalmX
namespace Go.Proofs.YtiiifecfdkjmbaaGreat
set_option maxRecDepth 8000
open Go.RowKit Go.Shelf
open _root_.Go.Proofs.YtiiifecfdkjmbaaGreat.Pure
set_option linter.unusedVariables false
def Md:List Ac:=[⟨1,0,0,⟨#[97]⟩⟩,⟨1,2,1,⟨#[98]⟩⟩]
def kD:Wd:=doneD 3 [3,6] Md
def kX:Wd:=match dR kD with | .ok p=>p.1 | .error _=>kD
def kY:Wd:=match gV kX with | .ok p=>p.1 | .error _=>kD
def kZ:Wd:=match ig kD with | .ok p=>p | .error _=>kD
def kZ1:Nd:=(kZ.nodes[1]?).getD ⟨0,[],[],[]⟩
def kZ2:Nd:=(kZ.nodes[2]?).getD ⟨0,[],[],[]⟩
theorem TB:checked kD (dR kD)=.ok (kX,2):=by kernel_rfl
theorem TD:checked kX (gV kX)=.ok (kY,4):=by kernel_rfl
theorem TF:checked kD (ig kD)=.ok kZ:=by kernel_rfl
theorem TG:kY.nodes.length=3:=by decide +kernel
theorem TH:kZ.nodes.length=3∧kZ.nodes[1]? = some kZ1∧kZ1.held.length=0∧kZ1.told=[⟨0,0,1,false,⟨#[97]⟩⟩,⟨2,1,1,false,⟨#[98]⟩⟩]∧kZ.nodes[2]? = some kZ2∧kZ2.told=[⟨2,1,1,false,⟨#[98]⟩⟩]:=⟨by decide +kernel,by kernel_rfl,by decide +kernel,by kernel_rfl,by kernel_rfl,by kernel_rfl⟩
end Go.Proofs.YtiiifecfdkjmbaaGreat
