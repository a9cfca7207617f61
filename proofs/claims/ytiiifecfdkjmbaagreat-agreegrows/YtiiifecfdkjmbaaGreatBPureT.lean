/- Worlds as plain data: what the laws of casting, moving, calm and acts ask, ready for their walks. -/
import Derived.Test.YtiiifecfdkjmbaaGreatBPureW
namespace Go.Proofs.YtiiifecfdkjmbaaGreat.Pure
set_option maxRecDepth 8000
theorem qD {d:Wd} {k:Nat} (h:k < d.nodes.length):∃ x,d.nodes[k]? = some x:=⟨_,List.getElem?_eq_getElem h⟩
theorem mZ {d:Wd} {k:Nat} {x:Nd} (h:d.nodes[k]? = some x):aQ d k=x.told:=by unfold aQ;rw [h]
structure Qx (d d':Wd) (n:Nat) (g:Int) (body:ByteArray) (x x':Nd):Prop where
 hx:d.nodes[n]? = some x
 hx':d'.nodes[n]? = some x'
 len:d'.nodes.length=d.nodes.length
 um:d'.wires.length=d.wires.length
 Vf:d.wires.length=d.nodes.length
 right:Right d'
 was:Right d
 clk:x'.clock=x.clock+1
 top:x.clock+1≤1048576
 wire:∀ a b,ay d' a b=if a=n∧b≠n∧b < d.nodes.length∧hasB d.groups g b=true then ay d a b++[⟨n,g,x'.clock,false,body⟩] else ay d a b
 count:x'.held.length+x'.told.length=x.held.length+x.told.length+1
structure Qy (d d':Wd) (f t:Nat) (x x':Nd) (m:Mg) (rest:List Mg) (row row':List (List Mg)):Prop where
 hx:d.nodes[t]? = some x
 hx':d'.nodes[t]? = some x'
 hr:d.wires[f]? = some row
 hr':d'.wires[f]? = some row'
 hl:row[t]? = some (m::rest)
 hl':row'[t]? = some rest
 groups:d'.groups=d.groups
 len:d'.nodes.length=d.nodes.length
 um:d'.wires.length=d.wires.length
 rlen:row'.length=row.length
 node:∀ i,i≠t→d'.nodes[i]? = d.nodes[i]?
 wire:∀ i,i≠f→d'.wires[i]? = d.wires[i]?
 rows:∀ i,i≠t→row'[i]? = row[i]?
 right:Right d'
 was:Right d
 flt:f < d.nodes.length
 tlt:t < d.nodes.length
 clk:x.clock≤x'.clock
 clm:m.st≤x'.clock
 count:x'.held.length+x'.told.length=x.held.length+x.told.length+(if m.nul then 0 else 1)
theorem tV {n:Nat} {l:List Int} (hc:dL n l=0) (acts:List Ac):(doneD n l acts).nodes.length=n∧(doneD n l acts).groups=l:=by
 have A:=(pX hc acts).2.2
 refine ⟨by rw [A.n];simp [dw],by rw [A.g];rfl⟩
theorem Kr {n:Nat} {l:List Int} (hc:dL n l=0) (acts:List Ac) (ha:acts.length≤80) {e:Int} (h:ig (doneD n l acts)=.error e):e=2:=by
 obtain ⟨I,hk,A⟩:=pX hc acts
 have hs:=(small I.right).2.2.2
 refine MG I hk ?_ h
 rw [←Int.natCast_mul]
 omega
end Go.Proofs.YtiiifecfdkjmbaaGreat.Pure
