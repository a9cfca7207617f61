/- Worlds as plain data: what the laws of casting, moving, calm and acts ask, ready for their walks. -/
import Derived.Test.YtiiifecfdkjmbaaGreatDPureW
namespace Go.Proofs.YtiiifecfdkjmbaaGreat.Pure
set_option maxRecDepth 8000
structure CastTrueD (d d' : Wd) (n : Nat) (g : Int) (body : ByteArray) (x x' : Nd) : Prop where
 hx : d.nodes[n]? = some x
 hx' : d'.nodes[n]? = some x'
 len : d'.nodes.length = d.nodes.length
 wlen : d'.wires.length = d.wires.length
 dlen : d.wires.length = d.nodes.length
 right : Right d'
 was : Right d
 clk : x'.clock = x.clock + 1
 top : x.clock + 1 ≤ 1048576
 wire : ∀ a b, wireAt d' a b = if a = n ∧ b ≠ n ∧ b < d.nodes.length ∧ hasB d.groups g b = true then wireAt d a b ++ [⟨n, g, x'.clock, false, body⟩] else wireAt d a b
 count : x'.held.length + x'.told.length = x.held.length + x.told.length + 1
structure MoveTrueD (d d' : Wd) (f t : Nat) (x x' : Nd) (m : Mg) (rest : List Mg) (row row' : List (List Mg)) : Prop where
 hx : d.nodes[t]? = some x
 hx' : d'.nodes[t]? = some x'
 hr : d.wires[f]? = some row
 hr' : d'.wires[f]? = some row'
 hl : row[t]? = some (m :: rest)
 hl' : row'[t]? = some rest
 groups : d'.groups = d.groups
 len : d'.nodes.length = d.nodes.length
 wlen : d'.wires.length = d.wires.length
 rlen : row'.length = row.length
 node : ∀ i, i ≠ t → d'.nodes[i]? = d.nodes[i]?
 wire : ∀ i, i ≠ f → d'.wires[i]? = d.wires[i]?
 rows : ∀ i, i ≠ t → row'[i]? = row[i]?
 right : Right d'
 was : Right d
 flt : f < d.nodes.length
 tlt : t < d.nodes.length
 clk : x.clock ≤ x'.clock
 clm : m.st ≤ x'.clock
 count : x'.held.length + x'.told.length = x.held.length + x.told.length + (if m.nul then 0 else 1)
end Go.Proofs.YtiiifecfdkjmbaaGreat.Pure
