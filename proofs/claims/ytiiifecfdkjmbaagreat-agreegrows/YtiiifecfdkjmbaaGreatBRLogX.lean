/- Contracts of furlongref.SameActs (at lists that are the same), ActBytes, ReplayOf; no condition. Contracts of furlongref.SameActs (at lists that are the same), ActBytes, ReplayOf; no condition. Contracts of log.Replay, furlongref.ReplayOf, log.Write, furlongref.ActBytes, log.Recover, each without a split; conditions: the groups read as ints. Logs as plain data: a log that is cut, and one that goes on; no condition. -/
import Derived.Test.YtiiifecfdkjmbaaGreatBSLogX
import Derived.Test.YtiiifecfdkjmbaaGreatBSameX
namespace Go.Proofs.YtiiifecfdkjmbaaGreat
set_option maxRecDepth 8000
open Go.RowKit Go.Shelf
open _root_.Go.Proofs.YtiiifecfdkjmbaaGreat.Pure
set_option linter.unusedVariables false
set_option linter.unusedSimpArgs false
attribute [local go_sem] Oper.semAt_some
end Go.Proofs.YtiiifecfdkjmbaaGreat
namespace Go.Proofs.YtiiifecfdkjmbaaGreat
set_option maxRecDepth 8000
open Go.RowKit Go.Shelf
open _root_.Go.Proofs.YtiiifecfdkjmbaaGreat.Pure
set_option linter.unusedVariables false
set_option linter.unusedSimpArgs false
attribute [local go_sem] Oper.semAt_some
end Go.Proofs.YtiiifecfdkjmbaaGreat
namespace Go.Proofs.YtiiifecfdkjmbaaGreat
set_option maxRecDepth 8000
open Go.RowKit Go.Shelf
open _root_.Go.Proofs.YtiiifecfdkjmbaaGreat.Pure
set_option linter.unusedVariables false
set_option linter.unusedSimpArgs false
def doE (d:Wd) (ac:Ac):Int:=match doD d ac with | .error e=>e | .ok _=>0
def doW (d:Wd) (ac:Ac):Wd:=match doD d ac with | .error _=>⟨[],[],[]⟩ | .ok d'=>d'
theorem PD (x:WV) (d:Wd) (ac:Ac) (w:World) (hW:WAt w x d) :
  Calls Tryz.prog 53 #[.agg #[.slice x.ga x.gl x.gc,.slice x.na x.nl x.nc,.slice x.wa x.wl x.wc],acV ac] w fun e w'=>∃ v:WV,e=.returned (.tuple #[.agg #[.slice v.ga v.gl v.gc,.slice v.na v.nl v.nc,.slice v.wa v.wl v.wc],.int .i64 (doE d ac)])∧WAt w' v (doW d ac)∧Since w w':=by
 refine (xV x d ac w hW).mono ?_
 intro e w' h
 unfold doE doW
 cases hr:doD d ac with
 | error er =>
  rw [hr] at h
  obtain ⟨he,hS⟩:=h.out.1 er rfl
  exact ⟨⟨none,0,0,none,0,0,none,0,0⟩,he,Om w',hS⟩
 | ok d' =>
  rw [hr] at h
  obtain ⟨v,he,hv,hS⟩:=zT h
  exact ⟨v,he,hv,hS⟩
end Go.Proofs.YtiiifecfdkjmbaaGreat
namespace Go.Proofs.YtiiifecfdkjmbaaGreat
set_option maxRecDepth 8000
open _root_.Go.Proofs.YtiiifecfdkjmbaaGreat.Pure
end Go.Proofs.YtiiifecfdkjmbaaGreat
