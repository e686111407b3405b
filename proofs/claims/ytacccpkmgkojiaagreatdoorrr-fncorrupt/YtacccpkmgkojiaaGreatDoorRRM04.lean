import Derived.BigGuardIn
import Derived.BigQuiet
import Derived.Deep.AppendLies
import Derived.Deep.OwnRows
import Derived.Deep.QuietTactic
import Derived.Deep.RegionWith
import Derived.KernelRfl
import Derived.Laws.Rows
import Derived.Laws.Tables
import Derived.LoopIn
import Derived.LoopNIn
import Derived.Maps.OwnOps
import Derived.Maps.OwnSet
import Derived.OpenShut
import Derived.OrdersHeld
import Derived.OwnWalkIn
import Derived.ProofKit
import Derived.RangeFuncBound
import Derived.RangeFuncCalls
import Derived.RangeFuncLeaves
import Derived.RangeFuncNested
import Derived.Shelf.Abstract
import Derived.Shelf.RegionOpen
import Derived.TacticsInMore
import Derived.Test.YtacccpkmgkojiaaGreatDoorRRProg
import Derived.WalkKit
import Derived.WalkLawsBesides
import Derived.Test.YtacccpkmgkojiaaGreatDoorRRM00
import Derived.Test.YtacccpkmgkojiaaGreatDoorRRM02
namespace Go.Proofs.YtacccpkmgkojiaaGreatDoorRR
set_option linter.unusedVariables false
set_option linter.unusedSimpArgs false
set_option maxRecDepth 20000
set_option maxHeartbeats 8000000
open Go.RowKit Go.Shelf
def accC (m:Nat→Option (Bool×List Int)) (a:Nat) (n:Int):Int :=
 if n < 0∨4096 < n then 6 else if n=0 then 0 else if 4611686018427387904≤(a:Int)+(n - 1) then 2 else accCode (reachN m a n.toNat)
end Go.Proofs.YtacccpkmgkojiaaGreatDoorRR
