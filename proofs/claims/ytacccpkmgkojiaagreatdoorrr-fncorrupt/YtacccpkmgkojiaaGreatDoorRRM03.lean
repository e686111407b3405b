import Derived.BigGuardIn
import Derived.BigQuiet
import Derived.Deep.AppendLies
import Derived.Deep.OwnRows
import Derived.Deep.QuietTactic
import Derived.Deep.RegionWith
import Derived.KernelRfl
import Derived.Laws.Rows
import Derived.Laws.Tables
import Derived.LoopIn
import Derived.LoopNIn
import Derived.Maps.OwnOps
import Derived.Maps.OwnSet
import Derived.OpenShut
import Derived.OrdersHeld
import Derived.OwnWalkIn
import Derived.ProofKit
import Derived.RangeFuncBound
import Derived.RangeFuncCalls
import Derived.RangeFuncLeaves
import Derived.RangeFuncNested
import Derived.Shelf.Abstract
import Derived.Shelf.RegionOpen
import Derived.TacticsInMore
import Derived.Test.YtacccpkmgkojiaaGreatDoorRRProg
import Derived.WalkKit
import Derived.WalkLawsBesides
import Derived.Test.YtacccpkmgkojiaaGreatDoorRRM00
import Derived.Test.YtacccpkmgkojiaaGreatDoorRRM02
namespace Go.Proofs.YtacccpkmgkojiaaGreatDoorRR
set_option linter.unusedVariables false
set_option linter.unusedSimpArgs false
set_option maxRecDepth 20000
set_option maxHeartbeats 8000000
open Go.RowKit Go.Shelf
def opV (k p c:Int) (a:Nat) (n:Int) (d:Option Addr) (dl dc:Nat):Value:=.agg #[Vi k,Vi p,Vi c,Vu a,Vi n,.slice d dl dc]
theorem own_one {W:World} {base:Nat} {v:Value} {k:Nat} {xs:List Value} (h:W.ownsRow base 5 1 v k xs) (c:Int):(#[Value.int IntKind.i64 c,v].all fun x=>x.oneCell')=true:=by
 rcases h.2 with ⟨rfl,_⟩|⟨g,cap,cur,rfl,_⟩ <;> simp [Value.oneCell']
end Go.Proofs.YtacccpkmgkojiaaGreatDoorRR
namespace Go.Proofs.YtacccpkmgkojiaaGreatDoorRR
set_option linter.unusedVariables false
set_option linter.unusedSimpArgs false
set_option maxRecDepth 20000
set_option maxHeartbeats 8000000
open Go.RowKit Go.Shelf
def okP (nn:Nat) (p c:Int):Prop:=1≤c∧0≤p∧c≤nn∧p≤(nn:Int) - c
end Go.Proofs.YtacccpkmgkojiaaGreatDoorRR
