import Derived.BigGuardIn
import Derived.BigQuiet
import Derived.Deep.AppendLies
import Derived.Deep.OwnRows
import Derived.Deep.QuietTactic
import Derived.Deep.RegionWith
import Derived.KernelRfl
import Derived.Laws.Rows
import Derived.Laws.Tables
import Derived.LoopIn
import Derived.LoopNIn
import Derived.Maps.OwnOps
import Derived.Maps.OwnSet
import Derived.OpenShut
import Derived.OrdersHeld
import Derived.OwnWalkIn
import Derived.ProofKit
import Derived.RangeFuncBound
import Derived.RangeFuncCalls
import Derived.RangeFuncLeaves
import Derived.RangeFuncNested
import Derived.Shelf.Abstract
import Derived.Shelf.RegionOpen
import Derived.TacticsInMore
import Derived.Test.YtacccpkmgkojiaaGreatDoorRRProg
import Derived.WalkKit
import Derived.WalkLawsBesides
import Derived.Test.YtacccpkmgkojiaaGreatDoorRRM00
import Derived.Test.YtacccpkmgkojiaaGreatDoorRRM02
namespace Go.Proofs.YtacccpkmgkojiaaGreatDoorRR
set_option linter.unusedVariables false
set_option linter.unusedSimpArgs false
set_option maxRecDepth 20000
set_option maxHeartbeats 8000000
open Go.RowKit Go.Shelf
def putM (m:Nat→Option (Bool×List Int)) (p:Nat) (x:Int):Nat→Option (Bool×List Int):=updM m (p/1024) ((m (p/1024)).map fun q=>(q.1,q.2.set (p % 1024) x))
def storeM (m:Nat→Option (Bool×List Int)) (a:Nat) (ys:List Int):Nat→(Nat→Option (Bool×List Int))
 | 0=>m
 | k+1=>putM (storeM m a ys k) (a+k) (ys[k]?.getD 0)
theorem putM_open (m:Nat→Option (Bool×List Int)) (p:Nat) (x:Int) (j:Nat):isOpen (putM m p x j)=isOpen (m j):=by
 unfold putM
 by_cases e:j=p/1024
 ·subst e;rw [updM_same]
  cases m (p/1024) with
  | none=>rfl
  | some q=>rfl
 rw [updM_other _ _ _ _ e]
theorem storeM_open (m:Nat→Option (Bool×List Int)) (a:Nat) (ys:List Int):∀ k j,isOpen (storeM m a ys k j)=isOpen (m j)
 | 0,j=>rfl
 | k+1,j=>by simp only [storeM];rw [putM_open];exact storeM_open m a ys k j
end Go.Proofs.YtacccpkmgkojiaaGreatDoorRR
namespace Go.Proofs.YtacccpkmgkojiaaGreatDoorRR
set_option linter.unusedVariables false
set_option linter.unusedSimpArgs false
set_option maxRecDepth 20000
set_option maxHeartbeats 8000000
open Go.RowKit Go.Shelf
theorem own_type {W:World} {base:Nat} {e:TypeId} {size:Nat} {v:Value} {n:Nat} {xs:List Value} (h:W.ownsRow base e size v n xs) {g:Nat} (hg:v.ownBlock=some g):∃ c,W.heap[g]?=some (.cells c e (0,0)):=by
 rcases h.2 with ⟨rfl,_⟩|⟨g',cap,cur,rfl,hb,hgg,_⟩
 ·cases hg
 cases hg;exact⟨_,hgg⟩
end Go.Proofs.YtacccpkmgkojiaaGreatDoorRR
