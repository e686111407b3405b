import Derived.Below
import Derived.BigGuardIn
import Derived.BigQuiet
import Derived.BigRegionIn
import Derived.Conc.MuLone
import Derived.Deep.AppendLies
import Derived.Deep.CutBlock
import Derived.Deep.DeepCutAuto
import Derived.Deep.LoopGhost
import Derived.Deep.MidRow
import Derived.Deep.OwnRows
import Derived.Deep.QuietTactic
import Derived.Deep.RegionLaw
import Derived.Deep.RegionWith
import Derived.KernelRfl
import Derived.Laws.CopyOwn
import Derived.Laws.OwnMore
import Derived.Laws.Rows
import Derived.Laws.Tables
import Derived.Lib.SmallJoins
import Derived.LoopIn
import Derived.LoopNIn
import Derived.Maps.OwnOps
import Derived.Maps.OwnSet
import Derived.OpenShut
import Derived.OrdersHeld
import Derived.OwnWalkIn
import Derived.ProofKit
import Derived.RangeFuncBound
import Derived.RangeFuncCalls
import Derived.RangeFuncLeaves
import Derived.RangeFuncNested
import Derived.Shelf.Abstract
import Derived.Shelf.Bits.Mul64
import Derived.Shelf.RegionOpen
import Derived.TacticsInMore
import Derived.Test.YtacccpkmgkojiaaGreatDoorRRProg
import Derived.WalkKit
import Derived.WalkLawsBesides
import Derived.Test.YtacccpkmgkojiaaGreatDoorRRM00
import Derived.Test.YtacccpkmgkojiaaGreatDoorRRM02
import Derived.Test.YtacccpkmgkojiaaGreatDoorRRM06
import Derived.Test.YtacccpkmgkojiaaGreatDoorRRM10
import Derived.Test.YtacccpkmgkojiaaGreatDoorRRM15
import Derived.Test.YtacccpkmgkojiaaGreatDoorRRM17
namespace Go.Proofs.YtacccpkmgkojiaaGreatDoorRR
set_option linter.unusedVariables false
set_option linter.unusedSimpArgs false
set_option maxRecDepth 20000
set_option maxHeartbeats 8000000
open Go.RowKit
def takeM (cf:Cf) (h:Hs) (p a old:Nat):An4×Hs :=
 match mallocM cf h a with
 | (none,h1)=>(.no 1,h1)
 | (some q,h1)=>(⟨0,q,0,[]⟩,freeM cf { h1 with m:=copyM h1.m p q (min old a) } (findM { h1 with m:=copyM h1.m p q (min old a) } p))
def malH (cf:Cf) (h:Hs) (a:Nat):An4×Hs:=(malA (mallocM cf h a).1,(mallocM cf h a).2)
theorem reallocM_eq (cf:Cf) (h:Hs) (p a:Nat):reallocM cf h p a=if p=0 then malH cf h a else match findM h p with
  | .no code=>(.no code,h)
  | .slot c s j=>if sound cf h c s j=false then (.no 5,h) else if a≤1016∧coN a=c then (⟨0,p,0,[]⟩,{ h with rq:=upd3 h.rq c s j a }) else takeM cf h p a (h.rq c s j).toNat
  | .range r=>if 1016 < a∧pagesN a=r.pages then (⟨0,p,0,[]⟩,{ h with rg:=h.rg.map fun x=>if x.base=r.base then { x with rq:=a } else x }) else takeM cf h p a r.rq.toNat:=by
 have e0:(match mallocM cf h a with
   | (none,h1)=>(An4.no 1,h1)
   | (some q,h1)=>(⟨0,q,0,[]⟩,h1))=malH cf h a:=by
  unfold malH
  cases mallocM cf h a with
  | mk o h1=>cases o <;> rfl
 unfold reallocM;dsimp only
 by_cases hp:p=0
 ·rw [if_pos hp,if_pos hp];exact e0
 rw [if_neg hp,if_neg hp]
 cases findM h p with
 | no code=>rfl
 | slot c s j=>rfl
 | range r=>rfl
theorem Area.le {h:Hs} {p n m:Nat} (A:Area h p n) (hm:m≤n):Area h p m:=by
 cases A with
 | slot c s j hc hs hj hp hl hn=>exact .slot c s j hc hs hj hp hl (Nat.le_trans hm hn)
 | range r hr hb hs hn=>exact .range r hr hb hs (Nat.le_trans hm hn)
theorem Inv.ltA {cf:Cf} {h:Hs} (i:Inv cf h) {p n:Nat} (A:Area h p n):p+n≤300000:=by
 cases A with
 | slot c s j hc hs hj hp hl hn =>
  have:=adr_in hc hs hj;omega
 | range r hr hb hs hn =>
  have h1:=i.rgs r hr;unfold Rg9.base at hb;unfold Rg9.ext at h1;omega
end Go.Proofs.YtacccpkmgkojiaaGreatDoorRR
