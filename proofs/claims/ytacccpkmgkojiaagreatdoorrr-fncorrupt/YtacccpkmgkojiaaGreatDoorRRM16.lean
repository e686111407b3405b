import Derived.Below
import Derived.BigGuardIn
import Derived.BigQuiet
import Derived.BigRegionIn
import Derived.Conc.MuLone
import Derived.Deep.AppendLies
import Derived.Deep.CutBlock
import Derived.Deep.DeepCutAuto
import Derived.Deep.LoopGhost
import Derived.Deep.OwnRows
import Derived.Deep.QuietTactic
import Derived.Deep.RegionWith
import Derived.KernelRfl
import Derived.Laws.CopyOwn
import Derived.Laws.OwnMore
import Derived.Laws.Rows
import Derived.Laws.Tables
import Derived.LoopIn
import Derived.LoopNIn
import Derived.Maps.OwnOps
import Derived.Maps.OwnSet
import Derived.OpenShut
import Derived.OrdersHeld
import Derived.OwnWalkIn
import Derived.ProofKit
import Derived.RangeFuncBound
import Derived.RangeFuncCalls
import Derived.RangeFuncLeaves
import Derived.RangeFuncNested
import Derived.Shelf.Abstract
import Derived.Shelf.Bits.Mul64
import Derived.Shelf.RegionOpen
import Derived.TacticsInMore
import Derived.Test.YtacccpkmgkojiaaGreatDoorRRProg
import Derived.WalkKit
import Derived.WalkLawsBesides
import Derived.Test.YtacccpkmgkojiaaGreatDoorRRM00
import Derived.Test.YtacccpkmgkojiaaGreatDoorRRM02
import Derived.Test.YtacccpkmgkojiaaGreatDoorRRM06
import Derived.Test.YtacccpkmgkojiaaGreatDoorRRM08
import Derived.Test.YtacccpkmgkojiaaGreatDoorRRM09
import Derived.Test.YtacccpkmgkojiaaGreatDoorRRM10
namespace Go.Proofs.YtacccpkmgkojiaaGreatDoorRR
set_option linter.unusedVariables false
set_option linter.unusedSimpArgs false
set_option maxRecDepth 20000
set_option maxHeartbeats 8000000
open Go.RowKit
theorem flat_at {α:Type} (f:α→List Value) (n:Nat) (hf:∀ a,(f a).length=n):∀ (l:List α) (i:Nat) (a:α),l[i]?=some a→∀ r,r < n→(l.flatMap f)[i*n+r]?=(f a)[r]?
 | [],i,a,h=>by simp at h
 | x::l,0,a,h=>fun r hr=>by
  simp at h
  subst h
  rw [List.flatMap_cons,Nat.zero_mul,Nat.zero_add,List.getElem?_append_left (by rw [hf];exact hr)]
 | x::l,i+1,a,h=>fun r hr=>by
  simp at h
  have hi:(i+1)*n=i*n+n:=by rw [Nat.add_mul,Nat.one_mul]
  rw [List.flatMap_cons,List.getElem?_append_right (by rw [hf];omega),hf,show (i+1)*n+r - n=i*n+r by omega]
  exact flat_at f n hf l i a h r hr
theorem own_cell {W:World} {B:Nat} {e:TypeId} {sz:Nat} {G n cap:Nat} {xs:List Value} (h:W.ownsRow B e sz (Vl G n cap) n xs) (i:Nat) (v:Value) (hv:xs[i]?=some v):W.cell? ⟨G,i,none⟩=some v:=by
 rcases h.2 with ⟨e,_⟩|⟨g,cap',cur,e,h1,h2,h3,h4,h5,h6⟩
 ·simp at e
 simp at e;obtain⟨rfl,rfl⟩:=e;have hi:=(List.getElem?_eq_some_iff.1 hv).1;rw [←h6,List.getElem?_take_of_lt (by rw [←h.1];exact hi),Array.getElem?_toList] at hv;simp [World.cell?,h2,hv]
theorem allS_len:allS.length=1062:=by decide +kernel
def sA (k:Nat):Nat×Nat×Nat:=(allS[k]?).getD (0,0,0)
theorem sA_some {k:Nat} (h:k < 1062):allS[k]?=some (sA k):=by
 unfold sA;rw [List.getElem?_eq_getElem (by rw [allS_len];exact h)];rfl
def adA (k:Nat):Nat:=adr (sA k).1 (sA k).2.1 (sA k).2.2
end Go.Proofs.YtacccpkmgkojiaaGreatDoorRR
namespace Go.Proofs.YtacccpkmgkojiaaGreatDoorRR
set_option linter.unusedVariables false
set_option linter.unusedSimpArgs false
set_option maxRecDepth 20000
set_option maxHeartbeats 8000000
open Go.RowKit
def up9:List (Nat×Nat×Nat)→Bool
 | a::b::r=>decide (adr a.1 a.2.1 a.2.2 < adr b.1 b.2.1 b.2.2) && up9 (b::r)
 | _=>true
theorem up9_all:up9 allS=true:=by decide +kernel
theorem up9_step:∀ (l:List (Nat×Nat×Nat)) (k:Nat) (a b:Nat×Nat×Nat),up9 l=true→l[k]?=some a→l[k+1]?=some b→adr a.1 a.2.1 a.2.2 < adr b.1 b.2.1 b.2.2
 | [],k,a,b,_,h,_=>by simp at h
 | [y],k,a,b,_,_,h=>by simp at h
 | y::z::r,0,a,b,hu,h1,h2=>by
  simp [up9] at hu h1 h2
  subst h1 h2
  exact hu.1
 | y::z::r,k+1,a,b,hu,h1,h2=>by
  simp only [up9,Bool.and_eq_true] at hu
  exact up9_step (z::r) k a b hu.2 (by simpa using h1) (by simpa using h2)
theorem adA_step {k:Nat} (h:k+1 < 1062):adA k < adA (k+1):=up9_step allS k (sA k) (sA (k+1)) up9_all (sA_some (by omega)) (sA_some h)
theorem adA_lt {i:Nat} : ∀ {k:Nat},i < k→k < 1062→adA i < adA k
 | 0,h,_=>by omega
 | k+1,h,hk=>by
  have h1:=adA_step hk
  by_cases e:i=k
  ·subst e;exact h1
  have:=adA_lt (i:=i) (k:=k) (by omega) (by omega)
  omega
theorem sA_mem {c s j:Nat} (hc:c < 12) (hs:s < 6) (hj:j < slN c):∃ k,k < 1062∧sA k=(c,s,j):=by
 have hm:(c,s,j)∈allS:=by
  unfold allS;simp only [List.mem_flatMap,List.mem_range,List.mem_map];exact⟨c,hc,s,hs,j,hj,rfl⟩
 obtain⟨k,hk⟩:=List.getElem?_of_mem hm;have hl:=(List.getElem?_eq_some_iff.1 hk).1;rw [allS_len] at hl;refine⟨k,hl,?_⟩;unfold sA;rw [hk];rfl
end Go.Proofs.YtacccpkmgkojiaaGreatDoorRR
