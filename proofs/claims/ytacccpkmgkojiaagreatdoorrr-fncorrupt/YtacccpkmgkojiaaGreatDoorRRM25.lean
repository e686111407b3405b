import Derived.Below
import Derived.BigGuardIn
import Derived.BigQuiet
import Derived.BigRegionIn
import Derived.Conc.MuLone
import Derived.Deep.AppendLies
import Derived.Deep.CutBlock
import Derived.Deep.DeepCutAuto
import Derived.Deep.LoopGhost
import Derived.Deep.MidRow
import Derived.Deep.OwnRows
import Derived.Deep.QuietTactic
import Derived.Deep.RegionHeld
import Derived.Deep.RegionLaw
import Derived.Deep.RegionWith
import Derived.KernelRfl
import Derived.Laws.BytesString
import Derived.Laws.CopyOwn
import Derived.Laws.OwnMore
import Derived.Laws.Rows
import Derived.Laws.Tables
import Derived.Lib.SmallJoins
import Derived.LoopIn
import Derived.LoopNIn
import Derived.Maps.OwnOps
import Derived.Maps.OwnSet
import Derived.OpenShut
import Derived.OrdersHeld
import Derived.OwnWalkIn
import Derived.ProofKit
import Derived.RangeFuncBound
import Derived.RangeFuncCalls
import Derived.RangeFuncLeaves
import Derived.RangeFuncNested
import Derived.Shelf.Abstract
import Derived.Shelf.Bits.Mul64
import Derived.Shelf.RegionOpen
import Derived.TacticsInMore
import Derived.Test.YtacccpkmgkojiaaGreatDoorRRProg
import Derived.WalkKit
import Derived.WalkLawsBesides
import Derived.Test.YtacccpkmgkojiaaGreatDoorRRM00
import Derived.Test.YtacccpkmgkojiaaGreatDoorRRM02
import Derived.Test.YtacccpkmgkojiaaGreatDoorRRM06
import Derived.Test.YtacccpkmgkojiaaGreatDoorRRM09
import Derived.Test.YtacccpkmgkojiaaGreatDoorRRM10
import Derived.Test.YtacccpkmgkojiaaGreatDoorRRM15
import Derived.Test.YtacccpkmgkojiaaGreatDoorRRM17
import Derived.Test.YtacccpkmgkojiaaGreatDoorRRM18
import Derived.Test.YtacccpkmgkojiaaGreatDoorRRM22
namespace Go.Proofs.YtacccpkmgkojiaaGreatDoorRR
set_option linter.unusedVariables false
set_option linter.unusedSimpArgs false
set_option maxRecDepth 20000
set_option maxHeartbeats 8000000
open Go.RowKit
def frn (tk:Nat→Bool):Nat→Nat
 | 0=>0
 | k+1=>if tk k then 0 else frn tk k+1
theorem frn_le (tk:Nat→Bool):∀ k,frn tk k≤k
 | 0=>Nat.le_refl _
 | k+1=>by have:=frn_le tk k;unfold frn;split <;> omega
theorem frn_spec (tk:Nat→Bool):∀ k n,n≤frn tk k↔n≤k∧∀ q,k - n≤q→q < k→tk q=false
 | 0,n=>by
  simp only [frn]
  exact⟨fun h=>⟨h,fun q _ hq=>by omega⟩,fun h=>h.1⟩
 | k+1,n=>by
  have ih:=frn_spec tk k
  simp only [frn]
  cases ht:tk k with
  | true =>
   simp only [if_true]
   constructor
   ·intro h
    exact⟨by omega,fun q h1 h2=>by omega⟩
   intro ⟨h1,h2⟩
   by_cases h0:n=0
   ·omega
   have:=h2 k (by omega) (by omega)
   rw [ht] at this;cases this
  | false =>
   simp only [Bool.false_eq_true,if_false]
   constructor
   ·intro h
    refine⟨by have:=frn_le tk k;omega,fun q h1 h2=>?_⟩
    by_cases e:q=k
    ·subst e;exact ht
    exact ((ih (n - 1)).1 (by omega)).2 q (by omega) (by omega)
   intro ⟨h1,h2⟩
   by_cases h0:n=0
   ·omega
   have:=(ih (n - 1)).2 ⟨by omega,fun q h3 h4=>h2 q (by omega) (by omega)⟩
   omega
theorem find_range {N k:Nat} {p:Nat→Bool} (h1:k < N) (h2:p k=true) (h3:∀ i,i < k→p i=false):(List.range N).find? p=some k:=by
 rw [List.find?_range_eq_some];exact⟨h2,List.mem_range.2 h1,fun j hj=>by rw [h3 j hj];rfl⟩
def tkn (rg:List Rg9) (q:Nat):Bool:=rg.any fun r=>decide (r.first≤187+q) && decide (187+q < r.first+r.ext)
theorem win_iff (rg:List Rg9) (hr:∀ r∈rg,187≤r.first∧1≤r.ext) {i n:Nat} (hn:1≤n):(rg.all fun r=>decide (187+i+n≤r.first) || decide (r.first+r.ext≤187+i))=true↔∀ q,i≤q→q < i+n→tkn rg q=false:=by
 rw [List.all_eq_true];constructor
 ·intro h q h1 h2;unfold tkn
  cases e:rg.any _ with
  | false=>rfl
  | true =>
   exfalso;obtain⟨r,hm,hx⟩:=List.any_eq_true.1 e;have:=h r hm;simp at this hx;omega
 intro h r hm;have h0:=hr r hm;simp
 by_cases h1:187+i+n≤r.first
 ·exact .inl h1
 by_cases h2:r.first+r.ext≤187+i
 ·exact .inr h2
 exfalso;have key:∀ q,i≤q→q < i+n→¬(r.first≤187+q∧187+q < r.first+r.ext):=fun q a b hc=>by
  have:=h q a b;unfold tkn at this;have h3:(rg.any fun r=>decide (r.first≤187+q) && decide (187+q < r.first+r.ext))=true:=List.any_eq_true.2 ⟨r,hm,by simp;exact hc⟩;rw [h3] at this
  cases this
 by_cases h3:r.first≤187+i
 ·exact key i (Nat.le_refl _) (by omega) ⟨h3,by omega⟩
 exact key (r.first - 187) (by omega) (by omega) ⟨by omega,by omega⟩
theorem roomL_some {h:Hs} (hr:∀ r∈h.rg,187≤r.first∧1≤r.ext) {k n:Nat} (hn:1≤n) (hk:k < 96) (h1:frn (tkn h.rg) (k+1)=n) (h2:∀ j,j≤k→frn (tkn h.rg) j < n):roomL h n=some (187+(k+1 - n)):=by
 have hle:=frn_le (tkn h.rg) (k+1);unfold roomL;rw [find_range (k:=k+1 - n) (by omega) ?_ ?_]
 ·rfl
 ·simp only [Bool.and_eq_true,decide_eq_true_eq];refine⟨by omega,(win_iff h.rg hr hn).2 (fun q a b=>?_)⟩;exact ((frn_spec (tkn h.rg) (k+1) n).1 (by omega)).2 q a (by omega)
 intro i hi
 cases e:(decide (i+n≤96) && h.rg.all fun r=>decide (187+i+n≤r.first) || decide (r.first+r.ext≤187+i)) with
 | false=>rfl
 | true =>
  exfalso;simp only [Bool.and_eq_true,decide_eq_true_eq] at e;have hw:=(win_iff h.rg hr hn).1 e.2;have:=(frn_spec (tkn h.rg) (i+n) n).2 ⟨by omega,fun q a b=>hw q (by omega) b⟩;have:=h2 (i+n) (by omega);omega
theorem roomL_none {h:Hs} (hr:∀ r∈h.rg,187≤r.first∧1≤r.ext) {n:Nat} (hn:1≤n) (h2:∀ j,j≤96→frn (tkn h.rg) j < n):roomL h n=none:=by
 unfold roomL;rw [List.find?_eq_none.2]
 ·rfl
 intro i hi e;simp only [Bool.and_eq_true,decide_eq_true_eq] at e;have hw:=(win_iff h.rg hr hn).1 e.2;have:=(frn_spec (tkn h.rg) (i+n) n).2 ⟨by omega,fun q a b=>hw q (by omega) b⟩;have:=h2 (i+n) (by omega);omega
end Go.Proofs.YtacccpkmgkojiaaGreatDoorRR
