import Derived.Below
import Derived.BigGuardIn
import Derived.BigQuiet
import Derived.BigRegion
import Derived.BigRegionIn
import Derived.Conc.MuLone
import Derived.Deep.AppendLies
import Derived.Deep.AppendSrc
import Derived.Deep.CutBlock
import Derived.Deep.DeepCutAuto
import Derived.Deep.LoopGhost
import Derived.Deep.MidRow
import Derived.Deep.OwnRows
import Derived.Deep.QuietTactic
import Derived.Deep.RegionHeld
import Derived.Deep.RegionLaw
import Derived.Deep.RegionWith
import Derived.Defers
import Derived.Ground.SlsfProg
import Derived.KernelRfl
import Derived.Laws.BytesString
import Derived.Laws.CopyOwn
import Derived.Laws.OwnMore
import Derived.Laws.Rows
import Derived.Laws.Tables
import Derived.Lib.SliceRun
import Derived.Lib.SmallJoins
import Derived.LoopIn
import Derived.LoopNIn
import Derived.Maps.AppendAt
import Derived.Maps.OwnOps
import Derived.Maps.OwnSet
import Derived.Maps.RangeWalk
import Derived.OpenShut
import Derived.OrdersHeld
import Derived.OwnWalkIn
import Derived.ProofKit
import Derived.RangeFuncBound
import Derived.RangeFuncCalls
import Derived.RangeFuncLeaves
import Derived.RangeFuncNested
import Derived.Recover
import Derived.Shelf.Abstract
import Derived.Shelf.Bits.Mul64
import Derived.Shelf.Lay
import Derived.Shelf.RegionOpen
import Derived.Shelf.SlGeneric
import Derived.Shelf.SlSortCmp.NoneTotal
import Derived.Shelf.SlSortCmp.WholeK
import Derived.Shelf.Slices.In.SortNone
import Derived.Shelf.Sort.Plain
import Derived.Sort.AssemblyPlain
import Derived.Sort.KeysCollected
import Derived.Sort.LotD4
import Derived.Sort.OwnSortedInts
import Derived.Sort.Walk13a
import Derived.TacticsInMore
import Derived.Test.YtacccpkmgkojiaaGreatDoorRRProg
import Derived.WalkKit
import Derived.WalkLawsBesides
import Derived.Test.YtacccpkmgkojiaaGreatDoorRRM00
import Derived.Test.YtacccpkmgkojiaaGreatDoorRRM01
import Derived.Test.YtacccpkmgkojiaaGreatDoorRRM02
import Derived.Test.YtacccpkmgkojiaaGreatDoorRRM06
import Derived.Test.YtacccpkmgkojiaaGreatDoorRRM08
import Derived.Test.YtacccpkmgkojiaaGreatDoorRRM09
import Derived.Test.YtacccpkmgkojiaaGreatDoorRRM10
import Derived.Test.YtacccpkmgkojiaaGreatDoorRRM14
import Derived.Test.YtacccpkmgkojiaaGreatDoorRRM15
import Derived.Test.YtacccpkmgkojiaaGreatDoorRRM16
import Derived.Test.YtacccpkmgkojiaaGreatDoorRRM17
import Derived.Test.YtacccpkmgkojiaaGreatDoorRRM18
import Derived.Test.YtacccpkmgkojiaaGreatDoorRRM22
import Derived.Test.YtacccpkmgkojiaaGreatDoorRRM24
import Derived.Test.YtacccpkmgkojiaaGreatDoorRRM26
import Derived.Test.YtacccpkmgkojiaaGreatDoorRRM27
import Derived.Test.YtacccpkmgkojiaaGreatDoorRRM31
import Derived.Test.YtacccpkmgkojiaaGreatDoorRRM33
import Derived.Test.YtacccpkmgkojiaaGreatDoorRRM34
import Derived.Test.YtacccpkmgkojiaaGreatDoorRRM38
namespace Go.Proofs.YtacccpkmgkojiaaGreatDoorRR
open Go.RowKit Go.Maps
set_option linter.unusedVariables false
set_option maxRecDepth 20000
theorem im_isNaN (x : Nat) (W : World) : Calls Tryz.prog 150 #[.int .u64 (x : Nat)] W fun e W' => e = .returned (.bool false) ∧ W' = W := by
  go_enter Tryz.func150, Tryz.ntmps150
  go_wp2
  go_ret
  exact ⟨rfl, rfl⟩
end Go.Proofs.YtacccpkmgkojiaaGreatDoorRR

namespace Go.Proofs.YtacccpkmgkojiaaGreatDoorRR
set_option linter.unusedVariables false
set_option linter.unusedSimpArgs false
set_option maxRecDepth 20000
set_option maxHeartbeats 8000000
open Go.RowKit Go.Maps
def ltN (x y:Nat):Bool:=decide (x < y)
theorem swoN:Sort.SWO ltN where
 irrefl x:=by simp [ltN]
 trans x y z h1 h2:=by simp [ltN] at *;omega
 ntrans x y z h1 h2:=by simp [ltN] at *;omega
structure Au (G N c:Nat) (V0:World) (d:Array Nat) (V:World):Prop where
 sz:d.size=N
 row:V.ownsRow G 23 1 (Vl G N c) N (Us d.toList)
 bel:Below G V0 V
variable {G N c:Nat} {V0 V:World} {d:Array Nat}
theorem Au.lt (h:Au G N c V0 d V):G < V.heap.size:=by
 rcases h.row.2 with ⟨e,_⟩|⟨g,cap,cur,e,h1,h2,_⟩
 ·cases e
 cases e
 exact lt_blk h2
theorem Au.cell (h:Au G N c V0 d V) {i:Nat} (hi:i < N):V.cell? ⟨G,i,none⟩=some (Vu ((d[i]! : Nat):Int)):=by
 refine own_cell h.row i _ (Us_at ?_);have:i < d.size:=by rw [h.sz];exact hi
 rw [Array.getElem?_toList,Array.getElem?_eq_getElem this,getElem!_pos d i this]
theorem Au.fz (h:Au G N c V0 d V) (i:Nat):V.frozen? ⟨G,i,none⟩=false:=own_fz h.row i
theorem Au.set (h:Au G N c V0 d V) {i:Nat} (hi:i < N) (x:Nat):Au G N c V0 (d.setIfInBounds i x) (V.setCell ⟨G,i,none⟩ (Vu (x:Nat))):=by
 refine⟨by rw [Array.size_setIfInBounds,h.sz],?_,h.bel.setCell (Nat.le_refl _) _⟩;have:=own_set h.row i (by rw [Us_len,Array.length_toList,h.sz];exact hi) (Vu (x:Nat));rw [Us_set] at this;rw [Array.toList_setIfInBounds];exact this
theorem Au.swap (h:Au G N c V0 d V) {i j:Nat} (hi:i < N) (hj:j < N):Au G N c V0 (Sort.swp d i j) ((V.setCell ⟨G,i,none⟩ (Vu ((d[j]! : Nat):Int))).setCell ⟨G,j,none⟩ (Vu ((d[i]! : Nat):Int))):=(h.set hi _).set hj _
theorem Au.below {V':World} (h:Au G N c V0 d V) (b:Below V.heap.size V V'):Au G N c V0 d V':=⟨h.sz,own_bel h.row b,h.bel.trans (b.mono (Nat.le_of_lt h.lt))⟩
theorem Au.drew (h:Au G N c V0 d V):Au G N c V0 d V.drew:=h.below (Below.refl _ _).drew
theorem Au.sw1 (h:Au G N c V0 d V) {i j:Nat} (hi:i < N) (hj:j < N):∃ u,(V.setCell ⟨G,i,none⟩ (Vu ((d[j]! : Nat):Int))).cell? ⟨G,j,none⟩=some (Vu ((u:Nat):Int)):=⟨_,(h.set hi _).cell hj⟩
theorem im_less (x y:Nat) (W:World):Calls Tryz.prog 209 #[Vu (x:Nat),Vu (y:Nat)] W fun e W'=>e=.returned (.bool (ltN x y))∧W'=W:=by
 have HN:=hid im_isNaN;unfold ltN
 by_cases h1:x < y
 ·have h1':(x:Int) < (y:Int):=by omega
  rw [decide_eq_true h1];go_enter Tryz.func209,Tryz.ntmps209;go_wp2_with (refine (HN.out _ _).mono ?_;rintro e W9 ⟨rfl,rfl⟩);go_ret;exact⟨rfl,rfl⟩
 have h1':¬((x:Int) < (y:Int)):=by omega
 rw [decide_eq_false h1];go_enter Tryz.func209,Tryz.ntmps209;go_wp2_with (refine (HN.out _ _).mono ?_;rintro e W9 ⟨rfl,rfl⟩);go_ret;exact⟨rfl,rfl⟩
theorem Au.drewN (h:Au G N c V0 d V) (n:Nat):Au G N c V0 d (V.drewN n):=by
 exact h.below ⟨rfl,rfl,rfl,Nat.le_refl _,fun _ _=>rfl⟩
theorem im_lessT {x y:Nat} (h:ltN x y=true) (W:World):Calls Tryz.prog 209 #[Vu (x:Nat),Vu (y:Nat)] W fun e W'=>e=.returned (.bool true)∧W'=W:=by
 have:=im_less x y W;rw [h] at this;exact this
theorem im_lessF {x y:Nat} (h:ltN x y=false) (W:World):Calls Tryz.prog 209 #[Vu (x:Nat),Vu (y:Nat)] W fun e W'=>e=.returned (.bool false)∧W'=W:=by
 have:=im_less x y W;rw [h] at this;exact this
end Go.Proofs.YtacccpkmgkojiaaGreatDoorRR
namespace Go.Proofs.YtacccpkmgkojiaaGreatDoorRR
set_option linter.unusedVariables false
set_option linter.unusedSimpArgs false
set_option maxRecDepth 20000
set_option maxHeartbeats 8000000
open Go.RowKit Go.Maps
theorem im_ins (G N c a b : Nat) (d : Array Nat) (V0 V : World) (A : Au G N c V0 d V) (hb : b ≤ N) (hN : N ≤ 100000) (ha : a ≤ N) :
    Calls Tryz.prog 203 #[.slice (some ⟨G, 0, none⟩) N c, .int .i64 a, .int .i64 b] V fun e V' => e = .returned (.tuple #[]) ∧ Au G N c V0 (Sort.insertionSort ltN d a b) V' := by
  have LS := hid im_less
  obtain ⟨D0, hD⟩ : ∃ D0, Sort.insertionSort ltN d a b = D0 := ⟨_, rfl⟩
  rw [hD]
  have HD := hid (show Sort.insOuter ltN a b (a + 1) d = D0 from hD)
  have HA := hid A
  clear hD A
  go_enter Tryz.func203, Tryz.ntmps203
  go_wp2_with fail
  go_loopw [6] (fun s6 wr => ∃ (i : Nat) (d : Array Nat), a + 1 ≤ i ∧ i ≤ N + 1 ∧ s6 = .int .i64 i ∧ Hid (Sort.insOuter ltN a b i d = D0) ∧ Hid (Au G N c V0 d wr)) (fun s6 _ => N + 1 - (intOf s6).toNat)
  case atStart => exact ⟨a + 1, d, Nat.le_refl _, by omega, by go_num, HD, HA⟩
  case round =>
    clear HD HA
    obtain ⟨i, d, hi1, hi2, rfl, HD, HA⟩ := hrel
    by_cases hlt : i < b
    · have HD1 := hid (show Sort.insOuter ltN a b (i + 1) (Sort.insInner ltN a i d) = D0 by have := HD.out; rw [Sort.insOuter, if_pos hlt] at this; exact this)
      obtain ⟨D1, hD1⟩ : ∃ D1, Sort.insInner ltN a i d = D1 := ⟨_, rfl⟩
      rw [hD1] at HD1
      have HI := hid hD1
      clear hD1 HD
      go_wp2_with fail
      go_loopw [7] (fun s7 wr => ∃ (j : Nat) (d : Array Nat), a ≤ j ∧ j ≤ i ∧ s7 = .int .i64 j ∧ Hid (Sort.insInner ltN a j d = D1) ∧ Hid (Au G N c V0 d wr)) (fun s7 _ => (intOf s7).toNat)
      case atStart => exact ⟨i, d, by omega, Nat.le_refl _, rfl, HI, HA⟩
      case round =>
        clear HI HA
        obtain ⟨j, d, hj1, hj2, rfl, HI, HA⟩ := hrel
        by_cases hja : a < j
        · obtain ⟨k, hk⟩ : ∃ k, j = k + 1 := ⟨j - 1, by omega⟩
          have HK := hid hk
          have x1 := HA.out.cell (show j < N by omega)
          have x0 := HA.out.cell (show k < N by omega)
          have hjz : (a : Int) < (j : Int) := by omega
          have hk1 : (j : Int) - 1 = (k : Int) := by omega
          have hjN : (j : Int) < (N : Int) := by omega
          have hkN : (k : Int) < (N : Int) := by omega
          have HII := hid (show Sort.insInner ltN a (k + 1) d = D1 by rw [← hk]; exact HI.out)
          clear hk
          by_cases hl : ltN d[j]! d[k]! = true
          · go_upto_region 4 with fail
            go_quiet (first | (go_at_call 209; exact Calls.quiet_of_same (im_lessT hl _)))
            have A1 := hid (HA.out.drewN nq)
            clear HA x1 x0
            generalize wr.drewN nq = w1 at A1 ⊢
            have x1 := A1.out.cell (show j < N by omega)
            have x0 := A1.out.cell (show k < N by omega)
            have f1 := A1.out.fz j
            obtain ⟨u9, y0⟩ := A1.out.sw1 (show j < N by omega) (show k < N by omega)
            have f0 := (A1.out.set (show j < N by omega) d[k]!).fz k
            have A2 := hid (A1.out.swap (show j < N by omega) (show k < N by omega))
            clear A1
            go_upto_region 6 with fail
            go_region
            have A3 := hid A2.out.drew
            have HI3 := hid (show Sort.insInner ltN a k (Sort.swp d j k) = D1 by
              have := HII.out
              rw [Sort.insInner, ← HK.out, if_pos (by simp only [hl, Bool.and_true, decide_eq_true_eq]; exact hja)] at this
              exact this)
            clear A2 x1 x0 f1 y0 f0
            go_wp2
            go_roundw
            case rel => exact ⟨k, _, by omega, by omega, by go_num, HI3, A3⟩
            case measure => simp [intOf]; omega
          · have hl : ltN d[j]! d[k]! = false := by simpa using hl
            go_upto_region 4 with fail
            go_quiet (first | (go_at_call 209; exact Calls.quiet_of_same (im_lessF hl _)))
            have A1 := hid (HA.out.drewN nq)
            have HI3 := hid (show d = D1 by
              have := HII.out
              rw [Sort.insInner, ← HK.out, if_neg (by simp [hl])] at this
              exact this)
            clear HA x1 x0
            generalize wr.drewN nq = w1 at A1 ⊢
            go_wp2
            go_roundw
            case rel => exact ⟨i + 1, D1, by omega, by omega, by go_num, HD1, hid (by rw [← HI3.out]; exact A1.out)⟩
            case measure => simp [intOf]; omega
        · have hjz : decide ((a : Int) < (j : Int)) = false := decide_eq_false (by omega)
          have HI3 := hid (show d = D1 by
              have := HI.out
              cases j with
              | zero => exact this
              | succ k => rw [Sort.insInner, if_neg (by simp; omega)] at this; exact this)
          go_upto_region 4 with fail
          go_quiet (fail)
          have A1 := hid (HA.out.drewN nq)
          clear HA
          generalize wr.drewN nq = w1 at A1 ⊢
          go_wp2
          go_roundw
          case rel => exact ⟨i + 1, D1, by omega, by omega, by go_num, HD1, hid (by rw [← HI3.out]; exact A1.out)⟩
          case measure => simp [intOf]; omega
    · have HI3 := hid (show d = D0 by have := HD.out; rw [Sort.insOuter, if_neg hlt] at this; exact this)
      have hz : ¬ ((i : Int) < (b : Int)) := by omega
      go_wp2
      go_end0
      exact ⟨rfl, by rw [← HI3.out]; exact HA.out⟩
end Go.Proofs.YtacccpkmgkojiaaGreatDoorRR
namespace Go.Proofs.YtacccpkmgkojiaaGreatDoorRR
set_option linter.unusedVariables false
set_option linter.unusedSimpArgs false
set_option maxRecDepth 20000
set_option maxHeartbeats 8000000
open Go.RowKit Go.Maps
section
variable {lt : Nat → Nat → Bool} {hi f r : Nat} {d : Array Nat}
theorem sift_end (h:2*r+1≥hi):Sort.siftDown lt hi f r d=d:=by rw [Sort.siftDown,dif_pos h]
theorem sift_R (h : ¬ 2 * r + 1 ≥ hi) (h1 : 2 * r + 2 < hi) (h2 : lt d[f + (2 * r + 1)]! d[f + (2 * r + 2)]! = true) (h3 : lt d[f + r]! d[f + (2 * r + 2)]! = true) : Sort.siftDown lt hi f r d = Sort.siftDown lt hi f (2 * r + 2) (Sort.swp d (f + r) (f + (2 * r + 2))) := by
  have h2' : lt d[f + (2 * r + 1)]! d[f + (2 * r + 1) + 1]! = true := h2
  rw [Sort.siftDown, dif_neg h, if_pos (by simp [h2']; omega), if_neg (by simp [h3]), dif_pos h1]
theorem sift_R0 (h : ¬ 2 * r + 1 ≥ hi) (h1 : 2 * r + 2 < hi) (h2 : lt d[f + (2 * r + 1)]! d[f + (2 * r + 2)]! = true) (h3 : lt d[f + r]! d[f + (2 * r + 2)]! = false) : Sort.siftDown lt hi f r d = d := by
  have h2' : lt d[f + (2 * r + 1)]! d[f + (2 * r + 1) + 1]! = true := h2
  rw [Sort.siftDown, dif_neg h, if_pos (by simp [h2']; omega), if_pos (by simp [h3])]
theorem sift_L (h : ¬ 2 * r + 1 ≥ hi) (h2 : 2 * r + 2 < hi → lt d[f + (2 * r + 1)]! d[f + (2 * r + 2)]! = false) (h3 : lt d[f + r]! d[f + (2 * r + 1)]! = true) : Sort.siftDown lt hi f r d = Sort.siftDown lt hi f (2 * r + 1) (Sort.swp d (f + r) (f + (2 * r + 1))) := by
  have h2' : 2 * r + 1 + 1 < hi → lt d[f + (2 * r + 1)]! d[f + (2 * r + 1) + 1]! = false := h2
  rw [Sort.siftDown, dif_neg h, if_neg (by simp only [Bool.and_eq_true, decide_eq_true_eq, not_and]; intro h9; rw [h2' h9]; simp), if_neg (by simp [h3])]
theorem sift_L0 (h : ¬ 2 * r + 1 ≥ hi) (h2 : 2 * r + 2 < hi → lt d[f + (2 * r + 1)]! d[f + (2 * r + 2)]! = false) (h3 : lt d[f + r]! d[f + (2 * r + 1)]! = false) : Sort.siftDown lt hi f r d = d := by
  have h2' : 2 * r + 1 + 1 < hi → lt d[f + (2 * r + 1)]! d[f + (2 * r + 1) + 1]! = false := h2
  rw [Sort.siftDown, dif_neg h, if_neg (by simp only [Bool.and_eq_true, decide_eq_true_eq, not_and]; intro h9; rw [h2' h9]; simp), if_pos (by simp [h3])]
end
theorem im_sift (G N c lo hi f : Nat) (d : Array Nat) (V0 V : World) (A : Au G N c V0 d V) (hb : f + hi ≤ N) (hN : N ≤ 100000) (hlo : lo ≤ N) :
    Calls Tryz.prog 239 #[.slice (some ⟨G, 0, none⟩) N c, .int .i64 lo, .int .i64 hi, .int .i64 f] V fun e V' => e = .returned (.tuple #[]) ∧ Au G N c V0 (Sort.siftDown ltN hi f lo d) V' := by
  obtain ⟨D0, hD⟩ : ∃ D0, Sort.siftDown ltN hi f lo d = D0 := ⟨_, rfl⟩
  rw [hD]
  have HD := hid hD
  have HA := hid A
  clear hD A
  go_enter Tryz.func239, Tryz.ntmps239
  go_wp2_with fail
  go_loopw [8] (fun s8 wr => ∃ (r : Nat) (d : Array Nat), r ≤ N ∧ s8 = .int .i64 r ∧ Hid (Sort.siftDown ltN hi f r d = D0) ∧ Hid (Au G N c V0 d wr)) (fun s8 _ => N + 1 - (intOf s8).toNat)
  case atStart => exact ⟨lo, d, hlo, rfl, HD, HA⟩
  case round =>
    clear HD HA
    obtain ⟨r, d, hr, rfl, HD, HA⟩ := hrel
    obtain ⟨ch, hch⟩ : ∃ ch, ch = 2 * r + 1 := ⟨_, rfl⟩
    have hchz : (2 : Int) * (r : Int) + 1 = (ch : Int) := by omega
    by_cases hend : ch ≥ hi
    · have he : (hi : Int) ≤ (ch : Int) := by omega
      have HE := hid (show d = D0 by have := HD.out; rw [sift_end (by omega)] at this; exact this)
      clear HD hch hend
      go_wp2
      go_end0
      exact ⟨rfl, by rw [← HE.out]; exact HA.out⟩
    · have he : ¬ ((hi : Int) ≤ (ch : Int)) := by omega
      obtain ⟨p, hp⟩ : ∃ p, p = f + ch := ⟨_, rfl⟩
      obtain ⟨q, hq⟩ : ∃ q, q = f + ch + 1 := ⟨_, rfl⟩
      obtain ⟨s, hs⟩ : ∃ s, s = f + r := ⟨_, rfl⟩
      obtain ⟨ch1, hch1⟩ : ∃ ch1, ch1 = ch + 1 := ⟨_, rfl⟩
      have hpz : (f : Int) + (ch : Int) = (p : Int) := by omega
      have hqz : (p : Int) + 1 = (q : Int) := by omega
      have hsz : (f : Int) + (r : Int) = (s : Int) := by omega
      have hc1z : (ch : Int) + 1 = (ch1 : Int) := by omega
      have hfq : (f : Int) + (ch1 : Int) = (q : Int) := by omega
      have hpN : (p : Int) < (N : Int) := by omega
      have hsN : (s : Int) < (N : Int) := by omega
      have xs := HA.out.cell (show s < N by omega)
      have xp := HA.out.cell (show p < N by omega)
      have HQ := hid (And.intro hch (And.intro hp (And.intro hq (And.intro hs hch1))))
      by_cases hc2 : ch1 < hi
      · have hc2z : (ch1 : Int) < (hi : Int) := by omega
        have hqN : (q : Int) < (N : Int) := by omega
        have xq := HA.out.cell (show q < N by omega)
        by_cases hl : ltN d[p]! d[q]! = true
        · clear hch hp hq hs hch1
          go_upto_region 3 with fail
          go_quiet (first | (go_at_call 209; exact Calls.quiet_of_same (im_lessT hl _)))
          have A1 := hid (HA.out.drewN nq)
          clear HA xs xp xq
          generalize wr.drewN nq = w1 at A1 ⊢
          have xs := A1.out.cell (show s < N by omega)
          have xq := A1.out.cell (show q < N by omega)
          by_cases hm : ltN d[s]! d[q]! = true
          · go_upto_region 5 with fail
            go_quiet (first | (go_at_call 209; exact Calls.quiet_of_same (im_lessT hm _)))
            have A2 := hid (A1.out.drewN nq)
            clear A1 xs xq
            generalize w1.drewN nq = w2 at A2 ⊢
            have xs := A2.out.cell (show s < N by omega)
            have xq := A2.out.cell (show q < N by omega)
            have f1 := A2.out.fz s
            obtain ⟨u9, y0⟩ := A2.out.sw1 (show s < N by omega) (show q < N by omega)
            have f0 := (A2.out.set (show s < N by omega) d[q]!).fz q
            have A3 := hid (A2.out.swap (show s < N by omega) (show q < N by omega)).drew
            have H3 := hid (show Sort.siftDown ltN hi f ch1 (Sort.swp d s q) = D0 by
              have := HD.out
              obtain ⟨rfl, rfl, rfl, rfl, rfl⟩ := HQ.out
              rw [sift_R (by omega) (by omega) hl hm] at this; exact this)
            clear A2
            go_upto_region 6 with fail
            go_region
            clear xs xq f1 y0 f0
            go_wp2
            go_roundw
            case rel => exact ⟨ch1, _, by omega, by go_num, H3, A3⟩
            case measure => have := HQ.out; simp [intOf]; omega
          · have hm : ltN d[s]! d[q]! = false := by simpa using hm
            have H3 := hid (show d = D0 by
              have := HD.out
              obtain ⟨rfl, rfl, rfl, rfl, rfl⟩ := HQ.out
              rw [sift_R0 (by omega) (by omega) hl hm] at this; exact this)
            go_upto_region 5 with fail
            go_quiet (first | (go_at_call 209; exact Calls.quiet_of_same (im_lessF hm _)))
            have A2 := hid (A1.out.drewN nq)
            clear A1 xs xq
            generalize w1.drewN nq = w2 at A2 ⊢
            go_wp2
            first | go_end0 | ((try simp only [Exit.inBlock, Exit.then]); refine bodyPost_ret (results_none rfl _ _ _) rfl ?_)
            exact ⟨rfl, by rw [← H3.out]; exact A2.out⟩
        · have hl : ltN d[p]! d[q]! = false := by simpa using hl
          have HL := hid (show 2 * r + 2 < hi → ltN d[f + (2 * r + 1)]! d[f + (2 * r + 2)]! = false from fun _ => by
            obtain ⟨rfl, rfl, rfl, _⟩ := HQ.out
            exact hl)
          clear hch hp hq hs hch1
          go_upto_region 3 with fail
          go_quiet (first | (go_at_call 209; exact Calls.quiet_of_same (im_lessF hl _)))
          have A1 := hid (HA.out.drewN nq)
          clear HA xs xp xq
          generalize wr.drewN nq = w1 at A1 ⊢
          have xs := A1.out.cell (show s < N by omega)
          have xp := A1.out.cell (show p < N by omega)
          by_cases hm : ltN d[s]! d[p]! = true
          · go_upto_region 5 with fail
            go_quiet (first | (go_at_call 209; exact Calls.quiet_of_same (im_lessT hm _)))
            have A2 := hid (A1.out.drewN nq)
            clear A1 xs xp
            generalize w1.drewN nq = w2 at A2 ⊢
            have xs := A2.out.cell (show s < N by omega)
            have xq := A2.out.cell (show p < N by omega)
            have f1 := A2.out.fz s
            obtain ⟨u9, y0⟩ := A2.out.sw1 (show s < N by omega) (show p < N by omega)
            have f0 := (A2.out.set (show s < N by omega) d[p]!).fz p
            have A3 := hid (A2.out.swap (show s < N by omega) (show p < N by omega)).drew
            have H3 := hid (show Sort.siftDown ltN hi f ch (Sort.swp d s p) = D0 by
              have := HD.out
              obtain ⟨rfl, rfl, rfl, rfl, rfl⟩ := HQ.out
              rw [sift_L (by omega) HL.out hm] at this; exact this)
            clear A2
            go_upto_region 6 with fail
            go_region
            clear xs xq f1 y0 f0
            go_wp2
            go_roundw
            case rel => exact ⟨ch, _, by omega, by go_num, H3, A3⟩
            case measure => have := HQ.out; simp [intOf]; omega
          · have hm : ltN d[s]! d[p]! = false := by simpa using hm
            have H3 := hid (show d = D0 by
              have := HD.out
              obtain ⟨rfl, rfl, rfl, rfl, rfl⟩ := HQ.out
              rw [sift_L0 (by omega) HL.out hm] at this; exact this)
            go_upto_region 5 with fail
            go_quiet (first | (go_at_call 209; exact Calls.quiet_of_same (im_lessF hm _)))
            have A2 := hid (A1.out.drewN nq)
            clear A1 xs xp
            generalize w1.drewN nq = w2 at A2 ⊢
            go_wp2
            first | go_end0 | ((try simp only [Exit.inBlock, Exit.then]); refine bodyPost_ret (results_none rfl _ _ _) rfl ?_)
            exact ⟨rfl, by rw [← H3.out]; exact A2.out⟩
      · have hc2z : decide ((ch1 : Int) < (hi : Int)) = false := decide_eq_false (by omega)
        have HL := hid (show 2 * r + 2 < hi → ltN d[f + (2 * r + 1)]! d[f + (2 * r + 2)]! = false from fun h9 => by
          obtain ⟨rfl, rfl, rfl, _, rfl⟩ := HQ.out
          omega)
        clear hch hp hq hs hch1
        go_upto_region 3 with fail
        go_quiet (fail)
        have A1 := hid (HA.out.drewN nq)
        clear HA xs xp
        generalize wr.drewN nq = w1 at A1 ⊢
        have xs := A1.out.cell (show s < N by omega)
        have xp := A1.out.cell (show p < N by omega)
        by_cases hm : ltN d[s]! d[p]! = true
        · go_upto_region 5 with fail
          go_quiet (first | (go_at_call 209; exact Calls.quiet_of_same (im_lessT hm _)))
          have A2 := hid (A1.out.drewN nq)
          clear A1 xs xp
          generalize w1.drewN nq = w2 at A2 ⊢
          have xs := A2.out.cell (show s < N by omega)
          have xq := A2.out.cell (show p < N by omega)
          have f1 := A2.out.fz s
          obtain ⟨u9, y0⟩ := A2.out.sw1 (show s < N by omega) (show p < N by omega)
          have f0 := (A2.out.set (show s < N by omega) d[p]!).fz p
          have A3 := hid (A2.out.swap (show s < N by omega) (show p < N by omega)).drew
          have H3 := hid (show Sort.siftDown ltN hi f ch (Sort.swp d s p) = D0 by
            have := HD.out
            obtain ⟨rfl, rfl, rfl, rfl, rfl⟩ := HQ.out
            rw [sift_L (by omega) HL.out hm] at this; exact this)
          clear A2
          go_upto_region 6 with fail
          go_region
          clear xs xq f1 y0 f0
          go_wp2
          go_roundw
          case rel => exact ⟨ch, _, by omega, by go_num, H3, A3⟩
          case measure => have := HQ.out; simp [intOf]; omega
        · have hm : ltN d[s]! d[p]! = false := by simpa using hm
          have H3 := hid (show d = D0 by
            have := HD.out
            obtain ⟨rfl, rfl, rfl, rfl, rfl⟩ := HQ.out
            rw [sift_L0 (by omega) HL.out hm] at this; exact this)
          go_upto_region 5 with fail
          go_quiet (first | (go_at_call 209; exact Calls.quiet_of_same (im_lessF hm _)))
          have A2 := hid (A1.out.drewN nq)
          clear A1 xs xp
          generalize w1.drewN nq = w2 at A2 ⊢
          go_wp2
          first | go_end0 | ((try simp only [Exit.inBlock, Exit.then]); refine bodyPost_ret (results_none rfl _ _ _) rfl ?_)
          exact ⟨rfl, by rw [← H3.out]; exact A2.out⟩
end Go.Proofs.YtacccpkmgkojiaaGreatDoorRR
namespace Go.Proofs.YtacccpkmgkojiaaGreatDoorRR
set_option linter.unusedVariables false
set_option linter.unusedSimpArgs false
set_option maxRecDepth 20000
set_option maxHeartbeats 8000000
open Go.RowKit Go.Maps
theorem im_heap (G N c a b:Nat) (d:Array Nat) (V0 V:World) (A:Au G N c V0 d V) (hab:a < b) (hb:b≤N) (hN:N≤100000) :
  Calls Tryz.prog 204 #[Vl G N c,Vi a,Vi b] V fun e V'=>e=.returned (.tuple #[])∧Au G N c V0 (Sort.heapSort ltN d a b) V':=by
 obtain⟨D0,hD⟩:∃ D0,Sort.heapSort ltN d a b=D0:=⟨_,rfl⟩;rw [hD];obtain⟨hi,hhi⟩:∃ hi,b - a=hi:=⟨_,rfl⟩;have hhz:(b:Int) - (a:Int)=(hi:Int):=by omega
 obtain⟨m,hm0⟩:∃ m,m=(hi - 1)/2:=⟨_,rfl⟩;obtain⟨D1,hD1⟩:∃ D1,Sort.heapBuild ltN hi a (m+1) d=D1:=⟨_,rfl⟩;have HD:=hid (show Sort.heapPop ltN a hi D1=D0 by rw [←hD,←hD1,←hhi,hm0,←hhi];rfl);have HD1:=hid hD1;have HA:=hid A;have hm:((hi:Int) - 1).tdiv 2=(m:Int):=by
  rw [Int.tdiv_eq_ediv_of_nonneg (by omega)];omega
 have hmN:m+1≤N:=by omega
 clear hD A hD1 hm0;go_enter Tryz.func204,Tryz.ntmps204;go_wp2_with fail;go_loopw [9] (fun s9 wr=>∃ (k:Nat) (z:Int) (d:Array Nat),k≤N∧z=(k:Int) - 1∧s9=Vi z∧Hid (Sort.heapBuild ltN hi a k d=D1)∧Hid (Au G N c V0 d wr)) (fun s9 _=>(intOf s9+1).toNat)
 case atStart=>exact ⟨m+1,m,d,hmN,by omega,rfl,HD1,HA⟩
 case round =>
  clear HD1 HA;obtain⟨k,z,d,hk,hz,rfl,HD1,HA⟩:=hrel
  cases k with
  | succ k =>
   obtain rfl:z=(k:Int):=by omega
   have h0:(0:Int)≤(k:Int):=by omega
   have HD2:=hid (show Sort.heapBuild ltN hi a k (Sort.siftDown ltN hi a k d)=D1 from HD1.out);clear HD1 hz;go_wp2_with fail;refine (im_sift G N c k hi a d V0 _ HA.out (by omega) hN (by omega)).mono ?_;rintro e w1 ⟨rfl,A1⟩;have A2:=hid A1;clear A1 HA;go_wp2;go_roundw
   case rel=>exact ⟨k,(k:Int) - 1,_,by omega,rfl,by go_num,HD2,A2⟩
   case measure=>(simp [intOf];try omega)
  | zero =>
   have hz0:¬((0:Int)≤z):=by omega
   have HE:=hid (show d=D1 from HD1.out);have A1:=hid (show Au G N c V0 D1 wr by rw [←HE.out];exact HA.out);clear HD1 HA HE hz;go_wp2_with fail;go_loopw [10] (fun s10 wr=>∃ (k:Nat) (z:Int) (d:Array Nat),k≤hi∧z=(k:Int) - 1∧s10=Vi z∧Hid (Sort.heapPop ltN a k d=D0)∧Hid (Au G N c V0 d wr)) (fun s10 _=>(intOf s10+1).toNat)
   case atStart=>exact ⟨hi,(hi:Int) - 1,D1,by omega,rfl,by go_num,HD,A1⟩
   case round =>
    clear HD A1;obtain⟨k,z,d,hk,hz,rfl,HD,HA⟩:=hrel
    cases k with
    | succ k =>
     obtain rfl:z=(k:Int):=by omega
     have h0:(0:Int)≤(k:Int):=by omega
     obtain⟨p,hp⟩:∃ p,p=a+k:=⟨_,rfl⟩;have hpz:(a:Int)+(k:Int)=(p:Int):=by omega
     have hpN:(p:Int) < (N:Int):=by omega
     have haN:(a:Int) < (N:Int):=by omega
     have HD2:=hid (show Sort.heapPop ltN a k (Sort.siftDown ltN k a 0 (Sort.swp d a p))=D0 by rw [hp];exact HD.out);have xa:=HA.out.cell (show a < N by omega);have xp:=HA.out.cell (show p < N by omega);have f1:=HA.out.fz a;obtain⟨u9,y0⟩:=HA.out.sw1 (show a < N by omega) (show p < N by omega);have f0:=(HA.out.set (show a < N by omega) d[p]!).fz p;have A2:=hid (HA.out.swap (show a < N by omega) (show p < N by omega)).drew;clear HD hz HA hp;go_upto_region 10 with fail
     go_region;clear xa xp f1 y0 f0;go_wp2_with fail;refine (im_sift G N c 0 k a _ V0 _ A2.out (by omega) hN (by omega)).mono ?_;rintro e w1 ⟨rfl,A1⟩;have A3:=hid A1;clear A1 A2;go_wp2;go_roundw
     case rel=>exact ⟨k,(k:Int) - 1,_,by omega,rfl,by go_num,HD2,A3⟩
     case measure=>(simp [intOf];try omega)
    | zero =>
     have hz0:¬((0:Int)≤z):=by omega
     clear hz;have HE:=hid (show d=D0 from HD.out);go_wp2
     go_end0
     exact⟨rfl,by rw [←HE.out];exact HA.out⟩
end Go.Proofs.YtacccpkmgkojiaaGreatDoorRR
namespace Go.Proofs.YtacccpkmgkojiaaGreatDoorRR
set_option linter.unusedVariables false
set_option linter.unusedSimpArgs false
set_option maxRecDepth 20000
set_option maxHeartbeats 8000000
open Go.RowKit Go.Maps
theorem im_rev (G N c a b:Nat) (d:Array Nat) (V0 V:World) (A:Au G N c V0 d V) (hab:a < b) (hb:b≤N) (hN:N≤100000) :
  Calls Tryz.prog 207 #[Vl G N c,Vi a,Vi b] V fun e V'=>e=.returned (.tuple #[])∧Au G N c V0 (Sort.reverseRange d a b) V':=by
 obtain⟨D0,hD⟩:∃ D0,Sort.reverseRange d a b=D0:=⟨_,rfl⟩;rw [hD];obtain⟨b1,hb1⟩:∃ b1,b - 1=b1:=⟨_,rfl⟩;have hbz:(b:Int) - 1=(b1:Int):=by omega
 have HD:=hid (show Sort.reverseLoop a b1 d=D0 by rw [←hb1];exact hD);have HA:=hid A;clear hD A;go_enter Tryz.func207,Tryz.ntmps207;go_wp2_with fail;go_loopw [6,7] (fun s6 s7 wr=>∃ (i j:Nat) (d:Array Nat),i≤N∧j < N∧s6=Vi i∧s7=Vi j∧Hid (Sort.reverseLoop i j d=D0)∧Hid (Au G N c V0 d wr)) (fun s6 _ _=>N+1 - (intOf s6).toNat)
 case atStart=>exact ⟨a,b1,d,by omega,by omega,rfl,rfl,HD,HA⟩
 case round =>
  clear HD HA;obtain⟨i,j,d,hi,hj,rfl,rfl,HD,HA⟩:=hrel
  by_cases hlt:i < j
  ·have hz:(i:Int) < (j:Int):=by omega
   have hiN:(i:Int) < (N:Int):=by omega
   have hjN:(j:Int) < (N:Int):=by omega
   have HD2:=hid (show Sort.reverseLoop (i+1) (j - 1) (Sort.swp d i j)=D0 by have:=HD.out;rw [Sort.reverseLoop,if_pos hlt] at this;exact this);have xa:=HA.out.cell (show i < N by omega);have xp:=HA.out.cell (show j < N by omega);have f1:=HA.out.fz i;obtain⟨u9,y0⟩:=HA.out.sw1 (show i < N by omega) (show j < N by omega);have f0:=(HA.out.set (show i < N by omega) d[j]!).fz j;have A2:=hid (HA.out.swap (show i < N by omega) (show j < N by omega)).drew;clear HD HA;go_upto_region 3 with fail
   go_region;clear xa xp f1 y0 f0;go_wp2;go_roundw
   case rel=>exact ⟨i+1,j - 1,_,by omega,by omega,by go_num,by congr 1;omega,HD2,A2⟩
   case measure=>(simp [intOf];try omega)
  have hz:¬((i:Int) < (j:Int)):=by omega
  have HE:=hid (show d=D0 by have:=HD.out;rw [Sort.reverseLoop,if_neg hlt] at this;exact this);go_wp2
  go_end0
  exact⟨rfl,by rw [←HE.out];exact HA.out⟩
theorem Au.ky {G N c:Nat} {V0 V V':World} {d:Array Nat} {P:TypeId→Prop} (h:Au G N c V0 d V) (k:Ky P V V') (h2:¬P 23) (b:Below G V V'):Au G N c V0 d V':=⟨h.sz,own_ky h.row k h2,h.bel.trans b⟩
theorem Au.box {G N c S:Nat} {V0 V:World} {d:Array Nat} (h:Au G N c V0 d V) {t:TypeId} {cs:Array Value} (hS:V.heap[S]?=some (.cells cs t (0,0))) (ht:t≠23) (hG:G < S) (v:Value):Au G N c V0 d (V.setCell ⟨S,0,none⟩ v):=by
 have g:=grown_set (grown_refl V S) 0 v;exact h.ky (Ky.grown (S:=(· = t)) hS rfl g) (fun e=>ht e.symm) ((Below.refl _ _).setCell (Nat.le_of_lt hG) _)
theorem box_set {V:World} {S:Nat} {t:TypeId} {v0:Value} (h:V.heap[S]?=some (.cells #[v0] t (0,0))) (v:Value):(V.setCell ⟨S,0,none⟩ v).heap[S]?=some (.cells #[v] t (0,0)):=by
 simp [World.setCell,Array.getElem?_modify,h]
theorem im_order2 (G N c a b S s : Nat) (d : Array Nat) (V0 V : World) (A : Au G N c V0 d V) (ha : a < N) (hb : b < N) (hN : N ≤ 100000) (hG : G < S) (hS : V.heap[S]? = some (.cells #[.int .i64 (s : Nat)] 3 (0, 0))) (hs : s ≤ 100) :
    Calls Tryz.prog 246 #[.slice (some ⟨G, 0, none⟩) N c, .int .i64 a, .int .i64 b, .pointer (some ⟨S, 0, none⟩)] V fun e V' => e = .returned (.tuple #[.int .i64 ((Sort.order2 ltN d a b s).1 : Nat), .int .i64 ((Sort.order2 ltN d a b s).2.1 : Nat)]) ∧ V'.heap[S]? = some (.cells #[.int .i64 ((Sort.order2 ltN d a b s).2.2 : Nat)] 3 (0, 0)) ∧ Au G N c V0 d V' := by
  unfold Sort.order2
  have haN : (a : Int) < (N : Int) := by omega
  have hbN : (b : Int) < (N : Int) := by omega
  have xa := A.cell ha
  have xb := A.cell hb
  by_cases hl : ltN d[b]! d[a]! = true
  · rw [if_pos hl]
    simp only []
    obtain ⟨s1, hs1⟩ : ∃ s1, s + 1 = s1 := ⟨_, rfl⟩
    rw [hs1]
    have HA := hid A
    have HS := hid hS
    clear A hS
    go_enter Tryz.func246, Tryz.ntmps246
    go_upto_region 1 with fail
    go_quiet (first | (go_at_call 209; exact Calls.quiet_of_same (im_lessT hl _)))
    have A1 := hid (HA.out.drewN nq)
    have S1 := hid (show (V.drewN nq).heap[S]? = some (.cells #[.int .i64 (s : Nat)] 3 (0, 0)) from HS.out)
    clear HA HS xa xb
    generalize V.drewN nq = w1 at A1 S1 ⊢
    have c1 : w1.cell? ⟨S, 0, none⟩ = some (.int .i64 (s : Nat)) := by rw [cell_of_row _ _ _ _ _ _ S1.out]; rfl
    have f1 : w1.frozen? ⟨S, 0, none⟩ = false := by simp [World.frozen?, S1.out]
    have A2 := hid (A1.out.box S1.out (by decide) hG (.int .i64 (s1 : Nat)))
    have S2 := hid (box_set S1.out (.int .i64 (s1 : Nat)))
    have hsz : (s : Int) + 1 = (s1 : Int) := by omega
    clear A1 S1
    go_wp2
    refine bodyPost_ret (results_pair rfl _ _) rfl ?_
    exact ⟨rfl, S2.out, A2.out⟩
  · rw [if_neg hl]
    have hl : ltN d[b]! d[a]! = false := by simpa using hl
    have HA := hid A
    have HS := hid hS
    clear A hS
    go_enter Tryz.func246, Tryz.ntmps246
    go_upto_region 1 with fail
    go_quiet (first | (go_at_call 209; exact Calls.quiet_of_same (im_lessF hl _)))
    have A1 := hid (HA.out.drewN nq)
    have S1 := hid (show (V.drewN nq).heap[S]? = some (.cells #[.int .i64 (s : Nat)] 3 (0, 0)) from HS.out)
    clear HA HS xa xb
    generalize V.drewN nq = w1 at A1 S1 ⊢
    go_wp2
    refine bodyPost_ret (results_pair rfl _ _) rfl ?_
    exact ⟨rfl, S1.out, A1.out⟩
end Go.Proofs.YtacccpkmgkojiaaGreatDoorRR
namespace Go.Proofs.YtacccpkmgkojiaaGreatDoorRR
set_option linter.unusedVariables false
set_option linter.unusedSimpArgs false
set_option maxRecDepth 20000
set_option maxHeartbeats 8000000
open Go.RowKit Go.Maps
theorem order2_lt {d:Array Nat} {a b s N:Nat} (ha:a < N) (hb:b < N):(Sort.order2 ltN d a b s).1 < N∧(Sort.order2 ltN d a b s).2.1 < N:=by
 rcases Sort.order2_mem ltN d a b s with ⟨h1,h2⟩|⟨h1,h2⟩ <;> (rw [h1,h2];exact⟨by assumption,by assumption⟩)
theorem im_median (G N cp a b e S s:Nat) (d:Array Nat) (V0 V:World) (A:Au G N cp V0 d V) (ha:a < N) (hb:b < N) (he:e < N) (hN:N≤100000) (hG:G < S) (hS:V.heap[S]?=some (.cells #[Vi (s:Nat)] 3 (0,0))) (hs:s≤90) :
  Calls Tryz.prog 241 #[Vl G N cp,Vi a,Vi b,Vi e,Vp S 0] V fun r V'=>r=.returned (Vi ((Sort.median ltN d a b e s).1:Nat))∧V'.heap[S]?=some (.cells #[Vi ((Sort.median ltN d a b e s).2:Nat)] 3 (0,0))∧Au G N cp V0 d V':=by
 have C1:=hid (im_order2 G N cp a b S s d V0 V A ha hb hN hG hS (by omega));have l1:=order2_lt (d:=d) (s:=s) ha hb;have n1:=Sort.order2_count ltN d a b s;obtain⟨M,hM⟩:∃ M,Sort.median ltN d a b e s=M:=⟨_,rfl⟩;rw [hM];have HM:Hid (((Sort.order2 ltN d (Sort.order2 ltN d a b s).1 (Sort.order2 ltN d (Sort.order2 ltN d a b s).2.1 e (Sort.order2 ltN d a b s).2.2).1 (Sort.order2 ltN d (Sort.order2 ltN d a b s).2.1 e (Sort.order2 ltN d a b s).2.2).2.2).2.1,(Sort.order2 ltN d (Sort.order2 ltN d a b s).1 (Sort.order2 ltN d (Sort.order2 ltN d a b s).2.1 e (Sort.order2 ltN d a b s).2.2).1 (Sort.order2 ltN d (Sort.order2 ltN d a b s).2.1 e (Sort.order2 ltN d a b s).2.2).2.2).2.2)=M):=hM;generalize Sort.order2 ltN d a b s=r1 at C1 l1 n1 HM;obtain⟨x1,y1,s1⟩:=r1;simp only [] at C1 l1 n1 HM;have l2:=order2_lt (d:=d) (s:=s1) l1.2 he;have n2:=Sort.order2_count ltN d y1 e s1;have C2:=hid (fun V9 (A9:Au G N cp V0 d V9) (S9:V9.heap[S]?=some (.cells #[Vi (s1:Nat)] 3 (0,0)))=>im_order2 G N cp y1 e S s1 d V0 V9 A9 l1.2 he hN hG S9 (by omega));generalize Sort.order2 ltN d y1 e s1=r2 at C2 l2 n2 HM;obtain⟨x2,y2,s2⟩:=r2;simp only [] at C2 l2 n2 HM;have l3:=order2_lt (d:=d) (s:=s2) l1.1 l2.1;have C3:=hid (fun V9 (A9:Au G N cp V0 d V9) (S9:V9.heap[S]?=some (.cells #[Vi (s2:Nat)] 3 (0,0)))=>im_order2 G N cp x1 x2 S s2 d V0 V9 A9 l1.1 l2.1 hN hG S9 (by omega));generalize Sort.order2 ltN d x1 x2 s2=r3 at C3 l3 HM;obtain⟨x3,y3,s3⟩:=r3;simp only [] at C3 l3 HM;obtain rfl:=HM.out;clear A hS hM HM;go_enter Tryz.func241,Tryz.ntmps241;go_wp2_with fail;refine (C1.out).mono ?_;rintro r w1 ⟨rfl,S1,A1⟩;have H1:=hid (And.intro A1 S1);clear A1 S1;go_wp2_with fail;refine (C2.out w1 H1.out.1 H1.out.2).mono ?_;rintro r w2 ⟨rfl,S2,A2⟩;have H2:=hid (And.intro A2 S2);clear A2 S2;go_wp2_with fail;refine (C3.out w2 H2.out.1 H2.out.2).mono ?_;rintro r w3 ⟨rfl,S3,A3⟩;have H3:=hid (And.intro A3 S3);clear A3 S3;go_wp2;go_ret;exact⟨rfl,H3.out.2,H3.out.1⟩
theorem im_medAdj (G N cp a S s:Nat) (d:Array Nat) (V0 V:World) (A:Au G N cp V0 d V) (ha0:1≤a) (ha:a+1 < N) (hN:N≤100000) (hG:G < S) (hS:V.heap[S]?=some (.cells #[Vi (s:Nat)] 3 (0,0))) (hs:s≤90) :
  Calls Tryz.prog 240 #[Vl G N cp,Vi a,Vp S 0] V fun r V'=>r=.returned (Vi ((Sort.medianAdjacent ltN d a s).1:Nat))∧V'.heap[S]?=some (.cells #[Vi ((Sort.medianAdjacent ltN d a s).2:Nat)] 3 (0,0))∧Au G N cp V0 d V':=by
 unfold Sort.medianAdjacent;have C1:=hid (im_median G N cp (a - 1) a (a+1) S s d V0 V A (by omega) (by omega) ha hN hG hS hs);generalize Sort.median ltN d (a - 1) a (a+1) s=M at C1;obtain⟨p,hp⟩:∃ p,a - 1=p:=⟨_,rfl⟩;obtain⟨q,hq⟩:∃ q,a+1=q:=⟨_,rfl⟩;rw [hp,hq] at C1;have hpz:(a:Int) - 1=(p:Int):=by omega
 have hqz:(a:Int)+1=(q:Int):=by omega
 have hq1:q≤100000:=by omega
 clear A hS hp hq;go_enter Tryz.func240,Tryz.ntmps240;go_wp2_with fail;refine (C1.out).mono ?_;rintro r w1 ⟨rfl,S1,A1⟩;have H1:=hid (And.intro A1 S1);clear A1 S1;go_wp2;go_ret;exact⟨rfl,H1.out.2,H1.out.1⟩
end Go.Proofs.YtacccpkmgkojiaaGreatDoorRR
namespace Go.Proofs.YtacccpkmgkojiaaGreatDoorRR
set_option linter.unusedVariables false
set_option linter.unusedSimpArgs false
set_option maxRecDepth 20000
set_option maxHeartbeats 8000000
open Go.RowKit Go.Maps
def hcN:Sort.Hint→Nat
 | .unknown=>0
 | .increasing=>1
 | .decreasing=>2
theorem im_pivot (G N cp a b:Nat) (d:Array Nat) (V0 V:World) (A:Au G N cp V0 d V) (hab:a+12 < b) (hb:b≤N) (hN:N≤100000) :
  Calls Tryz.prog 206 #[Vl G N cp,Vi a,Vi b] V fun r V'=>r=.returned (.tuple #[Vi ((Sort.choosePivot ltN d a b).1:Nat),Vi ((hcN (Sort.choosePivot ltN d a b).2:Nat):Int)])∧Au G N cp V0 d V':=by
 obtain⟨l,hl⟩:∃ l,b - a=l:=⟨_,rfl⟩;obtain⟨q4,hq4⟩:∃ q4,l/4=q4:=⟨_,rfl⟩;obtain⟨i,hi⟩:∃ i,a+q4*1=i:=⟨_,rfl⟩;obtain⟨j,hj⟩:∃ j,a+q4*2=j:=⟨_,rfl⟩;obtain⟨k,hk⟩:∃ k,a+q4*3=k:=⟨_,rfl⟩;obtain⟨R,hR⟩:∃ R:Nat×Nat,(if l≥50 then Sort.median ltN d (Sort.medianAdjacent ltN d i 0).1 (Sort.medianAdjacent ltN d j (Sort.medianAdjacent ltN d i 0).2).1 (Sort.medianAdjacent ltN d k (Sort.medianAdjacent ltN d j (Sort.medianAdjacent ltN d i 0).2).2).1 (Sort.medianAdjacent ltN d k (Sort.medianAdjacent ltN d j (Sort.medianAdjacent ltN d i 0).2).2).2 else Sort.median ltN d i j k 0)=R:=⟨_,rfl⟩;have hC:Sort.choosePivot ltN d a b=(R.1,if R.2=0 then .increasing else if R.2=12 then .decreasing else .unknown):=by
  unfold Sort.choosePivot;simp only [hl,hq4,hi,hj,hk];rw [if_pos (show l≥8 by omega),hR]
 rw [hC];simp only [];obtain⟨Hn,hHn⟩:∃ Hn,hcN (if R.2=0 then Sort.Hint.increasing else if R.2=12 then .decreasing else .unknown)=Hn:=⟨_,rfl⟩;rw [hHn];have HH:=hid hHn;clear hHn;have hlz:(b:Int) - (a:Int)=(l:Int):=by omega
 have h4z:(l:Int).tdiv 4=(q4:Int):=by rw [Int.tdiv_eq_ediv_of_nonneg (by omega)];omega
 have h4y:(l:Int)/4=(q4:Int):=by omega
 have hiz:(a:Int)+(q4:Int)=(i:Int):=by omega
 have hjz:(a:Int)+(q4:Int)*2=(j:Int):=by omega
 have hkz:(a:Int)+(q4:Int)*3=(k:Int):=by omega
 have h8:(8:Int)≤(l:Int):=by omega
 have bA:Below V.heap.size V (V.alloc (.cells #[Vi 0] 3)):=(Below.refl _ _).alloc (Nat.le_refl _) _;have HA:=hid (A.below bA);have HS:=hid (show (V.alloc (.cells #[Vi 0] 3)).heap[V.heap.size]?=some (.cells #[Vi ((0:Nat):Int)] 3 (0,0)) from al_last V _);have hG:=A.lt;have hl1:i+1 < N∧j+1 < N∧k+1 < N∧1≤i∧1≤j∧1≤k∧j < b∧i < b∧k < b:=by omega
 clear A bA hC hl hq4 hi hj hk
 by_cases h50:l≥50
 ·rw [if_pos h50] at hR;have h50z:(50:Int)≤(l:Int):=by omega
  have C1:=hid (fun V9 (A9:Au G N cp V0 d V9) S (hGS:G < S) (S9:V9.heap[S]?=some (.cells #[Vi ((0:Nat):Int)] 3 (0,0)))=>im_medAdj G N cp i S 0 d V0 V9 A9 (by omega) (by omega) hN hGS S9 (by omega));have m1:=Sort.medianAdjacent_mem ltN d i 0;have n1:=Sort.medianAdjacent_count ltN d i 0;generalize Sort.medianAdjacent ltN d i 0=r1 at C1 m1 n1 hR;obtain⟨x1,s1⟩:=r1;simp only [] at C1 m1 n1 hR;have C2:=hid (fun V9 (A9:Au G N cp V0 d V9) S (hGS:G < S) (S9:V9.heap[S]?=some (.cells #[Vi (s1:Nat)] 3 (0,0)))=>im_medAdj G N cp j S s1 d V0 V9 A9 (by omega) (by omega) hN hGS S9 (by omega));have m2:=Sort.medianAdjacent_mem ltN d j s1;have n2:=Sort.medianAdjacent_count ltN d j s1;generalize Sort.medianAdjacent ltN d j s1=r2 at C2 m2 n2 hR;obtain⟨x2,s2⟩:=r2;simp only [] at C2 m2 n2 hR;have C3:=hid (fun V9 (A9:Au G N cp V0 d V9) S (hGS:G < S) (S9:V9.heap[S]?=some (.cells #[Vi (s2:Nat)] 3 (0,0)))=>im_medAdj G N cp k S s2 d V0 V9 A9 (by omega) (by omega) hN hGS S9 (by omega));have m3:=Sort.medianAdjacent_mem ltN d k s2;have n3:=Sort.medianAdjacent_count ltN d k s2;generalize Sort.medianAdjacent ltN d k s2=r3 at C3 m3 n3 hR;obtain⟨x3,s3⟩:=r3;simp only [] at C3 m3 n3 hR;have C4:=hid (fun V9 (A9:Au G N cp V0 d V9) S (hGS:G < S) (S9:V9.heap[S]?=some (.cells #[Vi (s3:Nat)] 3 (0,0)))=>im_median G N cp x1 x2 x3 S s3 d V0 V9 A9 (by omega) (by omega) (by omega) hN hGS S9 (by omega));rw [hR] at C4;clear m1 m2 m3 n1 n2 n3 hR;go_enter Tryz.func206,Tryz.ntmps206;go_wp2_with fail;generalize V.alloc _=W1 at HA HS ⊢;obtain⟨S,hS⟩:∃ S,V.heap.size=S:=⟨_,rfl⟩;rw [hS] at HS hG ⊢;refine (C1.out _ HA.out _ hG HS.out).mono ?_;rintro r w1 ⟨rfl,S1,A1⟩;have H1:=hid (And.intro A1 S1);clear A1 S1 HA HS C1;go_wp2_with fail;refine (C2.out _ H1.out.1 _ hG H1.out.2).mono ?_;rintro r w2 ⟨rfl,S1,A1⟩;have H2:=hid (And.intro A1 S1);clear A1 S1 H1 C2;go_wp2_with fail;refine (C3.out _ H2.out.1 _ hG H2.out.2).mono ?_;rintro r w3 ⟨rfl,S1,A1⟩;have H3:=hid (And.intro A1 S1);clear A1 S1 H2 C3;go_wp2_with fail;refine (C4.out _ H3.out.1 _ hG H3.out.2).mono ?_;rintro r w4 ⟨rfl,S1,A1⟩;have H4:=hid A1;have c4:w4.cell? ⟨S,0,none⟩=some (Vi (R.2:Nat)):=by rw [cell_of_row _ _ _ _ _ _ S1];rfl
  clear A1 S1 H3 C4
  by_cases e0:R.2=0
  ·rw [e0] at c4;obtain rfl:Hn=1:=by rw [←HH.out,if_pos e0];rfl
   go_wp2;refine bodyPost_ret (results_pair rfl _ _) rfl ?_;exact⟨rfl,H4.out⟩
  have e0z:¬((R.2:Int)=0):=by omega
  by_cases e1:R.2=12
  ·rw [e1] at c4;obtain rfl:Hn=2:=by rw [←HH.out,if_neg e0,if_pos e1];rfl
   go_wp2;refine bodyPost_ret (results_pair rfl _ _) rfl ?_;exact⟨rfl,H4.out⟩
  have e1z:¬((R.2:Int)=12):=by omega
  obtain rfl:Hn=0:=by rw [←HH.out,if_neg e0,if_neg e1];rfl
  go_wp2;refine bodyPost_ret (results_pair rfl _ _) rfl ?_;exact⟨rfl,H4.out⟩
 rw [if_neg h50] at hR;have h50z:¬((50:Int)≤(l:Int)):=by omega
 have C4:=hid (fun V9 (A9:Au G N cp V0 d V9) S (hGS:G < S) (S9:V9.heap[S]?=some (.cells #[Vi ((0:Nat):Int)] 3 (0,0)))=>im_median G N cp i j k S 0 d V0 V9 A9 (by omega) (by omega) (by omega) hN hGS S9 (by omega));rw [hR] at C4;clear hR;go_enter Tryz.func206,Tryz.ntmps206;go_wp2_with fail;generalize V.alloc _=W1 at HA HS ⊢;obtain⟨S,hS⟩:∃ S,V.heap.size=S:=⟨_,rfl⟩;rw [hS] at HS hG ⊢;refine (C4.out _ HA.out _ hG HS.out).mono ?_;rintro r w4 ⟨rfl,S1,A1⟩;have H4:=hid A1;have c4:w4.cell? ⟨S,0,none⟩=some (Vi (R.2:Nat)):=by rw [cell_of_row _ _ _ _ _ _ S1];rfl
 clear A1 S1 HA HS C4
 by_cases e0:R.2=0
 ·rw [e0] at c4;obtain rfl:Hn=1:=by rw [←HH.out,if_pos e0];rfl
  go_wp2;refine bodyPost_ret (results_pair rfl _ _) rfl ?_;exact⟨rfl,H4.out⟩
 have e0z:¬((R.2:Int)=0):=by omega
 by_cases e1:R.2=12
 ·rw [e1] at c4;obtain rfl:Hn=2:=by rw [←HH.out,if_neg e0,if_pos e1];rfl
  go_wp2;refine bodyPost_ret (results_pair rfl _ _) rfl ?_;exact⟨rfl,H4.out⟩
 have e1z:¬((R.2:Int)=12):=by omega
 obtain rfl:Hn=0:=by rw [←HH.out,if_neg e0,if_neg e1];rfl
 go_wp2;refine bodyPost_ret (results_pair rfl _ _) rfl ?_;exact⟨rfl,H4.out⟩
end Go.Proofs.YtacccpkmgkojiaaGreatDoorRR
