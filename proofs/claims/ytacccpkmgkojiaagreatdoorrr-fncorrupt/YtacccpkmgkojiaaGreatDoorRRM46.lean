import Derived.Below
import Derived.BigGuardIn
import Derived.BigQuiet
import Derived.BigRegionIn
import Derived.Conc.MuLone
import Derived.Deep.AppendLies
import Derived.Deep.CutBlock
import Derived.Deep.DeepCutAuto
import Derived.Deep.LoopGhost
import Derived.Deep.MidRow
import Derived.Deep.OwnRows
import Derived.Deep.QuietTactic
import Derived.Deep.RegionHeld
import Derived.Deep.RegionLaw
import Derived.Deep.RegionWith
import Derived.KernelRfl
import Derived.Laws.BytesString
import Derived.Laws.CopyOwn
import Derived.Laws.OwnMore
import Derived.Laws.Rows
import Derived.Laws.Tables
import Derived.Lib.SliceRun
import Derived.Lib.SmallJoins
import Derived.LoopIn
import Derived.LoopNIn
import Derived.Maps.OwnOps
import Derived.Maps.OwnSet
import Derived.Maps.RangeWalk
import Derived.OpenShut
import Derived.OrdersHeld
import Derived.OwnWalkIn
import Derived.ProofKit
import Derived.RangeFuncBound
import Derived.RangeFuncCalls
import Derived.RangeFuncLeaves
import Derived.RangeFuncNested
import Derived.Shelf.Abstract
import Derived.Shelf.Bits.Mul64
import Derived.Shelf.RegionOpen
import Derived.TacticsInMore
import Derived.Test.YtacccpkmgkojiaaGreatDoorRRProg
import Derived.WalkKit
import Derived.WalkLawsBesides
import Derived.Test.YtacccpkmgkojiaaGreatDoorRRM00
import Derived.Test.YtacccpkmgkojiaaGreatDoorRRM01
import Derived.Test.YtacccpkmgkojiaaGreatDoorRRM02
import Derived.Test.YtacccpkmgkojiaaGreatDoorRRM04
import Derived.Test.YtacccpkmgkojiaaGreatDoorRRM05
import Derived.Test.YtacccpkmgkojiaaGreatDoorRRM06
import Derived.Test.YtacccpkmgkojiaaGreatDoorRRM09
import Derived.Test.YtacccpkmgkojiaaGreatDoorRRM10
import Derived.Test.YtacccpkmgkojiaaGreatDoorRRM14
import Derived.Test.YtacccpkmgkojiaaGreatDoorRRM15
import Derived.Test.YtacccpkmgkojiaaGreatDoorRRM17
import Derived.Test.YtacccpkmgkojiaaGreatDoorRRM18
import Derived.Test.YtacccpkmgkojiaaGreatDoorRRM22
import Derived.Test.YtacccpkmgkojiaaGreatDoorRRM24
import Derived.Test.YtacccpkmgkojiaaGreatDoorRRM26
import Derived.Test.YtacccpkmgkojiaaGreatDoorRRM27
namespace Go.Proofs.YtacccpkmgkojiaaGreatDoorRR
set_option linter.unusedVariables false
set_option linter.unusedSimpArgs false
set_option maxRecDepth 20000
set_option maxHeartbeats 8000000
open Go.RowKit Go.Maps
theorem putM_at {m : Nat → Option (Bool × List Int)} {p : Nat} (x : Int) {q : Bool × List Int} (h : m (p / 1024) = some q) (hl : q.2.length = 1024) : byteAt (putM m p x) p = x := by
  unfold byteAt putM
  rw [updM_same, h]
  simp only [Option.map_some, Option.getD_some]
  rw [List.getElem?_set_self (by omega)]
  rfl
theorem storeM_fine {m : Nat → Option (Bool × List Int)} (h : Fine m) (a : Nat) (ys : List Int) : ∀ k, Fine (storeM m a ys k)
  | 0 => h
  | k + 1 => (storeM_fine h a ys k).put _ _
theorem opn_some {o : Option (Bool × List Int)} (h : isOpen o = true) : ∃ q, o = some q := by
  cases o with
  | none => simp [isOpen] at h
  | some q => exact ⟨q, rfl⟩
theorem storeM_at {m : Nat → Option (Bool × List Int)} (h : Fine m) (a : Nat) (ys : List Int) : ∀ k i, i < k → isOpen (m ((a + i) / 1024)) = true → byteAt (storeM m a ys k) (a + i) = ys[i]?.getD 0
  | 0, i, hi, _ => by omega
  | k + 1, i, hi, ho => by
    simp only [storeM]
    by_cases e : i = k
    · subst e
      have h1 := storeM_open m a ys i ((a + i) / 1024)
      rw [ho] at h1
      obtain ⟨q, hq⟩ := opn_some h1
      exact putM_at _ hq ((storeM_fine h a ys i) _ _ hq).2
    · rw [putM_byte _ _ _ _ (by omega)]
      exact storeM_at h a ys k i (by omega) ho
theorem coN_in {a : Nat} (h : a ≤ 1016) : coN a < 12 ∧ a + 8 ≤ szN (coN a) := by
  unfold coN
  cases e : (List.range 12).find? fun c => decide (a + 8 ≤ szN c) with
  | none =>
    rw [List.find?_eq_none] at e
    have := e 11 (by simp)
    simp [szN] at this
    omega
  | some c =>
    have h1 := List.find?_some e
    have h2 := List.mem_of_find?_eq_some e
    simp at h1 h2
    exact ⟨h2, h1⟩
theorem cnt_none : ∀ k, cntM (fun _ => none) k = 0
  | 0 => rfl
  | k + 1 => by simp [cntM, cnt_none k]
def m0 (c : Nat) : Nat → Option (Bool × List Int) := freshM (fun _ => none) (slabP c 0) (pgN c)
theorem m0_fine (c : Nat) : Fine (m0 c) := by
  intro k q hq
  unfold m0 at hq
  rw [freshM_eq] at hq
  split at hq
  · cases hq; exact ⟨rfl, by simp⟩
  · cases hq
theorem m0_open {c j i : Nat} (hc : c < 12) (hj : j < slN c) (hi : i < szN c) : m0 c ((adr c 0 j + i) / 1024) = some (false, List.replicate 1024 0) := by
  have h1 := adr_in hc (show 0 < 6 by omega) hj
  unfold m0
  rw [freshM_eq, if_pos]
  have h2 : slabP c 0 * 1024 ≤ adr c 0 j := by unfold adr; omega
  omega
theorem m0_zero {c j i : Nat} (hc : c < 12) (hj : j < slN c) (hi : i < szN c) : byteAt (m0 c) (adr c 0 j + i) = 0 := by
  unfold byteAt
  rw [m0_open hc hj hi]
  simp only [Option.map_some, Option.getD_some]
  rw [List.getElem?_replicate, if_pos (Nat.mod_lt _ (by omega))]
  rfl
theorem m0_clean {c j : Nat} (hc : c < 12) (hj : j < slN c) : clean (m0 c) (adr c 0 j) (szN c) = true := by
  unfold clean
  rw [List.all_eq_true]
  intro x hx
  unfold loadB at hx
  obtain ⟨i, hi, rfl⟩ := List.mem_map.1 hx
  simp at hi
  rw [m0_zero hc hj hi]
  rfl
theorem free_new {cf : Cf} {c : Nat} {m : Nat → Option (Bool × List Int)} : freeS { newH cf with m := m } c 0 = List.range (slN c) := by
  unfold freeS
  rw [List.filter_eq_self]
  intro j _
  rfl
theorem room_new {cf : Cf} (hb : cf.bud = 283) {c : Nat} (hc : c < 12) : roomS cf (newH cf) c = some (0, { newH cf with m := m0 c }) := by
  have h1 : pickS (newH cf) c = none := by
    unfold pickS
    rw [List.find?_eq_none]
    intro s _
    simp [onS, newH]
  have h2 : offS (newH cf) c = some 0 := by rfl
  have hz := szN_in hc
  unfold roomS
  rw [h1, h2]
  simp only
  rw [if_neg]
  · rfl
  · have : cntM (newH cf).m 283 = 0 := cnt_none 283
    omega
theorem new_give (cf : Cf) (hb : cf.bud = 283) {a : Nat} (ha : a ≤ 1016) : ∃ j h1, j < slN (coN a) ∧ mallocM cf (newH cf) a = (some (adr (coN a) 0 j), h1) ∧ h1.st (coN a) 0 j = 1 ∧ h1.m = storeM (m0 (coN a)) (adr (coN a) 0 j + usN (coN a)) (can cf (adr (coN a) 0 j)) 8 ∧ h1.mx = (newH cf).mx ∧ h1.ff = (newH cf).ff := by
  obtain ⟨hc, hs⟩ := coN_in ha
  have hz := szN_in hc
  obtain ⟨hh, hhh⟩ : ∃ hh : Hs, hh = { newH cf with m := m0 (coN a) } := ⟨_, rfl⟩
  obtain ⟨j, hj⟩ : ∃ j, (freeS hh (coN a) 0)[dr cf hh (freeS hh (coN a) 0).length]?.getD 0 = j := ⟨_, rfl⟩
  have hf : freeS hh (coN a) 0 = List.range (slN (coN a)) := by rw [hhh]; exact free_new
  have hj1 : j < slN (coN a) := by
    rw [hf, List.length_range] at hj
    have hd : dr cf hh (slN (coN a)) < slN (coN a) := by
      unfold dr
      have h1 := Int.emod_lt_of_pos (cf.ds[hh.used]?.getD 0) (show (0 : Int) < (slN (coN a) : Int) by omega)
      have h2 := Int.emod_nonneg (cf.ds[hh.used]?.getD 0) (show (slN (coN a) : Int) ≠ 0 by omega)
      omega
    rw [List.getElem?_range hd] at hj
    simp at hj
    omega
  have hsm : smallM cf (coN a) 2000 (newH cf) = (some (0, j), { hh with used := hh.used + 1 }) := by
    rw [smallM_succ cf (coN a) 1999, room_new hb hc]
    simp only
    rw [← hhh, show pickJ cf hh (coN a) 0 = j from hj, if_pos (m0_clean hc hj1)]
    subst hhh
    rfl
  refine ⟨j, { hh with used := hh.used + 1, st := upd3 hh.st (coN a) 0 j 1, rq := upd3 hh.rq (coN a) 0 j a, m := storeM hh.m (adr (coN a) 0 j + usN (coN a)) (can cf (adr (coN a) 0 j)) 8 }, hj1, ?_, ?_, ?_, ?_, ?_⟩
  · unfold mallocM
    rw [if_pos ha, hsm]
  · simp [upd3]
  · rw [hhh]
  · rw [hhh]
  · rw [hhh]
theorem slot_open {cf : Cf} {m : Nat → Option (Bool × List Int)} {c j : Nat} (hc : c < 12) (hj : j < slN c) (ho : ∀ k, isOpen (m k) = isOpen (m0 c k)) {i n : Nat} (hn : i + n ≤ szN c) : ∀ k, k < n → isOpen (m ((adr c 0 j + i + k) / 1024)) = true := fun k hk => by
  rw [ho, Nat.add_assoc, m0_open hc hj (by omega)]
  rfl
theorem load8_ne {m : Nat → Option (Bool × List Int)} {a i : Nat} {l : List Int} (hi : i < 8) (h : byteAt m (a + i) ≠ l[i]?.getD 0) : (loadB m a 8 == l) = false := by
  rw [beq_eq_false_iff_ne]
  intro e
  have := loadB_get m a 8 i hi
  rw [e] at this
  exact h this.symm
theorem load8_eq {m : Nat → Option (Bool × List Int)} {a : Nat} {l : List Int} (hl : l.length = 8) (h : ∀ i, i < 8 → byteAt m (a + i) = l[i]?.getD 0) : (loadB m a 8 == l) = true := by
  rw [beq_iff_eq]
  apply List.ext_getElem?
  intro i
  by_cases hi : i < 8
  · unfold loadB
    rw [List.getElem?_map, List.getElem?_range hi]
    have := h i hi
    rw [List.getElem?_eq_getElem (by omega)] at this ⊢
    simp at this ⊢
    exact this
  · rw [List.getElem?_eq_none (by simp [loadB]; omega), List.getElem?_eq_none (by omega)]
end Go.Proofs.YtacccpkmgkojiaaGreatDoorRR
namespace Go.Proofs.YtacccpkmgkojiaaGreatDoorRR
set_option linter.unusedVariables false
set_option linter.unusedSimpArgs false
set_option maxRecDepth 20000
set_option maxHeartbeats 8000000
open Go.RowKit Go.Maps
theorem runH_cons (cf : Cf) (o : Op6) (r : List Op6) (h : Hs) (an : List An4) : runH cf (o :: r) h an = runH cf r (stepH cf h an o).2 (an ++ [(stepH cf h an o).1]) := rfl
theorem acc1 {m : Nat → Option (Bool × List Int)} {c j i : Nat} (hc : c < 12) (hj : j < slN c) (ho : ∀ k, isOpen (m k) = isOpen (m0 c k)) (hi : i < szN c) : accC m (adr c 0 j + i) ((1 : Nat) : Int) = 0 := by
  have h1 := adr_in hc (show 0 < 6 by omega) hj
  exact accC_open (by omega) (by omega) (by omega) (slot_open (cf := ⟨0, 0, 0, 0, 0, []⟩) hc hj ho (by omega))
theorem step_ref (cf : Cf) (h : Hs) (q : Nat) (an : List An4) (o : Op6) (ho : o.ref = 1) (hq : o.p + q < 18446744073709551616) : stepH cf h (⟨0, q, 0, []⟩ :: an) o = doM cf h o (q + o.p) := by
  unfold stepH
  rw [if_neg (by omega), if_neg (by rw [ho]; simp; omega), ho]
  simp
  rw [Nat.mod_eq_of_lt hq, Nat.add_comm]
theorem find_live {h : Hs} {c j : Nat} (hc : c < 12) (hj : j < slN c) (hs : h.st c 0 j = 1) : findM h (adr c 0 j) = .slot c 0 j := by
  unfold findM
  rw [slotAt_adr hc (by omega) hj]
  simp only
  rw [if_pos hs]
theorem find_gone {h : Hs} {c j : Nat} (hc : c < 12) (hj : j < slN c) (hs : h.st c 0 j = 2) : findM h (adr c 0 j) = .no 4 := by
  unfold findM
  rw [slotAt_adr hc (by omega) hj]
  simp only
  rw [if_neg (by omega), if_neg (by omega)]
theorem do_store (cf : Cf) (h : Hs) (p r n b : Nat) (rf : Int) (x : Int) (ha : accC h.m p ((1 : Nat) : Int) = 0) : doM cf h ⟨6, rf, r, n, b, [x]⟩ p = (.no 0, { h with m := storeM h.m p [x] 1 }) := by
  unfold doM
  simp only [List.length_cons, List.length_nil, Nat.zero_add]
  rw [ha]
  rfl
theorem do_load (cf : Cf) (h : Hs) (p r b : Nat) (rf : Int) (ha : accC h.m p ((1 : Nat) : Int) = 0) : doM cf h ⟨5, rf, r, 1, b, []⟩ p = (⟨0, 0, 0, [byteAt h.m p]⟩, h) := by
  unfold doM
  simp only
  rw [ha]
  rfl
theorem do_free (cf : Cf) (h : Hs) (c j r n b : Nat) (rf : Int) (hc : c < 12) (hj : j < slN c) (hs : h.st c 0 j = 1) : doM cf h ⟨3, rf, r, n, b, []⟩ (adr c 0 j) = if sound cf h c 0 j = false then (.no 5, h) else (.no 0, freeSlot cf h c 0 j) := by
  unfold doM
  simp only [find_live hc hj hs]
  rfl
theorem free_st {cf : Cf} {h : Hs} {c j : Nat} (hf : 1 ≤ cf.fifo) (hmx : h.mx c = List.replicate cf.mix (-1)) (hff : h.ff c = []) : (freeSlot cf h c 0 j).st c 0 j = 2 := by
  have key : ∀ d : Int, (wpM cf.fifo (h.mx c) (h.ff c) ((0 * slN c + j : Nat) : Int) d).2.2 = -1 := fun d => by
    unfold wpM
    rw [hmx, hff]
    by_cases e : cf.mix = 0
    · rw [e]
      simp [pushF, show (0 : Nat) < cf.fifo by omega]
      try omega
    · rw [if_neg (by simp; exact e), if_pos]
      rw [List.length_replicate]
      have hl : md d cf.mix < cf.mix := by
        unfold md
        have h1 := Int.emod_lt_of_pos d (show (0 : Int) < (cf.mix : Int) by omega)
        have h2 := Int.emod_nonneg d (show (cf.mix : Int) ≠ 0 by omega)
        omega
      rw [List.getElem?_replicate, if_pos hl]
      rfl
  unfold freeSlot
  by_cases e : cf.mix = 0
  · simp only [e, if_true]
    rw [if_pos (key _)]
    simp [upd3]
  · simp only [e, if_false]
    rw [if_pos (key _)]
    simp [upd3]
end Go.Proofs.YtacccpkmgkojiaaGreatDoorRR
namespace Go.Proofs.YtacccpkmgkojiaaGreatDoorRR
set_option linter.unusedVariables false
set_option linter.unusedSimpArgs false
set_option maxRecDepth 20000
set_option maxHeartbeats 8000000
open Go.RowKit Go.Maps
def opMal (a : Nat) : Op6 := ⟨0, 0, 0, a, 0, []⟩
theorem corrupt_runs (cf : Cf) (hb : cf.bud = 283) (hf : 1 ≤ cf.fifo) {a : Nat} (ha : a ≤ 1016) (i : Nat) (hi : i < 8) : ∃ q : Nat, q < 191488 ∧
    (runH cf [opMal a, ⟨5, 1, usN (coN a) + i, 1, 0, []⟩] (newH cf) []).2 = [⟨0, q, 0, []⟩, ⟨0, 0, 0, [(can cf q)[i]?.getD 0]⟩] ∧
    ∀ y : Int, y ≠ (can cf q)[i]?.getD 0 → (runH cf [opMal a, ⟨6, 1, usN (coN a) + i, 0, 0, [y]⟩, ⟨3, 1, 0, 0, 0, []⟩, ⟨2, 1, 0, 2000, 0, []⟩, ⟨4, 1, 0, 0, 0, []⟩, ⟨6, 1, usN (coN a) + i, 0, 0, [(can cf q)[i]?.getD 0]⟩, ⟨3, 1, 0, 0, 0, []⟩, ⟨3, 1, 0, 0, 0, []⟩] (newH cf) []).2 =
      [⟨0, q, 0, []⟩, .no 0, .no 5, .no 5, ⟨0, 0, usN (coN a), []⟩, .no 0, .no 0, .no 4] := by
  obtain ⟨hc, hs8⟩ := coN_in ha
  have hz := szN_in hc
  obtain ⟨j, h1, hj, hm, hst, hmm, hmx, hff⟩ := new_give cf hb ha
  obtain ⟨c, hcc⟩ : ∃ c, coN a = c := ⟨_, rfl⟩
  rw [hcc] at hc hs8 hz hj hm hst hmm ⊢
  have hA := adr_in hc (show 0 < 6 by omega) hj
  obtain ⟨q, hq⟩ : ∃ q, adr c 0 j = q := ⟨_, rfl⟩
  obtain ⟨old, hold⟩ : ∃ old, (can cf q)[i]?.getD 0 = old := ⟨_, rfl⟩
  have hcl : (can cf q).length = 8 := by unfold can; exact cRow_len _
  have ho1 : ∀ k, isOpen (h1.m k) = isOpen (m0 c k) := fun k => by rw [hmm]; exact storeM_open _ _ _ _ _
  have hopen : ∀ k, k < 8 → isOpen (m0 c ((adr c 0 j + usN c + k) / 1024)) = true := fun k hk => by
    rw [Nat.add_assoc, m0_open hc hj (by omega)]
    rfl
  have hb1 : ∀ k, k < 8 → byteAt h1.m (adr c 0 j + usN c + k) = (can cf q)[k]?.getD 0 := fun k hk => by
    rw [hmm, storeM_at (m0_fine c) _ _ 8 k hk (hopen k hk), hq]
  have hF1 : Fine h1.m := by rw [hmm]; exact storeM_fine (m0_fine c) _ _ _
  have s0 : stepH cf (newH cf) [] (opMal a) = (⟨0, q, 0, []⟩, h1) := by
    unfold stepH opMal doM
    simp only [if_true, hm]
    rw [hq]
  have ac : ∀ (m : Nat → Option (Bool × List Int)), (∀ k, isOpen (m k) = isOpen (m0 c k)) → accC m (q + (usN c + i)) ((1 : Nat) : Int) = 0 := fun m hm9 => by
    rw [← hq]
    exact acc1 hc hj hm9 (by omega)
  refine ⟨q, by omega, ?_, fun y hy => ?_⟩
  · rw [runH_cons, s0]
    simp only [List.nil_append]
    rw [runH_cons, step_ref cf h1 q [] _ rfl (by show usN c + i + q < _; omega), do_load cf h1 _ _ _ _ (ac h1.m ho1)]
    show [_] ++ [_] = _
    rw [hold, show q + (usN c + i) = adr c 0 j + usN c + i by omega, hb1 i hi, hold]
    rfl
  · rw [hold] at hy ⊢
    obtain ⟨h2, hh2⟩ : ∃ h2 : Hs, { h1 with m := storeM h1.m (q + (usN c + i)) [y] 1 } = h2 := ⟨_, rfl⟩
    have hm2 : h2.m = storeM h1.m (q + (usN c + i)) [y] 1 := by rw [← hh2]
    have hst2 : h2.st c 0 j = 1 := by rw [← hh2]; exact hst
    have ho2 : ∀ k, isOpen (h2.m k) = isOpen (m0 c k) := fun k => by rw [hm2, storeM_open]; exact ho1 k
    have hF2 : Fine h2.m := by rw [hm2]; exact storeM_fine hF1 _ _ _
    have e9 : q + (usN c + i) = adr c 0 j + usN c + i := by omega
    have hby : byteAt h2.m (adr c 0 j + usN c + i) = y := by
      have := storeM_at hF1 (q + (usN c + i)) [y] 1 0 (by omega) (by rw [ho1, Nat.add_zero, e9]; exact hopen i hi)
      rw [hm2, ← e9]
      simpa using this
    have sd2 : sound cf h2 c 0 j = false := by
      unfold sound
      exact load8_ne hi (by rw [hby, hq, hold]; exact hy)
    obtain ⟨h3, hh3⟩ : ∃ h3 : Hs, { h2 with m := storeM h2.m (q + (usN c + i)) [old] 1 } = h3 := ⟨_, rfl⟩
    have hm3 : h3.m = storeM h2.m (q + (usN c + i)) [old] 1 := by rw [← hh3]
    have hst3 : h3.st c 0 j = 1 := by rw [← hh3]; exact hst2
    have sd3 : sound cf h3 c 0 j = true := by
      unfold sound
      rw [hq]
      refine load8_eq hcl fun k hk => ?_
      rw [← hq]
      by_cases e : k = i
      · subst e
        have := storeM_at hF2 (q + (usN c + k)) [old] 1 0 (by omega) (by rw [ho2, Nat.add_zero, e9]; exact hopen k hi)
        rw [hm3, ← e9, hq, hold]
        simpa using this
      · rw [hm3, storeM_byte _ _ _ _ 1 (by omega), hm2, storeM_byte _ _ _ _ 1 (by omega), hb1 k hk, hq]
    have hmx3 : h3.mx c = List.replicate cf.mix (-1) := by rw [← hh3, ← hh2]; show h1.mx c = _; rw [hmx]; rfl
    have hff3 : h3.ff c = [] := by rw [← hh3, ← hh2]; show h1.ff c = _; rw [hff]; rfl
    have hst4 : (freeSlot cf h3 c 0 j).st c 0 j = 2 := free_st hf hmx3 hff3
    have hq0 : q + 0 = adr c 0 j := by omega
    have hqb : 0 + q < 18446744073709551616 := by omega
    rw [runH_cons, s0]
    simp only [List.nil_append]
    rw [runH_cons, step_ref cf h1 q [] _ rfl (by show usN c + i + q < _; omega), do_store cf h1 _ _ _ _ _ _ (ac h1.m ho1), hh2]
    simp only [List.cons_append, List.nil_append]
    rw [runH_cons, step_ref cf h2 q _ _ rfl hqb]
    simp only [hq0]
    rw [do_free cf h2 c j _ _ _ _ hc hj hst2, if_pos sd2]
    simp only [List.cons_append, List.nil_append]
    rw [runH_cons, step_ref cf h2 q _ _ rfl hqb]
    simp only [hq0]
    rw [show doM cf h2 ⟨2, 1, 0, 2000, 0, []⟩ (adr c 0 j) = (.no 5, h2) by
      unfold doM reallocM
      simp only [find_live hc hj hst2]
      rw [sd2]
      simp
      omega]
    simp only [List.cons_append, List.nil_append]
    rw [runH_cons, step_ref cf h2 q _ _ rfl hqb]
    simp only [hq0]
    rw [show doM cf h2 ⟨4, 1, 0, 0, 0, []⟩ (adr c 0 j) = (⟨0, 0, usN c, []⟩, h2) by
      unfold doM
      simp only [find_live hc hj hst2]
      rfl]
    simp only [List.cons_append, List.nil_append]
    rw [runH_cons, step_ref cf h2 q _ _ rfl (by show usN c + i + q < _; omega), do_store cf h2 _ _ _ _ _ _ (ac h2.m ho2), hh3]
    simp only [List.cons_append, List.nil_append]
    rw [runH_cons, step_ref cf h3 q _ _ rfl hqb]
    simp only [hq0]
    rw [do_free cf h3 c j _ _ _ _ hc hj hst3, if_neg (by rw [sd3]; simp)]
    simp only [List.cons_append, List.nil_append]
    rw [runH_cons, step_ref cf _ q _ _ rfl hqb]
    simp only [hq0]
    rw [show doM cf (freeSlot cf h3 c 0 j) ⟨3, 1, 0, 0, 0, []⟩ (adr c 0 j) = (.no 4, freeSlot cf h3 c 0 j) by
      unfold doM
      simp only [find_gone hc hj hst4]
      rfl]
    rfl
end Go.Proofs.YtacccpkmgkojiaaGreatDoorRR
