import Derived.Test.YtgandbaejlfppaaGreatDoorN35
import Derived.Test.YtgandbaejlfppaaGreatDoorN18
import Derived.Test.YtgandbaejlfppaaGreatDoorN16
import Derived.Deep.RegionWith
import Derived.Deep.RegionHeld
import Derived.Test.YtgandbaejlfppaaGreatDoorM00
import Derived.Test.YtgandbaejlfppaaGreatDoorN36
import Derived.Test.YtgandbaejlfppaaGreatDoorN23
namespace Go.Proofs.YtgandbaejlfppaaGreatDoor
open Go.RowKit Go.Maps
set_option linter.unusedVariables false
set_option linter.unusedSimpArgs false
set_option maxRecDepth 20000
def opMal (a : Nat) : Op6 := ⟨0, 0, 0, a, 0, []⟩
theorem corrupt_runs (cf : Cf) (hb : cf.bud = 283) (hf : 1 ≤ cf.fifo) {a : Nat} (ha : a ≤ 1016) (i : Nat) (hi : i < 8) : ∃ q : Nat, q < 191488 ∧
    (runH cf [opMal a, ⟨5, 1, usN (coN a) + i, 1, 0, []⟩] (newH cf) []).2 = [⟨0, q, 0, []⟩, ⟨0, 0, 0, [(can cf q)[i]?.getD 0]⟩] ∧
    ∀ y : Int, y ≠ (can cf q)[i]?.getD 0 → (runH cf [opMal a, ⟨6, 1, usN (coN a) + i, 0, 0, [y]⟩, ⟨3, 1, 0, 0, 0, []⟩, ⟨2, 1, 0, 2000, 0, []⟩, ⟨4, 1, 0, 0, 0, []⟩, ⟨6, 1, usN (coN a) + i, 0, 0, [(can cf q)[i]?.getD 0]⟩, ⟨3, 1, 0, 0, 0, []⟩, ⟨3, 1, 0, 0, 0, []⟩] (newH cf) []).2 =
      [⟨0, q, 0, []⟩, .no 0, .no 5, .no 5, ⟨0, 0, usN (coN a), []⟩, .no 0, .no 0, .no 4] := by
  obtain ⟨hc, hs8⟩ := coN_in ha
  have hz := szN_in hc
  obtain ⟨j, h1, hj, hm, hst, hmm, hmx, hff⟩ := new_give cf hb ha
  obtain ⟨c, hcc⟩ : ∃ c, coN a = c := ⟨_, rfl⟩
  rw [hcc] at hc hs8 hz hj hm hst hmm ⊢
  have hA := adr_in hc (show 0 < 6 by omega) hj
  obtain ⟨q, hq⟩ : ∃ q, adr c 0 j = q := ⟨_, rfl⟩
  obtain ⟨old, hold⟩ : ∃ old, (can cf q)[i]?.getD 0 = old := ⟨_, rfl⟩
  have hcl : (can cf q).length = 8 := by unfold can; exact cRow_len _
  have ho1 : ∀ k, isOpen (h1.m k) = isOpen (m0 c k) := fun k => by rw [hmm]; exact storeM_open _ _ _ _ _
  have hopen : ∀ k, k < 8 → isOpen (m0 c ((adr c 0 j + usN c + k) / 1024)) = true := fun k hk => by
    rw [Nat.add_assoc, m0_open hc hj (by omega)]
    rfl
  have hb1 : ∀ k, k < 8 → byteAt h1.m (adr c 0 j + usN c + k) = (can cf q)[k]?.getD 0 := fun k hk => by
    rw [hmm, storeM_at (m0_fine c) _ _ 8 k hk (hopen k hk), hq]
  have hF1 : Fine h1.m := by rw [hmm]; exact storeM_fine (m0_fine c) _ _ _
  have s0 : stepH cf (newH cf) [] (opMal a) = (⟨0, q, 0, []⟩, h1) := by
    unfold stepH opMal doM
    simp only [if_true, hm]
    rw [hq]
  have ac : ∀ (m : Nat → Option (Bool × List Int)), (∀ k, isOpen (m k) = isOpen (m0 c k)) → accC m (q + (usN c + i)) ((1 : Nat) : Int) = 0 := fun m hm9 => by
    rw [← hq]
    exact acc1 hc hj hm9 (by omega)
  refine ⟨q, by omega, ?_, fun y hy => ?_⟩
  · rw [runH_cons, s0]
    simp only [List.nil_append]
    rw [runH_cons, step_ref cf h1 q [] _ rfl (by show usN c + i + q < _; omega), do_load cf h1 _ _ _ _ (ac h1.m ho1)]
    show [_] ++ [_] = _
    rw [hold, show q + (usN c + i) = adr c 0 j + usN c + i by omega, hb1 i hi, hold]
    rfl
  · rw [hold] at hy ⊢
    obtain ⟨h2, hh2⟩ : ∃ h2 : Hs, { h1 with m := storeM h1.m (q + (usN c + i)) [y] 1 } = h2 := ⟨_, rfl⟩
    have hm2 : h2.m = storeM h1.m (q + (usN c + i)) [y] 1 := by rw [← hh2]
    have hst2 : h2.st c 0 j = 1 := by rw [← hh2]; exact hst
    have ho2 : ∀ k, isOpen (h2.m k) = isOpen (m0 c k) := fun k => by rw [hm2, storeM_open]; exact ho1 k
    have hF2 : Fine h2.m := by rw [hm2]; exact storeM_fine hF1 _ _ _
    have e9 : q + (usN c + i) = adr c 0 j + usN c + i := by omega
    have hby : byteAt h2.m (adr c 0 j + usN c + i) = y := by
      have := storeM_at hF1 (q + (usN c + i)) [y] 1 0 (by omega) (by rw [ho1, Nat.add_zero, e9]; exact hopen i hi)
      rw [hm2, ← e9]
      simpa using this
    have sd2 : sound cf h2 c 0 j = false := by
      unfold sound
      exact load8_ne hi (by rw [hby, hq, hold]; exact hy)
    obtain ⟨h3, hh3⟩ : ∃ h3 : Hs, { h2 with m := storeM h2.m (q + (usN c + i)) [old] 1 } = h3 := ⟨_, rfl⟩
    have hm3 : h3.m = storeM h2.m (q + (usN c + i)) [old] 1 := by rw [← hh3]
    have hst3 : h3.st c 0 j = 1 := by rw [← hh3]; exact hst2
    have sd3 : sound cf h3 c 0 j = true := by
      unfold sound
      rw [hq]
      refine load8_eq hcl fun k hk => ?_
      rw [← hq]
      by_cases e : k = i
      · subst e
        have := storeM_at hF2 (q + (usN c + k)) [old] 1 0 (by omega) (by rw [ho2, Nat.add_zero, e9]; exact hopen k hi)
        rw [hm3, ← e9, hq, hold]
        simpa using this
      · rw [hm3, storeM_byte _ _ _ _ 1 (by omega), hm2, storeM_byte _ _ _ _ 1 (by omega), hb1 k hk, hq]
    have hmx3 : h3.mx c = List.replicate cf.mix (-1) := by rw [← hh3, ← hh2]; show h1.mx c = _; rw [hmx]; rfl
    have hff3 : h3.ff c = [] := by rw [← hh3, ← hh2]; show h1.ff c = _; rw [hff]; rfl
    have hst4 : (freeSlot cf h3 c 0 j).st c 0 j = 2 := free_st hf hmx3 hff3
    have hq0 : q + 0 = adr c 0 j := by omega
    have hqb : 0 + q < 18446744073709551616 := by omega
    rw [runH_cons, s0]
    simp only [List.nil_append]
    rw [runH_cons, step_ref cf h1 q [] _ rfl (by show usN c + i + q < _; omega), do_store cf h1 _ _ _ _ _ _ (ac h1.m ho1), hh2]
    simp only [List.cons_append, List.nil_append]
    rw [runH_cons, step_ref cf h2 q _ _ rfl hqb]
    simp only [hq0]
    rw [do_free cf h2 c j _ _ _ _ hc hj hst2, if_pos sd2]
    simp only [List.cons_append, List.nil_append]
    rw [runH_cons, step_ref cf h2 q _ _ rfl hqb]
    simp only [hq0]
    rw [show doM cf h2 ⟨2, 1, 0, 2000, 0, []⟩ (adr c 0 j) = (.no 5, h2) by
      unfold doM reallocM
      simp only [find_live hc hj hst2]
      rw [sd2]
      simp
      omega]
    simp only [List.cons_append, List.nil_append]
    rw [runH_cons, step_ref cf h2 q _ _ rfl hqb]
    simp only [hq0]
    rw [show doM cf h2 ⟨4, 1, 0, 0, 0, []⟩ (adr c 0 j) = (⟨0, 0, usN c, []⟩, h2) by
      unfold doM
      simp only [find_live hc hj hst2]
      rfl]
    simp only [List.cons_append, List.nil_append]
    rw [runH_cons, step_ref cf h2 q _ _ rfl (by show usN c + i + q < _; omega), do_store cf h2 _ _ _ _ _ _ (ac h2.m ho2), hh3]
    simp only [List.cons_append, List.nil_append]
    rw [runH_cons, step_ref cf h3 q _ _ rfl hqb]
    simp only [hq0]
    rw [do_free cf h3 c j _ _ _ _ hc hj hst3, if_neg (by rw [sd3]; simp)]
    simp only [List.cons_append, List.nil_append]
    rw [runH_cons, step_ref cf _ q _ _ rfl hqb]
    simp only [hq0]
    rw [show doM cf (freeSlot cf h3 c 0 j) ⟨3, 1, 0, 0, 0, []⟩ (adr c 0 j) = (.no 4, freeSlot cf h3 c 0 j) by
      unfold doM
      simp only [find_gone hc hj hst4]
      rfl]
    rfl
end Go.Proofs.YtgandbaejlfppaaGreatDoor
namespace Go.Proofs.YtgandbaejlfppaaGreatDoor
open Go.RowKit Go.Shelf Go.Maps
set_option linter.unusedVariables false
set_option maxRecDepth 20000
def ops8 (A f : Nat) (y x : Int) (H : Nat) : List Oin := [⟨⟨0, 0, 0, A, 0, []⟩, none, 0⟩, ⟨⟨6, 1, f, 0, 0, [y]⟩, some ⟨H, 0, none⟩, 1⟩, ⟨⟨3, 1, 0, 0, 0, []⟩, none, 0⟩, ⟨⟨2, 1, 0, 2000, 0, []⟩, none, 0⟩, ⟨⟨4, 1, 0, 0, 0, []⟩, none, 0⟩, ⟨⟨6, 1, f, 0, 0, [x]⟩, some ⟨H + 1, 0, none⟩, 1⟩, ⟨⟨3, 1, 0, 0, 0, []⟩, none, 0⟩, ⟨⟨3, 1, 0, 0, 0, []⟩, none, 0⟩]
theorem ops8_ok (A f : Nat) (y x : Int) (H : Nat) (h : (0 ≤ y ∧ y ≤ 255 ∧ (0 ≤ x ∧ x ≤ 255))) : ∀ q ∈ ops8 A f y x H, q.o.ys.length ≤ q.dc ∧ -9223372036854775808 ≤ q.o.ref ∧ ∀ y ∈ q.o.ys, 0 ≤ y ∧ y ≤ 255 := by
  intro q hq
  simp only [ops8, List.mem_cons, List.not_mem_nil, or_false] at hq
  rcases hq with rfl | rfl | rfl | rfl | rfl | rfl | rfl | rfl <;> simp <;> omega
theorem ois8 (w : World) (A f : Nat) (y x : Int) (h : (0 ≤ y ∧ y ≤ 255 ∧ (0 ≤ x ∧ x ≤ 255))) (hA : A ≤ 2000) (hf : f ≤ 2000) :
    Below w.heap.size w (((w.alloc (.cells #[.int .u8 y] 5)).alloc (.cells #[.int .u8 x] 5)).alloc (.cells (flatO6 (ops8 A f y x w.heap.size)).toArray 42)) ∧ Ois (((w.alloc (.cells #[.int .u8 y] 5)).alloc (.cells #[.int .u8 x] 5)).alloc (.cells (flatO6 (ops8 A f y x w.heap.size)).toArray 42)) (some ⟨w.heap.size + 1 + 1, 0, none⟩) (ops8 A f y x w.heap.size) := by
  have b1 := (Below.refl w.heap.size w).alloc (Nat.le_refl _) (.cells #[.int .u8 y] 5)
  have b2 := b1.alloc b1.size (.cells #[.int .u8 x] 5)
  have b3 := b2.alloc b2.size (.cells (flatO6 (ops8 A f y x w.heap.size)).toArray 42)
  have e2 : ((w.alloc (.cells #[.int .u8 y] 5)).alloc (.cells #[.int .u8 x] 5)).heap.size = w.heap.size + 1 + 1 := by rw [al_size, al_size]
  refine ⟨b3, ?_⟩
  rw [← e2]
  refine ois_new _ _ ?_ ?_
  · intro q hq
    simp only [ops8, List.mem_cons, List.not_mem_nil, or_false] at hq
    rcases hq with rfl | rfl | rfl | rfl | rfl | rfl | rfl | rfl <;> simp <;> omega
  · have y1 := below_cell ((Below.refl _ (w.alloc (.cells #[.int .u8 y] 5))).alloc (Nat.le_refl _) (.cells #[.int .u8 x] 5)) (one_new w (.int .u8 y) 5 w.heap.size rfl 0 _ rfl)
    have y2 := one_new (w.alloc (.cells #[.int .u8 y] 5)) (.int .u8 x) 5 (w.heap.size + 1) (al_size _ _) 0 _ rfl
    intro q hq
    simp only [ops8, List.mem_cons, List.not_mem_nil, or_false] at hq
    rcases hq with rfl | rfl | rfl | rfl | rfl | rfl | rfl | rfl
    · intro i hi; simp at hi
    · intro i hi
      obtain rfl : i = 0 := by simpa using hi
      exact ⟨_, rfl, y1, by rw [e2]; simp [Addr.add]; omega⟩
    · intro i hi; simp at hi
    · intro i hi; simp at hi
    · intro i hi; simp at hi
    · intro i hi
      obtain rfl : i = 0 := by simpa using hi
      exact ⟨_, rfl, y2, by rw [e2]; simp [Addr.add]⟩
    · intro i hi; simp at hi
    · intro i hi; simp at hi
theorem cb_in (cf : Cf) (q i : Nat) (hi : i < 8) : 0 ≤ (can cf q)[i]?.getD 0 ∧ (can cf q)[i]?.getD 0 ≤ 255 := by
  have e : can cf q = cRow (cx cf.key (q : Int)) := rfl
  rw [e]
  generalize cx cf.key (q : Int) = x
  by_cases h : i = 0
  · rw [h, cRow_zero]; exact ⟨by decide, by decide⟩
  · rw [cRow_get x i (by omega) hi, Option.getD_some]
    have := cb_ge x i
    generalize cb x i = z at this
    omega
theorem eight {W : World} {B : Nat} {v : Value} {xs : List Int} (h : W.ownsRow B 5 1 v 8 (Ns .u8 xs)) (i : Nat) (hi : i < 8) : ∃ G gc, v = .slice (some ⟨G, 0, none⟩) 8 gc ∧ 8 ≤ gc ∧ W.cell? ⟨G, i, none⟩ = some (.int .u8 (xs[i]?.getD 0)) := by
  rcases h.2 with ⟨_, h2⟩ | ⟨g, gc, cur, h1, h2, h3, h4, h5, h6, h7⟩
  · omega
  · refine ⟨g, gc, h1, h4, ?_⟩
    rw [cell_of_row _ _ _ _ _ _ h3]
    have hl : xs.length = 8 := by simpa [Ns] using h.1
    have e2 : (Ns .u8 xs)[i]? = some (.int .u8 (xs[i]?.getD 0)) := by simp [Ns, hl, hi]
    rw [← h7, List.getElem?_take, if_pos (by omega), Array.getElem?_toList] at e2
    exact e2
theorem cell4 {W : World} {X : Nat} {x0 x1 x2 x3 x4 x5 : Value} {t : TypeId} {f : Nat × Nat} (h : W.heap[X]? = some (.cells #[x0, x1, x2, x3, x4, x5] t f)) : W.cell? ⟨X, 4, none⟩ = some x4 := by
  simp [World.cell?, h]
theorem box01 {W : World} {E : Nat} {x y m0 m1 m2 m3 m4 m5 m6 m7 : Value} {t : TypeId} {f : Nat × Nat} (h : W.heap[E]? = some (.cells #[x, y, m0, m1, m2, m3, m4, m5, m6, m7] t f)) : W.cell? ⟨E, 0, none⟩ = some x ∧ W.cell? ⟨E, 1, none⟩ = some y := by
  simp [World.cell?, h]
theorem coN_in9 {a : Nat} (h : a ≤ 1016) : coN a < 12 := (co_c h).2.1
theorem below_at9 {w w' : World} (h : Below w.heap.size w w') {g : Nat} {o : Obj} (hg : w.heap[g]? = some o) : w'.heap[g]? = some o := by rw [h.block g (lt_blk hg)]; exact hg
end Go.Proofs.YtgandbaejlfppaaGreatDoor
