import Derived.Test.YthcimbocchoehaaWalkA
namespace Go.Proofs.Ythcimbocchoehaa
open Go.ChangeShapes Go.WideShapes Go.ChangeAt Go.RowKit
set_option linter.unusedVariables false

theorem wbit_nat (z : Int) (j : Nat) (h0 : 0 ≤ z) : wbit z j = z.toNat.testBit j := by
  obtain ⟨m, rfl⟩ := Int.eq_ofNat_of_zero_le h0
  rw [Nat.testBit_eq_decide_div_mod_eq]
  unfold wbit
  rw [Bool.eq_iff_iff]
  simp only [decide_eq_true_eq, Int.toNat_natCast]
  have e : (m : Int) / 2 ^ j = ((m / 2 ^ j : Nat) : Int) := by simp
  rw [e]; omega

theorem high_zero (z : Int) (r : Nat) (h0 : 0 ≤ z) (h1 : z ≤ 18446744073709551615) : z / 2 ^ r = 0 ↔ ∀ j, r ≤ j → j < 64 → wbit z j = false := by
  obtain ⟨m, rfl⟩ := Int.eq_ofNat_of_zero_le h0
  have e : (m : Int) / 2 ^ r = ((m / 2 ^ r : Nat) : Int) := by simp
  rw [e]
  have hp : 0 < 2 ^ r := Nat.pow_pos (by decide)
  constructor
  · intro h j hj _
    rw [wbit_nat _ _ h0]
    have h2 : m / 2 ^ r = 0 := by omega
    have hm : m < 2 ^ r := (Nat.div_eq_zero_iff_lt hp).1 h2
    exact Nat.testBit_lt_two_pow (Nat.lt_of_lt_of_le hm (Nat.pow_le_pow_right (by decide) hj))
  · intro h
    have h2 : m < 2 ^ r := by
      apply Nat.lt_pow_two_of_testBit
      intro i hi
      by_cases h64 : i < 64
      · have := h i hi h64
        rwa [wbit_nat _ _ h0] at this
      · apply Nat.testBit_lt_two_pow
        have : m < 2 ^ 64 := by omega
        exact Nat.lt_of_lt_of_le this (Nat.pow_le_pow_right (by decide) (by omega))
    have := (Nat.div_eq_zero_iff_lt hp).2 h2
    omega

/-- whether the words are a good bitmap of length n -/
def goodB (zs : List Int) (n : Int) : Bool :=
  decide (0 ≤ n) && decide (n ≤ 4096) && decide (zs.length = (n.toNat + 63) / 64) && ((List.range (64 * zs.length)).all fun k => decide (k < n.toNat) || !bitAt zs k)

theorem goodB_out (zs : List Int) (n : Int) (h : n < 0 ∨ 4096 < n) : goodB zs n = false := by
  unfold goodB
  rcases h with h | h
  · rw [show decide (0 ≤ n) = false by simp; omega]; simp
  · rw [show decide (n ≤ 4096) = false by simp; omega]; simp
theorem goodB_len (zs : List Int) (n : Nat) (h : zs.length ≠ (n + 63) / 64) : goodB zs n = false := by
  unfold goodB
  rw [Int.toNat_natCast, show decide (zs.length = (n + 63) / 64) = false by simpa using h]; simp
theorem goodB_iff (zs : List Int) (n : Nat) (hn : n ≤ 4096) (hl : zs.length = (n + 63) / 64) : goodB zs n = true ↔ ∀ k, n ≤ k → k < 64 * zs.length → bitAt zs k = false := by
  unfold goodB
  rw [Int.toNat_natCast, show decide (zs.length = (n + 63) / 64) = true by simpa using hl, show decide (0 ≤ (n : Int)) = true by simp, show decide ((n : Int) ≤ 4096) = true by simp; omega]
  simp only [Bool.true_and, List.all_eq_true, List.mem_range, Bool.or_eq_true, decide_eq_true_eq, Bool.not_eq_true']
  constructor
  · intro h k h1 h2
    rcases h k h2 with h | h
    · omega
    · exact h
  · intro h k h2
    by_cases h1 : k < n
    · exact .inl h1
    · exact .inr (h k (by omega) h2)
theorem goodB_round (zs : List Int) (n : Nat) (hn : n ≤ 4096) (hl : zs.length = (n + 63) / 64) (hr : n % 64 = 0) : goodB zs n = true := by
  rw [goodB_iff zs n hn hl]
  intro k h1 h2
  omega
theorem goodB_rest (zs : List Int) (hw : Wf zs) (n : Nat) (hn : n ≤ 4096) (hl : zs.length = (n + 63) / 64) (hr : n % 64 ≠ 0) : (zs[zs.length - 1]?.getD 0 / 2 ^ (n % 64) == 0) = goodB zs n := by
  rw [Bool.eq_iff_iff, goodB_iff zs n hn hl, beq_iff_eq, high_zero _ _ (hw _).1 (hw _).2]
  constructor
  · intro h k h1 h2
    unfold bitAt
    rw [show k / 64 = zs.length - 1 by omega]
    exact h _ (by omega) (by omega)
  · intro h j h1 h2
    have := h (64 * (zs.length - 1) + j) (by omega) (by omega)
    unfold bitAt at this
    rwa [show (64 * (zs.length - 1) + j) / 64 = zs.length - 1 by omega, show (64 * (zs.length - 1) + j) % 64 = j by omega] at this

set_option maxHeartbeats 400000 in
theorem good_len (a : Option Addr) (len cap : Nat) (n : Nat) (w : World) (h : n ≤ 4096) (hl : len ≠ (n + 63) / 64) (hlen : len ≤ 1048576) :
    Calls Try.prog 26 #[.agg #[.slice a len cap, .int .i64 n]] w fun e w' => e = .returned (.bool false) ∧ Below w.heap.size w w' := by
  go_enter Try.func26, Try.ntmps26
  go_wp2_with fail
  refine (width_any _ _ _ _ _).mono ?_
  rintro e w' ⟨rfl, rfl⟩
  go_wp2
  go_region
  go_wp2
  go_ret
  exact ⟨rfl, (((Below.refl _ _).alloc (Nat.le_refl _) _).alloc (by simp) _).drew⟩

set_option maxHeartbeats 400000 in
theorem good_round (a : Option Addr) (len cap : Nat) (n : Nat) (w : World) (h : n ≤ 4096) (hl : len = (n + 63) / 64) (hr : n % 64 = 0) :
    Calls Try.prog 26 #[.agg #[.slice a len cap, .int .i64 n]] w fun e w' => e = .returned (.bool true) ∧ Below w.heap.size w w' := by
  have h1 : ((len : Int) != ((n : Int) + 64 - 1) / 64) = false := by simp; omega
  have h2 : ((n : Int) % 64 == 0) = true := by simp; omega
  clear hl
  go_enter Try.func26, Try.ntmps26
  go_wp2_with fail
  refine (width_any _ _ _ _ _).mono ?_
  rintro e w' ⟨rfl, rfl⟩
  go_wp2
  go_region
  go_wp2
  go_ret
  exact ⟨rfl, (((Below.refl _ _).alloc (Nat.le_refl _) _).alloc (by simp) _).drew⟩

set_option maxHeartbeats 400000 in
theorem good_rest (g len cap : Nat) (n : Nat) (z : Int) (w : World) (h : n ≤ 4096) (hl : len = (n + 63) / 64) (hr : n % 64 ≠ 0) (hg : g < w.heap.size) (hc : w.cell? ⟨g, len - 1, none⟩ = some (.int .u64 z)) :
    Calls Try.prog 26 #[.agg #[.slice (some ⟨g, 0, none⟩) len cap, .int .i64 n]] w fun e w' => e = .returned (.bool (z / 2 ^ (n % 64) == 0)) ∧ Below w.heap.size w w' := by
  have h1 : ((len : Int) != ((n : Int) + 64 - 1) / 64) = false := by simp; omega
  have h2 : ((n : Int) % 64 == 0) = false := by simp; omega
  have h3 : 0 < len := by omega
  have h4 : len ≤ 64 := by omega
  clear hl
  go_enter Try.func26, Try.ntmps26
  go_wp2_with fail
  refine (width_any _ _ _ _ _).mono ?_
  rintro e w' ⟨rfl, rfl⟩
  go_wp2
  go_region
  go_wp2
  go_ret
  exact ⟨rfl, (((Below.refl _ _).alloc (Nat.le_refl _) _).alloc (by simp) _).drew⟩

theorem good_any (g len cap : Nat) (zs : List Int) (n : Int) (w : World) (hl : zs.length = len) (hlen : len ≤ 1048576) (hw : Wf zs) (hr : RowV w g 45 (U zs)) :
    Calls Try.prog 26 #[.agg #[.slice (some ⟨g, 0, none⟩) len cap, .int .i64 n]] w fun e w' => e = .returned (.bool (goodB zs n)) ∧ Below w.heap.size w w' := by
  by_cases h : n < 0 ∨ 4096 < n
  · rw [goodB_out zs n h]; exact good_out _ _ _ _ _ h
  · obtain ⟨m, rfl⟩ := Int.eq_ofNat_of_zero_le (show 0 ≤ n by omega)
    have hm : m ≤ 4096 := by omega
    by_cases h2 : zs.length = (m + 63) / 64
    · by_cases h3 : m % 64 = 0
      · rw [goodB_round zs m hm h2 h3]; exact good_round _ _ _ _ _ hm (by omega) h3
      · rw [← goodB_rest zs hw m hm h2 h3]
        exact good_rest g len cap m _ w hm (by omega) h3 hr.lt (by rw [← hl]; exact cell_u hr _ (by omega))
    · rw [goodB_len zs m h2]; exact good_len _ _ _ _ _ hm (by omega) hlen
end Go.Proofs.Ythcimbocchoehaa
