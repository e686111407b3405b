import Derived.Test.YtdceifaanfehdaaDoorRdD
import Derived.Test.YtdceifaanfehdaaDoorPrA
namespace Go.Proofs.YtdceifaanfehdaaDoor
open Go.ChangeShapes Go.WideShapes Go.ChangeAt Go.RowKit
set_option linter.unusedVariables false

theorem coFrom_in (n : Int) (hn : n ≤ 1016) : ∀ (m k : Nat), k + m = 12 → (0 < k → us ((k : Int) - 1) < n) →
    ∃ c : Nat, c < 12 ∧ coFrom n k m = c ∧ n ≤ us c ∧ (0 < c → us ((c : Int) - 1) < n)
  | 0, k, hk, hl => by
    obtain rfl : k = 12 := by omega
    have h := hl (by omega)
    have e : us (((12 : Nat) : Int) - 1) = 1016 := by decide
    omega
  | m + 1, k, hk, hl => by
    by_cases h : n ≤ us (k : Int)
    · exact ⟨k, by omega, by simp only [coFrom, if_pos h], h, hl⟩
    · obtain ⟨c, h1, h2, h3, h4⟩ := coFrom_in n hn m (k + 1) (by omega) (fun _ => by
        have e : (((k + 1 : Nat) : Int) - 1) = (k : Int) := by omega
        rw [e]; omega)
      exact ⟨c, h1, by simp only [coFrom, if_neg h]; exact h2, h3, h4⟩

/-- the part of the law on products -/
structure PrOK (x y : Nat) (ok : Bool) (p : Nat) : Prop where
  le : p < 18446744073709551616
  z : (0 < x → 0 < y → False) → ok = true ∧ p = 0
  d : 0 < x → 0 < y → decide ((y : Int) ≤ (18446744073709551615 : Int) / (x : Int)) = ok
  n : 0 < x → 0 < y → ok = false → p = 0
  q : 0 < x → 0 < y → ok = true → ((p : Int) / (x : Int) == (y : Int)) = true ∧ ((p : Int) % (x : Int) == 0) = true

theorem im_Product (x y : Nat) (hx : x < 18446744073709551616) (hy : y < 18446744073709551616) (w : World) :
    Calls Tryd.prog 16 #[.int .u64 x, .int .u64 y] w fun e w' => ∃ ok p, PrOK x y ok p ∧ e = .returned (.tuple #[.int .u64 (p : Nat), .bool ok]) ∧ w' = w := by
  by_cases h : 18446744073709551616 ≤ x * y
  · have hx0 : 0 < x := Nat.pos_of_ne_zero (fun e => by subst e; simp at h)
    have hy0 : 0 < y := Nat.pos_of_ne_zero (fun e => by subst e; simp at h)
    refine (product.im_Product_no x y hx hy h w).mono ?_
    rintro e w' ⟨rfl, rfl⟩
    refine ⟨false, 0, ⟨by omega, fun f => (f hx0 hy0).elim, fun _ _ => ?_, fun _ _ _ => rfl, fun _ _ e => by cases e⟩, rfl, rfl⟩
    apply decide_eq_false
    show ¬ (y : Int) ≤ ((18446744073709551615 : Nat) : Int) / (x : Int)
    rw [← Int.natCast_ediv]
    intro hh
    have h1 : y ≤ 18446744073709551615 / x := Int.ofNat_le.1 hh
    rw [Nat.le_div_iff_mul_le hx0, Nat.mul_comm] at h1
    omega
  · refine (product.im_Product_yes x y hx hy (by omega) w).mono ?_
    rintro e w' ⟨rfl, rfl⟩
    refine ⟨true, x * y, ⟨by omega, fun f => ⟨rfl, ?_⟩, fun hx0 hy0 => ?_, (fun _ _ e => by cases e), fun hx0 hy0 _ => ⟨?_, ?_⟩⟩, rfl, rfl⟩
    · rcases Nat.eq_zero_or_pos x with h0 | h0
      · rw [h0, Nat.zero_mul]
      · rcases Nat.eq_zero_or_pos y with h1 | h1
        · rw [h1, Nat.mul_zero]
        · exact (f h0 h1).elim
    · apply decide_eq_true
      show (y : Int) ≤ ((18446744073709551615 : Nat) : Int) / (x : Int)
      rw [← Int.natCast_ediv]
      apply Int.ofNat_le.2
      rw [Nat.le_div_iff_mul_le hx0, Nat.mul_comm]
      omega
    · rw [← Int.natCast_ediv, Nat.mul_div_cancel_left _ hx0]; simp
    · rw [← Int.natCast_emod, Nat.mul_mod_right]; rfl
end Go.Proofs.YtdceifaanfehdaaDoor
