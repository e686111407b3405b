import Derived.Test.YtdceifaanfehdaaPrA
namespace Go.Proofs.Ytdceifaanfehdaa.product
open Go.ChangeShapes Go.WideShapes Go.ChangeAt Go.RowKit
set_option linter.unusedVariables false

set_option maxHeartbeats 400000 in
theorem sp_Product_no (x y : Nat) (hx : x < 18446744073709551616) (hy : y < 18446744073709551616) (h : 18446744073709551616 ≤ x * y) (w : World) :
    Calls Try.prog 4 #[.int .u64 x, .int .u64 y] w fun e w' => e = .returned (.tuple #[.int .u64 0, .bool false]) ∧ w' = w := by
  have hx0 : 0 < x := by
    rcases Nat.eq_zero_or_pos x with h0 | h0
    · subst h0; simp at h
    · exact h0
  have h1 : (18446744073709551615 : Int) / (x : Int) < (y : Int) := by
    have : 18446744073709551615 / x < y := by
      rw [Nat.div_lt_iff_lt_mul hx0, Nat.mul_comm]; omega
    show ((18446744073709551615 : Nat) : Int) / (x : Int) < (y : Int)
    rw [← Int.natCast_ediv]
    exact Int.ofNat_lt.2 this
  have h2 : ((x : Int) != 0) = true := by simp; omega
  clear h
  go_enter Try.func4, Try.ntmps4
  go_wp2
  go_ret2
  exact ⟨rfl, rfl⟩

set_option maxHeartbeats 400000 in
theorem sp_Product_zero (y : Nat) (hy : y < 18446744073709551616) (w : World) :
    Calls Try.prog 4 #[.int .u64 0, .int .u64 y] w fun e w' => e = .returned (.tuple #[.int .u64 0, .bool true]) ∧ w' = w := by
  go_enter Try.func4, Try.ntmps4
  go_wp2
  go_ret2
  exact ⟨rfl, rfl⟩

set_option maxHeartbeats 400000 in
theorem sp_Product_yes (x y : Nat) (hx0 : 0 < x) (hx : x < 18446744073709551616) (hy : y < 18446744073709551616) (h : x * y < 18446744073709551616) (w : World) :
    Calls Try.prog 4 #[.int .u64 x, .int .u64 y] w fun e w' => e = .returned (.tuple #[.int .u64 ((x * y : Nat) : Int), .bool true]) ∧ w' = w := by
  have h1 : (y : Int) ≤ (18446744073709551615 : Int) / (x : Int) := by
    have : y ≤ 18446744073709551615 / x := by
      rw [Nat.le_div_iff_mul_le hx0, Nat.mul_comm]; omega
    show (y : Int) ≤ ((18446744073709551615 : Nat) : Int) / (x : Int)
    rw [← Int.natCast_ediv]
    exact Int.ofNat_le.2 this
  have h2 : ((x : Int) != 0) = true := by simp; omega
  have h3 : IntKind.u64.wrap ((x : Int) * (y : Int)) = ((x * y : Nat) : Int) := by
    rw [Mul64.mulN, Mul64.wrapN _ h]
  have H3 := hide h3
  clear h h3
  go_enter Try.func4, Try.ntmps4
  go_wp2
  go_ret2
  exact ⟨by rw [← H3.out]; rfl, rfl⟩

theorem contract_no (x y : Nat) (h : 18446744073709551616 ≤ x * y) (hx : x < 18446744073709551616) (hy : y < 18446744073709551616) (w : World) :
    Calls Try.prog 3 #[.int .u64 x, .int .u64 y] w fun e w' => e = .returned (.bool true) ∧ Grown w w' := by
  have S : Hid (∀ w, _) := fun w => sp_Product_no x y hx hy h w
  have I : Hid (∀ w, _) := fun w => im_Product_no x y hx hy h w
  clear h
  go_enter Try.func3, Try.ntmps3
  go_wp2_with fail
  refine (S.out _).mono ?_
  rintro e w' ⟨rfl, rfl⟩
  go_wp2_with fail
  refine (I.out _).mono ?_
  rintro e w' ⟨rfl, rfl⟩
  go_wp2
  go_ret
  exact ⟨rfl, Grown.refl _⟩

theorem contract_yes (x y r : Nat) (w : World)
    (S : Hid (∀ w, Calls Try.prog 4 #[.int .u64 x, .int .u64 y] w fun e w' => e = .returned (.tuple #[.int .u64 r, .bool true]) ∧ w' = w))
    (I : Hid (∀ w, Calls Try.prog 5 #[.int .u64 x, .int .u64 y] w fun e w' => e = .returned (.tuple #[.int .u64 r, .bool true]) ∧ w' = w)) :
    Calls Try.prog 3 #[.int .u64 x, .int .u64 y] w fun e w' => e = .returned (.bool true) ∧ Grown w w' := by
  have e1 : ((r : Int) != (r : Int)) = false := by simp
  go_enter Try.func3, Try.ntmps3
  go_wp2_with fail
  refine (S.out _).mono ?_
  rintro e w' ⟨rfl, rfl⟩
  go_wp2_with fail
  refine (I.out _).mono ?_
  rintro e w' ⟨rfl, rfl⟩
  go_wp2
  go_ret
  exact ⟨rfl, Grown.refl _⟩

theorem contract (x y : Nat) (hx : x < 18446744073709551616) (hy : y < 18446744073709551616) (w : World) :
    Calls Try.prog 3 #[.int .u64 x, .int .u64 y] w fun e w' => e = .returned (.bool true) ∧ Grown w w' := by
  by_cases h : 18446744073709551616 ≤ x * y
  · exact contract_no x y h hx hy w
  · have h' : x * y < 18446744073709551616 := by omega
    rcases Nat.eq_zero_or_pos x with h0 | h0
    · subst h0
      refine contract_yes 0 y 0 w (fun w => sp_Product_zero y hy w) (fun w => ?_)
      have := im_Product_yes 0 y hx hy h' w
      rw [Nat.zero_mul] at this
      exact this
    · exact contract_yes x y (x * y) w (fun w => sp_Product_yes x y h0 hx hy h' w) (fun w => im_Product_yes x y hx hy h' w)
end Go.Proofs.Ytdceifaanfehdaa.product
