import Derived.Test.YtamfbplchblkbaaImP
namespace Go.Proofs.Ytamfbplchblkbaa
open Go.RowKit Go.Shelf
set_option linter.unusedVariables false

/-- impl's access answers the document's code -/
theorem im_access (S M : Nat) (st nn bud : Int) (f : Nat → Option Nat) (m : Nat → Option (Bool × List Int)) (a : Nat) (n : Int) (w : World) (hi : Im S M st nn bud f w) (hp : Pg f m w) (ha : a < 18446744073709551616) :
    Calls Try.prog 57 #[.pointer (some ⟨S, 0, none⟩), .int .u64 a, .int .i64 n] w fun e w' => e = .returned (.int .i64 (accC m a n)) ∧ w' = w := by
  unfold accC
  by_cases h1 : n < 0 ∨ 4096 < n
  · rw [if_pos h1]
    exact access_range S a n w h1
  · rw [if_neg h1]
    by_cases h2 : n = 0
    · subst h2
      rw [if_pos rfl]
      exact access_zero S a w
    · rw [if_neg h2]
      by_cases h3 : 4611686018427387904 ≤ (a : Int) + (n - 1)
      · rw [if_pos h3]
        exact access_far S a n w (by omega) (by omega) (by omega) (by omega) h3
      · rw [if_neg h3]
        obtain ⟨k, rfl⟩ := Int.eq_ofNat_of_zero_le (show 0 ≤ n by omega)
        rw [Int.toNat_natCast, ← reach_open m a k (by omega)]
        exact access_near S M st nn bud f m a k _ _ w hi hp (by omega) (by omega) (by omega) rfl rfl
/-- an operation of no kind, as the document has it -/
theorem im_none (S M nn : Nat) (bud : Int) (f : Nat → Option Nat) (m : Nat → Option (Bool × List Int)) (kd p c : Int) (a : Nat) (n : Int) (d : Option Addr) (dl dc : Nat) (ys : List Int) (w : World) (h : Im S M 0 nn bud f w) (hp : Pg f m w) (hk : kd < 0 ∨ 5 < kd) :
    Calls Try.prog 20 #[.pointer (some ⟨S, 0, none⟩), opV kd p c a n d dl dc] w fun e w' => e = .returned (.agg #[.int .i64 (stepM nn bud m kd p c a n ys).2.1, .slice none 0 0]) ∧ Ims S M nn bud f (stepM nn bud m kd p c a n ys).1 w w' := by
  unfold stepM
  rw [if_neg (show ¬ kd = 4 by omega), if_neg (show ¬ kd = 5 by omega), if_pos hk]
  exact run_none S M nn bud f m kd p c a n d dl dc w h hp hk
end Go.Proofs.Ytamfbplchblkbaa
