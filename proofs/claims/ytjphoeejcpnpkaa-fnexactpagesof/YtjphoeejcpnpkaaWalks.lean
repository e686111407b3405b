import Derived.Test.YtjphoeejcpnpkaaRows
import Derived.WalkKit
import Derived.ProofKit
import Derived.OpenShut
import Derived.WalkLawsBesides
namespace Go.Proofs.Ytjphoeejcpnpkaa.fnExactPagesOf
open Go.ChangeShapes Go.WideShapes Go.ChangeAt Go.RowKit

theorem wrap_u64 (x : Int) : IntKind.u64.wrap x = x % 18446744073709551616 := by
  simp [IntKind.wrap, IntKind.signed, IntKind.bits]

theorem last_eq (a n : Int) : IntKind.u64.wrap (IntKind.u64.wrap (a + n) - 1) = IntKind.u64.wrap (a + (n - 1)) := by
  rw [wrap_u64, wrap_u64, wrap_u64]; omega

theorem last_in (a n : Int) (ha : 0 ≤ a) (h1 : 1 ≤ n) (h : a + (n - 1) < 4611686018427387904) : IntKind.u64.wrap (a + (n - 1)) = a + (n - 1) := by
  rw [wrap_u64]; omega

theorem last_out (a n : Int) (ha : 0 ≤ a) (ha' : a ≤ 18446744073709551615) (h1 : 1 ≤ n) (h2 : n ≤ 4194304) (h : 4611686018427387904 ≤ a + (n - 1)) :
   IntKind.u64.wrap (a + (n - 1)) < a ∨ (a ≤ IntKind.u64.wrap (a + (n - 1)) ∧ 4611686018427387904 ≤ IntKind.u64.wrap (a + (n - 1))) := by
  rw [wrap_u64]; omega

/-- the answer of a refusal -/
def no : Ending := .returned (.tuple #[.int .i64 0, .int .i64 0, .bool false])

set_option maxHeartbeats 400000 in
theorem spec_out (a n : Int) (w : World) (h : n < 1 ∨ 4194304 < n) :
    Calls Try.prog 4 #[.int .u64 a, .int .i64 n] w fun e w' => e = no ∧ w' = w := by
  rcases h with h | h
  · go_enter Try.func4, Try.ntmps4
    go_wp2
    go_ret3
    exact ⟨rfl, rfl⟩
  · have h' : ¬ n < 1 := by omega
    go_enter Try.func4, Try.ntmps4
    go_wp2
    go_ret3
    exact ⟨rfl, rfl⟩

set_option maxHeartbeats 400000 in
theorem impl_out (a n : Int) (w : World) (h : n < 1 ∨ 4194304 < n) :
    Calls Try.prog 5 #[.int .u64 a, .int .i64 n] w fun e w' => e = no ∧ w' = w := by
  rcases h with h | h
  · go_enter Try.func5, Try.ntmps5
    go_wp2
    go_ret3
    exact ⟨rfl, rfl⟩
  · have h' : ¬ n < 1 := by omega
    go_enter Try.func5, Try.ntmps5
    go_wp2
    go_ret3
    exact ⟨rfl, rfl⟩

set_option maxHeartbeats 400000 in
theorem spec_bad (a n L : Int) (w : World) (h1 : 1 ≤ n) (h2 : n ≤ 4194304) (hL : IntKind.u64.wrap (IntKind.u64.wrap (a + n) - 1) = L) (h : L < a ∨ (a ≤ L ∧ 4611686018427387904 ≤ L)) :
    Calls Try.prog 4 #[.int .u64 a, .int .i64 n] w fun e w' => e = no ∧ w' = w := by
  rcases h with h | ⟨h3, h⟩
  all_goals
    go_enter Try.func4, Try.ntmps4
    go_wp2
    go_ret3
    exact ⟨rfl, rfl⟩

set_option maxHeartbeats 400000 in
theorem impl_bad (a n L : Int) (w : World) (h1 : 1 ≤ n) (h2 : n ≤ 4194304) (hL : IntKind.u64.wrap (a + (n - 1)) = L) (h : L < a ∨ (a ≤ L ∧ 4611686018427387904 ≤ L)) :
    Calls Try.prog 5 #[.int .u64 a, .int .i64 n] w fun e w' => e = no ∧ w' = w := by
  rcases h with h | ⟨h3, h⟩
  all_goals
    go_enter Try.func5, Try.ntmps5
    go_wp2
    go_ret3
    exact ⟨rfl, rfl⟩

set_option maxHeartbeats 400000 in
theorem spec_yes (a n : Int) (w : World) (ha : 0 ≤ a) (h1 : 1 ≤ n) (h2 : n ≤ 4194304) (h4 : a + (n - 1) < 4611686018427387904) :
    Calls Try.prog 4 #[.int .u64 a, .int .i64 n] w fun e w' => e = .returned (.tuple #[.int .i64 (a / 1024), .int .i64 ((a + n - 1) / 1024), .bool true]) ∧ w' = w := by
  go_enter Try.func4, Try.ntmps4
  go_wp2
  go_ret3
  exact ⟨rfl, rfl⟩

set_option maxHeartbeats 400000 in
theorem impl_yes (a n : Int) (w : World) (ha : 0 ≤ a) (h1 : 1 ≤ n) (h2 : n ≤ 4194304) (h4 : a + (n - 1) < 4611686018427387904) :
    Calls Try.prog 5 #[.int .u64 a, .int .i64 n] w fun e w' => e = .returned (.tuple #[.int .i64 (a / 1024), .int .i64 ((a + (n - 1)) / 1024), .bool true]) ∧ w' = w := by
  go_enter Try.func5, Try.ntmps5
  go_wp2
  go_ret3
  exact ⟨rfl, rfl⟩

theorem spec_no (a n : Int) (w : World) (ha : 0 ≤ a) (ha' : a ≤ 18446744073709551615) (h : n < 1 ∨ 4194304 < n ∨ 4611686018427387904 ≤ a + (n - 1)) :
    Calls Try.prog 4 #[.int .u64 a, .int .i64 n] w fun e w' => e = no ∧ w' = w := by
  by_cases h1 : n < 1 ∨ 4194304 < n
  · exact spec_out a n w h1
  · exact spec_bad a n _ w (by omega) (by omega) (last_eq a n) (last_out a n ha ha' (by omega) (by omega) (by omega))

theorem impl_no (a n : Int) (w : World) (ha : 0 ≤ a) (ha' : a ≤ 18446744073709551615) (h : n < 1 ∨ 4194304 < n ∨ 4611686018427387904 ≤ a + (n - 1)) :
    Calls Try.prog 5 #[.int .u64 a, .int .i64 n] w fun e w' => e = no ∧ w' = w := by
  by_cases h1 : n < 1 ∨ 4194304 < n
  · exact impl_out a n w h1
  · exact impl_bad a n _ w (by omega) (by omega) rfl (last_out a n ha ha' (by omega) (by omega) (by omega))
end Go.Proofs.Ytjphoeejcpnpkaa.fnExactPagesOf
