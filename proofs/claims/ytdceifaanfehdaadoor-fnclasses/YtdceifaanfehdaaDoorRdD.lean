import Derived.Test.YtdceifaanfehdaaDoorRdC
namespace Go.Proofs.YtdceifaanfehdaaDoor
open Go.ChangeShapes Go.WideShapes Go.ChangeAt Go.RowKit
set_option linter.unusedVariables false

set_option maxHeartbeats 400000 in
theorem drawClassOf (a : Option Addr) (len cap : Nat) (zs : List Int) (hlen : len ≤ 1048576) (w : World) (h0 : IsRow .u8 w a len cap zs) :
    Calls Tryd.prog 9 #[.slice a len cap] w fun e w' => (∃ c : Int, 0 ≤ c ∧ c ≤ 18446744073709551615 ∧ e = .returned (.int .u64 c)) ∧ Below w.heap.size w w' := by
  have Q := hid (fun R W h => request_any w a len cap zs h0 hlen R W h)
  have R0 : Hid (Rd w a len cap w.heap.size (w.alloc (.cells #[.slice a len cap, .int .i64 0] 36))) := ⟨⟨0, by omega, (MapKept.heap_alloc w _).1⟩, (Below.refl _ _).alloc (Nat.le_refl _) _, Nat.le_refl _⟩
  clear h0
  go_enter Tryd.func9, Tryd.ntmps9
  go_wp2_with fail
  refine (Q.out _ _ R0.out).mono ?_
  rintro e w1 ⟨⟨c, hc0, hc1, rfl⟩, r1⟩
  have R1 := hid r1
  clear r1
  go_wp2
  go_ret
  exact ⟨⟨c, hc0, hc1, rfl⟩, R1.out.bel⟩

theorem shr_in (c : Int) (j : Nat) (h0 : 0 ≤ c) (h1 : c ≤ 18446744073709551615) : 0 ≤ c / 2 ^ j ∧ c / 2 ^ j ≤ 18446744073709551615 :=
  ⟨Int.ediv_nonneg h0 (Int.pow_nonneg (by omega)), Int.le_trans (Int.ediv_le_self _ h0) h1⟩

set_option maxRecDepth 8000 in
set_option maxHeartbeats 1000000 in
theorem drawProduct (a : Option Addr) (len cap : Nat) (zs : List Int) (hlen : len ≤ 1048576) (w : World) (h0 : IsRow .u8 w a len cap zs) :
    Calls Tryd.prog 15 #[.slice a len cap] w fun e w' => (∃ c d : Int, 0 ≤ c ∧ c ≤ 18446744073709551615 ∧ 0 ≤ d ∧ d ≤ 18446744073709551615 ∧ e = .returned (.tuple #[.int .u64 c, .int .u64 d])) ∧ Below w.heap.size w w' := by
  have N := hid (fun R W h => next_any w a len cap zs h0 hlen R W h)
  have V := hid (fun R W h => wide_any w a len cap zs h0 hlen R W h)
  have R0 : Hid (Rd w a len cap w.heap.size (w.alloc (.cells #[.slice a len cap, .int .i64 0] 36))) := ⟨⟨0, by omega, (MapKept.heap_alloc w _).1⟩, (Below.refl _ _).alloc (Nat.le_refl _) _, Nat.le_refl _⟩
  clear h0
  go_enter Tryd.func15, Tryd.ntmps15
  go_wp2_with fail
  refine (N.out _ _ R0.out).mono ?_
  rintro e w1 ⟨⟨k, hk, rfl⟩, r1⟩
  have R1 := hid r1
  clear r1 R0
  go_wp2_with fail
  refine (V.out _ _ R1.out).mono ?_
  rintro e w2 ⟨⟨c, hc0, hc1, rfl⟩, r2⟩
  have R2 := hid r2
  clear r2 R1
  have hs := shr_in c (k % 64) hc0 hc1
  go_wp2_with fail
  refine (V.out _ _ R2.out).mono ?_
  rintro e w3 ⟨⟨d, hd0, hd1, rfl⟩, r3⟩
  have R3 := hid r3
  clear r3 R2
  generalize c / 2 ^ (k % 64) = x at hs ⊢
  go_wp2_with fail
  refine (N.out _ _ R3.out).mono ?_
  rintro e w4 ⟨⟨n, hn, rfl⟩, r4⟩
  have R4 := hid r4
  clear r4 R3
  have ht := shr_in d (n % 64) hd0 hd1
  by_cases h3 : k % 3 = 1
  · have h3b : ((k : Int) % 3 == 1) = true := by simp; omega
    clear h3
    by_cases hx : 0 < x
    · have hq : 0 ≤ (18446744073709551615 : Int) / x ∧ (18446744073709551615 : Int) / x ≤ 18446744073709551615 := ⟨Int.ediv_nonneg (by omega) (by omega), Int.ediv_le_self _ (by omega)⟩
      have hb : ∀ z : Int, 0 ≤ IntKind.u64.wrap z ∧ IntKind.u64.wrap z ≤ 18446744073709551615 := fun z => by rw [IntKind.wrap_u64]; omega
      have HB := hid hb
      clear hb
      go_wp2
      go_ret2
      exact ⟨⟨_, _, hs.1, hs.2, (HB.out _).1, (HB.out _).2, rfl⟩, R4.out.bel⟩
    · have hx0 : x = 0 := by omega
      subst hx0
      go_wp2
      go_ret2
      exact ⟨⟨_, _, by omega, by omega, ht.1, ht.2, rfl⟩, R4.out.bel⟩
  · have h3b : ((k : Int) % 3 == 1) = false := by simp; omega
    clear h3
    go_wp2
    go_ret2
    exact ⟨⟨_, _, hs.1, hs.2, ht.1, ht.2, rfl⟩, R4.out.bel⟩
end Go.Proofs.YtdceifaanfehdaaDoor
