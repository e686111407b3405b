import Derived.Test.YtdceifaanfehdaaDoorRdB
import Derived.Test.YtdceifaanfehdaaDoorClE
namespace Go.Proofs.YtdceifaanfehdaaDoor
open Go.ChangeShapes Go.WideShapes Go.ChangeAt Go.RowKit
set_option linter.unusedVariables false

set_option maxRecDepth 8000 in
set_option maxHeartbeats 2000000 in
theorem request_any (w0 : World) (a : Option Addr) (len cap : Nat) (zs : List Int) (h0 : IsRow .u8 w0 a len cap zs) (hlen : len ≤ 1048576) (R : Nat) (W : World) (hR : Rd w0 a len cap R W) :
    Calls Tryd.prog 22 #[.pointer (some ⟨R, 0, none⟩)] W fun e W' => (∃ c : Int, 0 ≤ c ∧ c ≤ 18446744073709551615 ∧ e = .returned (.int .u64 c)) ∧ Rd w0 a len cap R W' := by
  have N := hid (fun W h => next_any w0 a len cap zs h0 hlen R W h)
  have V := hid (fun W h => wide_any w0 a len cap zs h0 hlen R W h)
  have U := hid sp_Usable
  have HR := hid hR
  clear hR h0
  go_enter Tryd.func22, Tryd.ntmps22
  go_wp2_with fail
  refine (N.out _ HR.out).mono ?_
  rintro e w1 ⟨⟨k, hk, rfl⟩, r1⟩
  have R1 := hid r1
  clear r1 HR
  by_cases h1 : 250 ≤ k
  · have : k = 250 ∨ k = 251 ∨ k = 252 ∨ k = 253 ∨ k = 254 ∨ k = 255 := by omega
    clear h1 hk
    rcases this with rfl | rfl | rfl | rfl | rfl | rfl
    all_goals
      go_wp2_with fail
      refine (V.out _ R1.out).mono ?_
      rintro e w2 ⟨⟨c, hc0, hc1, rfl⟩, r2⟩
      have R2 := hid r2
      clear r2
      go_wp2
      go_ret
      exact ⟨⟨_, by omega, by omega, rfl⟩, R2.out⟩
  · by_cases h2 : 225 ≤ k
    · go_wp2
      go_ret
      exact ⟨⟨_, by omega, by omega, rfl⟩, R1.out⟩
    · by_cases h3 : 200 ≤ k
      · go_wp2
        go_ret
        exact ⟨⟨_, by omega, by omega, rfl⟩, R1.out⟩
      · by_cases h4 : k % 3 = 0
        · have h4b : ((k : Int) % 3 == 0) = true := by simp; omega
          have hu := us_le ((k : Int) / 3 % 12)
          go_wp2_with fail
          refine (U.out _ _).mono ?_
          rintro e w2 ⟨rfl, b2⟩
          have R2 := hid (R1.out.below b2)
          clear b2
          generalize us ((k : Int) / 3 % 12) = u at hu
          go_wp2
          go_ret
          exact ⟨⟨_, by omega, by omega, rfl⟩, R2.out⟩
        · have h4b : ((k : Int) % 3 == 0) = false := by simp; omega
          by_cases h5 : k % 3 = 1
          · have h5b : ((k : Int) % 3 == 1) = true := by simp; omega
            go_wp2
            go_ret
            exact ⟨⟨_, by omega, by omega, rfl⟩, R1.out⟩
          · have h5b : ((k : Int) % 3 == 1) = false := by simp; omega
            go_wp2
            go_ret
            exact ⟨⟨_, by omega, by omega, rfl⟩, R1.out⟩
end Go.Proofs.YtdceifaanfehdaaDoor
