import Derived.Test.YtonnkllaiipjoaaDoorRdA
import Derived.Shelf.Bits.Mul64
namespace Go.Proofs.YtonnkllaiipjoaaDoor
open Go.ChangeShapes Go.WideShapes Go.ChangeAt Go.RowKit
set_option linter.unusedVariables false

set_option maxHeartbeats 1000000 in
theorem wide_any (w0 : World) (a : Option Addr) (len cap : Nat) (zs : List Int) (h0 : IsRow .u8 w0 a len cap zs) (hlen : len ≤ 1048576) (R : Nat) (W : World) (hR : Rd w0 a len cap R W) :
    Calls Tryd.prog 38 #[.pointer (some ⟨R, 0, none⟩)] W fun e W' => (∃ c : Int, 0 ≤ c ∧ c ≤ 18446744073709551615 ∧ e = .returned (.int .u64 c)) ∧ Rd w0 a len cap R W' := by
  have N := hid (fun W h => next_any w0 a len cap zs h0 hlen R W h)
  have HR := hid hR
  clear hR h0
  go_enter Tryd.func38, Tryd.ntmps38
  go_wp2
  go_loopw [3, 4] (fun x i wr => ∃ (k : Nat) (c : Int), k ≤ 8 ∧ i = .int .i64 k ∧ x = .int .u64 c ∧ 0 ≤ c ∧ c ≤ 18446744073709551615 ∧ Hid (Rd w0 a len cap R wr)) (fun _ i _ => 8 - (intOf i).toNat)
  case atStart => exact ⟨0, 0, by omega, rfl, rfl, by omega, by omega, HR⟩
  case round =>
    obtain ⟨k, c, hk, rfl, rfl, hc0, hc1, hrd⟩ := hrel
    by_cases hlt : k < 8
    · have hm : 0 ≤ IntKind.u64.wrap (c * 256) ∧ IntKind.u64.wrap (c * 256) ≤ 18446744073709551615 := by rw [IntKind.wrap_u64]; omega
      go_wp2_with fail
      refine (N.out _ hrd.out).mono ?_
      rintro e w1 ⟨⟨d, hd, rfl⟩, r1⟩
      have R1 := hid r1
      clear r1
      generalize IntKind.u64.wrap (c * 256) = m at hm ⊢
      obtain ⟨m, rfl⟩ := Int.eq_ofNat_of_zero_le hm.1
      have ho : bits BinOp.or IntKind.u64 (m : Int) (d : Int) = ((m ||| d : Nat) : Int) := bits_or_u64_nat m d (by omega) (by omega)
      have hl : m ||| d < 2 ^ 64 := Nat.or_lt_two_pow (by omega) (by omega)
      generalize m ||| d = y at ho hl
      go_wp2
      go_roundw
      case rel => exact ⟨k + 1, (y : Int), by omega, by go_num, rfl, by omega, by omega, R1⟩
      case measure => simp [intOf]; omega
    · go_wp2
      go_ret
      exact ⟨⟨c, hc0, hc1, rfl⟩, hrd.out⟩
end Go.Proofs.YtonnkllaiipjoaaDoor
