import Derived.Test.YtcefihmnnndleaaDoorScA
import Derived.Lib.Strings
namespace Go.Proofs.YtcefihmnnndleaaDoor
open Go.ChangeShapes Go.WideShapes Go.ChangeAt Go.RowKit
set_option linter.unusedVariables false

/-- two results -/
def rN (o : Option Nat) : Value := .tuple #[.int .u64 ((o.getD 0 : Nat) : Int), .bool o.isSome]

theorem drop_cons (s : ByteArray) (k : Nat) (h : k < s.size) : s.data.toList.drop k = s[k] :: s.data.toList.drop (k + 1) := by
  rw [List.drop_eq_getElem_cons (by simpa using h)]
  rfl
theorem u8_lt (s : ByteArray) (k : Nat) (h : k < s.size) : s[k].toNat < 256 := UInt8.toNat_lt _
theorem valL_no {base : Nat} {c : UInt8} {r : List UInt8} {n : Nat} (h : ¬ (dgt c.toNat < base ∧ n * base + dgt c.toNat < 18446744073709551616)) : valL base (c :: r) n = none := by
  rw [valL, if_neg h]
theorem valL_yes {base : Nat} {c : UInt8} {r : List UInt8} {n : Nat} (h : dgt c.toNat < base ∧ n * base + dgt c.toNat < 18446744073709551616) : valL base (c :: r) n = valL base r (n * base + dgt c.toNat) := by
  rw [valL, if_pos h]

set_option maxHeartbeats 400000 in
theorem sp_digits (s : ByteArray) (most : Nat) (w : World) (hs : s.size ≤ 1048576) (hm : most ≤ 20) :
    Calls Tryd.prog 26 #[.string s, .int .i64 most] w fun e w' => e = .returned (rN (numM 10 most s.data.toList)) ∧ w' = w := by
  obtain ⟨R, hR⟩ : ∃ R, R = rN (numM 10 most s.data.toList) := ⟨_, rfl⟩
  rw [← hR]
  have HR := hid hR
  clear hR
  have hL : s.data.toList.length = s.size := by simp
  by_cases h1 : s.size < 1
  · go_enter Tryd.func26, Tryd.ntmps26
    go_wp2
    go_ret2
    refine ⟨?_, rfl⟩
    rw [HR.out, numM, if_neg (by omega)]; rfl
  by_cases h2 : most < s.size
  · go_enter Tryd.func26, Tryd.ntmps26
    go_wp2
    go_ret2
    refine ⟨?_, rfl⟩
    rw [HR.out, numM, if_neg (by omega)]; rfl
  have HR2 := hid (show numM 10 most s.data.toList = valL 10 s.data.toList 0 by rw [numM, if_pos (by omega)])
  go_enter Tryd.func26, Tryd.ntmps26
  go_wp2
  go_loopw [6, 7] (fun n i wr => ∃ (k m : Nat), k ≤ s.size ∧ n = .int .u64 m ∧ i = .int .i64 k ∧ m < 18446744073709551616 ∧ Hid (valL 10 s.data.toList 0 = valL 10 (s.data.toList.drop k) m) ∧ wr = w) (fun _ i _ => s.size - (intOf i).toNat)
  case atStart => exact ⟨0, 0, by omega, rfl, rfl, by omega, hid (by simp), rfl⟩
  case round =>
    obtain ⟨k, m, hk, rfl, rfl, hm2, hv, rfl⟩ := hrel
    by_cases hlt : k < s.size
    · have hc := hid (drop_cons s k hlt)
      have hb := u8_lt s k hlt
      by_cases c1 : s[k].toNat < 48
      · have c1' : ((s[k].toNat : Nat) : Int) < 48 := by omega
        go_wp2
        go_ret2
        refine ⟨?_, rfl⟩
        rw [HR.out, HR2.out, hv.out, hc.out, valL_no (by rw [dgt_ten]; omega)]; rfl
      by_cases c2 : 57 < s[k].toNat
      · have c1' : ¬ ((s[k].toNat : Nat) : Int) < 48 := by omega
        have c2' : (57 : Int) < ((s[k].toNat : Nat) : Int) := by omega
        go_wp2
        go_ret2
        refine ⟨?_, rfl⟩
        rw [HR.out, HR2.out, hv.out, hc.out, valL_no (by rw [dgt_ten]; omega)]; rfl
      have c1' : ¬ ((s[k].toNat : Nat) : Int) < 48 := by omega
      have c2' : ¬ (57 : Int) < ((s[k].toNat : Nat) : Int) := by omega
      have hd := dgt_dec (b := s[k].toNat) (by omega)
      by_cases c3 : m * 10 + (s[k].toNat - 48) < 18446744073709551616
      · have c3' : ¬ ((18446744073709551615 - (((s[k].toNat : Nat) : Int) - 48)) / 10 < (m : Int)) := by omega
        have HV := hid (hv.out.trans ((congrArg (valL 10 · m) hc.out).trans (valL_yes (by rw [hd]; omega))))
        rw [hd] at HV
        clear hd
        go_wp2
        go_roundw
        case rel => exact ⟨k + 1, m * 10 + (s[k].toNat - 48), by omega, by go_num, by go_num, by omega, HV, trivial⟩
        case measure => simp [intOf]; omega
      · have c3' : (18446744073709551615 - (((s[k].toNat : Nat) : Int) - 48)) / 10 < (m : Int) := by omega
        go_wp2
        go_ret2
        refine ⟨?_, rfl⟩
        rw [HR.out, HR2.out, hv.out, hc.out, valL_no (by rw [hd]; omega)]; rfl
    · go_wp2
      go_ret2
      refine ⟨?_, rfl⟩
      have hk2 : k = s.size := by omega
      have hv2 := hv.out
      rw [hk2, ← hL, List.drop_length] at hv2
      rw [HR.out, HR2.out, hv2]; rfl
end Go.Proofs.YtcefihmnnndleaaDoor
