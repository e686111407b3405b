import Derived.Test.YtcefihmnnndleaaDoorScD
import Derived.Laws.RangeString
import Derived.Laws.RangeAny
namespace Go.Proofs.YtcefihmnnndleaaDoor
open Go.ChangeShapes Go.WideShapes Go.ChangeAt Go.RowKit
set_option linter.unusedVariables false
set_option maxRecDepth 20000

/-- a digit of any rune -/
theorem im_digit (r : Nat) (hr : r ≤ 2147483647) (w : World) : Calls Tryd.prog 57 #[.int .i32 (r : Int)] w fun e w' => e = .returned (.int .u64 ((dgt r : Nat) : Int)) ∧ w' = w := by
  obtain ⟨D, hD⟩ : ∃ D, D = dgt r := ⟨_, rfl⟩
  rw [← hD]
  have HD := hid hD
  clear hD
  by_cases c1 : 48 ≤ r ∧ r ≤ 57
  · have e1 : decide ((48 : Int) ≤ (r : Int)) = true := by simp; omega
    have e2 : decide ((r : Int) ≤ 57) = true := by simp; omega
    have HE := hid (show D = r - 48 by rw [HD.out, dgt, if_pos c1])
    go_enter Tryd.func57, Tryd.ntmps57
    go_wp2
    go_ret
    exact ⟨ret_int (by have := HE.out; omega), rfl⟩
  by_cases c2 : 97 ≤ r ∧ r ≤ 102
  · have e1 : decide ((48 : Int) ≤ (r : Int)) = true := by simp; omega
    have e2 : decide ((r : Int) ≤ 57) = false := by simp; omega
    have e3 : decide ((97 : Int) ≤ (r : Int)) = true := by simp; omega
    have e4 : decide ((r : Int) ≤ 102) = true := by simp; omega
    have HE := hid (show D = r - 87 by rw [HD.out, dgt, if_neg c1, if_pos c2])
    go_enter Tryd.func57, Tryd.ntmps57
    go_wp2
    go_ret
    exact ⟨ret_int (by have := HE.out; omega), rfl⟩
  by_cases c3 : 65 ≤ r ∧ r ≤ 70
  · have e1 : decide ((48 : Int) ≤ (r : Int)) = true := by simp; omega
    have e2 : decide ((r : Int) ≤ 57) = false := by simp; omega
    have e3 : decide ((97 : Int) ≤ (r : Int)) = false := by simp; omega
    have e5 : decide ((65 : Int) ≤ (r : Int)) = true := by simp; omega
    have e6 : decide ((r : Int) ≤ 70) = true := by simp; omega
    have HE := hid (show D = r - 55 by rw [HD.out, dgt, if_neg c1, if_neg c2, if_pos c3])
    go_enter Tryd.func57, Tryd.ntmps57
    go_wp2
    go_ret
    exact ⟨ret_int (by have := HE.out; omega), rfl⟩
  have HE := hid (show D = 16 by rw [HD.out, dgt, if_neg c1, if_neg c2, if_neg c3])
  have d1 : ¬ ((48 : Int) ≤ (r : Int) ∧ (r : Int) ≤ 57) := by omega
  have d2 : ¬ ((97 : Int) ≤ (r : Int) ∧ (r : Int) ≤ 102) := by omega
  have d3 : ¬ ((65 : Int) ≤ (r : Int) ∧ (r : Int) ≤ 70) := by omega
  go_enter Tryd.func57, Tryd.ntmps57
  go_wp2
  all_goals first | (exfalso; omega) | skip
  all_goals go_ret
  all_goals exact ⟨ret_int (by rw [HE.out]; rfl), rfl⟩
theorem decode_far (s : ByteArray) (pos : Nat) (h : pos < s.size) (ha : ¬ (s[pos]'h).toNat < 128) : 128 ≤ (Utf8.decode s pos).1 := by
  have e : s.get! (pos + 0) = s[pos]'h := by
    show s.get! pos = _
    simp [ByteArray.get!, getElem!_pos, h]
    rfl
  have hb : ∀ k, (s.get! (pos + k)).toNat < 256 := fun k => (s.get! (pos + k)).toNat_lt
  have h1 := hb 1; have h2 := hb 2; have h3 := hb 3
  have h0 := hb 0
  rw [e] at h0
  simp only [Utf8.decode, e, ha, if_false]
  repeat' split
  all_goals simp_all [Utf8.runeError]
  all_goals omega
theorem dgt_far {r : Nat} (h : 128 ≤ r) : dgt r = 16 := by unfold dgt; rw [if_neg (by omega), if_neg (by omega), if_neg (by omega)]
/-- the error of a word -/
def wE (s : ByteArray) (a1 : Addr) : Value := .iface 111 (.agg #[.string s, .iface 141 (.pointer (some a1))])
theorem im_unclear (s : ByteArray) (a1 : Addr) (w : World) (h1 : w.cell? ⟨1, 0, none⟩ = some (.iface 141 (.pointer (some a1)))) :
    Calls Tryd.prog 45 #[.string s] w fun e w' => e = .returned (wE s a1) ∧ w' = w := by
  go_enter Tryd.func45, Tryd.ntmps45
  go_wp2
  go_ret
  exact ⟨rfl, rfl⟩
end Go.Proofs.YtcefihmnnndleaaDoor
