import Derived.Test.YtcefihmnnndleaaDoorScB
namespace Go.Proofs.YtcefihmnnndleaaDoor
open Go.ChangeShapes Go.WideShapes Go.ChangeAt Go.RowKit
set_option linter.unusedVariables false

theorem ext_list (s : ByteArray) (a b : Nat) : (s.extract a b).data.toList = (s.data.toList.drop a).take (b - a) := by
  simp [ByteArray.data_extract, Array.toList_extract, List.extract]
theorem ext_size (s : ByteArray) (a b : Nat) : (s.extract a b).size = min b s.size - a := by simp
theorem ext_tail (s : ByteArray) : (s.extract 1 s.size).data.toList = s.data.toList.tail := by
  rw [ext_list, ← List.drop_one]
  exact List.take_of_length_le (by simp)
theorem fst_of (s : ByteArray) (h : 0 < s.size) : fst s.data.toList = s[0].toNat := by
  have := drop_cons s 0 h
  rw [List.drop_zero] at this
  rw [this]; rfl
theorem list_none (s : ByteArray) (h : ¬ 0 < s.size) : s.data.toList = [] := List.eq_nil_of_length_eq_zero (by rw [show s.data.toList.length = s.size by simp]; omega)
theorem valL_ten : ∀ (l : List UInt8) (n m : Nat), valL 10 l n = some m → m < (n + 1) * 10 ^ l.length
  | [], n, m, h => by simp [valL] at h; subst h; simp
  | c :: r, n, m, h => by
    unfold valL at h
    split at h
    · rename_i hc
      have := valL_ten r _ m h
      refine Nat.lt_of_lt_of_le this ?_
      rw [List.length_cons, Nat.pow_succ', ← Nat.mul_assoc]
      exact Nat.mul_le_mul_right _ (by omega)
    · cases h
theorem numM_ten {most : Nat} {l : List UInt8} {m : Nat} (h : numM 10 most l = some m) : m < 10 ^ most := by
  unfold numM at h
  split at h
  · rename_i hl
    have := valL_ten l 0 m h
    rw [Nat.zero_add, Nat.one_mul] at this
    exact Nat.lt_of_lt_of_le this (Nat.pow_le_pow_right (by omega) hl.2)
  · cases h
theorem numM_getD {most : Nat} (l : List UInt8) : (numM 10 most l).getD 0 < 10 ^ most := by
  cases h : numM 10 most l with
  | none => simp; exact Nat.pow_pos (by omega)
  | some m => exact numM_ten h
/-- the two results of an integer -/
def rI (o : Option Int) : Value := .tuple #[.int .i64 (o.getD 0), .bool o.isSome]
theorem rI_pos (o : Option Nat) : rI (o.map (fun n : Nat => (n : Int))) = .tuple #[.int .i64 ((o.getD 0 : Nat) : Int), .bool o.isSome] := by cases o <;> rfl
theorem rI_neg (o : Option Nat) : rI (o.map (fun n : Nat => -(n : Int))) = .tuple #[.int .i64 (-((o.getD 0 : Nat) : Int)), .bool o.isSome] := by cases o <;> rfl

set_option maxHeartbeats 400000 in
theorem sp_int (s : ByteArray) (w : World) (hs : s.size ≤ 1048576) :
    Calls Tryd.prog 29 #[.string s] w fun e w' => e = .returned (rI (intM s.data.toList)) ∧ w' = w := by
  obtain ⟨R, hR⟩ : ∃ R, R = rI (intM s.data.toList) := ⟨_, rfl⟩
  rw [← hR]
  have HR := hid hR
  clear hR
  by_cases h1 : fst s.data.toList = 45
  · have h0 : 0 < s.size := by
      by_cases h0 : 0 < s.size
      · exact h0
      · rw [list_none s h0] at h1; cases h1
    have HI := hid (show R = .tuple #[.int .i64 (-(((numM 10 9 s.data.toList.tail).getD 0 : Nat) : Int)), .bool (numM 10 9 s.data.toList.tail).isSome] by rw [HR.out, intM, if_pos h1, rI_neg])
    rw [fst_of s h0] at h1
    have h1' : ((s[0].toNat : Nat) : Int) = 45 := by omega
    have hD := sp_digits (s.extract 1 s.size) 9 w (by rw [ext_size]; omega) (by omega)
    rw [ext_tail] at hD
    have hb := numM_getD (most := 9) s.data.toList.tail
    unfold rN at hD
    generalize (numM 10 9 s.data.toList.tail).getD 0 = d at hD hb HI
    have hb2 : d < 1000000000 := hb
    clear hb HR
    generalize (numM 10 9 s.data.toList.tail).isSome = o at hD HI
    go_enter Tryd.func29, Tryd.ntmps29
    go_wp2_with (go_at_call 26; refine hD.mono ?_; rintro e w' ⟨rfl, rfl⟩)
    go_ret2
    exact ⟨by rw [HI.out]; rfl, rfl⟩
  · have HI := hid (show R = .tuple #[.int .i64 (((numM 10 9 s.data.toList).getD 0 : Nat) : Int), .bool (numM 10 9 s.data.toList).isSome] by rw [HR.out, intM, if_neg h1, rI_pos])
    have hD := sp_digits s 9 w hs (by omega)
    have hb := numM_getD (most := 9) s.data.toList
    unfold rN at hD
    generalize (numM 10 9 s.data.toList).getD 0 = d at hD hb HI
    have hb2 : d < 1000000000 := hb
    clear hb HR
    generalize (numM 10 9 s.data.toList).isSome = o at hD HI
    by_cases h0 : 0 < s.size
    · rw [fst_of s h0] at h1
      have h1' : ¬ ((s[0].toNat : Nat) : Int) = 45 := by omega
      go_enter Tryd.func29, Tryd.ntmps29
      go_wp2_with (go_at_call 26; refine hD.mono ?_; rintro e w' ⟨rfl, rfl⟩)
      go_ret2
      exact ⟨by rw [HI.out]; rfl, rfl⟩
    · go_enter Tryd.func29, Tryd.ntmps29
      go_wp2_with (go_at_call 26; refine hD.mono ?_; rintro e w' ⟨rfl, rfl⟩)
      go_ret2
      exact ⟨by rw [HI.out]; rfl, rfl⟩

/-- the three results of an address -/
def PlR (o : Option (Nat × Nat)) (v : Value) : Prop := ∃ r p : Nat, r < 1000 ∧ p < 18446744073709551616 ∧ v = .tuple #[.int .i64 r, .int .u64 p, .bool o.isSome] ∧ ∀ x, o = some x → x = (r, p)
end Go.Proofs.YtcefihmnnndleaaDoor
