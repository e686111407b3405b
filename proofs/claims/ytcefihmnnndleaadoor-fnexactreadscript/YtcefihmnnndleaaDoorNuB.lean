import Derived.Test.YtcefihmnnndleaaDoorNuA
import Derived.Test.YtcefihmnnndleaaDoorPrA
namespace Go.Proofs.YtcefihmnnndleaaDoor
open Go.ChangeShapes Go.WideShapes Go.ChangeAt Go.RowKit
set_option linter.unusedVariables false
set_option maxRecDepth 20000

/-- a number's two results -/
def numR (o : Option Nat) (s : ByteArray) (a1 : Addr) : Value := match o with
  | some n => .tuple #[.int .u64 (n : Int), .nilIface]
  | none => .tuple #[.int .u64 0, wE s a1]
set_option maxHeartbeats 2000000 in
theorem im_number (s : ByteArray) (base most : Nat) (a1 : Addr) (w : World) (hs : s.size ≤ 1048576) (hb1 : 1 ≤ base) (hb : base ≤ 16) (hm : most ≤ 20) (h1 : w.cell? ⟨1, 0, none⟩ = some (.iface 141 (.pointer (some a1)))) :
    Calls Tryd.prog 49 #[.string s, .int .u64 (base : Int), .int .i64 (most : Int)] w fun e w' => e = .returned (numR (numM base most s.data.toList) s a1) ∧ Below w.heap.size w w' := by
  obtain ⟨R, hR⟩ : ∃ R, R = numR (numM base most s.data.toList) s a1 := ⟨_, rfl⟩
  rw [← hR]
  have HR := hid hR
  clear hR
  have hL : s.data.toList.length = s.size := by simp
  by_cases c0 : s.size = 0
  · have c0' : ((s.size : Int) == 0) = true := by rw [beq_iff_eq]; omega
    have hU := im_unclear s a1 w h1
    have HN := hid (show numM base most s.data.toList = none by rw [numM, if_neg (by omega)])
    clear c0
    go_enter Tryd.func49, Tryd.ntmps49
    go_wp2_with (go_at_call 45; refine hU.mono ?_; rintro e w' ⟨rfl, rfl⟩)
    go_ret2
    exact ⟨by rw [HR.out, HN.out]; rfl, Below.refl _ _⟩
  have c0' : ((s.size : Int) == 0) = false := by rw [beq_eq_false_iff_ne]; omega
  by_cases c1 : most < s.size
  · have c1' : decide ((most : Int) < (s.size : Int)) = true := by simp; omega
    have hU := im_unclear s a1 w h1
    have HN := hid (show numM base most s.data.toList = none by rw [numM, if_neg (by omega)])
    go_enter Tryd.func49, Tryd.ntmps49
    go_wp2_with (go_at_call 45; refine hU.mono ?_; rintro e w' ⟨rfl, rfl⟩)
    go_ret2
    exact ⟨by rw [HR.out, HN.out]; rfl, Below.refl _ _⟩
  have c1' : decide ((most : Int) < (s.size : Int)) = false := by simp; omega
  have HV2 := hid (show numM base most s.data.toList = valL base s.data.toList 0 by rw [numM, if_pos (by omega)])
  have hB : ∀ pos, Below w.heap.size w (w.iter s pos) := fun pos => (Below.refl _ w).alloc (Nat.le_refl _) _
  have hE : ∀ pos, (w.iter s pos).cell? ⟨1, 0, none⟩ = some (.iface 141 (.pointer (some a1))) := fun pos => below_cell (hB pos) h1
  go_enter Tryd.func49, Tryd.ntmps49
  go_wp2_with fail
  try simp only [c0', c1']
  go_loopw [8] (fun v wr => ∃ (pos n : Nat), pos ≤ s.size ∧ v = .int .u64 (n : Int) ∧ n < 18446744073709551616 ∧ Hid (valL base s.data.toList 0 = valL base (s.data.toList.drop pos) n) ∧ wr = w.iter s pos) (fun _ wr => s.size - wr.iterPos w.heap.size)
  case atStart => exact ⟨0, 0, by omega, rfl, by omega, hid (by simp), rfl⟩
  case round =>
    obtain ⟨pos, n, hp, rfl, hn, HV, rfl⟩ := hrel
    by_cases hlt : pos < s.size
    · have hnx := fun ty => run_next_any (P := Tryd.prog) w s pos ty hlt
      have hc := hid (drop_cons s pos hlt)
      have hD : dgt (Utf8.decode s pos).1 = dgt (s[pos]'hlt).toNat := by
        by_cases ha : (s[pos]'hlt).toNat < 128
        · rw [decode_ascii s pos hlt ha]
        · rw [dgt_far (decode_far s pos hlt ha), dgt_far (by omega)]
      have hS : dgt (s[pos]'hlt).toNat < 16 → (Utf8.decode s pos).2 = 1 := fun h9 => by
        by_cases ha : (s[pos]'hlt).toNat < 128
        · rw [decode_ascii s pos hlt ha]
        · rw [dgt_far (by omega)] at h9; omega
      have hle := decode_le s pos
      generalize (Utf8.decode s pos).1 = r at hnx hD hle
      obtain ⟨sz, hsz⟩ : ∃ sz, sz = (Utf8.decode s pos).2 := ⟨_, rfl⟩
      rw [← hsz] at hnx hS
      clear hsz
      have hG := im_digit r hle (w.iter s (pos + sz))
      obtain ⟨D, hDe⟩ : ∃ D, D = dgt r := ⟨_, rfl⟩
      rw [← hDe] at hG hD
      have hD16 : D ≤ 16 := by rw [hDe]; exact dgt_le r
      have HDD := hid hD
      have HS := hid hS
      clear hDe hD hS
      by_cases p1 : n * base < 18446744073709551616
      · have hP := product.im_Product_yes n base hn (by omega) p1 (w.iter s (pos + sz))
        by_cases d1 : base ≤ D
        · have d1' : decide ((base : Int) ≤ (D : Int)) = true := by simp; omega
          have HN := hid (show numM base most s.data.toList = none by rw [HV2.out, HV.out, hc.out, valL_no (by rw [← HDD.out]; omega)])
          have hU := im_unclear s a1 (w.iter s (pos + sz)) (hE (pos + sz))
          go_wp2_with (first | (go_at_call 57; refine hG.mono ?_; rintro e w' ⟨rfl, rfl⟩; clear hG) | (go_at_call 58; refine hP.mono ?_; rintro e w' ⟨rfl, rfl⟩; clear hP) | (go_at_call 45; refine hU.mono ?_; rintro e w' ⟨rfl, rfl⟩))
          go_ret2
          exact ⟨by rw [HR.out, HN.out]; rfl, hB _⟩
        have d1' : decide ((base : Int) ≤ (D : Int)) = false := by simp; omega
        by_cases o1 : n * base + D < 18446744073709551616
        · have HV3 := hid (HV.out.trans ((congrArg (valL base · n) hc.out).trans (valL_yes (by rw [← HDD.out]; omega))))
          rw [← HDD.out] at HV3
          have hsz1 : sz = 1 := HS.out (by rw [← HDD.out]; omega)
          subst hsz1
          generalize hnb : n * base = nb at p1 hP o1 HV3
          clear hnb
          have lt1 : decide (((nb : Int) + (D : Int)) < (nb : Int)) = false := by simp; omega
          go_wp2_with (first | (go_at_call 57; refine hG.mono ?_; rintro e w' ⟨rfl, rfl⟩; clear hG) | (go_at_call 58; refine hP.mono ?_; rintro e w' ⟨rfl, rfl⟩; clear hP))
          go_roundw
          case rel => exact ⟨pos + 1, nb + D, by omega, by go_num, o1, HV3, rfl⟩
          case measure => simp; omega
        · generalize hnb : n * base = nb at p1 hP o1
          have o1' : nb + D < 36893488147419103232 := by omega
          have hw : IntKind.u64.wrap ((nb : Int) + (D : Int)) = (nb : Int) + (D : Int) - 18446744073709551616 := by
            simp [IntKind.wrap, IntKind.bits, IntKind.signed]; omega
          have lt1 : decide (((nb : Int) + (D : Int) - 18446744073709551616) < (nb : Int)) = true := by simp; omega
          have HNB := hid hnb
          clear hnb
          have HN := hid (show numM base most s.data.toList = none by rw [HV2.out, HV.out, hc.out, valL_no (by rw [← HDD.out]; rw [HNB.out]; omega)])
          have hU := im_unclear s a1 (w.iter s (pos + sz)) (hE (pos + sz))
          go_wp2_with (first | (go_at_call 57; refine hG.mono ?_; rintro e w' ⟨rfl, rfl⟩; clear hG) | (go_at_call 58; refine hP.mono ?_; rintro e w' ⟨rfl, rfl⟩; clear hP) | (go_at_call 45; refine hU.mono ?_; rintro e w' ⟨rfl, rfl⟩))
          go_ret2
          exact ⟨by rw [HR.out, HN.out]; rfl, hB _⟩
      · have hP := product.im_Product_no n base hn (by omega) (by omega) (w.iter s (pos + sz))
        have HP1 := hid p1
        clear p1
        by_cases d1 : base ≤ D
        · have d1' : decide ((base : Int) ≤ (D : Int)) = true := by simp; omega
          have HN := hid (show numM base most s.data.toList = none by rw [HV2.out, HV.out, hc.out, valL_no (by rw [← HDD.out]; omega)])
          have hU := im_unclear s a1 (w.iter s (pos + sz)) (hE (pos + sz))
          go_wp2_with (first | (go_at_call 57; refine hG.mono ?_; rintro e w' ⟨rfl, rfl⟩; clear hG) | (go_at_call 58; refine hP.mono ?_; rintro e w' ⟨rfl, rfl⟩; clear hP) | (go_at_call 45; refine hU.mono ?_; rintro e w' ⟨rfl, rfl⟩))
          go_ret2
          exact ⟨by rw [HR.out, HN.out]; rfl, hB _⟩
        have d1' : decide ((base : Int) ≤ (D : Int)) = false := by simp; omega
        have HN := hid (show numM base most s.data.toList = none by rw [HV2.out, HV.out, hc.out, valL_no (by rw [← HDD.out]; have := HP1.out; omega)])
        have hU := im_unclear s a1 (w.iter s (pos + sz)) (hE (pos + sz))
        go_wp2_with (first | (go_at_call 57; refine hG.mono ?_; rintro e w' ⟨rfl, rfl⟩; clear hG) | (go_at_call 58; refine hP.mono ?_; rintro e w' ⟨rfl, rfl⟩; clear hP) | (go_at_call 45; refine hU.mono ?_; rintro e w' ⟨rfl, rfl⟩))
        go_ret2
        exact ⟨by rw [HR.out, HN.out]; rfl, hB _⟩
    · have hnx := fun ty => run_next_end (P := Tryd.prog) w s pos ty hlt
      have HN := hid (show numM base most s.data.toList = some n by rw [HV2.out, HV.out, List.drop_eq_nil_of_le (by omega)]; rfl)
      go_wp2_with fail
      go_ret2
      exact ⟨by rw [HR.out, HN.out]; rfl, hB _⟩
end Go.Proofs.YtcefihmnnndleaaDoor
