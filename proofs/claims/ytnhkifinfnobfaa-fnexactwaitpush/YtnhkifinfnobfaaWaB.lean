import Derived.Test.YtnhkifinfnobfaaWaA
namespace Go.Proofs.Ytnhkifinfnobfaa
open Go.ChangeShapes Go.WideShapes Go.ChangeAt Go.RowKit
set_option linter.unusedVariables false

theorem w64 (x : Int) (h : -1048576 ≤ x ∧ x ≤ 2097152) : wrap64 x = x := by
  unfold wrap64
  omega
theorem tmod_small (x m : Int) (h0 : 0 ≤ x) (h : x < m) : x.tmod m = x := by
  rw [Int.tmod_eq_emod_of_nonneg h0, Int.emod_eq_of_lt h0 h]
theorem tmod_over (x m : Int) (h0 : 0 ≤ x) (h : x < m) : (x + m).tmod m = x := by
  rw [Int.tmod_eq_emod_of_nonneg (by omega), Int.add_emod_right, Int.emod_eq_of_lt h0 h]

set_option maxHeartbeats 400000 in
theorem modulo_in (d : Int) (m : Nat) (w : World) (h0 : 0 < m) (hm : m ≤ 1048576) :
    Calls Try.prog 55 #[.int .i64 d, .int .i64 m] w fun e w' => e = .returned (.int .i64 (md d m : Nat)) ∧ w' = w := by
  have h1 : ((m : Int) == 0) = false := by simp; omega
  have hb := tmod_bounds d m h0
  have hw := w64 (d.tmod m + m) (by omega)
  have h2 := md_spec d m h0
  have h3 := md_lt d m h0
  have H : Hid ((d.tmod m + m).tmod m = (md d m : Nat)) := by
    show (d.tmod m + m).tmod m = (md d m : Nat)
    by_cases hc : d.tmod m < 0
    · rw [if_pos hc] at h2
      rw [tmod_small _ _ (by omega) (by omega)]; omega
    · rw [if_neg hc] at h2
      rw [tmod_over _ _ (by omega) (by omega)]; omega
  clear h2 h3 hb
  go_enter Try.func55, Try.ntmps55
  go_wp2
  go_ret
  refine ⟨ret_int ?_, rfl⟩
  first | exact H.out | (rw [hw]; exact H.out)

set_option maxHeartbeats 400000 in
theorem l5Mod_in (d : Int) (m : Nat) (w : World) (h0 : 0 < m) (hm : m ≤ 1048576) :
    Calls Try.prog 29 #[.int .i64 d, .int .i64 m] w fun e w' => e = .returned (.int .i64 (md d m : Nat)) ∧ w' = w := by
  have h1 : ((m : Int) == 0) = false := by simp; omega
  have h2 := md_spec d m h0
  have hb := tmod_bounds d m h0
  by_cases hc : d.tmod m < 0
  · rw [if_pos hc] at h2
    have H := hid h2
    have hw := w64 (d.tmod m + m) (by omega)
    clear h2
    go_enter Try.func29, Try.ntmps29
    go_wp2
    go_ret
    refine ⟨ret_int ?_, rfl⟩
    first | exact H.out.symm | (rw [hw]; exact H.out.symm)
  · rw [if_neg hc] at h2
    have H := hid h2
    clear h2
    go_enter Try.func29, Try.ntmps29
    go_wp2
    go_ret
    exact ⟨ret_int H.out.symm, rfl⟩

set_option maxHeartbeats 400000 in
theorem swap_in (G r n cap o i k : Nat) (ps : List Int) (x : Int) (w : World) (hk : (o + i) % n = k) (hn : ps.length = n) (hn0 : 0 < n) (hnl : n ≤ 1048576) (ho : o ≤ 1048576) (hi : i ≤ 1048576)
    (c0 : w.cell? ⟨G, 0, none⟩ = some (.slice (some ⟨r, 0, none⟩) n cap)) (c1 : w.cell? ⟨G, 1, none⟩ = some (.int .i64 o)) (hr : RowV w r 3 (Ns .i64 ps)) :
    Calls Try.prog 54 #[.pointer (some ⟨G, 0, none⟩), .int .i64 i, .int .i64 x] w fun e w' => e = .returned (.int .i64 (ps[k]?.getD 0)) ∧ RowV w' r 3 (Ns .i64 (ps.set k x)) ∧ w.grownBy w' (some r) := by
  have h1 : ((n : Int) == 0) = false := by simp; omega
  have hat : (o + i) % n < n := Nat.mod_lt _ hn0
  have he : ((o : Int) + (i : Int)) % (n : Int) = (((o + i) % n : Nat) : Int) := by simp
  rw [hk] at hat he
  have hc := cell_n hr k (by omega)
  have hf := hr.free k
  have HR := hid (hr.set k (by rw [Ns_len]; omega) (.int .i64 x)).drew
  have HG := hid (grown_drew (grown_set (grown_refl w r) k (.int .i64 x)))
  clear hr hn hk
  go_enter Try.func54, Try.ntmps54
  go_wp2
  go_region
  rw [he]
  clear he
  go_wp2
  go_ret
  exact ⟨rfl, by rw [← Ns_set]; exact HR.out, HG.out⟩
end Go.Proofs.Ytnhkifinfnobfaa
