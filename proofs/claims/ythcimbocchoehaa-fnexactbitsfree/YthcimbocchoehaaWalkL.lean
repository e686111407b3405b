import Derived.Test.YthcimbocchoehaaWalkK

namespace Go.Proofs.Ythcimbocchoehaa
open Go.ChangeShapes Go.WideShapes Go.ChangeAt Go.RowKit
set_option linter.unusedVariables false

set_option maxHeartbeats 400000 in
theorem spec_free (g len cap : Nat) (zs : List Int) (n k : Int) (w : World) (hl : zs.length = len) (hw : Wf zs) (hr : RowV w g 45 (U zs)) (hk : k < 9223372036854775808) :
    Calls Try.prog 22 #[.slice (some ⟨g, 0, none⟩) len cap, .int .i64 n, .int .i64 k] w fun e w' => e = .returned (.int .i64 (freeB zs n k)) ∧ Below w.heap.size w w' := by
  have HL := hid (fun w hr => list_any g len cap zs n w hl hw hr)
  go_enter Try.func22, Try.ntmps22
  go_wp2_with fail
  refine (HL.out _ hr).mono ?_
  rintro e w1 (⟨hg, rfl, hrow, hb⟩ | ⟨hg, rfl, hb⟩)
  · have hn := good_n zs n hg
    obtain ⟨m, rfl⟩ := Int.eq_ofNat_of_zero_le hn.1
    simp only [Int.toNat_natCast] at hrow hn ⊢
    have hm : m ≤ 4096 := by omega
    have HB := hid hb
    have HR := hid hrow
    have HG := hid hg
    clear hl hw hr hn hrow hb hg
    by_cases h0 : k < 0
    · have H0 := hid (show Ending.returned (.int .i64 (-1)) = .returned (.int .i64 (freeB zs m k)) from ret_int (freeB_bad zs m k (.inr h0)).symm)
      go_wp2
      go_ret
      exact ⟨H0.out, HB.out⟩
    · obtain ⟨k0, rfl⟩ := Int.eq_ofNat_of_zero_le (show 0 ≤ k by omega)
      have hkd : decide ((k0 : Int) < 0) = false := by simp
      clear h0
      go_wp2
      clear hkd
      go_loop [2, 6, 9, 10, 25] (fun v r _ _ i => ∃ j q : Nat, j ≤ m ∧ i = .int .i64 j ∧ v = .int .i64 q ∧ r = .int .i64 0 ∧ q + (frees zs j).length = k0) (fun _ _ _ _ i => m - (intOf i).toNat)
      case atStart => exact ⟨0, k0, Nat.zero_le _, rfl, rfl, rfl, rfl⟩
      case round =>
        obtain ⟨j, q, hj, rfl, rfl, rfl, hq⟩ := hrel
        by_cases hlt : j < m
        · have hc := cell_b HR.out j (by rw [bitsOf_len]; omega)
          rw [bitsOf_get zs _ j hlt] at hc
          simp only [Option.getD_some] at hc
          cases hb : bitAt zs j
          · rw [hb] at hc
            have HF := hid (frees_off zs j hb)
            have HQ := hid hq
            have hq9 : q < 9223372036854775808 := by omega
            clear hb hq
            by_cases hq0 : q = 0
            · subst hq0
              have HP := hid (freeB_some zs m k0 (j + 1) j HG.out (by omega) (by rw [HF.out]; have := HQ.out; rw [Nat.zero_add] at this; rw [← this]; simp))
              go_wp2
              go_ret
              exact ⟨ret_int (by rw [HP.out]), HB.out⟩
            · have hq1 : ((q : Int) == 0) = false := by simp; omega
              have hq2 : 1 ≤ q := by omega
              clear hq0
              go_wp2
              go_round
              case rel => exact ⟨j + 1, q - 1, by omega, by go_num, by go_num, rfl, by rw [HF.out]; have := HQ.out; simp; omega⟩
              case measure => simp [intOf]; omega
          · rw [hb] at hc
            have HF := hid (frees_on zs j hb)
            have HQ := hid hq
            clear hb hq
            go_wp2
            go_round
            case rel => exact ⟨j + 1, q, by omega, by go_num, rfl, rfl, by rw [HF.out]; exact HQ.out⟩
            case measure => simp [intOf]; omega
        · have hjm : j = m := by omega
          subst hjm
          have HP := hid (freeB_none zs j k0 HG.out (by omega))
          clear hq
          go_wp2
          go_ret
          exact ⟨ret_int (by rw [HP.out]), HB.out⟩
  · have H0 := hid (show Ending.returned (.int .i64 (-1)) = .returned (.int .i64 (freeB zs n k)) from ret_int (freeB_bad zs n k (.inl hg)).symm)
    have HB := hid hb
    clear hb hg hl hw hr
    go_wp2
    go_ret
    exact ⟨H0.out, HB.out⟩
end Go.Proofs.Ythcimbocchoehaa
