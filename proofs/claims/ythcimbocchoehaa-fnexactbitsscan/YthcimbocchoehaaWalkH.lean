import Derived.Test.YthcimbocchoehaaWalkG

namespace Go.Proofs.Ythcimbocchoehaa
open Go.ChangeShapes Go.WideShapes Go.ChangeAt Go.RowKit
set_option linter.unusedVariables false

theorem bad_goodB {zs : List Int} {n s : Int} (h : goodB zs n = false) : scanB zs n s = -1 := by simp [scanB, h]
theorem bad_inside {zs : List Int} {n s : Int} (h : (decide (0 ≤ s) && decide (s < n)) = false) : scanB zs n s = -1 := by
  unfold scanB; rw [Bool.and_assoc (goodB zs n), h]; simp

set_option maxHeartbeats 400000 in
theorem impl_scan (g len cap : Nat) (zs : List Int) (n i : Int) (w : World) (hl : zs.length = len) (hlen : len ≤ 1048576) (hw : Wf zs) (hr : RowV w g 45 (U zs)) :
    Calls Try.prog 16 #[.slice (some ⟨g, 0, none⟩) len cap, .int .i64 n, .int .i64 i] w fun e w' => e = .returned (.int .i64 (scanB zs n i)) ∧ Below w.heap.size w w' := by
  have HL := hid (fun w hr => good_any g len cap zs n w hl hlen hw hr)
  have HR := hid hr
  clear hr
  go_enter Try.func16, Try.ntmps16
  go_wp2_with fail
  refine (HL.out _ (row_alloc HR.out _)).mono ?_
  rintro e w1 ⟨rfl, hb1⟩
  obtain ⟨hc0, hc1, hsz, hb01, hr1⟩ := after_good HR.out hb1
  have HB := hid hb01
  have HR1 := hid hr1
  clear hb01 hb1 hr1
  cases hg : goodB zs n
  · have H0 := hid (show Ending.returned (.int .i64 (-1)) = .returned (.int .i64 (scanB zs n i)) from ret_int (bad_goodB hg).symm)
    clear hg hl hw
    go_wp2
    go_ret
    exact ⟨H0.out, HB.out⟩
  · have hn := good_n zs n hg
    have HG := hid hg
    clear hg
    go_wp2_with fail
    refine (inside_any _ _ _ _ _ _).mono ?_
    rintro e w2 ⟨rfl, rfl⟩
    by_cases hin : 0 ≤ i ∧ i < n
    · obtain ⟨k, rfl⟩ := Int.eq_ofNat_of_zero_le hin.1
      obtain ⟨m, rfl⟩ := Int.eq_ofNat_of_zero_le hn.1
      have hd : (decide (0 ≤ (k : Int)) && decide ((k : Int) < (m : Int))) = true := by simp; omega
      rw [hd]
      simp only [Int.toNat_natCast] at hn
      have hgo := hid (fun w hr => scan_any g len cap zs m k w hl (by omega) (by omega) (by omega) hw hr)
      have H1 := hid (show Ending.returned (.int .i64 (scanF zs m k m 0)) = .returned (.int .i64 (scanB zs m k)) from ret_int (by
        unfold scanB; rw [Bool.and_assoc (goodB zs m), hd, HG.out]; simp))
      have r2 := hid (row_alloc HR1.out (.cells #[.slice (some ⟨g, 0, none⟩) len cap, .int .i64 m] 43))
      clear hd hin hn hl hw
      go_wp2_with fail
      refine (hgo.out _ r2.out).mono ?_
      rintro e w3 ⟨rfl, b3⟩
      have B3 := hid b3
      clear b3
      generalize scanF zs m k m 0 = y at *
      go_wp2
      go_ret
      exact ⟨H1.out, bl_trans HB.out (bl_trans ((Below.refl _ _).alloc (Nat.le_refl _) _) B3.out)⟩
    · have hd : (decide (0 ≤ i) && decide (i < n)) = false := by
        rw [Bool.eq_false_iff]; simpa using hin
      rw [hd]
      have H1 := hid (show Ending.returned (.int .i64 (-1)) = .returned (.int .i64 (scanB zs n i)) from ret_int (bad_inside hd).symm)
      clear hd hin hl hw hn
      go_wp2
      go_ret
      exact ⟨H1.out, bl_trans HB.out ((Below.refl _ _).alloc (Nat.le_refl _) _)⟩

set_option maxHeartbeats 400000 in
theorem spec_scan (g len cap : Nat) (zs : List Int) (n i : Int) (w : World) (hl : zs.length = len) (hw : Wf zs) (hr : RowV w g 45 (U zs)) :
    Calls Try.prog 23 #[.slice (some ⟨g, 0, none⟩) len cap, .int .i64 n, .int .i64 i] w fun e w' => e = .returned (.int .i64 (scanB zs n i)) ∧ Below w.heap.size w w' := by
  have HL := hid (fun w hr => list_any g len cap zs n w hl hw hr)
  go_enter Try.func23, Try.ntmps23
  go_wp2_with fail
  refine (HL.out _ hr).mono ?_
  rintro e w1 (⟨hg, rfl, hrow, hb⟩ | ⟨hg, rfl, hb⟩)
  · have hn := good_n zs n hg
    obtain ⟨m, rfl⟩ := Int.eq_ofNat_of_zero_le hn.1
    simp only [Int.toNat_natCast] at hrow hn ⊢
    have hm : m ≤ 4096 := by omega
    have HB := hid hb
    have HR := hid hrow
    by_cases hin : 0 ≤ i ∧ i < (m : Int)
    · obtain ⟨k, rfl⟩ := Int.eq_ofNat_of_zero_le hin.1
      have hd : (decide (0 ≤ (k : Int)) && decide ((k : Int) < (m : Int))) = true := by simp; omega
      have H1 := hid (show scanB zs m k = scanF zs m k m 0 from by unfold scanB; rw [Bool.and_assoc (goodB zs m), hd, hg]; simp)
      have hkm : k < m := by omega
      clear hg hl hw hr hn hrow hb hd hin
      go_wp2
      go_loop [9] (fun i => ∃ j : Nat, j ≤ m ∧ i = .int .i64 j ∧ Hid (∀ j', j' < j → bitAt zs ((k + j') % m) = true)) (fun i => m - (intOf i).toNat)
      case atStart => exact ⟨0, Nat.zero_le _, rfl, fun j' h => by omega⟩
      case round =>
        obtain ⟨j, hj, rfl, hon⟩ := hrel
        by_cases hlt : j < m
        · have hmb : (k + j) % m < m := Nat.mod_lt _ (by omega)
          have hmi : ((k : Int) + (j : Int)) % (m : Int) = (((k + j) % m : Nat) : Int) := by simp
          have hc := cell_b HR.out ((k + j) % m) (by rw [bitsOf_len]; exact hmb)
          rw [bitsOf_get zs _ _ hmb] at hc
          have HA := hid (fun ho => scan_at zs m k j hlt hon.out ho)
          have HN := hid (fun hb : bitAt zs ((k + j) % m) = true => (show ∀ j', j' < j + 1 → bitAt zs ((k + j') % m) = true from fun j' h => by
            by_cases e : j' = j
            · rw [e]; exact hb
            · exact hon.out j' (by omega)))
          clear hon
          generalize (k + j) % m = p at *
          cases hb : bitAt zs p
          · rw [hb] at hc
            simp only [Option.getD] at hc
            have H2 := hid (HA.out hb)
            clear hb
            go_wp2
            go_ret
            exact ⟨ret_int (by rw [H1.out, H2.out]), HB.out⟩
          · rw [hb] at hc
            simp only [Option.getD] at hc
            have H2 := hid (HN.out hb)
            clear hb
            go_wp2
            go_round
            case rel => exact ⟨j + 1, by omega, by go_num, H2.out⟩
            case measure => simp [intOf]; omega
        · have H2 := hid (scan_none zs m k (fun j' h => hon.out j' (by omega)))
          clear hon
          go_wp2
          go_ret
          exact ⟨ret_int (by rw [H1.out, H2.out]), HB.out⟩
    · have hd : (decide (0 ≤ i) && decide (i < (m : Int))) = false := by
        rw [Bool.eq_false_iff]; simpa using hin
      have H0 := hid (show Ending.returned (.int .i64 (-1)) = .returned (.int .i64 (scanB zs m i)) from ret_int (bad_inside hd).symm)
      clear hd hl hw hg hrow hb hn
      by_cases h0 : i < 0
      · clear hin
        go_wp2
        go_ret
        exact ⟨H0.out, HB.out⟩
      · have h1 : (m : Int) ≤ i := by omega
        have h2 : ¬ i < 0 := h0
        clear hin
        go_wp2
        go_ret
        exact ⟨H0.out, HB.out⟩
  · have H0 := hid (show Ending.returned (.int .i64 (-1)) = .returned (.int .i64 (scanB zs n i)) from ret_int (bad_goodB hg).symm)
    have HB := hid hb
    clear hb hg hl hw hr
    go_wp2
    go_ret
    exact ⟨H0.out, HB.out⟩
end Go.Proofs.Ythcimbocchoehaa
