import Derived.Test.YtdceifaanfehdaaDoorClA
namespace Go.Proofs.YtdceifaanfehdaaDoor
open Go.ChangeShapes Go.WideShapes Go.ChangeAt Go.RowKit
set_option linter.unusedVariables false

theorem pg_in {c : Int} (h : 0 ≤ c ∧ c < 12) : 1 ≤ pg c ∧ pg c ≤ 4 := by
  rcases isc_split h with rfl | rfl | rfl | rfl | rfl | rfl | rfl | rfl | rfl | rfl | rfl | rfl <;> decide
theorem pg_out {c : Int} (h : ¬ (0 ≤ c ∧ c < 12)) : pg c = 0 := by simp only [pg, sz_out h]; decide
theorem pg_le (c : Int) : 0 ≤ pg c ∧ pg c ≤ 4 := by
  by_cases h : 0 ≤ c ∧ c < 12
  · have := pg_in h; omega
  · rw [pg_out h]; omega
theorem sl_in {c : Int} (h : 0 ≤ c ∧ c < 12) : 4 ≤ sl c ∧ sl c ≤ 64 ∧ sl c = pg c * 1024 / sz c ∧ sl c * sz c ≤ pg c * 1024 := by
  rcases isc_split h with rfl | rfl | rfl | rfl | rfl | rfl | rfl | rfl | rfl | rfl | rfl | rfl <;> decide
theorem sl_out {c : Int} (h : ¬ (0 ≤ c ∧ c < 12)) : sl c = 0 := by simp only [sl, if_neg h]
theorem us_in {c : Int} (h : 0 ≤ c ∧ c < 12) : us c = sz c - 8 := by simp only [us, if_pos h]
theorem us_out {c : Int} (h : ¬ (0 ≤ c ∧ c < 12)) : us c = 0 := by simp only [us, if_neg h]

set_option maxHeartbeats 400000 in
theorem im_SlabPages (c : Int) (w : World) (ht : Tb w) :
    Calls Tryd.prog 14 #[.int .i64 c] w fun e w' => e = .returned (.int .i64 (pg c)) ∧ w' = w := by
  have HI := hid (im_SlotSize c w ht)
  have hs := sz_le c
  unfold pg
  generalize sz c = s at HI hs ⊢
  clear ht
  go_enter Tryd.func14, Tryd.ntmps14
  go_wp2_with fail
  refine (HI.out).mono ?_
  rintro e w' ⟨rfl, rfl⟩
  go_wp2
  go_ret
  exact ⟨rfl, rfl⟩

set_option maxHeartbeats 400000 in
theorem im_SlabSlots (c : Int) (w : World) (ht : Tb w) :
    Calls Tryd.prog 13 #[.int .i64 c] w fun e w' => e = .returned (.int .i64 (sl c)) ∧ w' = w := by
  have HI := hid (im_SlotSize c w ht)
  have HP := hid (im_SlabPages c w ht)
  by_cases h : 0 ≤ c ∧ c < 12
  · have hs := sz_in h
    have hp := pg_in h
    rw [(sl_in h).2.2.1]
    have HC := hid (im_isClass_yes _ w h)
    generalize sz c = s at HI hs ⊢
    generalize pg c = p at HP hp ⊢
    clear ht h
    go_enter Tryd.func13, Tryd.ntmps13
    go_wp2_with fail
    refine (HC.out).mono ?_
    rintro e w' ⟨rfl, rfl⟩
    go_wp2_with fail
    refine (HP.out).mono ?_
    rintro e w' ⟨rfl, rfl⟩
    go_wp2_with fail
    refine (HI.out).mono ?_
    rintro e w' ⟨rfl, rfl⟩
    go_wp2
    go_ret
    exact ⟨rfl, rfl⟩
  · rw [sl_out h]
    have HC := hid (im_isClass_no _ w h)
    clear ht h
    go_enter Tryd.func13, Tryd.ntmps13
    go_wp2_with fail
    refine (HC.out).mono ?_
    rintro e w' ⟨rfl, rfl⟩
    go_wp2
    go_ret
    exact ⟨rfl, rfl⟩

set_option maxHeartbeats 400000 in
theorem im_Usable (c : Int) (w : World) (ht : Tb w) :
    Calls Tryd.prog 11 #[.int .i64 c] w fun e w' => e = .returned (.int .i64 (us c)) ∧ w' = w := by
  have HI := hid (im_SlotSize c w ht)
  by_cases h : 0 ≤ c ∧ c < 12
  · have hs := sz_in h
    rw [us_in h]
    have HC := hid (im_isClass_yes _ w h)
    generalize sz c = s at HI hs ⊢
    clear ht h
    go_enter Tryd.func11, Tryd.ntmps11
    go_wp2_with fail
    refine (HC.out).mono ?_
    rintro e w' ⟨rfl, rfl⟩
    go_wp2_with fail
    refine (HI.out).mono ?_
    rintro e w' ⟨rfl, rfl⟩
    go_wp2
    go_ret
    exact ⟨rfl, rfl⟩
  · rw [us_out h]
    have HC := hid (im_isClass_no _ w h)
    clear ht h
    go_enter Tryd.func11, Tryd.ntmps11
    go_wp2_with fail
    refine (HC.out).mono ?_
    rintro e w' ⟨rfl, rfl⟩
    go_wp2
    go_ret
    exact ⟨rfl, rfl⟩
end Go.Proofs.YtdceifaanfehdaaDoor
