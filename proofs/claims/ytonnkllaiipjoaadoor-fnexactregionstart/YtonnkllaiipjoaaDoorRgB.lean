import Derived.Test.YtonnkllaiipjoaaDoorRgA
namespace Go.Proofs.YtonnkllaiipjoaaDoor
open Go.ChangeShapes Go.WideShapes Go.ChangeAt Go.RowKit
set_option linter.unusedVariables false

theorem rsN_12 : rsN 12 = 187 := by decide

set_option maxHeartbeats 400000 in
theorem sp_LargeStart (w : World) :
    Calls Tryd.prog 25 #[] w fun e w' => e = .returned (.int .i64 187) ∧ Below w.heap.size w w' := by
  have e1 : rs 11 = 157 := by decide
  have e2 : rp 11 = 30 := by decide
  have HS : Hid (∀ w, _) := fun w => sp_RegionStart 11 w
  have HP : Hid (∀ w, _) := fun w => sp_RegionPages 11 w
  rw [e1] at HS
  rw [e2] at HP
  go_enter Tryd.func25, Tryd.ntmps25
  go_wp2_with fail
  refine (HS.out _).mono ?_
  rintro e w1 ⟨rfl, b1⟩
  go_wp2_with fail
  refine (HP.out _).mono ?_
  rintro e w2 ⟨rfl, b2⟩
  go_wp2
  go_ret
  exact ⟨rfl, bl_trans b1 b2⟩

set_option maxHeartbeats 400000 in
theorem sp_ArenaPages (w : World) :
    Calls Tryd.prog 17 #[] w fun e w' => e = .returned (.int .i64 283) ∧ Below w.heap.size w w' := by
  have HS := hid sp_LargeStart
  go_enter Tryd.func17, Tryd.ntmps17
  go_wp2_with fail
  refine (HS.out _).mono ?_
  rintro e w1 ⟨rfl, b1⟩
  go_wp2
  go_ret
  exact ⟨rfl, b1⟩

theorem rs_le (c : Int) : -1 ≤ rs c ∧ rs c ≤ 361 := by
  by_cases h : 0 ≤ c ∧ c < 12
  · have := rsN_le c.toNat; rw [rs_in h]; omega
  · rw [rs_out h]; omega

set_option maxHeartbeats 400000 in
theorem sp_l4Slab (c s : Int) (h0 : -1000 ≤ s) (h1 : s ≤ 1000) (w : World) :
    Calls Tryd.prog 32 #[.int .i64 c, .int .i64 s] w fun e w' => e = .returned (.int .i64 (rs c + s * (pg c + 1))) ∧ Below w.heap.size w w' := by
  have HS := hid (sp_RegionStart c)
  have HP := hid (sp_SlabPages c)
  have hr := rs_le c
  have hp := pg_le c
  generalize rs c = r at HS hr ⊢
  generalize pg c = p at HP hp ⊢
  have hm : -5000 ≤ s * (p + 1) ∧ s * (p + 1) ≤ 5000 := by
    have : p = 0 ∨ p = 1 ∨ p = 2 ∨ p = 3 ∨ p = 4 := by omega
    rcases this with rfl | rfl | rfl | rfl | rfl <;> omega
  go_enter Tryd.func32, Tryd.ntmps32
  go_wp2_with fail
  refine (HS.out _).mono ?_
  rintro e w1 ⟨rfl, b1⟩
  go_wp2_with fail
  refine (HP.out _).mono ?_
  rintro e w2 ⟨rfl, b2⟩
  go_wp2
  go_ret
  exact ⟨rfl, bl_trans b1 b2⟩
end Go.Proofs.YtonnkllaiipjoaaDoor
