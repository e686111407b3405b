import Derived.Test.YtonnkllaiipjoaaDoorRgC
namespace Go.Proofs.YtonnkllaiipjoaaDoor
open Go.ChangeShapes Go.WideShapes Go.ChangeAt Go.RowKit
set_option linter.unusedVariables false

theorem run_index13 (w : World) (k : Nat) (hk : k < 13) : (Instr.index 46 (.agg (stA 12)) (.int .i64 k)).run Tryd.prog w = .ok (.int .i64 (rsN k)) w := by
  have h := stA_get 12 k hk
  rw [if_pos (by omega)] at h
  simp [Instr.index, run_underlying Tryd.underlying46, asIntOf, hk, go_sem, h]

set_option maxHeartbeats 400000 in
theorem im_RegionStart (c : Int) (w : World) (ht : Tb w) :
    Calls Tryd.prog 19 #[.int .i64 c] w fun e w' => e = .returned (.int .i64 (rs c)) ∧ Below w.heap.size w w' := by
  have HS := hid (im_regionStarts w ht)
  by_cases h : 0 ≤ c ∧ c < 12
  · have HC := hid (im_isClass_yes _ w h)
    rw [rs_in h]
    obtain ⟨m, rfl⟩ := Int.eq_ofNat_of_zero_le h.1
    have hm : m < 13 := by omega
    simp only [Int.toNat_natCast]
    have HX := hid (fun W => run_index13 W m hm)
    clear ht h
    generalize stA 12 = S at HS HX
    go_enter Tryd.func19, Tryd.ntmps19
    go_wp2_with fail
    refine (HC.out).mono ?_
    rintro e w' ⟨rfl, rfl⟩
    go_wp2_with fail
    refine (HS.out).mono ?_
    rintro e w1 ⟨rfl, b1⟩
    have hx := HX.out w1
    go_wp2
    go_ret
    exact ⟨rfl, b1⟩
  · rw [rs_out h]
    have HC := hid (im_isClass_no _ w h)
    clear ht h HS
    go_enter Tryd.func19, Tryd.ntmps19
    go_wp2_with fail
    refine (HC.out).mono ?_
    rintro e w' ⟨rfl, rfl⟩
    go_wp2
    go_ret
    exact ⟨rfl, Below.refl _ _⟩

set_option maxHeartbeats 400000 in
theorem im_LargeStart (w : World) (ht : Tb w) :
    Calls Tryd.prog 18 #[] w fun e w' => e = .returned (.int .i64 187) ∧ Below w.heap.size w w' := by
  have HS := hid (im_regionStarts w ht)
  have HX : Hid (∀ W : World, (Instr.index 46 (.agg (stA 12)) (.int .i64 12)).run Tryd.prog W = .ok (.int .i64 187) W) := fun W => by
    have := run_index13 W 12 (by omega)
    rw [rsN_12] at this
    exact this
  clear ht
  generalize stA 12 = S at HS HX
  go_enter Tryd.func18, Tryd.ntmps18
  go_wp2_with fail
  refine (HS.out).mono ?_
  rintro e w1 ⟨rfl, b1⟩
  have hx := HX.out w1
  go_wp2
  go_ret
  exact ⟨rfl, b1⟩

set_option maxHeartbeats 400000 in
theorem im_ArenaPages (w : World) (ht : Tb w) :
    Calls Tryd.prog 26 #[] w fun e w' => e = .returned (.int .i64 283) ∧ Below w.heap.size w w' := by
  have HS := hid (im_LargeStart w ht)
  clear ht
  go_enter Tryd.func26, Tryd.ntmps26
  go_wp2_with fail
  refine (HS.out).mono ?_
  rintro e w1 ⟨rfl, b1⟩
  go_wp2
  go_ret
  exact ⟨rfl, b1⟩

theorem walk_FnExactRegionStart (a0 : Int) (w : World) (w0 : (Lit.int .i64 a0).wf = true) (ht : Tb w) :
    Calls Tryd.prog 4 #[.int .i64 a0] w fun e w' => e = .returned (.bool true) ∧ Below w.heap.size w w' := by
  have HS := hid (sp_RegionStart a0 w)
  have HI : Hid (∀ w, Tb w → _) := fun w h => im_RegionStart a0 w h
  have e1 : (rs a0 != rs a0) = false := by simp
  generalize rs a0 = v at HS HI e1
  go_enter Tryd.func4, Tryd.ntmps4
  go_wp2_with fail
  refine (HS.out).mono ?_
  rintro e w1 ⟨rfl, b1⟩
  go_wp2_with fail
  refine (HI.out _ (ht.below b1)).mono ?_
  rintro e w2 ⟨rfl, b2⟩
  go_wp2
  go_ret
  exact ⟨rfl, bl_trans b1 b2⟩

theorem walk_FnExactRegionPages (a0 : Int) (w : World) (w0 : (Lit.int .i64 a0).wf = true) (ht : Tb w) :
    Calls Tryd.prog 5 #[.int .i64 a0] w fun e w' => e = .returned (.bool true) ∧ Below w.heap.size w w' := by
  have HS := hid (sp_RegionPages a0 w)
  have HI : Hid (∀ w, Tb w → _) := fun w h => im_RegionPages a0 w h
  have e1 : (rp a0 != rp a0) = false := by simp
  generalize rp a0 = v at HS HI e1
  go_enter Tryd.func5, Tryd.ntmps5
  go_wp2_with fail
  refine (HS.out).mono ?_
  rintro e w1 ⟨rfl, b1⟩
  go_wp2_with fail
  refine (HI.out _ (ht.below b1)).mono ?_
  rintro e w2 ⟨rfl, rfl⟩
  go_wp2
  go_ret
  exact ⟨rfl, b1⟩

theorem walk_FnExactLargeStart (w : World) (ht : Tb w) :
    Calls Tryd.prog 6 #[] w fun e w' => e = .returned (.bool true) ∧ Below w.heap.size w w' := by
  have HS := hid (sp_LargeStart w)
  have HI : Hid (∀ w, Tb w → _) := fun w h => im_LargeStart w h
  go_enter Tryd.func6, Tryd.ntmps6
  go_wp2_with fail
  refine (HS.out).mono ?_
  rintro e w1 ⟨rfl, b1⟩
  go_wp2_with fail
  refine (HI.out _ (ht.below b1)).mono ?_
  rintro e w2 ⟨rfl, b2⟩
  go_wp2
  go_ret
  exact ⟨rfl, bl_trans b1 b2⟩

theorem walk_FnExactArenaPages (w : World) (ht : Tb w) :
    Calls Tryd.prog 7 #[] w fun e w' => e = .returned (.bool true) ∧ Below w.heap.size w w' := by
  have HS := hid (sp_ArenaPages w)
  have HI : Hid (∀ w, Tb w → _) := fun w h => im_ArenaPages w h
  go_enter Tryd.func7, Tryd.ntmps7
  go_wp2_with fail
  refine (HS.out).mono ?_
  rintro e w1 ⟨rfl, b1⟩
  go_wp2_with fail
  refine (HI.out _ (ht.below b1)).mono ?_
  rintro e w2 ⟨rfl, b2⟩
  go_wp2
  go_ret
  exact ⟨rfl, bl_trans b1 b2⟩
end Go.Proofs.YtonnkllaiipjoaaDoor
