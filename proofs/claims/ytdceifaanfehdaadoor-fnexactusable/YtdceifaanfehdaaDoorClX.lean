import Derived.Test.YtdceifaanfehdaaDoorClE
namespace Go.Proofs.YtdceifaanfehdaaDoor
open Go.ChangeShapes Go.WideShapes Go.ChangeAt Go.RowKit
set_option linter.unusedVariables false

theorem walk_FnExactSlotSize (a0 : Int) (w : World) (w0 : (Lit.int .i64 a0).wf = true) (ht : Tb w) :
    Calls Tryd.prog 5 #[.int .i64 a0] w fun e w' => e = .returned (.bool true) ∧ Below w.heap.size w w' := by
  have HS := hid (sp_SlotSize a0 w)
  have HI : Hid (∀ w, Tb w → _) := fun w h => im_SlotSize a0 w h
  have e1 : (sz a0 != sz a0) = false := by simp
  generalize sz a0 = v at HS HI e1
  go_enter Tryd.func5, Tryd.ntmps5
  go_wp2_with fail
  refine (HS.out).mono ?_
  rintro e w1 ⟨rfl, b1⟩
  go_wp2_with fail
  refine (HI.out _ (ht.below b1)).mono ?_
  rintro e w2 ⟨rfl, rfl⟩
  go_wp2
  go_ret
  exact ⟨rfl, b1⟩

theorem walk_FnExactSlabPages (a0 : Int) (w : World) (w0 : (Lit.int .i64 a0).wf = true) (ht : Tb w) :
    Calls Tryd.prog 6 #[.int .i64 a0] w fun e w' => e = .returned (.bool true) ∧ Below w.heap.size w w' := by
  have HS := hid (sp_SlabPages a0 w)
  have HI : Hid (∀ w, Tb w → _) := fun w h => im_SlabPages a0 w h
  have e1 : (pg a0 != pg a0) = false := by simp
  generalize pg a0 = v at HS HI e1
  go_enter Tryd.func6, Tryd.ntmps6
  go_wp2_with fail
  refine (HS.out).mono ?_
  rintro e w1 ⟨rfl, b1⟩
  go_wp2_with fail
  refine (HI.out _ (ht.below b1)).mono ?_
  rintro e w2 ⟨rfl, rfl⟩
  go_wp2
  go_ret
  exact ⟨rfl, b1⟩

theorem walk_FnExactSlabSlots (a0 : Int) (w : World) (w0 : (Lit.int .i64 a0).wf = true) (ht : Tb w) :
    Calls Tryd.prog 7 #[.int .i64 a0] w fun e w' => e = .returned (.bool true) ∧ Below w.heap.size w w' := by
  have HS := hid (sp_SlabSlots a0 w)
  have HI : Hid (∀ w, Tb w → _) := fun w h => im_SlabSlots a0 w h
  have e1 : (sl a0 != sl a0) = false := by simp
  generalize sl a0 = v at HS HI e1
  go_enter Tryd.func7, Tryd.ntmps7
  go_wp2_with fail
  refine (HS.out).mono ?_
  rintro e w1 ⟨rfl, b1⟩
  go_wp2_with fail
  refine (HI.out _ (ht.below b1)).mono ?_
  rintro e w2 ⟨rfl, rfl⟩
  go_wp2
  go_ret
  exact ⟨rfl, b1⟩

theorem walk_FnExactUsable (a0 : Int) (w : World) (w0 : (Lit.int .i64 a0).wf = true) (ht : Tb w) :
    Calls Tryd.prog 8 #[.int .i64 a0] w fun e w' => e = .returned (.bool true) ∧ Below w.heap.size w w' := by
  have HS := hid (sp_Usable a0 w)
  have HI : Hid (∀ w, Tb w → _) := fun w h => im_Usable a0 w h
  have e1 : (us a0 != us a0) = false := by simp
  generalize us a0 = v at HS HI e1
  go_enter Tryd.func8, Tryd.ntmps8
  go_wp2_with fail
  refine (HS.out).mono ?_
  rintro e w1 ⟨rfl, b1⟩
  go_wp2_with fail
  refine (HI.out _ (ht.below b1)).mono ?_
  rintro e w2 ⟨rfl, rfl⟩
  go_wp2
  go_ret
  exact ⟨rfl, b1⟩

theorem walk_FnExactClassOf (a0 : Int) (w : World) (w0 : (Lit.int .u64 a0).wf = true) (ht : Tb w) :
    Calls Tryd.prog 4 #[.int .u64 a0] w fun e w' => e = .returned (.bool true) ∧ Below w.heap.size w w' := by
  have b := bounds_u64 w0
  have HS := hid (sp_ClassOf a0 b.1 b.2 w)
  have HI : Hid (∀ w, Tb w → _) := fun w h => im_ClassOf a0 b.1 w h
  have e1 : (co a0 != co a0) = false := by simp
  generalize co a0 = v at HS HI e1
  go_enter Tryd.func4, Tryd.ntmps4
  go_wp2_with fail
  refine (HS.out).mono ?_
  rintro e w1 ⟨rfl, b1⟩
  go_wp2_with fail
  refine (HI.out _ (ht.below b1)).mono ?_
  rintro e w2 ⟨rfl, rfl⟩
  go_wp2
  go_ret
  exact ⟨rfl, b1⟩
end Go.Proofs.YtdceifaanfehdaaDoor
