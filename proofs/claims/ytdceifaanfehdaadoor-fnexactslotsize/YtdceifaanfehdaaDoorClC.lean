import Derived.Test.YtdceifaanfehdaaDoorClB
namespace Go.Proofs.YtdceifaanfehdaaDoor
open Go.ChangeShapes Go.WideShapes Go.ChangeAt Go.RowKit
set_option linter.unusedVariables false

set_option maxHeartbeats 4000000 in
theorem sp_SlotSize_in (c : Int) (w : World) (h : 0 ≤ c ∧ c < 12) :
    Calls Tryd.prog 18 #[.int .i64 c] w fun e w' => e = .returned (.int .i64 (sz c)) ∧ Below w.heap.size w w' := by
  rcases isc_split h with rfl | rfl | rfl | rfl | rfl | rfl | rfl | rfl | rfl | rfl | rfl | rfl
  all_goals
    clear h
    go_enter Tryd.func18, Tryd.ntmps18
    go_wp2
    go_ret
    exact ⟨rfl, by repeat (first | exact Below.refl _ _ | apply Below.drew | (refine Below.alloc ?_ (Nat.le_refl _) _))⟩

set_option maxHeartbeats 400000 in
theorem sp_SlotSize_neg (c : Int) (w : World) (h0 : c < 0) :
    Calls Tryd.prog 18 #[.int .i64 c] w fun e w' => e = .returned (.int .i64 0) ∧ Below w.heap.size w w' := by
  go_enter Tryd.func18, Tryd.ntmps18
  go_wp2
  go_ret
  exact ⟨rfl, by repeat (first | exact Below.refl _ _ | apply Below.drew | (refine Below.alloc ?_ (Nat.le_refl _) _))⟩

set_option maxHeartbeats 400000 in
theorem sp_SlotSize_big (c : Int) (w : World) (h0 : 0 ≤ c) (h1 : 12 ≤ c) :
    Calls Tryd.prog 18 #[.int .i64 c] w fun e w' => e = .returned (.int .i64 0) ∧ Below w.heap.size w w' := by
  go_enter Tryd.func18, Tryd.ntmps18
  go_wp2
  go_ret
  exact ⟨rfl, by repeat (first | exact Below.refl _ _ | apply Below.drew | (refine Below.alloc ?_ (Nat.le_refl _) _))⟩

theorem sp_SlotSize (c : Int) (w : World) :
    Calls Tryd.prog 18 #[.int .i64 c] w fun e w' => e = .returned (.int .i64 (sz c)) ∧ Below w.heap.size w w' := by
  by_cases h : 0 ≤ c ∧ c < 12
  · exact sp_SlotSize_in c w h
  · rw [sz_out h]
    by_cases h0 : c < 0
    · exact sp_SlotSize_neg c w h0
    · exact sp_SlotSize_big c w (by omega) (by omega)
end Go.Proofs.YtdceifaanfehdaaDoor
