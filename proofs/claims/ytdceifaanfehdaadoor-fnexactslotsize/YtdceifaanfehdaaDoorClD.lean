import Derived.Test.YtdceifaanfehdaaDoorClC
namespace Go.Proofs.YtdceifaanfehdaaDoor
open Go.ChangeShapes Go.WideShapes Go.ChangeAt Go.RowKit
set_option linter.unusedVariables false

set_option maxHeartbeats 400000 in
theorem sp_SlabPages (c : Int) (w : World) :
    Calls Tryd.prog 19 #[.int .i64 c] w fun e w' => e = .returned (.int .i64 (pg c)) ∧ Below w.heap.size w w' := by
  have HI := hid (sp_SlotSize c)
  by_cases h : 0 ≤ c ∧ c < 12
  · have hp : (pg c - 1) * 1024 < 4 * sz c ∧ 4 * sz c ≤ pg c * 1024 ∧ 1 ≤ pg c ∧ pg c ≤ 4 := by
      rcases isc_split h with rfl | rfl | rfl | rfl | rfl | rfl | rfl | rfl | rfl | rfl | rfl | rfl <;> decide
    have hs := sz_in h
    generalize sz c = s at HI hs hp ⊢
    generalize pg c = p at hp ⊢
    clear h
    go_enter Tryd.func19, Tryd.ntmps19
    go_wp2_with fail
    refine (HI.out _).mono ?_
    rintro e w1 ⟨rfl, b1⟩
    go_wp2
    go_loop [4] (fun n => ∃ k : Int, 1 ≤ k ∧ k ≤ p ∧ n = .int .i64 k) (fun n => (p - intOf n).toNat)
    case atStart => exact ⟨1, by omega, by omega, rfl⟩
    case round =>
      obtain ⟨k, h1, h2, rfl⟩ := hrel
      by_cases hlt : k < p
      · have ht : k * 1024 < 4 * s := by omega
        have hk4 : p ≤ 4 := hp.2.2.2
        clear hp
        go_wp2
        go_round
        case rel => exact ⟨k + 1, by omega, by omega, rfl⟩
        case measure => simp [intOf]; omega
      · obtain rfl : k = p := by omega
        have ht : ¬ k * 1024 < 4 * s := by omega
        have hk4 : k ≤ 4 := hp.2.2.2
        clear hlt hp
        go_wp2
        go_ret
        exact ⟨rfl, b1⟩
  · rw [pg_out h]
    rw [sz_out h] at HI
    clear h
    go_enter Tryd.func19, Tryd.ntmps19
    go_wp2_with fail
    refine (HI.out _).mono ?_
    rintro e w1 ⟨rfl, b1⟩
    go_wp2
    go_ret
    exact ⟨rfl, b1⟩

set_option maxHeartbeats 400000 in
theorem sp_SlabSlots (c : Int) (w : World) :
    Calls Tryd.prog 20 #[.int .i64 c] w fun e w' => e = .returned (.int .i64 (sl c)) ∧ Below w.heap.size w w' := by
  have HI := hid (sp_SlotSize c)
  have HP := hid (sp_SlabPages c)
  by_cases h : 0 ≤ c ∧ c < 12
  · have hs := sz_in h
    have hp := pg_in h
    rw [(sl_in h).2.2.1]
    generalize sz c = s at HI hs ⊢
    generalize pg c = p at HP hp ⊢
    clear h
    go_enter Tryd.func20, Tryd.ntmps20
    go_wp2_with fail
    refine (HI.out _).mono ?_
    rintro e w1 ⟨rfl, b1⟩
    go_wp2_with fail
    refine (HP.out _).mono ?_
    rintro e w2 ⟨rfl, b2⟩
    go_wp2_with fail
    refine (HI.out _).mono ?_
    rintro e w3 ⟨rfl, b3⟩
    go_wp2
    go_ret
    exact ⟨rfl, bl_trans b1 (bl_trans b2 b3)⟩
  · rw [sl_out h]
    rw [sz_out h] at HI
    clear h
    go_enter Tryd.func20, Tryd.ntmps20
    go_wp2_with fail
    refine (HI.out _).mono ?_
    rintro e w1 ⟨rfl, b1⟩
    go_wp2
    go_ret
    exact ⟨rfl, b1⟩
end Go.Proofs.YtdceifaanfehdaaDoor
