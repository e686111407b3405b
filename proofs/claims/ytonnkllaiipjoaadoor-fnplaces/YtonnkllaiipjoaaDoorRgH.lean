import Derived.Test.YtonnkllaiipjoaaDoorRgG
namespace Go.Proofs.YtonnkllaiipjoaaDoor
open Go.ChangeShapes Go.WideShapes Go.ChangeAt Go.RowKit
set_option linter.unusedVariables false

set_option maxHeartbeats 1000000 in
theorem sp_Decode_far (a : Int) (ha0 : 0 ≤ a) (ha1 : a ≤ 18446744073709551615) (hfar : 191488 ≤ a) (w : World) :
    Calls Tryd.prog 27 #[.int .u64 a] w fun e w' => (∃ v, Dec a v ∧ e = .returned v) ∧ Below w.heap.size w w' := by
  have R1 := hid (Rt.first w)
  have IA := hid sp_ArenaPages
  have IL := hid sp_LargeStart
  unfold z6 at *
  go_enter Tryd.func27, Tryd.ntmps27
  go_wp2_with fail
  generalize w.alloc (Obj.cells #[Value.int IntKind.i64 0, Value.int IntKind.i64 0, Value.int IntKind.i64 0, Value.int IntKind.i64 0, Value.int IntKind.i64 0, Value.int IntKind.i64 0] 30) = v at R1 ⊢
  generalize w.heap.size = g at R1 ⊢
  refine (IA.out _).mono ?_
  rintro e w2 ⟨rfl, b2⟩
  have R2 := hid (R1.out.below b2)
  clear b2 R1
  by_cases h1 : 289792 ≤ a
  · have RD := hid R2.out.done
    have RR := hid R2.out.row
    have RB := hid R2.out.blk
    clear R2
    go_wp2_with (refine wpList_store_row rfl 30 _ _ rfl g _ rfl rfl 30 z6 RB.out (by kernel_rfl) rfl (by simp [Value.oneCell']) ?_)
    refine bodyPost_ret (results_cell_row (by rfl) _ _ g 30 _ (0, 0) _ (by rfl) (RR.out _) Tryd.underlying30 rfl (by kernel_rfl)) (by rfl) ?_
    exact ⟨⟨_, .out a h1, rfl⟩, RD.out _⟩
  · have t2 : 187 ≤ a / 1024 := by omega
    go_wp2_with fail
    refine (IL.out _).mono ?_
    rintro e w3 ⟨rfl, b3⟩
    have R3 := hid (R2.out.below b3)
    clear b3 R2
    go_wp2_with fail
    refine (IL.out _).mono ?_
    rintro e w4 ⟨rfl, b4⟩
    have R4 := hid (R3.out.below b4)
    clear b4 R3
    go_wp2_with (refine wpList_store_row rfl 30 _ _ rfl g _ rfl rfl 30 z6 R4.out.blk (by kernel_rfl) rfl (by simp [Value.oneCell']) ?_)
    refine bodyPost_ret (results_cell_row (by rfl) _ _ g 30 _ (0, 0) _ (by rfl) (R4.out.row _) Tryd.underlying30 rfl (by kernel_rfl)) (by rfl) ?_
    exact ⟨⟨_, .large a hfar (by omega), rfl⟩, R4.out.done _⟩
end Go.Proofs.YtonnkllaiipjoaaDoor
