import Derived.Test.YtamfbplchblkbaaSpT
namespace Go.Proofs.Ytamfbplchblkbaa
open Go.RowKit Go.Shelf
set_option linter.unusedVariables false

set_option maxHeartbeats 1000000 in
/-- a run with arguments that are not good -/
theorem sp_run_no (nn bud : Int) (n cap : Nat) (d : Option Addr) (w : World) (h : nn < 0 ∨ 4096 < nn ∨ bud < 0 ∨ 400 < n) :
    Calls Try.prog 7 #[.int .i64 nn, .int .i64 bud, .slice d n cap] w fun e w' => e = .returned (.agg #[.bool false, .slice none 0 0, .int .i64 0, .slice none 0 0]) ∧ Below w.heap.size w w' := by
  have hb : Below w.heap.size w (w.alloc (.cells #[.bool false, .slice none 0 0, .int .i64 0, .slice none 0 0] 29)) := (Below.refl _ _).alloc (Nat.le_refl _) _
  have hL := al_last w (.cells #[.bool false, .slice none 0 0, .int .i64 0, .slice none 0 0] 29)
  have HB := hid hb
  have HL := hid hL
  clear hb hL
  have ht : (decide (nn < 0) || decide (4096 < nn) || decide (bud < 0) || decide (400 < (n : Int))) = true := by
    simp only [Bool.or_eq_true, decide_eq_true_eq]; omega
  clear h
  go_enter Try.func7, Try.ntmps7
  go_wp2_with fail
  all_goals (refine bodyPost_ret (results_cell_row (by rfl) _ _ w.heap.size 29 _ (0, 0) _ (by rfl) HL.out Try.underlying29 rfl (by kernel_rfl)) (by rfl) ?_; exact ⟨rfl, HB.out⟩)
end Go.Proofs.Ytamfbplchblkbaa
