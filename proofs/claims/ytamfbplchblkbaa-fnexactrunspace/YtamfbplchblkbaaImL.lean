import Derived.Test.YtamfbplchblkbaaImK
import Derived.Test.YtamfbplchblkbaaSpG
namespace Go.Proofs.Ytamfbplchblkbaa
open Go.RowKit Go.Shelf
set_option linter.unusedVariables false

theorem heldN_none : ∀ k, heldN (fun _ => none) 0 k = 0
  | 0 => rfl
  | k + 1 => by simp [heldN, heldN_none k]

set_option maxHeartbeats 400000 in
theorem im_new (n bud : Int) (w : World) :
    Calls Try.prog 19 #[.int .i64 n, .int .i64 bud] w fun e w' => ∃ S M, e = .returned (.pointer (some ⟨S, 0, none⟩)) ∧ Im S M 0 n bud (fun _ => none) w' ∧ Below w.heap.size w w' ∧ w.heap.size ≤ S ∧ w.heap.size ≤ M ∧ S ≠ M := by
  have hmm := @run_makeMap Try.prog
  go_enter Try.func19, Try.ntmps19
  go_wp2
  go_ret
  refine ⟨w.heap.size + 1, w.heap.size, rfl, ⟨by rw [← al_size w (.map #[] 0)]; exact al_last _ _, .map [], ((World.ownsMap_made w Try.prog 3 ptrE).alloc _).mono (Nat.zero_le _), by rw [heldN_none]; rfl, fun k hk => ?_, fun k hk => ?_⟩, ((Below.refl _ _).alloc (Nat.le_refl _) _).alloc (by rw [al_size]; omega) _, by omega, by omega, by omega⟩
  · rfl
  · rfl
end Go.Proofs.Ytamfbplchblkbaa
