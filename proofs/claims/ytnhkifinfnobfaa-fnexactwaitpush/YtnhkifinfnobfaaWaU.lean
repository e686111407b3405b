import Derived.Test.YtnhkifinfnobfaaWaT
namespace Go.Proofs.Ytnhkifinfnobfaa
open Go.ChangeShapes Go.WideShapes Go.ChangeAt Go.RowKit
set_option linter.unusedVariables false

set_option maxHeartbeats 400000 in
theorem toW_in (am : Option Addr) (lm cm : Nat) (af : Option Addr) (lf cf : Nat) (lim : Int) (zm zf : List Int) (w : World) (hm : IsRow .i64 w am lm cm zm) (hf : IsRow .i64 w af lf cf zf) (h1 : lm ≤ 1048576) (h2 : lf ≤ 1048576) :
    Calls Try.prog 12 #[wv am lm cm af lf cf lim] w fun e w' => ∃ g1 g2, e = .returned (wv (some ⟨g1, 0, none⟩) lm lm (some ⟨g2, 0, none⟩) lf lf lim) ∧ RowV w' g1 3 (Ns .i64 (zm.take lm)) ∧ RowV w' g2 3 (Ns .i64 (zf.take lf)) ∧ w.heap.size ≤ g1 ∧ g1 < g2 ∧ Below w.heap.size w w' := by
  have T3 := hid (al_three w (.cells #[.slice am lm cm, .slice af lf cf, .int .i64 lim] 33) (.cells #[.slice none 0 0, .slice none 0 0, .int .i64 0] 29) (.cells #[.slice none 0 0, .slice none 0 0, .int .i64 0] 29))
  have M1 := hid (toIn am lm cm zm _ (hm.below T3.out.2.2.2) h1)
  have M2 := hid (fun W (hW : Below w.heap.size w W) => toIn af lf cf zf W (hf.below hW) h2)
  unfold wv
  clear hm hf
  go_enter Try.func12, Try.ntmps12
  go_wp2_with fail
  refine (M1.out).mono ?_
  rintro e w1 ⟨rfl, r1, b1⟩
  have hz : w.heap.size + 3 ≤ (((w.alloc (.cells #[.slice am lm cm, .slice af lf cf, .int .i64 lim] 33)).alloc (.cells #[.slice none 0 0, .slice none 0 0, .int .i64 0] 29)).alloc (.cells #[.slice none 0 0, .slice none 0 0, .int .i64 0] 29)).heap.size := by rw [al_size, al_size, al_size]; omega
  have x0 := hid (below_at T3.out.1 b1)
  have x1 := hid (below_at T3.out.2.1 b1)
  have x2 := hid (below_at T3.out.2.2.1 b1)
  have B1 := hid (bl_trans T3.out.2.2.2 b1)
  generalize ((((w.alloc (.cells #[.slice am lm cm, .slice af lf cf, .int .i64 lim] 33)).alloc (.cells #[.slice none 0 0, .slice none 0 0, .int .i64 0] 29)).alloc (.cells #[.slice none 0 0, .slice none 0 0, .int .i64 0] 29)).heap.size) = g1 at *
  have L1 := hid r1.lt
  have R1 := hid r1
  clear r1 b1 T3 M1
  have p0 : w1.cell? ⟨w.heap.size + 1 + 1, 0, none⟩ = some (.slice none 0 0) := by rw [cell_of_row _ _ _ _ _ _ x2.out]; rfl
  have f0 : w1.frozen? ⟨w.heap.size + 1 + 1, 0, none⟩ = false := frozen_of_row _ _ _ _ _ x2.out
  have p1 : (w1.setCell ⟨w.heap.size + 1 + 1, 0, none⟩ (.slice (some ⟨g1, 0, none⟩) lm lm)).cell? ⟨w.heap.size, 1, none⟩ = some (.slice af lf cf) := by rw [cell_of_row _ _ _ _ _ _ (set_ne x0.out _ _ _ (by omega))]; rfl
  have B2 := hid (B1.out.setCell (p := ⟨w.heap.size + 1 + 1, 0, none⟩) (by dsimp only; omega) (.slice (some ⟨g1, 0, none⟩) lm lm))
  go_wp2_with fail
  refine (M2.out _ B2.out).mono ?_
  rintro e w2 ⟨rfl, r2, b2⟩
  have y0 := hid (below_at (set_ne x0.out (w.heap.size + 1 + 1) 0 (.slice (some ⟨g1, 0, none⟩) lm lm) (by omega)) b2)
  have y1 := hid (below_at (set_ne x1.out (w.heap.size + 1 + 1) 0 (.slice (some ⟨g1, 0, none⟩) lm lm) (by omega)) b2)
  have y2 := hid (below_at (show (w1.setCell ⟨w.heap.size + 1 + 1, 0, none⟩ (.slice (some ⟨g1, 0, none⟩) lm lm)).heap[w.heap.size + 1 + 1]? = some (.cells #[.slice (some ⟨g1, 0, none⟩) lm lm, .slice none 0 0, .int .i64 0] 29 (0, 0)) by rw [heap_setCell_same _ _ _ _ _ _ x2.out]; rfl) b2)
  have R1' := hid ((R1.out.other (p := ⟨w.heap.size + 1 + 1, 0, none⟩) (by dsimp only; omega) (.slice (some ⟨g1, 0, none⟩) lm lm)).below b2 (Nat.lt_of_lt_of_le L1.out (by exact (World.grownBy.size (grown_set (grown_refl w1 (w.heap.size + 1 + 1)) 0 _)))))
  have B3 := hid (bl_trans B2.out b2)
  have LL := hid (show g1 < (w1.setCell ⟨w.heap.size + 1 + 1, 0, none⟩ (.slice (some ⟨g1, 0, none⟩) lm lm)).heap.size from Nat.lt_of_lt_of_le L1.out (World.grownBy.size (grown_set (grown_refl w1 (w.heap.size + 1 + 1)) 0 _)))
  have R2 := hid r2
  clear b2 r2 p0 f0 p1 x0 x1 x2 B1 B2 M2 R1 L1
  generalize (w1.setCell ⟨w.heap.size + 1 + 1, 0, none⟩ (.slice (some ⟨g1, 0, none⟩) lm lm)).heap.size = g2 at *
  have p0 : w2.cell? ⟨w.heap.size + 1 + 1, 0, none⟩ = some (.slice (some ⟨g1, 0, none⟩) lm lm) := by rw [cell_of_row _ _ _ _ _ _ y2.out]; rfl
  have p1 : w2.cell? ⟨w.heap.size + 1 + 1, 1, none⟩ = some (.slice none 0 0) := by rw [cell_of_row _ _ _ _ _ _ y2.out]; rfl
  have p2 : w2.cell? ⟨w.heap.size + 1 + 1, 2, none⟩ = some (.int .i64 0) := by rw [cell_of_row _ _ _ _ _ _ y2.out]; rfl
  have q1 : w2.frozen? ⟨w.heap.size + 1 + 1, 1, none⟩ = false := frozen_of_row _ _ _ _ _ y2.out
  have q2 : w2.frozen? ⟨w.heap.size + 1 + 1, 2, none⟩ = false := frozen_of_row _ _ _ _ _ y2.out
  have z2 : w2.cell? ⟨w.heap.size, 2, none⟩ = some (.int .i64 lim) := by rw [cell_of_row _ _ _ _ _ _ y0.out]; rfl
  have d0 : w2.cell? ⟨w.heap.size + 1, 0, none⟩ = some (.slice none 0 0) := by rw [cell_of_row _ _ _ _ _ _ y1.out]; rfl
  have d1 : w2.cell? ⟨w.heap.size + 1, 1, none⟩ = some (.slice none 0 0) := by rw [cell_of_row _ _ _ _ _ _ y1.out]; rfl
  have d2 : w2.cell? ⟨w.heap.size + 1, 2, none⟩ = some (.int .i64 0) := by rw [cell_of_row _ _ _ _ _ _ y1.out]; rfl
  have f0 : w2.frozen? ⟨w.heap.size + 1, 0, none⟩ = false := frozen_of_row _ _ _ _ _ y1.out
  have f1 : w2.frozen? ⟨w.heap.size + 1, 1, none⟩ = false := frozen_of_row _ _ _ _ _ y1.out
  have f2 : w2.frozen? ⟨w.heap.size + 1, 2, none⟩ = false := frozen_of_row _ _ _ _ _ y1.out
  have HZ := hid hz
  clear hz y0
  go_wp2
  refine bodyPost_ret (results_cell_row (by rfl) _ _ (w.heap.size + 1) 29 _ (0, 0) _ (by rfl) (set3 (set_ne (set_ne y1.out _ _ _ (by omega)) _ _ _ (by omega)) _ _ _) Try.underlying29 rfl (by kernel_rfl)) (by rfl) ?_
  have k1 : g1 ≠ w.heap.size + 1 := by have := HZ.out; omega
  have k1' : g1 ≠ w.heap.size + 1 + 1 := by have := HZ.out; omega
  have k2 : g2 ≠ w.heap.size + 1 := by have := HZ.out; have := LL.out; omega
  have k2' : g2 ≠ w.heap.size + 1 + 1 := by have := HZ.out; have := LL.out; omega
  refine ⟨g1, g2, rfl, ((((R1'.out.other k1' _).other k1' _).other k1 _).other k1 _).other k1 _, ((((R2.out.other k2' _).other k2' _).other k2 _).other k2 _).other k2 _, by have := HZ.out; omega, LL.out, ?_⟩
  exact ((((B3.out.setCell (by dsimp only; omega) _).setCell (by dsimp only; omega) _).setCell (by dsimp only; omega) _).setCell (by dsimp only; omega) _).setCell (by dsimp only; omega) _
end Go.Proofs.Ytnhkifinfnobfaa
