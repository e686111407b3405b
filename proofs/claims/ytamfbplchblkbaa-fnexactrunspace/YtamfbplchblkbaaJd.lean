import Derived.Test.YtamfbplchblkbaaJc
namespace Go.Proofs.Ytamfbplchblkbaa
open Go.RowKit Go.Shelf Go.Maps
set_option linter.unusedVariables false

theorem three_new (w : World) (a b c : Obj) : ((((w.alloc a).alloc b).alloc c).heap[w.heap.size]? = some a) ∧ ((((w.alloc a).alloc b).alloc c).heap[w.heap.size + 1]? = some b) ∧ ((((w.alloc a).alloc b).alloc c).heap[w.heap.size + 1 + 1]? = some c) ∧ Below w.heap.size w (((w.alloc a).alloc b).alloc c) := by
  refine ⟨?_, ?_, ?_, (((Below.refl _ _).alloc (Nat.le_refl _) a).alloc (by rw [al_size]; omega) b).alloc (by rw [al_size, al_size]; omega) c⟩
  · rw [al_old _ _ _ (by rw [al_size, al_size]; omega), al_old _ _ _ (by rw [al_size]; omega)]; exact al_last _ _
  · rw [al_old _ _ _ (by rw [al_size, al_size]; omega), ← al_size w a]; exact al_last _ _
  · rw [← al_size w a, ← al_size (w.alloc a) b]; exact al_last _ _
/-- the copy of an operation whose bytes lie in block g -/
def cpO (o : Op9) (g : Nat) : Op9 := { o with d := some ⟨g, 0, none⟩, dc := o.dl }
set_option maxHeartbeats 1000000 in
theorem toOp (o : Op9) (w : World) (h : In1 w o) (hd : o.dl ≤ 1048576) :
    Calls Try.prog 27 #[.agg (opC o).toArray] w fun e w' => ∃ g, e = .returned (.agg (opC (cpO o g)).toArray) ∧ RowV w' g 5 (Ns .u8 o.ys) ∧ w.heap.size ≤ g ∧ Below w.heap.size w w' := by
  obtain ⟨_, _, _, zs, hr, hy⟩ := h
  have M1 := hid (fun W (hW : Below w.heap.size w W) => toBy o.d o.dl o.dc zs W (hr.below hW) hd)
  rw [← hy] at M1
  clear hr hy
  unfold cpO opC
  have T3 := hid (three_new w (.cells #[.int .i64 o.kd, .int .i64 o.p, .int .i64 o.c, .int .u64 o.a, .int .i64 o.n, .slice o.d o.dl o.dc] 61) (.cells #[.int .i64 0, .int .i64 0, .int .i64 0, .int .u64 0, .int .i64 0, .slice none 0 0] 34) (.cells #[.int .i64 o.kd, .int .i64 o.p, .int .i64 o.c, .int .u64 o.a, .int .i64 o.n, .slice none 0 0] 34))
  go_enter Try.func27, Try.ntmps27
  go_wp2_with fail
  refine (M1.out _ T3.out.2.2.2).mono ?_
  rintro e w1 ⟨rfl, r1, b1⟩
  have x1 := hid ((b1.block _ (lt_blk T3.out.2.1)).trans T3.out.2.1)
  have x2 := hid ((b1.block _ (lt_blk T3.out.2.2.1)).trans T3.out.2.2.1)
  have B1 := hid (bl_trans T3.out.2.2.2 b1)
  have R1 := hid r1
  have HG := hid (T3.out.2.2.2.size)
  clear r1 b1 T3 M1
  generalize (((w.alloc _).alloc _).alloc _).heap.size = g at R1 HG ⊢
  have hp : w1.cell? ⟨w.heap.size + 1 + 1, 5, none⟩ = some (.slice none 0 0) := by simp [World.cell?, x2.out]
  have hf : w1.frozen? ⟨w.heap.size + 1 + 1, 5, none⟩ = false := by simp [World.frozen?, x2.out]
  have y2 := hid (show (w1.setCell ⟨w.heap.size + 1 + 1, 5, none⟩ (.slice (some ⟨g, 0, none⟩) o.dl o.dl)).heap[w.heap.size + 1 + 1]? = some (.cells #[.int .i64 o.kd, .int .i64 o.p, .int .i64 o.c, .int .u64 o.a, .int .i64 o.n, .slice (some ⟨g, 0, none⟩) o.dl o.dl] 34 (0, 0)) by rw [heap_set_at x2.out]; rfl)
  have y1 := hid (show (w1.setCell ⟨w.heap.size + 1 + 1, 5, none⟩ (.slice (some ⟨g, 0, none⟩) o.dl o.dl)).heap[w.heap.size + 1]? = some (.cells #[.int .i64 0, .int .i64 0, .int .i64 0, .int .u64 0, .int .i64 0, .slice none 0 0] 34 (0, 0)) by rw [Below.heap_setCell _ _ _ _ (by dsimp only; omega)]; exact x1.out)
  have hg1 : g ≠ w.heap.size + 1 + 1 ∧ g ≠ w.heap.size + 1 := by
    obtain ⟨c, hc, _⟩ := R1.out
    exact ⟨fun e => by subst e; rw [x2.out] at hc; simp at hc, fun e => by subst e; rw [x1.out] at hc; simp at hc⟩
  have y3 := hid (R1.out.other (p := ⟨w.heap.size + 1 + 1, 5, none⟩) (by simpa using hg1.1) (.slice (some ⟨g, 0, none⟩) o.dl o.dl))
  have B2 := hid (B1.out.setCell (p := ⟨w.heap.size + 1 + 1, 5, none⟩) (by dsimp only; omega) (.slice (some ⟨g, 0, none⟩) o.dl o.dl))
  clear x1 x2 B1 R1
  go_wp2_with (first | (refine wpList_load_row rfl 34 _ rfl _ rfl _ _ _ _ y2.out Try.underlying34 rfl (by kernel_rfl) ?_) | (refine wpList_store_row rfl 34 _ _ rfl _ _ rfl rfl 34 _ y1.out (by kernel_rfl) rfl ?o1 ?_))
  case o1 => simp [Value.oneCell']
  refine bodyPost_ret (results_cell_row (by rfl) _ _ (w.heap.size + 1) 34 _ (0, 0) _ (by rfl) (setRow_at y1.out _) Try.underlying34 rfl (by kernel_rfl)) (by rfl) ?_
  refine ⟨g, rfl, y3.out.grown (grown_setRow _ _ _) hg1.2, HG.out, B2.out.grown (grown_setRow _ _ _) B2.out.size (fun r hr => by simp at hr; omega)⟩
end Go.Proofs.Ytamfbplchblkbaa
