import Derived.Test.YtamfbplchblkbaaSpO
namespace Go.Proofs.Ytamfbplchblkbaa
open Go.RowKit Go.Shelf
set_option linter.unusedVariables false

theorem Try.info92 : (Try.prog.info? 92).map (fun i => (i.zero, i.size, i.bytes)) = some (some (.agg #[.bool false, .bool false, .slice none 0 0]), 3, 32) := by kernel_rfl
theorem made_at (z : Array Value) (n i : Nat) (hi : i < n) : (madeCells z n)[i]? = some (z[i % z.size]!) := by
  simp [madeCells, hi]

theorem Sx.made (w : World) (n : Nat) (bud : Int) : Sx (w.heap.size + 1) w.heap.size n bud (fun _ => none) ((w.alloc (.cells (madeCells #[.bool false, .bool false, .slice none 0 0] (n * 3)) 92)).alloc (.cells #[.slice (some ⟨w.heap.size, 0, none⟩) n n, .int .i64 bud] 89)) := by
  refine ⟨by rw [← al_size w (.cells (madeCells #[.bool false, .bool false, .slice none 0 0] (n * 3)) 92)]; exact al_last _ _, ⟨_, by rw [al_old _ _ _ (by rw [al_size]; omega)]; exact al_last _ _, size_madeCells _ _, fun k hk => ?_, fun j k g hj hk h1 _ => ?_⟩, fun _ _ => rfl⟩
  · have e0 : k * 3 % 3 = 0 := by omega
    have e1 : (k * 3 + 1) % 3 = 1 := by omega
    have e2 : (k * 3 + 2) % 3 = 2 := by omega
    refine ⟨?_, ?_, ?_⟩
    · rw [made_at _ _ _ (by omega)]; show some ((#[Value.bool false, .bool false, .slice none 0 0] : Array Value)[k * 3 % 3]!) = _; rw [e0]; rfl
    · rw [made_at _ _ _ (by omega)]; show some ((#[Value.bool false, .bool false, .slice none 0 0] : Array Value)[(k * 3 + 1) % 3]!) = _; rw [e1]; rfl
    · rw [made_at _ _ _ (by omega)]; show some ((#[Value.bool false, .bool false, .slice none 0 0] : Array Value)[(k * 3 + 2) % 3]!) = _; rw [e2]; rfl
  · have e2 : (j * 3 + 2) % 3 = 2 := by omega
    rw [made_at _ _ _ (by omega)] at h1
    have h2 : some ((#[Value.bool false, .bool false, .slice none 0 0] : Array Value)[(j * 3 + 2) % 3]!) = some (Value.slice (some ⟨g, 0, none⟩) 1024 1024) := h1
    rw [e2] at h2
    cases h2

set_option maxHeartbeats 1000000 in
theorem sp_new (n : Nat) (bud : Int) (w : World) (hn : n ≤ 4096) :
    Calls Try.prog 22 #[.int .i64 n, .int .i64 bud] w fun e w' => ∃ T Q, e = .returned (.pointer (some ⟨T, 0, none⟩)) ∧ Sx T Q n bud (fun _ => none) w' ∧ Below w.heap.size w w' ∧ w.heap.size ≤ T ∧ w.heap.size ≤ Q := by
  obtain ⟨i0, hi, hz0, hz1, hz2⟩ := info_parts Try.info92
  have hmk : (Instr.makeSlice 87 (.int .i64 n) (.int .i64 n)).run Try.prog w = .ok (.slice (some ⟨w.heap.size, 0, none⟩) n n) (w.alloc (.cells (madeCells #[.bool false, .bool false, .slice none 0 0] (n * 3)) 92)) := by
    have := run_make (P := Try.prog) w 87 92 i0 _ Try.underlying87 hi hz0 .i64 .i64 n n (by omega) (Int.le_refl _) (by rw [hz2]; omega) (by omega)
    rw [hz1] at this
    simpa [Value.cells] using this
  have HX := hid (Sx.made w n bud)
  have HB : Hid (Below w.heap.size w ((w.alloc (.cells (madeCells #[.bool false, .bool false, .slice none 0 0] (n * 3)) 92)).alloc (.cells #[.slice (some ⟨w.heap.size, 0, none⟩) n n, .int .i64 bud] 89))) := hid (((Below.refl _ _).alloc (Nat.le_refl _) _).alloc (by rw [al_size]; omega) _)
  generalize madeCells #[.bool false, .bool false, .slice none 0 0] (n * 3) = mk at *
  go_enter Try.func22, Try.ntmps22
  go_wp2
  go_ret
  exact ⟨_, _, rfl, HX.out, HB.out, by omega, by omega⟩
end Go.Proofs.Ytamfbplchblkbaa
