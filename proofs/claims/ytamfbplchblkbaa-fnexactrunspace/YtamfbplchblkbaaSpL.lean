import Derived.Test.YtamfbplchblkbaaSpK
import Derived.Deep.QuietTactic
import Derived.BigQuiet
namespace Go.Proofs.Ytamfbplchblkbaa
open Go.RowKit Go.Shelf
set_option linter.unusedVariables false

theorem drewN_below (V : World) (k : Nat) : Below V.heap.size V (V.drewN k) := ⟨rfl, rfl, rfl, Nat.le_refl _, fun _ _ => rfl⟩

set_option maxHeartbeats 4000000 in
theorem do_range1 (T Q nn : Nat) (bud : Int) (m : Nat → Option (Bool × List Int)) (kd p c : Int) (a : Nat) (n : Int) (d : Option Addr) (dl dc : Nat) (w : World) (hs : Sx T Q nn bud m w) (hnn : nn ≤ 4096) (hk : kd = 0 ∨ kd = 1 ∨ kd = 2 ∨ kd = 3)
    (h1 : c < 1) :
    Calls Try.prog 23 #[.pointer (some ⟨T, 0, none⟩), opV kd p c a n d dl dc] w fun e w' => e = .returned (.agg #[.int .i64 6, .slice none 0 0]) ∧ Below w.heap.size w w' := by
  have HS := hid hs
  clear hs
  unfold opV
  have D0 := hid (Dw.first w #[.int .i64 kd, .int .i64 p, .int .i64 c, .int .u64 a, .int .i64 n, .slice d dl dc] Q HS.out.ltQ)
  have hb0 : Below w.heap.size w ((w.alloc (.cells #[.int .i64 kd, .int .i64 p, .int .i64 c, .int .u64 a, .int .i64 n, .slice d dl dc] 34)).alloc (.cells #[.int .i64 0, .slice none 0 0] 36)) := ((Below.refl _ _).alloc (Nat.le_refl _) _).alloc (by rw [al_size]; omega) _
  have S0 := hid (HS.out.below hb0)
  have B0 := hid hb0
  clear hb0 HS
  rcases hk with rfl | rfl | rfl | rfl
  all_goals
      go_enter Try.func23, Try.ntmps23
      go_wp2
      generalize World.alloc _ _ = V at D0 S0 B0 ⊢
      generalize hOe : w.heap.size + 1 = Rb at D0 ⊢
      generalize hOo : w.heap.size = Ob at D0 ⊢
      have k1 : V.cell? ⟨Ob, 1, none⟩ = some (.int .i64 p) := by simp [World.cell?, D0.out.o]
      have k2 : V.cell? ⟨Ob, 2, none⟩ = some (.int .i64 c) := by simp [World.cell?, D0.out.o]
      have k3 := S0.out.c.1
      go_quiet (fail)
      have D1 := hid (D0.out.below S0.out.ltQ (drewN_below V nq))
      have B1 := hid (bl_trans B0.out (drewN_below V nq))
      clear D0 S0 B0 k1 k2 k3
      generalize V.drewN nq = V1 at D1 B1 ⊢
      go_wp2_with (refine wpList_store_row rfl 36 _ _ rfl _ _ rfl rfl 36 _ D1.out.r (by kernel_rfl) rfl (by simp [Value.oneCell']) ?_)
      refine bodyPost_ret (results_cell_row (by rfl) _ _ Rb 36 _ (0, 0) _ (by rfl) (setRow_at D1.out.r _) Try.underlying36 rfl (by kernel_rfl)) (by rfl) ?_
      exact ⟨rfl, B1.out.grown (grown_setRow V1 Rb _) B1.out.size (fun r hr => by simp at hr; omega)⟩

set_option maxHeartbeats 4000000 in
theorem do_range2 (T Q nn : Nat) (bud : Int) (m : Nat → Option (Bool × List Int)) (kd p c : Int) (a : Nat) (n : Int) (d : Option Addr) (dl dc : Nat) (w : World) (hs : Sx T Q nn bud m w) (hnn : nn ≤ 4096) (hk : kd = 0 ∨ kd = 1 ∨ kd = 2 ∨ kd = 3)
    (h1 : 1 ≤ c) (h2 : p < 0) :
    Calls Try.prog 23 #[.pointer (some ⟨T, 0, none⟩), opV kd p c a n d dl dc] w fun e w' => e = .returned (.agg #[.int .i64 6, .slice none 0 0]) ∧ Below w.heap.size w w' := by
  have HS := hid hs
  clear hs
  unfold opV
  have D0 := hid (Dw.first w #[.int .i64 kd, .int .i64 p, .int .i64 c, .int .u64 a, .int .i64 n, .slice d dl dc] Q HS.out.ltQ)
  have hb0 : Below w.heap.size w ((w.alloc (.cells #[.int .i64 kd, .int .i64 p, .int .i64 c, .int .u64 a, .int .i64 n, .slice d dl dc] 34)).alloc (.cells #[.int .i64 0, .slice none 0 0] 36)) := ((Below.refl _ _).alloc (Nat.le_refl _) _).alloc (by rw [al_size]; omega) _
  have S0 := hid (HS.out.below hb0)
  have B0 := hid hb0
  clear hb0 HS
  have t1 : decide (c < 1) = false := decide_eq_false (by omega)
  rcases hk with rfl | rfl | rfl | rfl
  all_goals
      go_enter Try.func23, Try.ntmps23
      go_wp2
      generalize World.alloc _ _ = V at D0 S0 B0 ⊢
      generalize hOe : w.heap.size + 1 = Rb at D0 ⊢
      generalize hOo : w.heap.size = Ob at D0 ⊢
      have k1 : V.cell? ⟨Ob, 1, none⟩ = some (.int .i64 p) := by simp [World.cell?, D0.out.o]
      have k2 : V.cell? ⟨Ob, 2, none⟩ = some (.int .i64 c) := by simp [World.cell?, D0.out.o]
      have k3 := S0.out.c.1
      go_quiet (fail)
      have D1 := hid (D0.out.below S0.out.ltQ (drewN_below V nq))
      have B1 := hid (bl_trans B0.out (drewN_below V nq))
      clear D0 S0 B0 k1 k2 k3
      generalize V.drewN nq = V1 at D1 B1 ⊢
      go_wp2_with (refine wpList_store_row rfl 36 _ _ rfl _ _ rfl rfl 36 _ D1.out.r (by kernel_rfl) rfl (by simp [Value.oneCell']) ?_)
      refine bodyPost_ret (results_cell_row (by rfl) _ _ Rb 36 _ (0, 0) _ (by rfl) (setRow_at D1.out.r _) Try.underlying36 rfl (by kernel_rfl)) (by rfl) ?_
      exact ⟨rfl, B1.out.grown (grown_setRow V1 Rb _) B1.out.size (fun r hr => by simp at hr; omega)⟩

set_option maxHeartbeats 4000000 in
theorem do_range3 (T Q nn : Nat) (bud : Int) (m : Nat → Option (Bool × List Int)) (kd p c : Int) (a : Nat) (n : Int) (d : Option Addr) (dl dc : Nat) (w : World) (hs : Sx T Q nn bud m w) (hnn : nn ≤ 4096) (hk : kd = 0 ∨ kd = 1 ∨ kd = 2 ∨ kd = 3)
    (h1 : 1 ≤ c) (h2 : 0 ≤ p) (h3 : (nn : Int) < c) :
    Calls Try.prog 23 #[.pointer (some ⟨T, 0, none⟩), opV kd p c a n d dl dc] w fun e w' => e = .returned (.agg #[.int .i64 6, .slice none 0 0]) ∧ Below w.heap.size w w' := by
  have HS := hid hs
  clear hs
  unfold opV
  have D0 := hid (Dw.first w #[.int .i64 kd, .int .i64 p, .int .i64 c, .int .u64 a, .int .i64 n, .slice d dl dc] Q HS.out.ltQ)
  have hb0 : Below w.heap.size w ((w.alloc (.cells #[.int .i64 kd, .int .i64 p, .int .i64 c, .int .u64 a, .int .i64 n, .slice d dl dc] 34)).alloc (.cells #[.int .i64 0, .slice none 0 0] 36)) := ((Below.refl _ _).alloc (Nat.le_refl _) _).alloc (by rw [al_size]; omega) _
  have S0 := hid (HS.out.below hb0)
  have B0 := hid hb0
  clear hb0 HS
  have t1 : decide (c < 1) = false := decide_eq_false (by omega)
  have t2 : decide (p < 0) = false := decide_eq_false (by omega)
  rcases hk with rfl | rfl | rfl | rfl
  all_goals
      go_enter Try.func23, Try.ntmps23
      go_wp2
      generalize World.alloc _ _ = V at D0 S0 B0 ⊢
      generalize hOe : w.heap.size + 1 = Rb at D0 ⊢
      generalize hOo : w.heap.size = Ob at D0 ⊢
      have k1 : V.cell? ⟨Ob, 1, none⟩ = some (.int .i64 p) := by simp [World.cell?, D0.out.o]
      have k2 : V.cell? ⟨Ob, 2, none⟩ = some (.int .i64 c) := by simp [World.cell?, D0.out.o]
      have k3 := S0.out.c.1
      go_quiet (fail)
      have D1 := hid (D0.out.below S0.out.ltQ (drewN_below V nq))
      have B1 := hid (bl_trans B0.out (drewN_below V nq))
      clear D0 S0 B0 k1 k2 k3
      generalize V.drewN nq = V1 at D1 B1 ⊢
      go_wp2_with (refine wpList_store_row rfl 36 _ _ rfl _ _ rfl rfl 36 _ D1.out.r (by kernel_rfl) rfl (by simp [Value.oneCell']) ?_)
      refine bodyPost_ret (results_cell_row (by rfl) _ _ Rb 36 _ (0, 0) _ (by rfl) (setRow_at D1.out.r _) Try.underlying36 rfl (by kernel_rfl)) (by rfl) ?_
      exact ⟨rfl, B1.out.grown (grown_setRow V1 Rb _) B1.out.size (fun r hr => by simp at hr; omega)⟩

set_option maxHeartbeats 4000000 in
theorem do_range4 (T Q nn : Nat) (bud : Int) (m : Nat → Option (Bool × List Int)) (kd p c : Int) (a : Nat) (n : Int) (d : Option Addr) (dl dc : Nat) (w : World) (hs : Sx T Q nn bud m w) (hnn : nn ≤ 4096) (hk : kd = 0 ∨ kd = 1 ∨ kd = 2 ∨ kd = 3)
    (h1 : 1 ≤ c) (h2 : 0 ≤ p) (h3 : c ≤ (nn : Int)) (h4 : (nn : Int) - c < p) :
    Calls Try.prog 23 #[.pointer (some ⟨T, 0, none⟩), opV kd p c a n d dl dc] w fun e w' => e = .returned (.agg #[.int .i64 6, .slice none 0 0]) ∧ Below w.heap.size w w' := by
  have HS := hid hs
  clear hs
  unfold opV
  have D0 := hid (Dw.first w #[.int .i64 kd, .int .i64 p, .int .i64 c, .int .u64 a, .int .i64 n, .slice d dl dc] Q HS.out.ltQ)
  have hb0 : Below w.heap.size w ((w.alloc (.cells #[.int .i64 kd, .int .i64 p, .int .i64 c, .int .u64 a, .int .i64 n, .slice d dl dc] 34)).alloc (.cells #[.int .i64 0, .slice none 0 0] 36)) := ((Below.refl _ _).alloc (Nat.le_refl _) _).alloc (by rw [al_size]; omega) _
  have S0 := hid (HS.out.below hb0)
  have B0 := hid hb0
  clear hb0 HS
  have t1 : decide (c < 1) = false := decide_eq_false (by omega)
  have t2 : decide (p < 0) = false := decide_eq_false (by omega)
  have t3 : decide ((nn : Int) < c) = false := decide_eq_false (by omega)
  rcases hk with rfl | rfl | rfl | rfl
  all_goals
      go_enter Try.func23, Try.ntmps23
      go_wp2
      generalize World.alloc _ _ = V at D0 S0 B0 ⊢
      generalize hOe : w.heap.size + 1 = Rb at D0 ⊢
      generalize hOo : w.heap.size = Ob at D0 ⊢
      have k1 : V.cell? ⟨Ob, 1, none⟩ = some (.int .i64 p) := by simp [World.cell?, D0.out.o]
      have k2 : V.cell? ⟨Ob, 2, none⟩ = some (.int .i64 c) := by simp [World.cell?, D0.out.o]
      have k3 := S0.out.c.1
      go_quiet (fail)
      have D1 := hid (D0.out.below S0.out.ltQ (drewN_below V nq))
      have B1 := hid (bl_trans B0.out (drewN_below V nq))
      clear D0 S0 B0 k1 k2 k3
      generalize V.drewN nq = V1 at D1 B1 ⊢
      go_wp2_with (refine wpList_store_row rfl 36 _ _ rfl _ _ rfl rfl 36 _ D1.out.r (by kernel_rfl) rfl (by simp [Value.oneCell']) ?_)
      refine bodyPost_ret (results_cell_row (by rfl) _ _ Rb 36 _ (0, 0) _ (by rfl) (setRow_at D1.out.r _) Try.underlying36 rfl (by kernel_rfl)) (by rfl) ?_
      exact ⟨rfl, B1.out.grown (grown_setRow V1 Rb _) B1.out.size (fun r hr => by simp at hr; omega)⟩

/-- the pages that an operation names are some of the space's -/
def okP (nn : Nat) (p c : Int) : Prop := 1 ≤ c ∧ 0 ≤ p ∧ c ≤ nn ∧ p ≤ (nn : Int) - c

theorem do_range (T Q nn : Nat) (bud : Int) (m : Nat → Option (Bool × List Int)) (kd p c : Int) (a : Nat) (n : Int) (d : Option Addr) (dl dc : Nat) (w : World) (hs : Sx T Q nn bud m w) (hnn : nn ≤ 4096) (hk : kd = 0 ∨ kd = 1 ∨ kd = 2 ∨ kd = 3) (h : ¬ okP nn p c) :
    Calls Try.prog 23 #[.pointer (some ⟨T, 0, none⟩), opV kd p c a n d dl dc] w fun e w' => e = .returned (.agg #[.int .i64 6, .slice none 0 0]) ∧ Below w.heap.size w w' := by
  by_cases h1 : c < 1
  · exact do_range1 T Q nn bud m kd p c a n d dl dc w hs hnn hk h1
  · by_cases h2 : p < 0
    · exact do_range2 T Q nn bud m kd p c a n d dl dc w hs hnn hk (by omega) h2
    · by_cases h3 : (nn : Int) < c
      · exact do_range3 T Q nn bud m kd p c a n d dl dc w hs hnn hk (by omega) (by omega) h3
      · by_cases h4 : (nn : Int) - c < p
        · exact do_range4 T Q nn bud m kd p c a n d dl dc w hs hnn hk (by omega) (by omega) (by omega) h4
        · exact (h ⟨by omega, by omega, by omega, by omega⟩).elim
end Go.Proofs.Ytamfbplchblkbaa
