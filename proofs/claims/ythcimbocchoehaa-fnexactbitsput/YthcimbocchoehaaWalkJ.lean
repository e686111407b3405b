import Derived.Test.YthcimbocchoehaaWalkI

namespace Go.Proofs.Ythcimbocchoehaa
open Go.ChangeShapes Go.WideShapes Go.ChangeAt Go.RowKit
set_option linter.unusedVariables false

/-- k0, k0 + 1, .. -/
def ramp (k0 len : Nat) : List Int := (List.range len).map fun j => ((k0 + j : Nat) : Int)
theorem ramp_len (k0 len : Nat) : (ramp k0 len).length = len := by simp [ramp]
theorem ramp_get (k0 len j : Nat) (h : j < len) : (ramp k0 len)[j]? = some ((k0 + j : Nat) : Int) := by simp [ramp, h]

theorem grown_refl (w : World) (g : Nat) : w.grownBy w (some g) := ⟨rfl, rfl, rfl, Nat.le_refl _, fun _ _ _ => rfl⟩
theorem grown_set {w w1 : World} {g : Nat} (h : w.grownBy w1 (some g)) (i : Nat) (v : Value) : w.grownBy (w1.setCell ⟨g, i, none⟩ v) (some g) :=
  ⟨h.os, h.tape, h.output, by simp [World.setCell]; exact h.size, fun k hk hne => by
    rw [Below.heap_setCell _ _ _ _ (by intro e; exact hne (by rw [e]))]; exact h.block k hk hne⟩
theorem RowV.grown {w w' : World} {g g' : Nat} {e : TypeId} {xs : List Value} (h : RowV w g e xs) (hg : w.grownBy w' (some g')) (hne : g ≠ g') : RowV w' g e xs := by
  obtain ⟨c, h1, h2⟩ := h
  exact ⟨c, by rw [hg.block g (lt_of_block h1) (by simpa using hne)]; exact h1, h2⟩
theorem below_grown {a w w' : World} {g : Nat} (h : Below a.heap.size a w) (hg : w.grownBy w' (some g)) (hb : a.heap.size ≤ g) : Below a.heap.size a w' :=
  h.grown hg h.size (fun k e => by cases e; exact hb)

set_option maxHeartbeats 400000 in
theorem mark_nil (k0 : Nat) (w : World) (hk : k0 ≤ 1048576) :
    Calls Try.prog 20 #[.slice none 0 0, .int .i64 k0] w fun e w' => e = .returned (.int .i64 k0) ∧ w' = w := by
  go_enter Try.func20, Try.ntmps20
  go_wp2
  refine wp_loop_rounds 1 ?_
  rw [rounds_succ]
  go_wp2
  go_ret
  exact ⟨rfl, rfl⟩

set_option maxHeartbeats 400000 in
theorem held_nil (k0 : Nat) (w : World) (hk : k0 ≤ 1048576) :
    Calls Try.prog 21 #[.slice none 0 0, .int .i64 k0] w fun e w' => e = .returned (.int .i64 k0) ∧ w' = w := by
  go_enter Try.func21, Try.ntmps21
  go_wp2
  refine wp_loop_rounds 1 ?_
  rw [rounds_succ]
  go_wp2
  go_ret
  exact ⟨rfl, rfl⟩

set_option maxHeartbeats 400000 in
theorem mark_row (g len cap : Nat) (zs : List Int) (k0 : Nat) (w : World) (hl : zs.length = len) (hlen : len ≤ 1048576) (hk : k0 ≤ 1048576) (hr : RowV w g 45 (U zs)) :
    Calls Try.prog 20 #[.slice (some ⟨g, 0, none⟩) len cap, .int .i64 k0] w fun e w' => e = .returned (.int .i64 (k0 + len : Nat)) ∧ RowV w' g 45 (U (ramp k0 len)) ∧ w.grownBy w' (some g) := by
  have HR := hid hr
  have HL := hid hl
  clear hr hl
  go_enter Try.func20, Try.ntmps20
  go_wp2
  go_loopw [1, 5] (fun v i wr => ∃ (j : Nat) (ys : List Int), j ≤ len ∧ i = .int .i64 j ∧ v = .int .i64 (k0 + j : Nat) ∧ Hid (Agree ys (ramp k0 len) j) ∧ Hid (RowV wr g 45 (U ys)) ∧ Hid (w.grownBy wr (some g))) (fun _ i _ => len - (intOf i).toNat)
  case atStart => exact ⟨0, zs, Nat.zero_le _, rfl, rfl, Agree.zero (by rw [HL.out, ramp_len]), HR.out, grown_refl w g⟩
  case round =>
    obtain ⟨j, ys, hj, rfl, rfl, hag, hrow, hgr⟩ := hrel
    by_cases hlt : j < len
    · have hyl : ys.length = len := by rw [hag.out.1, ramp_len]
      have hcy := cell_u hrow.out j (by omega)
      have hfy := hrow.out.free j
      have R1 := hrow.out.set j (by rw [U_len]; omega) (.int .u64 ((k0 + j : Nat) : Int))
      rw [U_set] at R1
      have A1 := hag.out.succ (by rw [ramp_len]; exact hlt) _ (ramp_get k0 len j hlt)
      have HP := hid (And.intro R1 (And.intro A1 (grown_set hgr.out j (.int .u64 ((k0 + j : Nat) : Int)))))
      clear hyl R1 A1
      generalize ys[j]?.getD 0 = y at hcy
      go_wp2
      go_roundw
      case rel => exact ⟨j + 1, _, by omega, by go_num, by go_num, HP.out.2.1, by first | exact HP.out.1 | (have := HP.out.1; simpa using this), by first | exact HP.out.2.2 | (have := HP.out.2.2; simpa using this)⟩
      case measure => simp [intOf]; omega
    · have hjl : j = len := by omega
      subst hjl
      have HP := hid (And.intro (hag.out.all (by rw [ramp_len]; exact Nat.le_refl _) ▸ hrow.out) hgr.out)
      go_wp2
      go_ret
      exact ⟨rfl, HP.out⟩

set_option maxHeartbeats 400000 in
theorem held_row (g len cap : Nat) (k0 : Nat) (w : World) (hlen : len ≤ 1048576) (hk : k0 ≤ 1048576) (hr : RowV w g 45 (U (ramp k0 len))) :
    Calls Try.prog 21 #[.slice (some ⟨g, 0, none⟩) len cap, .int .i64 k0] w fun e w' => e = .returned (.int .i64 (k0 + len : Nat)) ∧ w' = w := by
  have HR := hid hr
  clear hr
  go_enter Try.func21, Try.ntmps21
  go_wp2
  go_loop [1, 5] (fun v i => ∃ (j : Nat), j ≤ len ∧ i = .int .i64 j ∧ v = .int .i64 (k0 + j : Nat)) (fun _ i => len - (intOf i).toNat)
  case atStart => exact ⟨0, Nat.zero_le _, rfl, rfl⟩
  case round =>
    obtain ⟨j, hj, rfl, rfl⟩ := hrel
    by_cases hlt : j < len
    · have hcy := cell_u HR.out j (by rw [ramp_len]; exact hlt)
      rw [ramp_get k0 len j hlt] at hcy
      simp only [Option.getD_some] at hcy
      go_wp2
      go_round
      case rel => exact ⟨j + 1, by omega, by go_num, by go_num⟩
      case measure => simp [intOf]; omega
    · have hjl : j = len := by omega
      subst hjl
      go_wp2
      go_ret
      exact ⟨rfl, rfl⟩
end Go.Proofs.Ythcimbocchoehaa
