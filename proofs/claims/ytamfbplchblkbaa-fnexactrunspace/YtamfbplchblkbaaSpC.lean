import Derived.Test.YtamfbplchblkbaaSpB
namespace Go.Proofs.Ytamfbplchblkbaa
open Go.RowKit Go.Shelf
set_option linter.unusedVariables false

/-- how many pages below k are committed -/
def cntM (m : Nat → Option (Bool × List Int)) : Nat → Nat
  | 0 => 0
  | k + 1 => cntM m k + (m k).isSome.toNat
theorem cntM_le (m : Nat → Option (Bool × List Int)) : ∀ k, cntM m k ≤ k
  | 0 => Nat.le_refl _
  | k + 1 => by have := cntM_le m k; have h2 := Bool.toNat_le (m k).isSome; simp only [cntM]; omega
theorem cntM_held {f : Nat → Option Nat} {m : Nat → Option (Bool × List Int)} (h : ∀ k, (f k).isSome = (m k).isSome) : ∀ k, heldN f 0 k = cntM m k
  | 0 => rfl
  | k + 1 => by simp only [heldN, cntM]; rw [cntM_held h k, Nat.zero_add, h k]
theorem cntM_out {m : Nat → Option (Bool × List Int)} {n : Nat} (h : ∀ k, n ≤ k → m k = none) : ∀ k, cntM m (n + k) = cntM m n
  | 0 => rfl
  | k + 1 => by rw [← Nat.add_assoc]; simp only [cntM]; rw [cntM_out h k, h (n + k) (by omega)]; rfl

theorem Sx.three {T Q n : Nat} {bud : Int} {m : Nat → Option (Bool × List Int)} {W : World} (h : Sx T Q n bud m W) (k : Nat) (hk : k < n) :
    ∃ op p l c, W.cell? ⟨Q, k * 3, none⟩ = some (.bool (m k).isSome) ∧ W.cell? ⟨Q, k * 3 + 1, none⟩ = some (.bool op) ∧ W.cell? ⟨Q, k * 3 + 2, none⟩ = some (.slice p l c) ∧ ((m k).isSome && op) = isOpen (m k) := by
  obtain ⟨c, h1, h2, h3, _⟩ := h.row
  have h4 := h3 k hk
  cases hm : m k with
  | none =>
    rw [hm] at h4
    obtain ⟨a1, a2, a3⟩ := h4
    exact ⟨false, none, 0, 0, by simp [World.cell?, h1, a1], by simp [World.cell?, h1, a2], by simp [World.cell?, h1, a3], rfl⟩
  | some q =>
    obtain ⟨l, xs⟩ := q
    rw [hm] at h4
    obtain ⟨a1, a2, a4, g, a3, a5⟩ := h4
    exact ⟨!l, some ⟨g, 0, none⟩, 1024, 1024, by simp [World.cell?, h1, a1], by simp [World.cell?, h1, a2], by simp [World.cell?, h1, a3], by simp [isOpen]⟩

set_option maxHeartbeats 400000 in
theorem committed_any (T Q n : Nat) (bud : Int) (m : Nat → Option (Bool × List Int)) (w : World) (h : Sx T Q n bud m w) (hn : n ≤ 4096) :
    Calls Try.prog 24 #[.pointer (some ⟨T, 0, none⟩)] w fun e w' => e = .returned (.int .i64 (cntM m n)) ∧ Below w.heap.size w w' := by
  obtain ⟨c1, c2⟩ := h.c
  have HS := hid h
  clear h
  go_enter Try.func24, Try.ntmps24
  go_wp2
  go_loopw [3, 11] (fun c i wr => ∃ k : Nat, k ≤ n ∧ i = .int .i64 k ∧ c = .int .i64 (cntM m k) ∧ Below w.heap.size w wr) (fun _ i _ => n - (intOf i).toNat)
  case atStart => exact ⟨0, Nat.zero_le _, rfl, rfl, Below.refl _ _⟩
  case round =>
    obtain ⟨k, hk, rfl, rfl, hbel⟩ := hrel
    by_cases hlt : k < n
    · obtain ⟨op, p, l, c, d1, d2, d3, _⟩ := HS.out.three k hlt
      have d1 := below_cell hbel d1
      have d2 := below_cell hbel d2
      have d3 := below_cell hbel d3
      have hle := cntM_le m k
      have HC := hid (show cntM m (k + 1) = cntM m k + (m k).isSome.toNat from rfl)
      have HB := hid (hbel.alloc hbel.size (.cells #[.bool (m k).isSome, .bool op, .slice p l c] 92))
      clear hbel
      generalize cntM m k = x at *
      cases hm : (m k).isSome
      · rw [hm] at d1 HC HB
        clear hm
        go_wp2
        go_roundw
        case rel => exact ⟨k + 1, by omega, by go_num, by rw [HC.out]; rfl, HB.out⟩
        case measure => simp [intOf]; omega
      · rw [hm] at d1 HC HB
        clear hm
        go_wp2
        go_roundw
        case rel => exact ⟨k + 1, by omega, by go_num, by rw [HC.out]; rfl, HB.out⟩
        case measure => simp [intOf]; omega
    · have hkc : k = n := by omega
      subst hkc
      have HB := hid hbel
      clear hbel
      go_wp2
      go_ret
      exact ⟨rfl, HB.out⟩
end Go.Proofs.Ytamfbplchblkbaa
