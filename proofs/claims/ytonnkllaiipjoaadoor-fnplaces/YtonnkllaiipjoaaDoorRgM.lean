import Derived.Test.YtonnkllaiipjoaaDoorRdE
namespace Go.Proofs.YtonnkllaiipjoaaDoor
open Go.ChangeShapes Go.WideShapes Go.ChangeAt Go.RowKit
set_option linter.unusedVariables false

inductive Kinds (a : Int) : Value → Prop
  | out (h : 289792 ≤ a) : Kinds a (pl 0 0 0 0 0 0)
  | large (h0 : 191488 ≤ a) (h1 : a < 289792) : Kinds a (pl 4 0 0 0 (a / 1024 - 187) (a % 1024))
  | zero (h0 : 0 ≤ a) (h1 : a < 1024) : Kinds a (pl 1 0 0 0 0 0)
  | guard (c s : Int) (hc : 0 ≤ c ∧ c < 12) (hs : 0 ≤ s ∧ s < 6) (h0 : 1024 ≤ a) (h1 : a < 191488) (h : a / 1024 = rs c + (s + 1) * (pg c + 1) - 1) : Kinds a (pl 1 c s 0 0 0)
  | tail (c s o : Int) (hc : 0 ≤ c ∧ c < 12) (hs : 0 ≤ s ∧ s < 6) (h0 : 1024 ≤ a) (h1 : a < 191488) (ho : 0 ≤ o ∧ o < 4096) (h : a = (rs c + s * (pg c + 1)) * 1024 + 0 * sz c + (sl c * sz c + o)) (hp : a / 1024 < rs c + (s + 1) * (pg c + 1) - 1) : Kinds a (pl 2 c s 0 0 o)
  | slot (c s t o : Int) (hs : Slot c s t) (h0 : 1024 ≤ a) (h1 : a < 191488) (ho : 0 ≤ o ∧ o < sz c) (h : a = (rs c + s * (pg c + 1)) * 1024 + t * sz c + o) : Kinds a (pl 3 c s t 0 o)

theorem step_mul (s p : Int) : (s + 1) * (p + 1) = s * (p + 1) + p + 1 := by
  rw [Int.add_mul]; omega

theorem Dec.kinds {a : Int} {v : Value} (h : Dec a v) : Kinds a v := by
  cases h with
  | out h => exact .out h
  | large h0 h1 => exact .large h0 h1
  | zero h0 h1 => exact .zero h0 h1
  | slab c s h0 h1 h =>
    have hoff := h.off
    have hc : 0 ≤ c ∧ c < 12 := ⟨h.c0, h.c1⟩
    have hz := sz_in hc
    have hp := pg_in hc
    have hl := sl_in hc
    have hlo := h.lo
    have hhi := h.hi
    have hst := step_mul s (pg c)
    unfold plO
    by_cases t1 : pg c * 1024 ≤ a - (rs c + s * (pg c + 1)) * 1024
    · rw [if_pos t1]
      refine .guard c s hc ⟨h.s0, h.s1⟩ h0 h1 ?_
      rw [hst]
      generalize s * (pg c + 1) = m at *
      omega
    · rw [if_neg t1]
      by_cases t2 : sl c * sz c ≤ a - (rs c + s * (pg c + 1)) * 1024
      · rw [if_pos t2]
        have hm0 : 0 ≤ sl c * sz c := Int.mul_nonneg (by omega) (by omega)
        refine .tail c s _ hc ⟨h.s0, h.s1⟩ h0 h1 ?_ ?_ ?_
        · generalize s * (pg c + 1) = m at *
          generalize sl c * sz c = n at *
          omega
        · rw [Int.zero_mul]; omega
        · rw [hst]
          generalize s * (pg c + 1) = m at *
          omega
      · rw [if_neg t2]
        have hd := Int.emod_add_mul_ediv (a - (rs c + s * (pg c + 1)) * 1024) (sz c)
        have hm0 := Int.emod_nonneg (a - (rs c + s * (pg c + 1)) * 1024) (show sz c ≠ 0 by omega)
        have hm1 := Int.emod_lt_of_pos (a - (rs c + s * (pg c + 1)) * 1024) (show 0 < sz c by omega)
        refine .slot c s _ _ ⟨h.c0, h.c1, h.s0, h.s1, Int.ediv_nonneg hoff.1 (by omega), ?_⟩ h0 h1 ⟨hm0, hm1⟩ ?_
        · apply Int.not_le.1
          intro hh
          exact t2 ((Int.le_ediv_iff_mul_le (by omega)).1 hh)
        · generalize hO : a - (rs c + s * (pg c + 1)) * 1024 = O at *
          rw [Int.mul_comm (sz c) (O / sz c)] at hd
          omega
end Go.Proofs.YtonnkllaiipjoaaDoor
