import Derived.Test.YtonnkllaiipjoaaDoorRgE
namespace Go.Proofs.YtonnkllaiipjoaaDoor
open Go.ChangeShapes Go.WideShapes Go.ChangeAt Go.RowKit
set_option linter.unusedVariables false

/-- page p lies in slab s of class c, its guard page counted -/
structure Hit (p c s : Int) : Prop where
  c0 : 0 ≤ c
  c1 : c < 12
  s0 : 0 ≤ s
  s1 : s < 6
  lo : rs c + s * (pg c + 1) ≤ p
  hi : p ≤ rs c + s * (pg c + 1) + pg c

theorem rsN_step (k : Nat) (h : k < 12) : rsN (k + 1) = rsN k + 6 * (pg k + 1) := by
  simp only [rsN]
  rw [rp_in ⟨by omega, by omega⟩]
theorem rsN_mono (a : Nat) : ∀ d, rsN a ≤ rsN (a + d)
  | 0 => Int.le_refl _
  | d + 1 => by
    have h1 := rsN_mono a d
    have h2 := rp_le ((a + d : Nat) : Int)
    have e : rsN (a + (d + 1)) = rsN (a + d) + rp ((a + d : Nat) : Int) := rfl
    omega

theorem Hit.c_le {p c s c' s' : Int} (h : Hit p c s) (h' : Hit p c' s') : c ≤ c' := by
  apply Int.not_lt.1
  intro hlt
  obtain ⟨a, rfl⟩ := Int.eq_ofNat_of_zero_le h.c0
  obtain ⟨b, rfl⟩ := Int.eq_ofNat_of_zero_le h'.c0
  have e1 : rs (a : Int) = rsN a := by rw [rs_in ⟨h.c0, h.c1⟩]; rfl
  have e2 : rs (b : Int) = rsN b := by rw [rs_in ⟨h'.c0, h'.c1⟩]; rfl
  have hm := rsN_mono (b + 1) (a - (b + 1))
  have e3 : b + 1 + (a - (b + 1)) = a := by omega
  rw [e3, rsN_step b (by have := h'.c1; omega)] at hm
  have q1 := h.lo
  have q2 := h'.hi
  rw [e1] at q1
  rw [e2] at q2
  have hp := pg_in (c := (b : Int)) ⟨h'.c0, h'.c1⟩
  have hpa := pg_in (c := (a : Int)) ⟨h.c0, h.c1⟩
  have hs1 := h'.s1
  have hs0 := h.s0
  generalize pg (b : Int) = x at *
  generalize pg (a : Int) = y at *
  have m1 : 0 ≤ s * (y + 1) := Int.mul_nonneg hs0 (by omega)
  have m2 : s' * (x + 1) ≤ 5 * (x + 1) := Int.mul_le_mul_of_nonneg_right (by omega) (by omega)
  omega

theorem Hit.one {p c s c' s' : Int} (h : Hit p c s) (h' : Hit p c' s') : c = c' ∧ s = s' := by
  have e : c = c' := Int.le_antisymm (h.c_le h') (h'.c_le h)
  subst e
  refine ⟨rfl, ?_⟩
  have hp := pg_in (c := c) ⟨h.c0, h.c1⟩
  have a1 := h.lo
  have a2 := h.hi
  have b1 := h'.lo
  have b2 := h'.hi
  have : pg c = 1 ∨ pg c = 2 ∨ pg c = 3 ∨ pg c = 4 := by omega
  rcases this with e | e | e | e <;> rw [e] at a1 a2 b1 b2 <;> omega

/-- what an address lies in -/
inductive Dec : Int → Value → Prop
  | out (a : Int) (h : 289792 ≤ a) : Dec a (pl 0 0 0 0 0 0)
  | large (a : Int) (h0 : 191488 ≤ a) (h1 : a < 289792) : Dec a (pl 4 0 0 0 (a / 1024 - 187) (a % 1024))
  | zero (a : Int) (h0 : 0 ≤ a) (h1 : a < 1024) : Dec a (pl 1 0 0 0 0 0)
  | slab (a c s : Int) (h0 : 1024 ≤ a) (h1 : a < 191488) (h : Hit (a / 1024) c s) : Dec a (plO c s (a - (rs c + s * (pg c + 1)) * 1024))

theorem Dec.one {a : Int} {v v' : Value} (h : Dec a v) (h' : Dec a v') : v = v' := by
  cases h <;> cases h' <;> first | rfl | omega | skip
  rename_i c s h0 h1 h2 c' s' h3 h4 h5
  obtain ⟨rfl, rfl⟩ := h2.one h5
  rfl
end Go.Proofs.YtonnkllaiipjoaaDoor
