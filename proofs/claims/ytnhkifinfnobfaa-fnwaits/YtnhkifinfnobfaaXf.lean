import Derived.Test.YtnhkifinfnobfaaXe
namespace Go.Proofs.Ytnhkifinfnobfaa
open Go.ChangeShapes Go.WideShapes Go.ChangeAt Go.RowKit
set_option linter.unusedVariables false

/-- how many of them are slots -/
def cntP (zs : List Int) : Nat := zs.countP fun x => decide (0 ≤ x)
/-- the promise's invariant: slot numbers are the pushes' own -/
structure Iv (k : Nat) (mix fifo : List Int) : Prop where
  a : ∀ x, x ∈ mix → x = -1 ∨ (0 ≤ x ∧ x < k)
  b : ∀ i, i < fifo.length → 0 ≤ fifo[i]?.getD 0 ∧ fifo[i]?.getD 0 + ((fifo.length - i : Nat) : Int) ≤ k
def one (z : Int) : Nat := if 0 ≤ z then 1 else 0

theorem pushF_iv (n k : Nat) (fifo : List Int) (y : Int) (h1 : 1 ≤ n) (hl : fifo.length ≤ n) (hb : ∀ i, i < fifo.length → 0 ≤ fifo[i]?.getD 0 ∧ fifo[i]?.getD 0 + ((fifo.length - i : Nat) : Int) ≤ k) (hy : 0 ≤ y ∧ y ≤ k) :
    (∀ i, i < (pushF n fifo y).1.length → 0 ≤ (pushF n fifo y).1[i]?.getD 0 ∧ (pushF n fifo y).1[i]?.getD 0 + (((pushF n fifo y).1.length - i : Nat) : Int) ≤ (k + 1 : Nat)) ∧ (pushF n fifo y).1.length ≤ n ∧
    ((pushF n fifo y).2 = -1 ∨ (0 ≤ (pushF n fifo y).2 ∧ (pushF n fifo y).2 + n ≤ k)) ∧ (pushF n fifo y).1.length + one (pushF n fifo y).2 = fifo.length + 1 := by
  unfold pushF
  by_cases hlt : fifo.length < n
  · rw [if_pos hlt]
    refine ⟨fun i hi => ?_, by simp; omega, .inl rfl, by simp [one]⟩
    simp at hi
    dsimp only
    by_cases hif : i < fifo.length
    · rw [List.getElem?_append_left hif]
      have := hb i hif
      simp only [List.length_append, List.length_singleton]
      omega
    · have e : i = fifo.length := by omega
      subst e
      rw [List.getElem?_append_right (Nat.le_refl _)]
      simp
      omega
  · rw [if_neg hlt]
    have h0 := hb 0 (by omega)
    refine ⟨fun i hi => ?_, by simp; omega, .inr ⟨h0.1, by dsimp only; omega⟩, by simp [one, h0.1]; omega⟩
    simp at hi
    dsimp only
    by_cases hif : i < fifo.length - 1
    · rw [List.getElem?_append_left (by simp; exact hif), List.getElem?_tail]
      have := hb (i + 1) (by omega)
      simp only [List.length_append, List.length_singleton, List.length_tail]
      omega
    · have e : i = fifo.length - 1 := by omega
      subst e
      rw [List.getElem?_append_right (by simp)]
      simp
      omega

theorem cntP_set (zs : List Int) (i : Nat) (x : Int) (hi : i < zs.length) (hx : 0 ≤ x) : cntP (zs.set i x) + (if 0 ≤ zs[i]?.getD 0 then 1 else 0) = cntP zs + 1 := by
  unfold cntP
  rw [List.countP_set (h := hi)]
  have hp : decide (0 ≤ x) = true := by simpa using hx
  rw [hp]
  have e : zs[i]?.getD 0 = zs[i] := by simp [hi]
  rw [e]
  by_cases h : 0 ≤ zs[i]
  · have hc : 0 < List.countP (fun x => decide (0 ≤ x)) zs := List.countP_pos_iff.2 ⟨zs[i], by simp, by simpa using h⟩
    simp [h]
    omega
  · simp [h]

theorem wpM_iv (n k : Nat) (mix fifo : List Int) (d : Int) (h1 : 1 ≤ n) (hl : fifo.length ≤ n) (h : Iv k mix fifo) :
    Iv (k + 1) (wpM n mix fifo (k : Int) d).1 (wpM n mix fifo (k : Int) d).2.1 ∧ (wpM n mix fifo (k : Int) d).2.1.length ≤ n ∧
    ((wpM n mix fifo (k : Int) d).2.2 = -1 ∨ (0 ≤ (wpM n mix fifo (k : Int) d).2.2 ∧ (wpM n mix fifo (k : Int) d).2.2 + n ≤ k)) ∧
    cntP (wpM n mix fifo (k : Int) d).1 + (wpM n mix fifo (k : Int) d).2.1.length + one (wpM n mix fifo (k : Int) d).2.2 = cntP mix + fifo.length + 1 := by
  by_cases h0 : mix = []
  · have e : wpM n mix fifo (k : Int) d = ([], (pushF n fifo k).1, (pushF n fifo k).2) := by unfold wpM; rw [if_pos h0]
    rw [e]
    obtain ⟨p1, p2, p3, p4⟩ := pushF_iv n k fifo (k : Int) h1 hl h.b ⟨by omega, by omega⟩
    refine ⟨⟨fun x hx => by simp at hx, p1⟩, p2, p3, ?_⟩
    rw [h0]
    simp [cntP]
    omega
  · have hml : 0 < mix.length := List.length_pos_iff.2 h0
    have hi := md_lt d mix.length hml
    have hm : mix[md d mix.length]?.getD 0 ∈ mix := by simp [hi]
    have hset : ∀ x, x ∈ mix.set (md d mix.length) (k : Int) → x = -1 ∨ (0 ≤ x ∧ x < (k + 1 : Nat)) := by
      intro x hx
      rcases List.mem_or_eq_of_mem_set hx with h2 | h2
      · rcases h.a x h2 with h3 | h3
        · exact .inl h3
        · exact .inr ⟨h3.1, by omega⟩
      · exact .inr ⟨by omega, by omega⟩
    have hc := cntP_set mix (md d mix.length) (k : Int) hi (by omega)
    by_cases hy : mix[md d mix.length]?.getD 0 = -1
    · have e : wpM n mix fifo (k : Int) d = (mix.set (md d mix.length) (k : Int), fifo, -1) := by unfold wpM; rw [if_neg h0, if_pos hy]
      rw [e]
      rw [hy] at hc
      refine ⟨⟨hset, fun i hif => ?_⟩, hl, .inl rfl, ?_⟩
      · have := h.b i hif
        dsimp only
        omega
      · have : (if (0 : Int) ≤ -1 then 1 else 0) = 0 := by simp
        rw [this] at hc
        simp [one]
        omega
    · have e : wpM n mix fifo (k : Int) d = (mix.set (md d mix.length) (k : Int), (pushF n fifo (mix[md d mix.length]?.getD 0)).1, (pushF n fifo (mix[md d mix.length]?.getD 0)).2) := by unfold wpM; rw [if_neg h0, if_neg hy]
      rw [e]
      have hy2 : 0 ≤ mix[md d mix.length]?.getD 0 ∧ mix[md d mix.length]?.getD 0 < k := by
        rcases h.a _ hm with h2 | h2
        · exact absurd h2 hy
        · exact h2
      obtain ⟨p1, p2, p3, p4⟩ := pushF_iv n k fifo (mix[md d mix.length]?.getD 0) h1 hl h.b ⟨hy2.1, by omega⟩
      rw [if_pos hy2.1] at hc
      refine ⟨⟨hset, p1⟩, p2, p3, ?_⟩
      dsimp only
      omega

/-- how many have left after k pushes -/
def leftN (n m : Nat) (slots draws : List Int) : Nat → Nat
  | 0 => 0
  | k + 1 => leftN n m slots draws k + one (outW n m slots draws k)
theorem cnt_rep (m : Nat) : cntP (List.replicate m (-1)) = 0 := by
  unfold cntP
  rw [List.countP_eq_zero]
  intro x hx
  have := List.eq_of_mem_replicate hx
  simp [this]
theorem run_iv (n m N : Nat) (draws : List Int) (h1 : 1 ≤ n) : ∀ k, k ≤ N →
    Iv k (stW n m (rampIn 0 N) draws k).1 (stW n m (rampIn 0 N) draws k).2 ∧ (stW n m (rampIn 0 N) draws k).2.length ≤ n ∧ cntP (stW n m (rampIn 0 N) draws k).1 + (stW n m (rampIn 0 N) draws k).2.length + leftN n m (rampIn 0 N) draws k = k
  | 0, _ => ⟨⟨fun x hx => .inl (List.eq_of_mem_replicate hx), fun i hi => by simp [stW] at hi⟩, by simp [stW], by simp [stW, leftN, cnt_rep]⟩
  | k + 1, hk => by
    obtain ⟨p1, p2, p3⟩ := run_iv n m N draws h1 k (by omega)
    have es : (rampIn 0 N)[k]?.getD 0 = (k : Int) := by rw [rampIn_get 0 N k (by omega)]; simp
    obtain ⟨q1, q2, q3, q4⟩ := wpM_iv n k _ _ (draws[k]?.getD 0) h1 p2 p1
    rw [← es] at q1 q2 q4
    have e4 : leftN n m (rampIn 0 N) draws (k + 1) = leftN n m (rampIn 0 N) draws k + one (outW n m (rampIn 0 N) draws k) := rfl
    have e5 : outW n m (rampIn 0 N) draws k = (wpM n (stW n m (rampIn 0 N) draws k).1 (stW n m (rampIn 0 N) draws k).2 ((rampIn 0 N)[k]?.getD 0) (draws[k]?.getD 0)).2.2 := rfl
    rw [es] at q1
    refine ⟨?_, q2, ?_⟩
    · show Iv (k + 1) (wpM n _ _ ((rampIn 0 N)[k]?.getD 0) _).1 (wpM n _ _ ((rampIn 0 N)[k]?.getD 0) _).2.1
      rw [es]; exact q1
    · rw [e4, e5]
      show cntP (wpM n _ _ ((rampIn 0 N)[k]?.getD 0) _).1 + (wpM n _ _ ((rampIn 0 N)[k]?.getD 0) _).2.1.length + _ = _
      omega
theorem out_iv (n m N : Nat) (draws : List Int) (h1 : 1 ≤ n) (k : Nat) (hk : k < N) : outW n m (rampIn 0 N) draws k = -1 ∨ (0 ≤ outW n m (rampIn 0 N) draws k ∧ outW n m (rampIn 0 N) draws k + n ≤ k) := by
  obtain ⟨p1, p2, p3⟩ := run_iv n m N draws h1 k (by omega)
  have es : (rampIn 0 N)[k]?.getD 0 = (k : Int) := by rw [rampIn_get 0 N k (by omega)]; simp
  obtain ⟨q1, q2, q3, q4⟩ := wpM_iv n k _ _ (draws[k]?.getD 0) h1 p2 p1
  unfold outW
  rw [es]
  exact q3
theorem left_le (n m : Nat) (slots draws : List Int) : ∀ k, leftN n m slots draws k ≤ k
  | 0 => Nat.le_refl _
  | k + 1 => by
    have := left_le n m slots draws k
    have : one (outW n m slots draws k) ≤ 1 := by unfold one; split <;> omega
    show leftN n m slots draws k + one (outW n m slots draws k) ≤ k + 1
    omega
end Go.Proofs.Ytnhkifinfnobfaa
