import Derived.Test.YtamfbplchblkbaaSpC
namespace Go.Proofs.Ytamfbplchblkbaa
open Go.RowKit Go.Shelf
set_option linter.unusedVariables false

set_option maxHeartbeats 400000 in
theorem sp_load_no (T : Nat) (a n c : Int) (w : World) (hc : (c == 0) = false) (h : ∀ w, Calls Try.prog 61 #[.pointer (some ⟨T, 0, none⟩), .int .u64 a, .int .i64 n] w fun e w' => e = .returned (.int .i64 c) ∧ w' = w) :
    Calls Try.prog 44 #[.pointer (some ⟨T, 0, none⟩), .int .u64 a, .int .i64 n] w fun e w' => e = .returned (.agg #[.int .i64 c, .slice none 0 0]) ∧ Below w.heap.size w w' := by
  have H1 := hid h
  clear h
  by_cases hn : 0 < n
  all_goals
    go_enter Try.func44, Try.ntmps44
    go_wp2_with fail
    refine (H1.out _).mono ?_
    rintro _ w1 ⟨rfl, rfl⟩
    go_wp2_with fail
    refine wp_loop_rounds 1 ?_
    rw [rounds_succ]
    go_wp2
    exact bodyPost_ret (v := .agg #[.int .i64 c, .slice none 0 0]) (by simp [results, Try.results44, go_sem]) rfl ⟨rfl, ((Below.refl _ w).alloc (Nat.le_refl _) _).alloc (by simp) _⟩

/-- one page's cells are turned -/
theorem Sx.set3 {T Q n : Nat} {bud : Int} {m : Nat → Option (Bool × List Int)} {W : World} (h : Sx T Q n bud m W) (k : Nat) (hk : k < n) (v : Option (Bool × List Int)) (x y z : Value) (hz : ∀ g j, j < n → j ≠ k → W.cell? ⟨Q, j * 3 + 2, none⟩ = some (.slice (some ⟨g, 0, none⟩) 1024 1024) → z ≠ .slice (some ⟨g, 0, none⟩) 1024 1024)
    (hv : ∀ (c : Array Value) (W' : World), c[k * 3]? = some x → c[k * 3 + 1]? = some y → c[k * 3 + 2]? = some z → (∀ g, g ≠ Q → W'.heap[g]? = W.heap[g]?) → PageAt W' c k v) :
    Sx T Q n bud (updM m k v) (((W.setCell ⟨Q, k * 3, none⟩ x).setCell ⟨Q, k * 3 + 1, none⟩ y).setCell ⟨Q, k * 3 + 2, none⟩ z) := by
  obtain ⟨c, h1, h2, h3, hinj⟩ := h.row
  have hne : T ≠ Q := by
    intro e
    subst e
    rw [h.box] at h1
    simp at h1
  have ho : ∀ g, g ≠ Q → (((W.setCell ⟨Q, k * 3, none⟩ x).setCell ⟨Q, k * 3 + 1, none⟩ y).setCell ⟨Q, k * 3 + 2, none⟩ z).heap[g]? = W.heap[g]? := by
    intro g hg
    rw [Below.heap_setCell _ _ _ _ hg, Below.heap_setCell _ _ _ _ hg, Below.heap_setCell _ _ _ _ hg]
  have hc : (((W.setCell ⟨Q, k * 3, none⟩ x).setCell ⟨Q, k * 3 + 1, none⟩ y).setCell ⟨Q, k * 3 + 2, none⟩ z).heap[Q]? = some (.cells (((c.setIfInBounds (k * 3) x).setIfInBounds (k * 3 + 1) y).setIfInBounds (k * 3 + 2) z) 92 (0, 0)) := heap_set_at (heap_set_at (heap_set_at h1 x) y) z
  generalize ((W.setCell ⟨Q, k * 3, none⟩ x).setCell ⟨Q, k * 3 + 1, none⟩ y).setCell ⟨Q, k * 3 + 2, none⟩ z = W' at *
  refine ⟨(ho T hne).trans h.box, ⟨_, hc, by simpa using h2, ?_, ?_⟩, ?_⟩
  · intro j hj
    by_cases e : j = k
    · subst e
      rw [updM_same]
      refine hv _ _ ?_ ?_ ?_ ho
      · simp [show j * 3 < c.size by omega]
      · simp [show j * 3 + 1 < c.size by omega]
      · simp [show j * 3 + 2 < c.size by omega]
    · rw [updM_other m k j v e]
      have h4 := h3 j hj
      have q : ∀ i, i < 3 → (((c.setIfInBounds (k * 3) x).setIfInBounds (k * 3 + 1) y).setIfInBounds (k * 3 + 2) z)[j * 3 + i]? = c[j * 3 + i]? := by
        intro i hi
        rw [Array.getElem?_setIfInBounds, if_neg (by omega), Array.getElem?_setIfInBounds, if_neg (by omega), Array.getElem?_setIfInBounds, if_neg (by omega)]
      have q0 := q 0 (by omega)
      have q1 := q 1 (by omega)
      have q2 := q 2 (by omega)
      rw [Nat.add_zero] at q0
      cases hm : m j with
      | none =>
        rw [hm] at h4
        exact ⟨q0.trans h4.1, q1.trans h4.2.1, q2.trans h4.2.2⟩
      | some r =>
        obtain ⟨l, xs⟩ := r
        rw [hm] at h4
        obtain ⟨a1, a2, a4, g, a3, a5⟩ := h4
        refine ⟨q0.trans a1, q1.trans a2, a4, g, q2.trans a3, (ho g ?_).trans a5⟩
        intro e2
        subst e2
        rw [h1] at a5
        simp at a5
  · have hz' : ∀ g j, j < n → j ≠ k → c[j * 3 + 2]? = some (.slice (some ⟨g, 0, none⟩) 1024 1024) → z ≠ .slice (some ⟨g, 0, none⟩) 1024 1024 := fun g j h5 h6 h7 => hz g j h5 h6 (by simp [World.cell?, h1, h7])
    have q2 : ∀ j, j < n → j ≠ k → (((c.setIfInBounds (k * 3) x).setIfInBounds (k * 3 + 1) y).setIfInBounds (k * 3 + 2) z)[j * 3 + 2]? = c[j * 3 + 2]? := by
      intro j hj hne
      rw [Array.getElem?_setIfInBounds, if_neg (by omega), Array.getElem?_setIfInBounds, if_neg (by omega), Array.getElem?_setIfInBounds, if_neg (by omega)]
    have q3 : (((c.setIfInBounds (k * 3) x).setIfInBounds (k * 3 + 1) y).setIfInBounds (k * 3 + 2) z)[k * 3 + 2]? = some z := by simp [show k * 3 + 2 < c.size by omega]
    intro i j g h5 h6 h7 h8
    by_cases e1 : i = k
    · by_cases e2 : j = k
      · omega
      · subst e1
        rw [q3] at h7
        rw [q2 j h6 e2] at h8
        exact absurd (Option.some.inj h7) (hz' g j h6 e2 h8)
    · by_cases e2 : j = k
      · subst e2
        rw [q3] at h8
        rw [q2 i h5 e1] at h7
        exact absurd (Option.some.inj h8) (hz' g i h5 e1 h7)
      · rw [q2 i h5 e1] at h7
        rw [q2 j h6 e2] at h8
        exact hinj i j g h5 h6 h7 h8
  · intro j hj
    rw [updM_other m k j v (by omega)]
    exact h.out j hj

set_option maxHeartbeats 400000 in
theorem sp_drop (T Q n : Nat) (bud : Int) (m : Nat → Option (Bool × List Int)) (first count : Nat) (w : World) (h : Sx T Q n bud m w) (hn : n ≤ 4096) (hf : first + count ≤ n) :
    Calls Try.prog 47 #[.pointer (some ⟨T, 0, none⟩), .int .i64 first, .int .i64 count] w fun e w' => e = .returned (.tuple #[]) ∧ Sx T Q n bud (goneM m first count) w' ∧ w.grownBy w' (some Q) := by
  obtain ⟨c1, c2⟩ := h.c
  have HS := hid h
  clear h
  go_enter Try.func47, Try.ntmps47
  go_wp2
  go_loopw [6] (fun i wr => ∃ k : Nat, k ≤ count ∧ i = .int .i64 ((first : Int) + (k : Int)) ∧ Sx T Q n bud (goneM m first k) wr ∧ w.grownBy wr (some Q)) (fun i _ => first + count - (intOf i).toNat)
  case atStart => exact ⟨0, Nat.zero_le _, by go_num, HS.out, grown_refl w Q⟩
  case round =>
    obtain ⟨k, hk, rfl, hs, hg⟩ := hrel
    by_cases hlt : k < count
    · obtain ⟨c1, c2⟩ := hs.c
      obtain ⟨op, p, l, c, d1, d2, d3, _⟩ := hs.three (first + k) (by omega)
      obtain ⟨cc, h1, h2, _⟩ := hs.row
      have f1 : ∀ i, wr.frozen? ⟨Q, i, none⟩ = false := fun i => by simp [World.frozen?, h1]
      have f2 := f1 ((first + k) * 3)
      have f3 := f1 ((first + k) * 3 + 1)
      have f4 := f1 ((first + k) * 3 + 2)
      have HJ := hid (And.intro hs hg)
      clear hs hg f1 h1 h2
      go_wp2
      go_roundw
      case rel =>
        exact ⟨k + 1, by omega, by go_num, HJ.out.1.set3 (first + k) (by omega) none _ _ _ (fun g j _ _ _ => by simp) (fun c W' a1 a2 a3 _ => ⟨a1, a2, a3⟩), grown_set (grown_set (grown_set HJ.out.2 _ _) _ _) _ _⟩
      case measure => simp [intOf]; omega
    · have hkc : k = count := by omega
      subst hkc
      have HJ := hid (And.intro hs hg)
      clear hs hg
      go_wp2
      go_end0
      exact ⟨rfl, HJ.out⟩
end Go.Proofs.Ytamfbplchblkbaa
