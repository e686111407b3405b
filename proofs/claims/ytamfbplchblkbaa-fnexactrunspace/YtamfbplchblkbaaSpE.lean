import Derived.Test.YtamfbplchblkbaaSpD
namespace Go.Proofs.Ytamfbplchblkbaa
open Go.RowKit Go.Shelf
set_option linter.unusedVariables false

theorem Sx.setByte {T Q n : Nat} {bud : Int} {m : Nat → Option (Bool × List Int)} {W : World} (h : Sx T Q n bud m W) {k g : Nat} (hk : k < n) {l : Bool} {xs : List Int} (hm : m k = some (l, xs)) (hg : W.cell? ⟨Q, k * 3 + 2, none⟩ = some (.slice (some ⟨g, 0, none⟩) 1024 1024)) (i : Nat) (hi : i < 1024) (x : Int) :
    Sx T Q n bud (updM m k (some (l, xs.set i x))) (W.setCell ⟨g, i, none⟩ (.int .u8 x)) := by
  obtain ⟨c, h1, h2, h3, hinj⟩ := h.row
  have h4 := h3 k hk
  rw [hm] at h4
  obtain ⟨a1, a2, a4, g', a3, a5⟩ := h4
  have e0 : c[k * 3 + 2]? = some (.slice (some ⟨g, 0, none⟩) 1024 1024) := by simpa [World.cell?, h1] using hg
  have eg : g' = g := by rw [a3] at e0; simpa using e0
  subst eg
  have hT : T ≠ g' := by intro e; subst e; rw [h.box] at a5; simp at a5
  have hQ : Q ≠ g' := by intro e; subst e; rw [h1] at a5; simp at a5
  refine ⟨(Below.heap_setCell _ _ _ _ hT).trans h.box, ⟨c, (Below.heap_setCell _ _ _ _ hQ).trans h1, h2, ?_, hinj⟩, ?_⟩
  · intro j hj
    by_cases e : j = k
    · subst e
      rw [updM_same]
      refine ⟨a1, a2, by simpa using a4, g', a3, ?_⟩
      rw [heap_set_at a5]
      simp [Ns, List.map_set]
    · rw [updM_other m k j _ e]
      have h5 := h3 j hj
      cases hmj : m j with
      | none => rw [hmj] at h5; exact h5
      | some r =>
        obtain ⟨l2, xs2⟩ := r
        rw [hmj] at h5
        obtain ⟨b1, b2, b4, g2, b3, b5⟩ := h5
        refine ⟨b1, b2, b4, g2, b3, (Below.heap_setCell _ _ _ _ ?_).trans b5⟩
        intro e2
        simp at e2
        subst e2
        exact e (hinj j k _ hj hk b3 a3)
  · intro j hj
    rw [updM_other m k j _ (by omega)]
    exact h.out j hj

set_option maxHeartbeats 400000 in
theorem put_any (T Q n : Nat) (bud : Int) (m : Nat → Option (Bool × List Int)) (a : Nat) (x : Int) (w : World) (h : Sx T Q n bud m w) (hn : n ≤ 4096) (ha : a < 18446744073709551616) {l : Bool} {xs : List Int} (hm : m (a / 1024) = some (l, xs)) :
    Calls Try.prog 63 #[.pointer (some ⟨T, 0, none⟩), .int .u64 a, .int .u8 x] w fun e w' => e = .returned (.tuple #[]) ∧ Sx T Q n bud (updM m (a / 1024) (some (l, xs.set (a % 1024) x))) w' ∧ ∃ g c, w.heap[g]? = some (.cells c 5 (0, 0)) ∧ w.cell? ⟨Q, a / 1024 * 3 + 2, none⟩ = some (.slice (some ⟨g, 0, none⟩) 1024 1024) ∧ w.grownBy w' (some g) := by
  obtain ⟨c1, c2⟩ := h.c
  have hk : a / 1024 < n := by
    rcases Nat.lt_or_ge (a / 1024) n with e | e
    · exact e
    · rw [h.out _ e] at hm; cases hm
  obtain ⟨on, op, dt, d1, d2, d3, e1, e2, e3⟩ := h.page (a / 1024) hk
  obtain ⟨hx, g, rfl, hg⟩ := e3 l xs hm
  have hlt : a % 1024 < xs.length := by omega
  have hc : w.cell? ⟨g, a % 1024, none⟩ = some (.int .u8 (xs[a % 1024]?.getD 0)) := by simp [World.cell?, hg, Ns, hlt]
  have hf : w.frozen? ⟨g, a % 1024, none⟩ = false := by simp [World.frozen?, hg]
  have HE := hid (And.intro (h.setByte hk hm d3 (a % 1024) (by omega) x) (And.intro hg d3))
  clear e1 e2 e3 h hm hx hg d1 d2 hlt
  generalize xs[a % 1024]?.getD 0 = z at hc
  go_enter Try.func63, Try.ntmps63
  go_wp2
  go_end0
  exact ⟨rfl, HE.out.1, g, _, HE.out.2.1, HE.out.2.2, grown_set (grown_refl w g) _ _⟩
end Go.Proofs.Ytamfbplchblkbaa
