import Derived.Test.YtamfbplchblkbaaSpM
namespace Go.Proofs.Ytamfbplchblkbaa
open Go.RowKit Go.Shelf
set_option linter.unusedVariables false

/-- only the row of pages is turned, and no page is new -/
theorem Sf.ofRow {Q : Nat} {W W' : World} (hb : Below 0 W W') (ho : ∀ g, g ≠ Q → W'.heap[g]? = W.heap[g]?) (hp : ∀ j g, W'.cell? ⟨Q, j * 3 + 2, none⟩ = some (.slice (some ⟨g, 0, none⟩) 1024 1024) → W.cell? ⟨Q, j * 3 + 2, none⟩ = some (.slice (some ⟨g, 0, none⟩) 1024 1024)) : Sf Q W W' :=
  ⟨hb.os, hb.tape, hb.output, hb.size, fun g _ hne _ => ho g hne, fun g ⟨j, hj⟩ => .inl ⟨j, hp j g hj⟩⟩

/-- a page is dropped -/
theorem Sx.drop1 {T Q n : Nat} {bud : Int} {m : Nat → Option (Bool × List Int)} {W : World} (h : Sx T Q n bud m W) (k : Nat) (hk : k < n) :
    Sx T Q n bud (updM m k none) (((W.setCell ⟨Q, k * 3, none⟩ (.bool false)).setCell ⟨Q, k * 3 + 1, none⟩ (.bool false)).setCell ⟨Q, k * 3 + 2, none⟩ (.slice none 0 0)) ∧
    Sf Q W (((W.setCell ⟨Q, k * 3, none⟩ (.bool false)).setCell ⟨Q, k * 3 + 1, none⟩ (.bool false)).setCell ⟨Q, k * 3 + 2, none⟩ (.slice none 0 0)) := by
  refine ⟨h.set3 k hk none _ _ _ (fun g j _ _ _ => by simp) (fun c W' a1 a2 a3 _ => ⟨a1, a2, a3⟩), ?_⟩
  refine Sf.ofRow ((((Below.refl 0 W).setCell (Nat.zero_le _) _).setCell (Nat.zero_le _) _).setCell (Nat.zero_le _) _) (fun g hg => ?_) (fun j g hj => ?_)
  · rw [Below.heap_setCell _ _ _ _ hg, Below.heap_setCell _ _ _ _ hg, Below.heap_setCell _ _ _ _ hg]
  · obtain ⟨c, h1, _⟩ := h.row
    have e3 := heap_set_at (heap_set_at (heap_set_at h1 (i := k * 3) (.bool false)) (i := k * 3 + 1) (.bool false)) (i := k * 3 + 2) (.slice none 0 0)
    simp only [World.cell?, e3] at hj
    simp only [World.cell?, h1]
    by_cases e : j = k
    · subst e
      rw [Array.getElem?_setIfInBounds] at hj
      simp at hj
    · have q : (((c.setIfInBounds (k * 3) (.bool false)).setIfInBounds (k * 3 + 1) (.bool false)).setIfInBounds (k * 3 + 2) (.slice none 0 0))[j * 3 + 2]? = c[j * 3 + 2]? := by
        rw [Array.getElem?_setIfInBounds, if_neg (by omega), Array.getElem?_setIfInBounds, if_neg (by omega), Array.getElem?_setIfInBounds, if_neg (by omega)]
      rw [q] at hj
      exact hj

set_option maxHeartbeats 400000 in
theorem sp_drop2 (T Q n : Nat) (bud : Int) (m : Nat → Option (Bool × List Int)) (first count : Nat) (w : World) (h : Sx T Q n bud m w) (hn : n ≤ 4096) (hf : first + count ≤ n) :
    Calls Try.prog 47 #[.pointer (some ⟨T, 0, none⟩), .int .i64 first, .int .i64 count] w fun e w' => e = .returned (.tuple #[]) ∧ Sx T Q n bud (goneM m first count) w' ∧ Sf Q w w' := by
  obtain ⟨c1, c2⟩ := h.c
  have HS := hid h
  clear h
  go_enter Try.func47, Try.ntmps47
  go_wp2
  go_loopw [6] (fun i wr => ∃ k : Nat, k ≤ count ∧ i = .int .i64 ((first : Int) + (k : Int)) ∧ Sx T Q n bud (goneM m first k) wr ∧ Sf Q w wr) (fun i _ => first + count - (intOf i).toNat)
  case atStart => exact ⟨0, Nat.zero_le _, by go_num, HS.out, Sf.refl Q w⟩
  case round =>
    obtain ⟨k, hk, rfl, hs, hg⟩ := hrel
    by_cases hlt : k < count
    · obtain ⟨c1, c2⟩ := hs.c
      obtain ⟨op, p, l, c, d1, d2, d3, _⟩ := hs.three (first + k) (by omega)
      obtain ⟨cc, h1, h2, _⟩ := hs.row
      have f1 : ∀ i, wr.frozen? ⟨Q, i, none⟩ = false := fun i => by simp [World.frozen?, h1]
      have f2 := f1 ((first + k) * 3)
      have f3 := f1 ((first + k) * 3 + 1)
      have f4 := f1 ((first + k) * 3 + 2)
      have HJ := hid (And.intro (hs.drop1 (first + k) (by omega)) hg)
      clear hs hg f1 h1 h2
      go_wp2
      go_roundw
      case rel => exact ⟨k + 1, by omega, by go_num, HJ.out.1.1, HJ.out.2.trans HJ.out.1.2⟩
      case measure => simp [intOf]; omega
    · have hkc : k = count := by omega
      subst hkc
      have HJ := hid (And.intro hs hg)
      clear hs hg
      go_wp2
      go_end0
      exact ⟨rfl, HJ.out⟩

/-- a page is locked, or opened -/
theorem Sx.lock1 {T Q n : Nat} {bud : Int} {m : Nat → Option (Bool × List Int)} {W : World} (h : Sx T Q n bud m W) (k : Nat) (hk : k < n) {l : Bool} {xs : List Int} (hm : m k = some (l, xs)) (v : Bool) :
    Sx T Q n bud (updM m k (some (v, xs))) (W.setCell ⟨Q, k * 3 + 1, none⟩ (.bool (!v))) ∧ Sf Q W (W.setCell ⟨Q, k * 3 + 1, none⟩ (.bool (!v))) := by
  obtain ⟨c, h1, h2, h3, hinj⟩ := h.row
  have ho : ∀ g, g ≠ Q → (W.setCell ⟨Q, k * 3 + 1, none⟩ (.bool (!v))).heap[g]? = W.heap[g]? := fun g hg => Below.heap_setCell _ _ _ _ hg
  have e1 := heap_set_at h1 (i := k * 3 + 1) (.bool (!v))
  have hb : Below 0 W (W.setCell ⟨Q, k * 3 + 1, none⟩ (.bool (!v))) := (Below.refl 0 W).setCell (Nat.zero_le _) _
  generalize W.setCell ⟨Q, k * 3 + 1, none⟩ (.bool (!v)) = W' at *
  have hne : T ≠ Q := by
    intro e
    subst e
    rw [h.box] at h1
    simp at h1
  have q2 : ∀ j, (c.setIfInBounds (k * 3 + 1) (.bool (!v)))[j * 3 + 2]? = c[j * 3 + 2]? := fun j => by rw [Array.getElem?_setIfInBounds, if_neg (by omega)]
  have q0 : ∀ j, (c.setIfInBounds (k * 3 + 1) (.bool (!v)))[j * 3]? = c[j * 3]? := fun j => by rw [Array.getElem?_setIfInBounds, if_neg (by omega)]
  refine ⟨⟨(ho T hne).trans h.box, ⟨_, e1, by simpa using h2, fun j hj => ?_, fun i j g a1 a2 a3 a4 => hinj i j g a1 a2 (by rw [← q2]; exact a3) (by rw [← q2]; exact a4)⟩, fun j hj => by rw [updM_other m k j _ (by omega)]; exact h.out j hj⟩, ?_⟩
  · have h4 := h3 j hj
    by_cases e : j = k
    · subst e
      rw [updM_same]
      rw [hm] at h4
      obtain ⟨b1, b2, b4, g, b3, b5⟩ := h4
      refine ⟨(q0 j).trans b1, by simp [show j * 3 + 1 < c.size by omega], b4, g, (q2 j).trans b3, (ho g ?_).trans b5⟩
      intro e2
      subst e2
      rw [h1] at b5
      simp at b5
    · rw [updM_other m k j _ e]
      have q1 : (c.setIfInBounds (k * 3 + 1) (.bool (!v)))[j * 3 + 1]? = c[j * 3 + 1]? := by rw [Array.getElem?_setIfInBounds, if_neg (by omega)]
      cases hmj : m j with
      | none =>
        rw [hmj] at h4
        exact ⟨(q0 j).trans h4.1, q1.trans h4.2.1, (q2 j).trans h4.2.2⟩
      | some r =>
        obtain ⟨l2, xs2⟩ := r
        rw [hmj] at h4
        obtain ⟨b1, b2, b4, g, b3, b5⟩ := h4
        refine ⟨(q0 j).trans b1, q1.trans b2, b4, g, (q2 j).trans b3, (ho g ?_).trans b5⟩
        intro e2
        subst e2
        rw [h1] at b5
        simp at b5
  · refine Sf.ofRow hb ho (fun j g hj => ?_)
    simp only [World.cell?, e1, q2] at hj
    simp only [World.cell?, h1]
    exact hj
end Go.Proofs.Ytamfbplchblkbaa
