import Derived.Test.YthcimbocchoehaaWalkC

namespace Go.Proofs.Ythcimbocchoehaa
open Go.ChangeShapes Go.WideShapes Go.ChangeAt Go.RowKit
set_option linter.unusedVariables false

theorem list_any (g len cap : Nat) (zs : List Int) (n : Int) (w : World) (hl : zs.length = len) (hw : Wf zs) (hr : RowV w g 45 (U zs)) :
    Calls Try.prog 29 #[.slice (some ⟨g, 0, none⟩) len cap, .int .i64 n] w fun e w' =>
      (goodB zs n = true ∧ e = .returned (.tuple #[.slice (some ⟨w.heap.size, 0, none⟩) n.toNat n.toNat, .bool true]) ∧ RowV w' w.heap.size 4 (Bo (bitsOf zs n.toNat)) ∧ Below w.heap.size w w') ∨
      (goodB zs n = false ∧ e = .returned (.tuple #[.slice none 0 0, .bool false]) ∧ Below w.heap.size w w') := by
  by_cases h : n < 0 ∨ 4096 < n
  · refine (list_out _ _ _ _ _ h).mono ?_
    rintro e w' ⟨rfl, hb⟩
    exact .inr ⟨goodB_out zs n h, rfl, hb⟩
  · obtain ⟨m, rfl⟩ := Int.eq_ofNat_of_zero_le (show 0 ≤ n by omega)
    have hm : m ≤ 4096 := by omega
    by_cases h2 : len = (m + 63) / 64
    · rw [Int.toNat_natCast]
      exact list_in g len cap zs m w hm hl h2 hw hr
    · refine (list_len _ _ _ _ _ hm h2).mono ?_
      rintro e w' ⟨rfl, hb⟩
      exact .inr ⟨goodB_len zs m (by omega), rfl, hb⟩

/-- BitsHas, as a function of the words -/
def hasB (zs : List Int) (n i : Int) : Bool := goodB zs n && decide (0 ≤ i) && decide (i < n) && bitAt zs i.toNat

theorem good_n (zs : List Int) (n : Int) (h : goodB zs n = true) : 0 ≤ n ∧ n ≤ 4096 ∧ zs.length = (n.toNat + 63) / 64 := by
  unfold goodB at h
  simp only [Bool.and_eq_true, decide_eq_true_eq] at h
  exact ⟨h.1.1.1, h.1.1.2, h.1.2⟩

set_option maxHeartbeats 400000 in
theorem spec_has (g len cap : Nat) (zs : List Int) (n i : Int) (w : World) (hl : zs.length = len) (hw : Wf zs) (hr : RowV w g 45 (U zs)) :
    Calls Try.prog 15 #[.slice (some ⟨g, 0, none⟩) len cap, .int .i64 n, .int .i64 i] w fun e w' => e = .returned (.bool (hasB zs n i)) ∧ Below w.heap.size w w' := by
  have HL := hid (fun w hr => list_any g len cap zs n w hl hw hr)
  go_enter Try.func15, Try.ntmps15
  go_wp2_with fail
  refine (HL.out _ hr).mono ?_
  rintro e w' (⟨hg, rfl, hrow, hb⟩ | ⟨hg, rfl, hb⟩)
  · have hn := good_n zs n hg
    by_cases h0 : 0 ≤ i
    · by_cases h1 : i < n
      · obtain ⟨k, rfl⟩ := Int.eq_ofNat_of_zero_le h0
        have hc := cell_b hrow k (by rw [bitsOf_len]; omega)
        rw [bitsOf_get zs _ k (by omega)] at hc
        have HB := hid hb
        have HN := hid hn
        have H0 := hid (show Ending.returned (.bool (bitAt zs k)) = .returned (.bool (hasB zs n k)) from ret_bool (by simp [hasB, hg, h1]))
        clear hb hg hrow hl hw hr
        generalize bitAt zs k = y at hc H0
        obtain ⟨hn1, hn2, _⟩ := hn
        go_wp2
        go_ret
        exact ⟨H0.out, HB.out⟩
      · have H0 := hid (show Ending.returned (.bool false) = .returned (.bool (hasB zs n i)) from ret_bool (by simp [hasB, h1]))
        have HB := hid hb
        clear hb hg hrow hl hw hr
        go_wp2
        go_ret
        exact ⟨H0.out, HB.out⟩
    · have H0 := hid (show Ending.returned (.bool false) = .returned (.bool (hasB zs n i)) from ret_bool (by simp [hasB, h0]))
      have HB := hid hb
      clear hb hg hrow hl hw hr
      go_wp2
      go_ret
      exact ⟨H0.out, HB.out⟩
  · have H0 := hid (show Ending.returned (.bool false) = .returned (.bool (hasB zs n i)) from ret_bool (by simp [hasB, hg]))
    have HB := hid hb
    clear hb hg hl hw hr
    go_wp2
    go_ret
    exact ⟨H0.out, HB.out⟩

set_option maxHeartbeats 400000 in
theorem impl_has (g len cap : Nat) (zs : List Int) (n i : Int) (w : World) (hl : zs.length = len) (hlen : len ≤ 1048576) (hw : Wf zs) (hr : RowV w g 45 (U zs)) :
    Calls Try.prog 12 #[.slice (some ⟨g, 0, none⟩) len cap, .int .i64 n, .int .i64 i] w fun e w' => e = .returned (.bool (hasB zs n i)) ∧ Below w.heap.size w w' := by
  have HL := hid (fun w hr => good_any g len cap zs n w hl hlen hw hr)
  have HR := hid hr
  clear hr
  go_enter Try.func12, Try.ntmps12
  go_wp2_with fail
  have hb0 : Below w.heap.size w (w.alloc (.cells #[.slice (some ⟨g, 0, none⟩) len cap, .int .i64 n] 43)) := (Below.refl _ _).alloc (Nat.le_refl _) _
  have hr0 := HR.out.below hb0 HR.out.lt
  refine (HL.out _ hr0).mono ?_
  rintro e w1 ⟨rfl, hb1⟩
  have hc0 : w1.cell? ⟨w.heap.size, 0, none⟩ = some (.slice (some ⟨g, 0, none⟩) len cap) := by
    rw [hb1.cell (p := ⟨w.heap.size, 0, none⟩) (by simp)]; simp [World.cell?_alloc_at]
  have hc1 : w1.cell? ⟨w.heap.size, 1, none⟩ = some (.int .i64 n) := by
    rw [hb1.cell (p := ⟨w.heap.size, 1, none⟩) (by simp)]; simp [World.cell?_alloc_at]
  have hsz : w.heap.size < w1.heap.size := by have := hb1.size; simp at this; omega
  have hb01 := bl_trans hb0 hb1
  have hr1 := hr0.below hb1 hr0.lt
  cases hg : goodB zs n
  · have H0 := hid (show Ending.returned (.bool false) = .returned (.bool (hasB zs n i)) from ret_bool (by simp [hasB, hg]))
    have HB := hid hb01
    clear hb01 hg hl hw hb1 hr0 hr1 hb0
    go_wp2
    go_ret
    exact ⟨H0.out, HB.out⟩
  · have hn := good_n zs n hg
    have HB := hid hb01
    have HR1 := hid hr1
    clear hb01 hb1 hr0 hr1 hb0
    have H0 := hid hg
    clear hg
    go_wp2_with fail
    refine (inside_any _ _ _ _ _ _).mono ?_
    rintro e w2 ⟨rfl, rfl⟩
    by_cases hin : 0 ≤ i ∧ i < n
    · obtain ⟨k, rfl⟩ := Int.eq_ofNat_of_zero_le hin.1
      have hd : (decide (0 ≤ (k : Int)) && decide ((k : Int) < n)) = true := by simp [hin.2]
      rw [hd]
      obtain ⟨hn0, hn1, hn2⟩ := hn
      have hki := hin.2
      have b2 : Below w1.heap.size w1 (w1.alloc (.cells #[.slice (some ⟨g, 0, none⟩) len cap, .int .i64 n] 43)) := (Below.refl _ _).alloc (Nat.le_refl _) _
      have r2 := HR1.out.below b2 HR1.out.lt
      have hgo := hid (has_any g len cap k zs n _ hl hw r2 (by omega) (by omega))
      have H1 := hid (show Ending.returned (.bool (bitAt zs k)) = .returned (.bool (hasB zs n k)) from ret_bool (by simp [hasB, H0.out, hki]))
      have B2 := hid b2
      clear b2 r2 hd hin hl hw
      go_wp2_with fail
      refine hgo.out.mono ?_
      rintro e w3 ⟨rfl, b3⟩
      have B3 := hid b3
      clear b3
      generalize bitAt zs k = y at *
      go_wp2
      go_ret
      exact ⟨H1.out, bl_trans HB.out (bl_trans B2.out B3.out)⟩
    · have hd : (decide (0 ≤ i) && decide (i < n)) = false := by
        rw [Bool.eq_false_iff]; simpa using hin
      rw [hd]
      have H1 := hid (show Ending.returned (.bool false) = .returned (.bool (hasB zs n i)) from ret_bool (by
        unfold hasB; rw [Bool.and_assoc (goodB zs n), hd]; simp))
      clear hd hin hl hw hn
      go_wp2
      go_ret
      exact ⟨H1.out, bl_trans HB.out ((Below.refl _ _).alloc (Nat.le_refl _) _)⟩

end Go.Proofs.Ythcimbocchoehaa
