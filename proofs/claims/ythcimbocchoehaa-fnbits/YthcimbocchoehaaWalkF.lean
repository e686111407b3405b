import Derived.Test.YthcimbocchoehaaWalkE

namespace Go.Proofs.Ythcimbocchoehaa
open Go.ChangeShapes Go.WideShapes Go.ChangeAt Go.RowKit
set_option linter.unusedVariables false

/-- what is known of the world behind a call of 'good' on a bitmap that the call itself has laid -/
theorem after_good {w w1 : World} {v : Value} {n : Int} {g : Nat} {zs : List Int} (hr : RowV w g 45 (U zs))
    (hb1 : Below (w.alloc (.cells #[v, .int .i64 n] 43)).heap.size (w.alloc (.cells #[v, .int .i64 n] 43)) w1) :
    w1.cell? ⟨w.heap.size, 0, none⟩ = some v ∧ w1.cell? ⟨w.heap.size, 1, none⟩ = some (.int .i64 n) ∧ w.heap.size < w1.heap.size ∧ Below w.heap.size w w1 ∧ RowV w1 g 45 (U zs) := by
  have hb0 : Below w.heap.size w (w.alloc (.cells #[v, .int .i64 n] 43)) := (Below.refl _ _).alloc (Nat.le_refl _) _
  have hr0 := hr.below hb0 hr.lt
  refine ⟨?_, ?_, ?_, bl_trans hb0 hb1, hr0.below hb1 hr0.lt⟩
  · rw [hb1.cell (p := ⟨w.heap.size, 0, none⟩) (by simp)]; simp [World.cell?_alloc_at]
  · rw [hb1.cell (p := ⟨w.heap.size, 1, none⟩) (by simp)]; simp [World.cell?_alloc_at]
  · have := hb1.size; simp at this; omega

theorem row_alloc {w : World} {g : Nat} {zs : List Int} (hr : RowV w g 45 (U zs)) (o : Obj) : RowV (w.alloc o) g 45 (U zs) :=
  hr.below ((Below.refl _ _).alloc (Nat.le_refl _) o) hr.lt

set_option maxHeartbeats 400000 in
theorem impl_count (g len cap : Nat) (zs : List Int) (n : Int) (w : World) (hl : zs.length = len) (hlen : len ≤ 1048576) (hw : Wf zs) (hr : RowV w g 45 (U zs)) :
    Calls Try.prog 13 #[.slice (some ⟨g, 0, none⟩) len cap, .int .i64 n] w fun e w' => e = .returned (.int .i64 (countB zs n)) ∧ Below w.heap.size w w' := by
  have HL := hid (fun w hr => good_any g len cap zs n w hl hlen hw hr)
  have HR := hid hr
  clear hr
  go_enter Try.func13, Try.ntmps13
  go_wp2_with fail
  refine (HL.out _ (row_alloc HR.out _)).mono ?_
  rintro e w1 ⟨rfl, hb1⟩
  obtain ⟨hc0, hc1, hsz, hb01, hr1⟩ := after_good HR.out hb1
  have HB := hid hb01
  have HR1 := hid hr1
  clear hb01 hb1 hr1
  cases hg : goodB zs n
  · have H0 := hid (show Ending.returned (.int .i64 (-1)) = .returned (.int .i64 (countB zs n)) from ret_int (by simp [countB, hg]))
    clear hg hl hw
    go_wp2
    go_ret
    exact ⟨H0.out, HB.out⟩
  · have hn := good_n zs n hg
    have hgo := hid (fun w hr => count_any g len cap zs n w hl (by omega) hw hr)
    have H1 := hid (show Ending.returned (.int .i64 (cntW zs len)) = .returned (.int .i64 (countB zs n)) from ret_int (by
      obtain ⟨m, rfl⟩ := Int.eq_ofNat_of_zero_le hn.1
      simp only [Int.toNat_natCast] at hn
      rw [← hl, cnt_all zs m (by omega) hn.2.2 hg]; simp [countB, hg]))
    clear hg hl hw hn
    go_wp2_with fail
    refine (hgo.out _ HR1.out).mono ?_
    rintro e w3 ⟨rfl, b3⟩
    have B3 := hid b3
    clear b3
    generalize cntW zs len = y at *
    go_wp2
    go_ret
    exact ⟨H1.out, bl_trans HB.out B3.out⟩

set_option maxHeartbeats 400000 in
theorem spec_count (g len cap : Nat) (zs : List Int) (n : Int) (w : World) (hl : zs.length = len) (hw : Wf zs) (hr : RowV w g 45 (U zs)) :
    Calls Try.prog 14 #[.slice (some ⟨g, 0, none⟩) len cap, .int .i64 n] w fun e w' => e = .returned (.int .i64 (countB zs n)) ∧ Below w.heap.size w w' := by
  have HL := hid (fun w hr => list_any g len cap zs n w hl hw hr)
  go_enter Try.func14, Try.ntmps14
  go_wp2_with fail
  refine (HL.out _ hr).mono ?_
  rintro e w1 (⟨hg, rfl, hrow, hb⟩ | ⟨hg, rfl, hb⟩)
  · have hn := good_n zs n hg
    obtain ⟨m, rfl⟩ := Int.eq_ofNat_of_zero_le hn.1
    simp only [Int.toNat_natCast] at hrow hn ⊢
    have H1 := hid (show Ending.returned (.int .i64 (cntTo zs m)) = .returned (.int .i64 (countB zs m)) from ret_int (by simp [countB, hg]))
    have hm : m ≤ 4096 := by omega
    have HB := hid hb
    have HR := hid hrow
    clear hg hl hw hr hn hrow hb
    go_wp2
    go_loop [7, 9, 20] (fun c _ i => ∃ k : Nat, k ≤ m ∧ i = .int .i64 k ∧ c = .int .i64 (cntTo zs k)) (fun _ _ i => m - (intOf i).toNat)
    case atStart => exact ⟨0, Nat.zero_le _, rfl, rfl⟩
    case round =>
      obtain ⟨k, hk, rfl, rfl⟩ := hrel
      by_cases hlt : k < m
      · have hc := cell_b HR.out k (by rw [bitsOf_len]; omega)
        rw [bitsOf_get zs _ k hlt] at hc
        have hle := cntTo_le zs k
        have HS := hid (show cntTo zs (k + 1) = cntTo zs k + (bitAt zs k).toNat from rfl)
        generalize cntTo zs k = c at *
        cases hb : bitAt zs k
        · rw [hb] at hc HS
          clear hb
          simp only [Option.getD] at hc
          go_wp2
          go_round
          case rel => exact ⟨k + 1, by omega, by go_num, by rw [HS.out]; rfl⟩
          case measure => simp [intOf]; omega
        · rw [hb] at hc HS
          clear hb
          simp only [Option.getD] at hc
          go_wp2
          go_round
          case rel => exact ⟨k + 1, by omega, by go_num, by rw [HS.out]; rfl⟩
          case measure => simp [intOf]; omega
      · have hkl : k = m := by omega
        subst hkl
        go_wp2
        go_ret
        exact ⟨H1.out, HB.out⟩
  · have H0 := hid (show Ending.returned (.int .i64 (-1)) = .returned (.int .i64 (countB zs n)) from ret_int (by simp [countB, hg]))
    have HB := hid hb
    clear hb hg hl hw hr
    go_wp2
    go_ret
    exact ⟨H0.out, HB.out⟩
end Go.Proofs.Ythcimbocchoehaa
