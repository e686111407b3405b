import Derived.Test.YtdceifaanfehdaaDoorClD
namespace Go.Proofs.YtdceifaanfehdaaDoor
open Go.ChangeShapes Go.WideShapes Go.ChangeAt Go.RowKit
set_option linter.unusedVariables false

set_option maxHeartbeats 400000 in
theorem sp_Usable (c : Int) (w : World) :
    Calls Tryd.prog 21 #[.int .i64 c] w fun e w' => e = .returned (.int .i64 (us c)) ∧ Below w.heap.size w w' := by
  have HI := hid (sp_SlotSize c)
  by_cases h : 0 ≤ c ∧ c < 12
  · have hs := sz_in h
    rw [us_in h]
    generalize sz c = s at HI hs ⊢
    clear h
    go_enter Tryd.func21, Tryd.ntmps21
    go_wp2_with fail
    refine (HI.out _).mono ?_
    rintro e w1 ⟨rfl, b1⟩
    go_wp2_with fail
    refine (HI.out _).mono ?_
    rintro e w2 ⟨rfl, b2⟩
    go_wp2
    go_ret
    exact ⟨rfl, bl_trans b1 b2⟩
  · rw [us_out h]
    rw [sz_out h] at HI
    clear h
    go_enter Tryd.func21, Tryd.ntmps21
    go_wp2_with fail
    refine (HI.out _).mono ?_
    rintro e w1 ⟨rfl, b1⟩
    go_wp2
    go_ret
    exact ⟨rfl, b1⟩

theorem ret_int {k : IntKind} {a b : Int} (h : a = b) : Ending.returned (.int k a) = .returned (.int k b) := by rw [h]

/-- the least class from k on, of n, that a request fits -/
def coFrom (r : Int) : Nat → Nat → Int
  | k, 0 => -1
  | k, n + 1 => if r ≤ us k then (k : Int) else coFrom r (k + 1) n
def co (r : Int) : Int := coFrom r 0 12

theorem us_le (c : Int) : 0 ≤ us c ∧ us c ≤ 1016 := by
  by_cases h : 0 ≤ c ∧ c < 12
  · have := sz_in h; rw [us_in h]; omega
  · rw [us_out h]; omega

theorem coFrom_big (r : Int) (h : 1016 < r) : ∀ n k, coFrom r k n = -1
  | 0, k => rfl
  | n + 1, k => by
    have := us_le k
    simp only [coFrom, if_neg (show ¬ r ≤ us (k : Int) by omega)]
    exact coFrom_big r h n (k + 1)

set_option maxHeartbeats 400000 in
theorem sp_ClassOf (r : Int) (h0 : 0 ≤ r) (h1 : r ≤ 18446744073709551615) (w : World) :
    Calls Tryd.prog 17 #[.int .u64 r] w fun e w' => e = .returned (.int .i64 (co r)) ∧ Below w.heap.size w w' := by
  have HU := hid sp_Usable
  go_enter Tryd.func17, Tryd.ntmps17
  go_wp2
  go_loopw [3] (fun c wr => ∃ k : Nat, k ≤ 12 ∧ c = .int .i64 k ∧ co r = coFrom r k (12 - k) ∧ Below w.heap.size w wr) (fun c _ => 12 - (intOf c).toNat)
  case atStart => exact ⟨0, by omega, rfl, rfl, Below.refl _ _⟩
  case round =>
    obtain ⟨k, hk, rfl, he, hb⟩ := hrel
    by_cases hlt : k < 12
    · have e1 : 12 - k = (11 - k) + 1 := by omega
      rw [e1, coFrom] at he
      have hu := us_le (k : Int)
      have HB := hid hb
      clear hb e1
      go_wp2_with fail
      refine (HU.out _ _).mono ?_
      rintro e w1 ⟨rfl, b1⟩
      generalize us (k : Int) = u at he hu ⊢
      by_cases hr : r ≤ u
      · rw [if_pos hr] at he
        have HE := hid he
        clear he
        go_wp2
        go_ret
        exact ⟨ret_int HE.out.symm, bl_trans HB.out b1⟩
      · rw [if_neg hr] at he
        have HE := hid he
        clear he
        go_wp2
        go_roundw
        case rel => exact ⟨k + 1, by omega, by go_num, by rw [HE.out]; congr 1; omega, bl_trans HB.out b1⟩
        case measure => simp [intOf]; omega
    · obtain rfl : k = 12 := by omega
      have HE := hid he
      clear he
      go_wp2
      go_ret
      exact ⟨ret_int HE.out.symm, hb⟩

theorem us_get {k : Nat} (h : k < 12) : us (k : Int) = szs.getD k 0 - 8 := by
  rw [us_in ⟨by omega, by omega⟩, sz_nat h]

set_option maxHeartbeats 400000 in
theorem im_ClassOf_big (r : Int) (h : 1016 < r) (w : World) :
    Calls Tryd.prog 10 #[.int .u64 r] w fun e w' => e = .returned (.int .i64 (co r)) ∧ w' = w := by
  rw [show co r = -1 from coFrom_big r h 12 0]
  go_enter Tryd.func10, Tryd.ntmps10
  go_wp2
  go_ret
  exact ⟨rfl, rfl⟩

theorem run_index12 (w : World) (A : Array Value) (k : Nat) (v : Value) (hk : k < 12) (h : A[k]? = some v) : (Instr.index 38 (.agg A) (.int .i64 k)).run Tryd.prog w = .ok v w := by
  simp [Instr.index, run_underlying Tryd.underlying38, asIntOf, hk, go_sem, h]

set_option maxHeartbeats 400000 in
theorem im_ClassOf_small (r : Int) (h0 : 0 ≤ r) (h : r ≤ 1016) (w : World) (ht : Tb w) :
    Calls Tryd.prog 10 #[.int .u64 r] w fun e w' => e = .returned (.int .i64 (co r)) ∧ w' = w := by
  obtain ⟨t, fr, hb⟩ := ht.row
  go_enter Tryd.func10, Tryd.ntmps10
  go_wp2_with (refine wpList_load_row rfl 38 _ rfl 0 rfl t _ fr _ hb Tryd.underlying38 rfl (by kernel_rfl) ?_)
  go_loop [8] (fun i => ∃ k : Nat, k ≤ 12 ∧ i = .int .i64 k ∧ co r = coFrom r k (12 - k)) (fun i => 12 - (intOf i).toNat)
  case atStart => exact ⟨0, by omega, rfl, rfl⟩
  case round =>
    obtain ⟨k, hk, rfl, he⟩ := hrel
    by_cases hlt : k < 12
    · have e1 : 12 - k = (11 - k) + 1 := by omega
      rw [e1, coFrom, us_get hlt] at he
      have hg : (List.map (fun z => Value.int IntKind.i64 z) szs).toArray[k]? = some (.int .i64 (szs.getD k 0)) := by
        have hk' : k < szs.length := hlt
        simp [List.getElem?_eq_getElem hk']
      have hu := sz_in (c := (k : Int)) ⟨by omega, by omega⟩
      rw [sz_nat hlt] at hu
      clear hb ht e1
      generalize szs.getD k 0 = u at he hu hg
      generalize (List.map (fun z => Value.int IntKind.i64 z) szs).toArray = A at hg ⊢
      have hx := run_index12 w A k _ hlt hg
      clear hg
      by_cases hr : r + 8 ≤ u
      · rw [if_pos (by omega)] at he
        have HE := hid he
        clear he
        go_wp2
        go_ret
        exact ⟨ret_int HE.out.symm, rfl⟩
      · rw [if_neg (by omega)] at he
        have HE := hid he
        clear he
        go_wp2
        go_round
        case rel => exact ⟨k + 1, by omega, by go_num, by rw [HE.out]; congr 1; omega⟩
        case measure => simp [intOf]; omega
    · obtain rfl : k = 12 := by omega
      have HE := hid he
      clear he
      go_wp2
      go_ret
      exact ⟨ret_int HE.out.symm, rfl⟩

theorem im_ClassOf (r : Int) (h0 : 0 ≤ r) (w : World) (ht : Tb w) :
    Calls Tryd.prog 10 #[.int .u64 r] w fun e w' => e = .returned (.int .i64 (co r)) ∧ w' = w := by
  by_cases h : 1016 < r
  · exact im_ClassOf_big r h w
  · exact im_ClassOf_small r h0 (by omega) w ht
end Go.Proofs.YtdceifaanfehdaaDoor
