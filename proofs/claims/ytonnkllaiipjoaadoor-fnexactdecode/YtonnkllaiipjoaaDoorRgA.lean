import Derived.Test.YtonnkllaiipjoaaDoorClD
namespace Go.Proofs.YtonnkllaiipjoaaDoor
open Go.ChangeShapes Go.WideShapes Go.ChangeAt Go.RowKit
set_option linter.unusedVariables false

theorem ret_int {k : IntKind} {a b : Int} (h : a = b) : Ending.returned (.int k a) = .returned (.int k b) := by rw [h]

/-- a region's pages -/
def rp (c : Int) : Int := if 0 ≤ c ∧ c < 12 then 6 * (pg c + 1) else 0
theorem rp_in {c : Int} (h : 0 ≤ c ∧ c < 12) : rp c = 6 * (pg c + 1) := by simp only [rp, if_pos h]
theorem rp_out {c : Int} (h : ¬ (0 ≤ c ∧ c < 12)) : rp c = 0 := by simp only [rp, if_neg h]
theorem rp_le (c : Int) : 0 ≤ rp c ∧ rp c ≤ 30 := by
  by_cases h : 0 ≤ c ∧ c < 12
  · have := pg_in h; rw [rp_in h]; omega
  · rw [rp_out h]; omega
/-- a region's first page -/
def rsN : Nat → Int
  | 0 => 1
  | k + 1 => rsN k + rp k
def rs (c : Int) : Int := if 0 ≤ c ∧ c < 12 then rsN c.toNat else -1
theorem rsN_le : ∀ k : Nat, 1 ≤ rsN k ∧ rsN k ≤ 1 + 30 * k
  | 0 => by simp [rsN]
  | k + 1 => by have := rsN_le k; have := rp_le k; simp only [rsN]; omega

set_option maxHeartbeats 400000 in
theorem im_slabExtent (c : Int) (w : World) (ht : Tb w) :
    Calls Tryd.prog 30 #[.int .i64 c] w fun e w' => e = .returned (.int .i64 (pg c + 1)) ∧ w' = w := by
  have HI := hid (im_SlabPages c w ht)
  have hs := pg_le c
  generalize pg c = s at HI hs ⊢
  clear ht
  go_enter Tryd.func30, Tryd.ntmps30
  go_wp2_with fail
  refine (HI.out).mono ?_
  rintro e w' ⟨rfl, rfl⟩
  go_wp2
  go_ret
  exact ⟨rfl, rfl⟩

set_option maxHeartbeats 400000 in
theorem im_RegionPages (c : Int) (w : World) (ht : Tb w) :
    Calls Tryd.prog 24 #[.int .i64 c] w fun e w' => e = .returned (.int .i64 (rp c)) ∧ w' = w := by
  have HE := hid (im_slabExtent c w ht)
  by_cases h : 0 ≤ c ∧ c < 12
  · have hs := pg_in h
    have HC := hid (im_isClass_yes _ w h)
    rw [rp_in h]
    generalize pg c = s at HE hs ⊢
    clear ht h
    go_enter Tryd.func24, Tryd.ntmps24
    go_wp2_with fail
    refine (HC.out).mono ?_
    rintro e w' ⟨rfl, rfl⟩
    go_wp2_with fail
    refine (HE.out).mono ?_
    rintro e w' ⟨rfl, rfl⟩
    go_wp2
    go_ret
    exact ⟨rfl, rfl⟩
  · rw [rp_out h]
    have HC := hid (im_isClass_no _ w h)
    clear ht h
    go_enter Tryd.func24, Tryd.ntmps24
    go_wp2_with fail
    refine (HC.out).mono ?_
    rintro e w' ⟨rfl, rfl⟩
    go_wp2
    go_ret
    exact ⟨rfl, rfl⟩

set_option maxHeartbeats 400000 in
theorem sp_RegionPages (c : Int) (w : World) :
    Calls Tryd.prog 23 #[.int .i64 c] w fun e w' => e = .returned (.int .i64 (rp c)) ∧ Below w.heap.size w w' := by
  have HI := hid (sp_SlotSize c)
  have HP := hid (sp_SlabPages c)
  by_cases h : 0 ≤ c ∧ c < 12
  · have hs := sz_in h
    have hp := pg_in h
    rw [rp_in h]
    generalize sz c = s at HI hs ⊢
    generalize pg c = p at HP hp ⊢
    clear h
    go_enter Tryd.func23, Tryd.ntmps23
    go_wp2_with fail
    refine (HI.out _).mono ?_
    rintro e w1 ⟨rfl, b1⟩
    go_wp2_with fail
    refine (HP.out _).mono ?_
    rintro e w2 ⟨rfl, b2⟩
    go_wp2
    go_ret
    exact ⟨rfl, bl_trans b1 b2⟩
  · rw [rp_out h]
    rw [sz_out h] at HI
    clear h
    go_enter Tryd.func23, Tryd.ntmps23
    go_wp2_with fail
    refine (HI.out _).mono ?_
    rintro e w1 ⟨rfl, b1⟩
    go_wp2
    go_ret
    exact ⟨rfl, b1⟩

theorem rs_in {c : Int} (h : 0 ≤ c ∧ c < 12) : rs c = rsN c.toNat := by simp only [rs, if_pos h]
theorem rs_out {c : Int} (h : ¬ (0 ≤ c ∧ c < 12)) : rs c = -1 := by simp only [rs, if_neg h]

set_option maxHeartbeats 400000 in
theorem sp_RegionStart (c : Int) (w : World) :
    Calls Tryd.prog 22 #[.int .i64 c] w fun e w' => e = .returned (.int .i64 (rs c)) ∧ Below w.heap.size w w' := by
  have HI := hid (sp_SlotSize c)
  have HP := hid sp_RegionPages
  by_cases h : 0 ≤ c ∧ c < 12
  · have hs := sz_in h
    rw [rs_in h]
    generalize sz c = s at HI hs ⊢
    obtain ⟨m, rfl⟩ := Int.eq_ofNat_of_zero_le h.1
    have hm : m < 12 := by omega
    simp only [Int.toNat_natCast]
    clear h
    go_enter Tryd.func22, Tryd.ntmps22
    go_wp2_with fail
    refine (HI.out _).mono ?_
    rintro e w1 ⟨rfl, b1⟩
    have B1 := hid b1
    clear b1
    go_wp2
    have e0 : (s == 0) = false := by simp; omega
    simp only [e0]
    go_loopw [3, 4] (fun n i wr => ∃ k : Nat, k ≤ m ∧ i = .int .i64 k ∧ n = .int .i64 (rsN k) ∧ Below w.heap.size w wr) (fun _ i _ => m - (intOf i).toNat)
    case atStart => exact ⟨0, by omega, rfl, rfl, B1.out⟩
    case round =>
      obtain ⟨k, hk, rfl, rfl, hb⟩ := hrel
      have hn := rsN_le k
      by_cases hlt : k < m
      · have HN := hid (show rsN (k + 1) = rsN k + rp (k : Int) from rfl)
        have hr := rp_le (k : Int)
        have HB := hid hb
        clear hb
        go_wp2_with fail
        refine (HP.out _ _).mono ?_
        rintro e w2 ⟨rfl, b2⟩
        generalize rsN k = a at hn HN
        generalize rp (k : Int) = b at hr HN
        have B2 := hid (bl_trans HB.out b2)
        clear b2
        go_wp2
        go_roundw
        case rel => exact ⟨k + 1, by omega, by go_num, by rw [HN.out], B2.out⟩
        case measure => simp [intOf]; omega
      · obtain rfl : k = m := by omega
        go_wp2
        go_ret
        exact ⟨rfl, hb⟩
  · rw [rs_out h]
    rw [sz_out h] at HI
    clear h
    go_enter Tryd.func22, Tryd.ntmps22
    go_wp2_with fail
    refine (HI.out _).mono ?_
    rintro e w1 ⟨rfl, b1⟩
    go_wp2
    go_ret
    exact ⟨rfl, b1⟩
end Go.Proofs.YtonnkllaiipjoaaDoor
