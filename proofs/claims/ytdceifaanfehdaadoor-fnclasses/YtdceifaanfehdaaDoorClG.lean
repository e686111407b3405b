import Derived.Test.YtdceifaanfehdaaDoorClF
import Derived.Deep.RegionWith
namespace Go.Proofs.YtdceifaanfehdaaDoor
open Go.ChangeShapes Go.WideShapes Go.ChangeAt Go.RowKit
set_option linter.unusedVariables false

set_option maxRecDepth 8000 in
set_option maxHeartbeats 4000000 in
theorem walk_FnClasses (a0 : Option Addr) (len0 cap0 : Nat) (z0 : List Int) (w : World) (w0 : IsRow .u8 w a0 len0 cap0 z0) (ht : Tb w) :
    Calls Tryd.prog 3 #[.slice a0 len0 cap0] w fun e w' => e = .returned (.bool true) ∧ Below w.heap.size w w' := by
  by_cases hlen : 1048576 < len0
  · clear w0 ht
    go_enter Tryd.func3, Tryd.ntmps3
    go_wp2
    go_ret
    exact ⟨rfl, Below.refl _ _⟩
  · have hlen' : len0 ≤ 1048576 := by omega
    have DC := hid (drawClassOf a0 len0 cap0 z0 hlen' w w0)
    have DP := hid (fun w' (hb : Below w.heap.size w w') => drawProduct a0 len0 cap0 z0 hlen' w' (w0.below hb))
    have IC : Hid (∀ (r : Int) w, 0 ≤ r → Tb w → _) := fun r w h0 h => im_ClassOf r h0 w h
    have IP := hid im_Product
    have IU := hid im_Usable
    have IS := hid im_SlotSize
    have IL := hid im_SlabSlots
    have IG := hid im_SlabPages
    have HT := hid ht
    clear w0 ht
    go_enter Tryd.func3, Tryd.ntmps3
    go_wp2_with fail
    refine (DC.out).mono ?_
    rintro e w1 ⟨⟨n, hn0, hn1, rfl⟩, b1⟩
    have B1 := hid b1
    have T1 := hid (HT.out.below b1)
    clear b1
    go_wp2_with fail
    refine (IC.out _ _ hn0 T1.out).mono ?_
    rintro e w2 ⟨rfl, rfl⟩
    have DP1 := hid (DP.out _ B1.out)
    have hcase : (1016 < n ∧ co n = -1) ∨
        (∃ u s l p : Int, n ≤ 1016 ∧ co n = 0 ∧ n ≤ u ∧ 8 ≤ u ∧ u ≤ 1016 ∧ s = u + 8 ∧ 4 ≤ l ∧ l ≤ 64 ∧ 1 ≤ p ∧ p ≤ 4 ∧ 0 ≤ l * s ∧ l * s ≤ p * 1024 ∧ us 0 = u ∧ sz 0 = s ∧ sl 0 = l ∧ pg 0 = p) ∨
        (∃ (c : Nat) (u s l p v : Int), n ≤ 1016 ∧ co n = c ∧ 0 < c ∧ c < 12 ∧ n ≤ u ∧ 8 ≤ u ∧ u ≤ 1016 ∧ s = u + 8 ∧ 4 ≤ l ∧ l ≤ 64 ∧ 1 ≤ p ∧ p ≤ 4 ∧ 0 ≤ l * s ∧ l * s ≤ p * 1024 ∧ 0 ≤ v ∧ v < n ∧ us c = u ∧ sz c = s ∧ sl c = l ∧ pg c = p ∧ us ((c : Int) - 1) = v) := by
      by_cases hbig : 1016 < n
      · exact .inl ⟨hbig, coFrom_big n hbig 12 0⟩
      · obtain ⟨c, hc, he, h1, h2⟩ := coFrom_in n (by omega) 12 0 (by omega) (by omega)
        have hci : (0 : Int) ≤ (c : Int) ∧ (c : Int) < 12 := by omega
        have hu := us_in hci
        have hs := sz_in hci
        have hl := sl_in hci
        have hp := pg_in hci
        have hm : 0 ≤ sl (c : Int) * sz (c : Int) := Int.mul_nonneg (by omega) (by omega)
        rcases Nat.eq_zero_or_pos c with h0 | h0
        · subst h0
          exact .inr (.inl ⟨_, _, _, _, by omega, he, h1, by omega, by omega, by omega, hl.1, hl.2.1, hp.1, hp.2, hm, hl.2.2.2, rfl, rfl, rfl, rfl⟩)
        · exact .inr (.inr ⟨c, _, _, _, _, _, by omega, he, h0, hc, h1, by omega, by omega, by omega, hl.1, hl.2.1, hp.1, hp.2, hm, hl.2.2.2, (us_le _).1, h2 h0, rfl, rfl, rfl, rfl, rfl⟩)
    have IU1 := hid (fun c => IU.out c w2 T1.out)
    have IS1 := hid (fun c => IS.out c w2 T1.out)
    have IL1 := hid (fun c => IL.out c w2 T1.out)
    have IG1 := hid (fun c => IG.out c w2 T1.out)
    clear IU IS IL IG DC DP IC HT
    rcases hcase with hc | hc | hc
    case' inl =>
      obtain ⟨hbig, he⟩ := hc
      rw [he]
      clear he
      go_wp2_with fail
    case' inr.inl =>
      obtain ⟨u, s, l, p, hn, he, hnu, hu0, hu1, hs, hl0, hl1, hp0, hp1, hm0, hm1, eu, es, el, ep⟩ := hc
      rw [he]
      have U0 := hid (IU1.out 0)
      have S0 := hid (IS1.out 0)
      have L0 := hid (IL1.out 0)
      have G0 := hid (IG1.out 0)
      rw [eu] at U0
      rw [es] at S0
      rw [el] at L0
      rw [ep] at G0
      have hs1 : (s != u + 8) = false := by simp; omega
      have hs2 : 16 ≤ s ∧ s ≤ 1024 := by omega
      clear he eu es el ep IU1 IS1 IL1 IG1 hs
      go_wp2_with (first
        | (go_at_call 11; refine (U0.out).mono ?_; rintro e w' ⟨rfl, rfl⟩)
        | (go_at_call 12; refine (S0.out).mono ?_; rintro e w' ⟨rfl, rfl⟩)
        | (go_at_call 13; refine (L0.out).mono ?_; rintro e w' ⟨rfl, rfl⟩)
        | (go_at_call 14; refine (G0.out).mono ?_; rintro e w' ⟨rfl, rfl⟩))
    case' inr.inr =>
      obtain ⟨c, u, s, l, p, v, hn, he, hc0, hc1, hnu, hu0, hu1, hs, hl0, hl1, hp0, hp1, hm0, hm1, hv0, hv1, eu, es, el, ep, ev⟩ := hc
      rw [he]
      have S0 := hid (IS1.out (c : Int))
      have L0 := hid (IL1.out (c : Int))
      have G0 := hid (IG1.out (c : Int))
      rw [es] at S0
      rw [el] at L0
      rw [ep] at G0
      have hs1 : (s != u + 8) = false := by simp; omega
      have hs2 : 16 ≤ s ∧ s ≤ 1024 := by omega
      clear he es el ep IS1 IL1 IG1 hs
      go_wp2_with (first
        | (go_at_call 11; refine (IU1.out _).mono ?_; rintro e w' ⟨rfl, rfl⟩)
        | (go_at_call 12; refine (S0.out).mono ?_; rintro e w' ⟨rfl, rfl⟩)
        | (go_at_call 13; refine (L0.out).mono ?_; rintro e w' ⟨rfl, rfl⟩)
        | (go_at_call 14; refine (G0.out).mono ?_; rintro e w' ⟨rfl, rfl⟩))
    all_goals
      refine (DP1.out).mono ?_
      rintro e w3 ⟨⟨x, y, hx0, hx1, hy0, hy1, rfl⟩, b3⟩
      have B3 := hid (bl_trans B1.out b3)
      clear b3 DP1 B1
      obtain ⟨x, rfl⟩ := Int.eq_ofNat_of_zero_le hx0
      obtain ⟨y, rfl⟩ := Int.eq_ofNat_of_zero_le hy0
      go_wp2_with fail
      refine (IP.out x y (by omega) (by omega) _).mono ?_
      rintro e w4 ⟨ok, q, hq, rfl, rfl⟩
      have hq0 := hq.le
      by_cases hz : 0 < x ∧ 0 < y
      · have hd := hq.d hz.1 hz.2
        have hxb : ((x : Int) == 0) = false := by simp; omega
        have hyb : ((y : Int) == 0) = false := by simp; omega
        cases ok
        · have := hq.n hz.1 hz.2 rfl
          subst this
          clear hq
          go_wp2
          go_ret
          exact ⟨rfl, B3.out⟩
        · obtain ⟨q1, q2⟩ := hq.q hz.1 hz.2 rfl
          have hqx : 0 ≤ (q : Int) / (x : Int) ∧ (q : Int) / (x : Int) ≤ 18446744073709551615 := ⟨Int.ediv_nonneg (by omega) (by omega), Int.le_trans (Int.ediv_le_self _ (by omega)) (by omega)⟩
          clear hq
          go_wp2
          go_ret
          exact ⟨rfl, B3.out⟩
      · obtain ⟨rfl, rfl⟩ := hq.z (fun h1 h2 => hz ⟨h1, h2⟩)
        clear hq
        by_cases hxz : x = 0
        · subst hxz
          go_wp2
          go_ret
          exact ⟨rfl, B3.out⟩
        · have hy : y = 0 := by omega
          subst hy
          have hxb : ((x : Int) == 0) = false := by simp; omega
          go_wp2
          go_ret
          exact ⟨rfl, B3.out⟩
end Go.Proofs.YtdceifaanfehdaaDoor
