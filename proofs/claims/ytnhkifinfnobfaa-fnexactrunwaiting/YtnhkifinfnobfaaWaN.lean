import Derived.Test.YtnhkifinfnobfaaWaM
namespace Go.Proofs.Ytnhkifinfnobfaa
open Go.ChangeShapes Go.WideShapes Go.ChangeAt Go.RowKit
set_option linter.unusedVariables false

theorem nb_take {l : Int} {zs : List Int} {k : Nat} (h : nb l (zs.take k) = true) (hk : k < zs.length) (hx : l ≤ zs[k]?.getD 0) : nb l (zs.take (k + 1)) = true := by
  unfold nb at *
  rw [List.take_add_one, List.all_append, h]
  simp [hk] at hx ⊢
  exact hx
theorem nb_not {l : Int} {zs : List Int} {k : Nat} (hk : k < zs.length) (hx : ¬ l ≤ zs[k]?.getD 0) : nb l zs = false := by
  unfold nb
  rw [List.all_eq_false]
  simp [hk] at hx
  exact ⟨zs[k], by simp, by simpa using hx⟩

set_option maxHeartbeats 1000000 in
theorem l5Good_in (am : Option Addr) (lm cm : Nat) (af : Option Addr) (lf cf : Nat) (lim : Int) (mix fifo : List Int) (w : World) (h : Wt w am lm af lf mix fifo) :
    Calls Try.prog 28 #[wv am lm cm af lf cf lim] w fun e w' => e = .returned (.bool (goodM mix fifo lim)) ∧ Below w.heap.size w w' := by
  unfold wv
  have HB := hid ((Below.refl _ w).alloc (Nat.le_refl _) (.cells #[.slice am lm cm, .slice af lf cf, .int .i64 lim] 29))
  by_cases h1 : lm ≤ 16
  case neg =>
    have HG := hid (show goodM mix fifo lim = false by unfold goodM; rw [h.ml, decide_eq_false h1]; rfl)
    have t1 : (16 < (lm : Int)) := by omega
    clear h
    go_enter Try.func28, Try.ntmps28
    go_wp2
    go_ret
    exact ⟨ret_bool HG.out.symm, HB.out⟩
  have t1 : ¬ (16 < (lm : Int)) := by omega
  by_cases h2 : 1 ≤ lim
  case neg =>
    have HG := hid (show goodM mix fifo lim = false by unfold goodM; rw [decide_eq_false h2]; simp)
    have t2 : lim < 1 := by omega
    clear h
    go_enter Try.func28, Try.ntmps28
    go_wp2
    go_ret
    exact ⟨ret_bool HG.out.symm, HB.out⟩
  have t2 : ¬ (lim < 1) := by omega
  by_cases h3 : lim ≤ 32
  case neg =>
    have HG := hid (show goodM mix fifo lim = false by unfold goodM; rw [decide_eq_false h3]; simp)
    have t3 : 32 < lim := by omega
    clear h
    go_enter Try.func28, Try.ntmps28
    go_wp2
    go_ret
    exact ⟨ret_bool HG.out.symm, HB.out⟩
  have t3 : ¬ (32 < lim) := by omega
  by_cases h4 : (lf : Int) ≤ lim
  case neg =>
    have HG := hid (show goodM mix fifo lim = false by unfold goodM; rw [h.fl, decide_eq_false h4]; simp)
    have t4 : lim < (lf : Int) := by omega
    clear h
    go_enter Try.func28, Try.ntmps28
    go_wp2
    go_ret
    exact ⟨ret_bool HG.out.symm, HB.out⟩
  have t4 : ¬ (lim < (lf : Int)) := by omega
  have HG := hid (show goodM mix fifo lim = (nb (-1) mix && nb 0 fifo) by
    unfold goodM; rw [h.ml, h.fl, decide_eq_true h1, decide_eq_true h2, decide_eq_true h3, decide_eq_true h4]; simp)
  have CM := hid (h.m.below HB.out).cells
  have CF := hid (h.f.below HB.out).cells
  have ML := hid h.ml
  have FL := hid h.fl
  clear h
  go_enter Try.func28, Try.ntmps28
  go_wp2
  go_loopw [32] (fun i wr => ∃ k : Nat, k ≤ lm ∧ i = .int .i64 k ∧ wr = w.alloc (.cells #[.slice am lm cm, .slice af lf cf, .int .i64 lim] 29) ∧ Hid (nb (-1) (mix.take k) = true)) (fun i _ => lm - (intOf i).toNat)
  case atStart => exact ⟨0, Nat.zero_le _, rfl, rfl, by show nb _ _ = _; rfl⟩
  case round =>
    obtain ⟨k, hk, rfl, rfl, hnb⟩ := hrel
    by_cases hlt : k < lm
    · obtain ⟨g, rfl, hc⟩ := CM.out k (by rw [ML.out]; exact hlt)
      have hkl : k < mix.length := by rw [ML.out]; exact hlt
      by_cases hx : -1 ≤ mix[k]?.getD 0
      · have NX := hid (nb_take hnb.out hkl hx)
        have hx' : ¬ (mix[k]?.getD 0 < -1) := by omega
        clear hx hkl
        generalize mix[k]?.getD 0 = x at *
        go_wp2
        go_roundw
        case rel => exact ⟨k + 1, by omega, by go_num, trivial, NX⟩
        case measure => simp [intOf]; omega
      · have NX := hid (nb_not hkl hx)
        have hx' : mix[k]?.getD 0 < -1 := by omega
        clear hx hkl
        generalize mix[k]?.getD 0 = x at *
        go_wp2
        go_ret
        exact ⟨ret_bool (by rw [HG.out, NX.out]; rfl), HB.out⟩
    · have NM := hid (show nb (-1) mix = true by
        have := hnb.out
        rwa [show k = lm by omega, ← ML.out, List.take_length] at this)
      have hk2 : ¬ ((k : Int) < (lm : Int)) := by omega
      clear hnb CM
      go_wp2
      go_loopw [42] (fun i wr => ∃ k : Nat, k ≤ lf ∧ i = .int .i64 k ∧ wr = w.alloc (.cells #[.slice am lm cm, .slice af lf cf, .int .i64 lim] 29) ∧ Hid (nb 0 (fifo.take k) = true)) (fun i _ => lf - (intOf i).toNat)
      case atStart => exact ⟨0, Nat.zero_le _, rfl, rfl, by show nb _ _ = _; rfl⟩
      case round =>
        clear hlt hk2
        obtain ⟨k', hk, rfl, rfl, hnb⟩ := hrel
        by_cases hlt : k' < lf
        · obtain ⟨g, rfl, hc⟩ := CF.out k' (by rw [FL.out]; exact hlt)
          have hkl : k' < fifo.length := by rw [FL.out]; exact hlt
          by_cases hx : 0 ≤ fifo[k']?.getD 0
          · have NX := hid (nb_take hnb.out hkl hx)
            have hx' : ¬ (fifo[k']?.getD 0 < 0) := by omega
            clear hx hkl
            generalize fifo[k']?.getD 0 = x at *
            go_wp2
            go_roundw
            case rel => exact ⟨k' + 1, by omega, by go_num, trivial, NX⟩
            case measure => simp [intOf]; omega
          · have NX := hid (nb_not hkl hx)
            have hx' : fifo[k']?.getD 0 < 0 := by omega
            clear hx hkl
            generalize fifo[k']?.getD 0 = x at *
            go_wp2
            go_ret
            exact ⟨ret_bool (by rw [HG.out, NX.out]; simp), HB.out⟩
        · have NF := hid (show nb 0 fifo = true by
            have := hnb.out
            rwa [show k' = lf by omega, ← FL.out, List.take_length] at this)
          clear hnb
          go_wp2
          go_ret
          exact ⟨ret_bool (by rw [HG.out, NM.out, NF.out]; rfl), HB.out⟩
end Go.Proofs.Ytnhkifinfnobfaa
