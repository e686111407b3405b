import Derived.Test.YtcefihmnnndleaaDoorNuD
import Derived.Test.YtcefihmnnndleaaDoorLyA
import Derived.Deep.DeepCutAuto
import Derived.Deep.CutBlock
import Derived.Deep.LoopGhost
import Derived.Deep.RegionWith
namespace Go.Proofs.YtcefihmnnndleaaDoor
open Go.ChangeShapes Go.WideShapes Go.ChangeAt Go.RowKit
set_option linter.unusedVariables false
set_option maxRecDepth 20000

def pm : ByteArray := ⟨#[43, 45]⟩
theorem pm_size : pm.size = 2 := rfl
set_option maxHeartbeats 1000000 in
theorem im_ixr_e (w : World) : Calls Tryd.prog 60 #[.string pm, .int .i32 65533] w fun e w' => e = .returned (.int .i64 (-1)) ∧ Below w.heap.size w w' := by
  have hB : ∀ pos, Below w.heap.size w (w.iter pm pos) := fun pos => (Below.refl _ w).alloc (Nat.le_refl _) _
  have n0 := fun ty => run_next_ascii (P := Tryd.prog) w pm 0 ty (by decide) (by decide)
  have n1 := fun ty => run_next_ascii (P := Tryd.prog) w pm 1 ty (by decide) (by decide)
  have n2 := fun ty => run_next_end (P := Tryd.prog) w pm 2 ty (by decide)
  have e0 : (((pm[0]'(by decide)).toNat : Nat) : Int) = 43 := by decide
  have e1 : (((pm[1]'(by decide)).toNat : Nat) : Int) = 45 := by decide
  rw [e0] at n0
  rw [e1] at n1
  go_enter Tryd.func60, Tryd.ntmps60
  go_wp2_with fail
  go_loopw [] (fun wr => ∃ pos : Nat, pos ≤ 2 ∧ wr = w.iter pm pos) (fun wr => 2 - wr.iterPos w.heap.size)
  case atStart => exact ⟨0, by omega, rfl⟩
  case round =>
    obtain ⟨pos, hp, rfl⟩ := hrel
    rcases pos with _ | _ | _ | pos
    · go_wp2_with fail
      go_roundw
      case rel => exact ⟨1, by omega, rfl⟩
      case measure => simp
    · go_wp2_with fail
      go_roundw
      case rel => exact ⟨2, by omega, rfl⟩
      case measure => simp
    · go_wp2_with fail
      go_ret
      exact ⟨rfl, hB _⟩
    · omega
theorem im_vr_y (r : Nat) (h1 : r < 55296 ∨ (57343 < r ∧ r ≤ 1114111)) (w : World) : Calls Tryd.prog 71 #[.int .i32 (r : Int)] w fun e w' => e = .returned (.bool true) ∧ w' = w := by
  by_cases c1 : r < 55296
  · have d1 : decide ((r : Int) < 55296) = true := by simp; omega
    go_enter Tryd.func71, Tryd.ntmps71
    go_wp2
    go_ret
    exact ⟨rfl, rfl⟩
  · have d1 : decide ((r : Int) < 55296) = false := by simp; omega
    have d2 : decide ((57343 : Int) < (r : Int)) = true := by simp; omega
    have d3 : decide ((r : Int) ≤ 1114111) = true := by simp; omega
    go_enter Tryd.func71, Tryd.ntmps71
    go_wp2
    go_ret
    exact ⟨rfl, rfl⟩
theorem im_vr_n (r : Nat) (h0 : r ≤ 2147483647) (h1 : ¬ (r < 55296 ∨ (57343 < r ∧ r ≤ 1114111))) (w : World) : Calls Tryd.prog 71 #[.int .i32 (r : Int)] w fun e w' => e = .returned (.bool false) ∧ w' = w := by
  have d1 : decide ((r : Int) < 55296) = false := by simp; omega
  by_cases c2 : 57343 < r
  · have d2 : decide ((57343 : Int) < (r : Int)) = true := by simp; omega
    have d3 : decide ((r : Int) ≤ 1114111) = false := by simp; omega
    go_enter Tryd.func71, Tryd.ntmps71
    go_wp2
    go_ret
    exact ⟨rfl, rfl⟩
  · have d2 : decide ((57343 : Int) < (r : Int)) = false := by simp; omega
    go_enter Tryd.func71, Tryd.ntmps71
    go_wp2
    go_ret
    exact ⟨rfl, rfl⟩
theorem enc_far (r : Nat) (h0 : 128 ≤ r) (hv : r < 55296 ∨ (57343 < r ∧ r ≤ 1114111)) : ∃ E, Utf8.encode (r : Int) = E ∧ 2 ≤ E.size ∧ E.size ≤ 4 ∧ ∀ h : E.size = 2, 128 ≤ (E[1]'(by omega)).toNat := by
  have hval : Utf8.valid (r : Int) = true := by simp [Utf8.valid]; omega
  refine ⟨_, rfl, ?_⟩
  by_cases h1 : r < 2048
  · have e : Utf8.encode (r : Int) = ⟨#[UInt8.ofNat (192 + r / 64), UInt8.ofNat (128 + r % 64)]⟩ := by
      simp only [Utf8.encode, hval, if_true, Int.toNat_natCast]
      rw [if_neg (by omega), if_pos (by omega)]
    rw [e]
    refine ⟨Nat.le_refl 2, (show 2 ≤ 4 by omega), fun _ => ?_⟩
    show 128 ≤ (UInt8.ofNat (128 + r % 64)).toNat
    simp; omega
  · by_cases h2 : r < 65536
    · have e : Utf8.encode (r : Int) = ⟨#[UInt8.ofNat (224 + r / 4096), UInt8.ofNat (128 + r / 64 % 64), UInt8.ofNat (128 + r % 64)]⟩ := by
        simp only [Utf8.encode, hval, if_true, Int.toNat_natCast]
        rw [if_neg (by omega), if_neg (by omega), if_pos (by omega)]
      rw [e]
      exact ⟨(show 2 ≤ 3 by omega), (show 3 ≤ 4 by omega), fun h => absurd h (show ¬ 3 = 2 by omega)⟩
    · have e : Utf8.encode (r : Int) = ⟨#[UInt8.ofNat (240 + r / 262144), UInt8.ofNat (128 + r / 4096 % 64), UInt8.ofNat (128 + r / 64 % 64), UInt8.ofNat (128 + r % 64)]⟩ := by
        simp only [Utf8.encode, hval, if_true, Int.toNat_natCast]
        rw [if_neg (by omega), if_neg (by omega), if_neg (by omega)]
      rw [e]
      exact ⟨(show 2 ≤ 4 by omega), (show 4 ≤ 4 by omega), fun h => absurd h (show ¬ 4 = 2 by omega)⟩
theorem im_ib (b : UInt8) (w : World) : Calls Tryd.prog 70 #[.string (pm.extract 2 2), .int .u8 ((b.toNat : Nat) : Int)] w fun e w' => e = .returned (.int .i64 (-1)) ∧ w' = w := by
  have h := Any.strings_IndexByte (P := Tryd.prog) (ρ := Tryd.lays153_ren) { Tryd.lays153 with } (pm.extract 2 2) ((b.toNat : Nat) : Int) w
  have e : (pm.extract 2 2).data.toList = [] := by decide
  rw [e] at h
  exact h
set_option maxHeartbeats 1000000 in
theorem im_ixr_f (r : Nat) (h0 : 128 ≤ r) (h1 : r ≤ 2147483647) (hne : r ≠ 65533) (w : World) : Calls Tryd.prog 60 #[.string pm, .int .i32 (r : Int)] w fun e w' => e = .returned (.int .i64 (-1)) ∧ Below w.heap.size w w' := by
  have d1 : decide ((r : Int) < 128) = false := by simp; omega
  have d2 : ((r : Int) == 65533) = false := by rw [beq_eq_false_iff_ne]; omega
  by_cases hv : r < 55296 ∨ (57343 < r ∧ r ≤ 1114111)
  · have hC := im_vr_y r hv w
    obtain ⟨E, hEe, hz2, hz4, hE2⟩ := enc_far r h0 hv
    have hEe' : Utf8.encode (r : Int) = E := hEe
    clear hEe
    by_cases hz : E.size = 2
    · have hb := hE2 hz
      have hlt : 1 < E.size := by omega
      have h45 : ((45 : Int) != ((E[1].toNat : Nat) : Int)) = true := by simp; omega
      have hIB : Calls Tryd.prog 70 #[.string (pm.extract 2 2), .int .u8 ((E[1].toNat : Nat) : Int)] w fun e w' => e = .returned (.int .i64 (-1)) ∧ w' = w := im_ib _ w
      have hp1 : (pm[1]'(by decide)).toNat = 45 := by decide
      go_enter Tryd.func60, Tryd.ntmps60
      go_wp2_with (go_at_call 71; refine hC.mono ?_; rintro e w' ⟨rfl, rfl⟩)
      go_step3
      go_wp2_with fail
      go_loopg [9] 1 (fun gk s9 wr => s9 = .int .i64 1 ∧ wr = w')
      case atStart => exact ⟨rfl, rfl⟩
      case round =>
        obtain ⟨rfl, rfl⟩ := hrel
        have hpm : pm.size = 2 := rfl
        have hw2 : IntKind.i64.wrap 2 = 2 := by decide
        clear hE2 hEe' hC hne hv d1 d2 h0 h1 hz4 hz2 hIB
        go_wp2_with fail
        go_step3
        go_wp2_with fail
        go_region
        go_wp2_with fail
        go_region_with (go_at_call 70; refine (im_ib _ _).mono ?_; rintro e w9 ⟨rfl, rfl⟩)
        all_goals go_wp2_with fail
        all_goals (rw [Exit.noGoto_ret]; simp only [Exit.inBlock, Exit.then]; rw [Exit.noGoto_ret])
        all_goals go_ret
        all_goals exact ⟨rfl, (Below.refl _ _).drew.drew⟩
    · have hzi : ¬ ((E.size : Int) - 1 < 2) := by omega
      go_enter Tryd.func60, Tryd.ntmps60
      go_wp2_with (go_at_call 71; refine hC.mono ?_; rintro e w' ⟨rfl, rfl⟩)
      go_step3
      go_wp2_with fail
      go_loopg [9] 1 (fun gk s9 wr => s9 = .int .i64 ((E.size : Int) - 1) ∧ wr = w')
      case atStart => exact ⟨rfl, rfl⟩
      case round =>
        obtain ⟨rfl, rfl⟩ := hrel
        have hpm : pm.size = 2 := rfl
        clear hE2 hEe' hC hne hv d1 d2 h0 h1
        go_wp2_with fail
        rw [Exit.noGoto_ret]
        go_ret
        exact ⟨rfl, Below.refl _ _⟩
  · have hC := im_vr_n r h1 hv w
    go_enter Tryd.func60, Tryd.ntmps60
    go_wp2_with (go_at_call 71; refine hC.mono ?_; rintro e w' ⟨rfl, rfl⟩)
    go_ret
    exact ⟨rfl, Below.refl _ _⟩
end Go.Proofs.YtcefihmnnndleaaDoor
