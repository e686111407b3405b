import Derived.Test.YtgandbaejlfppaaGreatDoorN38
import Derived.Test.YtgandbaejlfppaaGreatDoorN42
namespace Go.Proofs.YtgandbaejlfppaaGreatDoor
set_option linter.unusedVariables false
set_option linter.unusedSimpArgs false
set_option maxRecDepth 20000
set_option maxHeartbeats 8000000
open Go.RowKit Go.Maps
theorem scanS_range (lt:Nat→Nat→Bool) (d:Array Nat) (b:Nat):∀ i,i≤b→i≤Sort.scanSorted lt d b i∧Sort.scanSorted lt d b i≤b:=by
 intro i
 induction h:b - i generalizing i with
 | zero =>
  intro hi;rw [Sort.scanSorted,if_neg (by simp;omega)];omega
 | succ n ih =>
  intro hi;rw [Sort.scanSorted]
  split
  ·have:=ih (i+1) (by omega) (by omega);omega
  omega
theorem im_pins (G N cp a b : Nat) (d : Array Nat) (V0 V : World) (A : Au G N cp V0 d V) (hab : a < b) (hb : b ≤ N) (hN : N ≤ 100000) :
    Calls Tryz.prog 162 #[.slice (some ⟨G, 0, none⟩) N cp, .int .i64 a, .int .i64 b] V fun r V' => r = .returned (.bool (Sort.partialInsertionSort ltN d a b).2) ∧ Au G N cp V0 (Sort.partialInsertionSort ltN d a b).1 V' := by
  obtain ⟨R0, hR⟩ : ∃ R0, Sort.partialInsertionSort ltN d a b = R0 := ⟨_, rfl⟩
  rw [hR]
  have HR := hid (show Sort.partialIns ltN a b 5 (a + 1) d = R0 from hR)
  have HA := hid A
  clear hR A
  go_enter Tryz.func162, Tryz.ntmps162
  go_wp2_with fail
  go_loopw [7, 8] (fun s7 s8 wr => ∃ (t i : Nat) (d : Array Nat), t ≤ 5 ∧ a + 1 ≤ i ∧ i ≤ b ∧ s7 = .int .i64 i ∧ s8 = .int .i64 t ∧ Hid (Sort.partialIns ltN a b (5 - t) i d = R0) ∧ Hid (Au G N cp V0 d wr)) (fun _ s8 _ => 6 - (intOf s8).toNat)
  case atStart => exact ⟨0, a + 1, d, by omega, by omega, by omega, by go_num, rfl, HR, HA⟩
  case round =>
    clear HR HA
    obtain ⟨t, i, d, ht, hi1, hi2, rfl, rfl, HR, HA⟩ := hrel
    by_cases hlt : t < 5
    · have htz : (t : Int) < 5 := by omega
      obtain ⟨k5, hk5⟩ : ∃ k5, 5 - t = k5 + 1 := ⟨4 - t, by omega⟩
      obtain ⟨I1, hI1⟩ : ∃ I1, Sort.scanSorted ltN d b i = I1 := ⟨_, rfl⟩
      have hIr : i ≤ I1 ∧ I1 ≤ b := by
        rw [← hI1]
        exact scanS_range ltN d b i hi2
      have HR2 := hid (show (if I1 = b then (d, true) else if b - a < 50 then (d, false) else Sort.partialIns ltN a b k5 I1 (if b - I1 ≥ 2 then Sort.shiftUp ltN b (I1 + 1) (if I1 - a ≥ 2 then Sort.shiftDown ltN (I1 - 1) (Sort.swp d I1 (I1 - 1)) else Sort.swp d I1 (I1 - 1)) else (if I1 - a ≥ 2 then Sort.shiftDown ltN (I1 - 1) (Sort.swp d I1 (I1 - 1)) else Sort.swp d I1 (I1 - 1)))) = R0 by
        have := HR.out
        rw [hk5, Sort.partialIns_succ] at this
        simp only [hI1] at this
        exact this)
      have HI := hid hI1
      clear HR hI1
      go_upto_block 2 with fail
      go_cut [7] from 13 to 132 (fun s7 w' => s7 = .int .i64 I1 ∧ Hid (Au G N cp V0 d w'))
      case first =>
        clear HR2
        go_wp2_with fail
        go_loopw [7] (fun s7 wr => ∃ (i : Nat), a + 1 ≤ i ∧ i ≤ b ∧ s7 = .int .i64 i ∧ Hid (Sort.scanSorted ltN d b i = I1) ∧ Hid (Au G N cp V0 d wr)) (fun s7 _ => b + 1 - (intOf s7).toNat)
        case atStart => exact ⟨i, hi1, hi2, rfl, HI, HA⟩
        case round =>
          clear HI HA
          obtain ⟨j, hj1, hj2, rfl, HI, HA⟩ := hrel
          by_cases hjb : j < b
          · obtain ⟨k, hk⟩ : ∃ k, j = k + 1 := ⟨j - 1, by omega⟩
            have HK := hid hk
            have hjz : (j : Int) < (b : Int) := by omega
            have hk1 : (j : Int) - 1 = (k : Int) := by omega
            have hjN : (j : Int) < (N : Int) := by omega
            have hkN : (k : Int) < (N : Int) := by omega
            have x1 := HA.out.cell (show j < N by omega)
            have x0 := HA.out.cell (show k < N by omega)
            clear hk
            by_cases hl : ltN d[j]! d[k]! = true
            · have H3 := hid (show j = I1 by
                have := HI.out
                rw [Sort.scanSorted, if_neg (by rw [show j - 1 = k by have := HK.out; omega]; simp [hl])] at this
                exact this)
              go_upto_region 5 with fail
              go_quiet (first | (go_at_call 163; exact Calls.quiet_of_same (im_lessT hl _)))
              have A1 := hid (HA.out.drewN nq)
              clear HA x1 x0
              generalize wr.drewN nq = w1 at A1 ⊢
              go_wp2_with fail
              go_meet
              case rel => exact ⟨by rw [H3.out], A1⟩
            · have hl : ltN d[j]! d[k]! = false := by simpa using hl
              have H3 := hid (show Sort.scanSorted ltN d b (j + 1) = I1 by
                have := HI.out
                rw [Sort.scanSorted, if_pos (by rw [show j - 1 = k by have := HK.out; omega]; simp [hl]; exact hjb)] at this
                exact this)
              go_upto_region 5 with fail
              go_quiet (first | (go_at_call 163; exact Calls.quiet_of_same (im_lessF hl _)))
              have A1 := hid (HA.out.drewN nq)
              clear HA x1 x0
              generalize wr.drewN nq = w1 at A1 ⊢
              go_wp2
              go_roundw
              case rel => exact ⟨j + 1, by omega, by omega, by go_num, H3, A1⟩
              case measure => (simp [intOf]; try omega)
          · have hjz : decide ((j : Int) < (b : Int)) = false := decide_eq_false (by omega)
            have H3 := hid (show j = I1 by
              have := HI.out
              rw [Sort.scanSorted, if_neg (by simp; omega)] at this
              exact this)
            go_upto_region 5 with fail
            go_quiet (fail)
            have A1 := hid (HA.out.drewN nq)
            clear HA
            generalize wr.drewN nq = w1 at A1 ⊢
            go_wp2_with fail
            go_meet
            case rel => exact ⟨by rw [H3.out], A1⟩
      case rest =>
        obtain ⟨rfl, HA⟩ := hcut
        by_cases heb : I1 = b
        · have hez : (I1 : Int) = (b : Int) := by omega
          have HR3 := hid (show (d, true) = R0 by have := HR2.out; rw [if_pos heb] at this; exact this)
          clear HR2
          go_wp2
          first | go_ret | ((try simp only [Exit.inBlock, Exit.then]); go_ret)
          exact ⟨by rw [← HR3.out]; rfl, by rw [← HR3.out]; exact HA.out⟩
        · have hez : ¬ ((I1 : Int) = (b : Int)) := by omega
          obtain ⟨L, hL⟩ : ∃ L, b - a = L := ⟨_, rfl⟩
          have hLz : (b : Int) - (a : Int) = (L : Int) := by omega
          by_cases h50 : b - a < 50
          · have h5z : (L : Int) < 50 := by omega
            have HR3 := hid (show (d, false) = R0 by have := HR2.out; rw [if_neg heb, if_pos h50] at this; exact this)
            clear HR2
            go_wp2
            first | go_ret | ((try simp only [Exit.inBlock, Exit.then]); go_ret)
            exact ⟨by rw [← HR3.out]; rfl, by rw [← HR3.out]; exact HA.out⟩
          · have h5z : ¬ ((L : Int) < 50) := by omega
            obtain ⟨k, hk⟩ : ∃ k, I1 - 1 = k := ⟨_, rfl⟩
            obtain ⟨D2, hD2⟩ : ∃ D2, (if I1 - a ≥ 2 then Sort.shiftDown ltN (I1 - 1) (Sort.swp d I1 (I1 - 1)) else Sort.swp d I1 (I1 - 1)) = D2 := ⟨_, rfl⟩
            obtain ⟨D3, hD3⟩ : ∃ D3, (if b - I1 ≥ 2 then Sort.shiftUp ltN b (I1 + 1) D2 else D2) = D3 := ⟨_, rfl⟩
            have HR3 := hid (show Sort.partialIns ltN a b k5 I1 D3 = R0 by have := HR2.out; rw [if_neg heb, if_neg h50, hD2, hD3] at this; exact this)
            rw [hk] at hD2
            have HD2 := hid hD2
            have HD3 := hid hD3
            have hk1 : (I1 : Int) - 1 = (k : Int) := by omega
            have hIN : (I1 : Int) < (N : Int) := by omega
            have hkN : (k : Int) < (N : Int) := by omega
            have x1 := HA.out.cell (show I1 < N by omega)
            have x0 := HA.out.cell (show k < N by omega)
            have f1 := HA.out.fz I1
            obtain ⟨u99, y0⟩ := HA.out.sw1 (show I1 < N by omega) (show k < N by omega)
            have f0 := (HA.out.set (show I1 < N by omega) d[k]!).fz k
            have A2 := hid (HA.out.swap (show I1 < N by omega) (show k < N by omega)).drew
            clear HR2 HA hD2 hD3 hk hL
            go_upto_region 11 with fail
            go_region
            clear x1 x0 f1 y0 f0
            generalize World.drew _ = w9 at A2 ⊢
            obtain ⟨ia, hia⟩ : ∃ ia, I1 - a = ia := ⟨_, rfl⟩
            have hiaz : (I1 : Int) - (a : Int) = (ia : Int) := by omega
            obtain ⟨bi, hbi⟩ : ∃ bi, b - I1 = bi := ⟨_, rfl⟩
            have hbiz : (b : Int) - (I1 : Int) = (bi : Int) := by omega
            go_upto_if 61 with fail
            go_cut [9] from 13 to 132 (fun s9 w' => Hid (Au G N cp V0 D2 w'))
            case first =>
              by_cases h2 : I1 - a ≥ 2
              · have h2z : (2 : Int) ≤ (ia : Int) := by omega
                have HS := hid (show Sort.shiftDown ltN k (Sort.swp d I1 k) = D2 by have := HD2.out; rw [if_pos h2] at this; exact this)
                clear HD2 HD3 HR3 HI
                go_wp2_with fail
                go_loopw [9] (fun s9 wr => ∃ (j : Nat) (d : Array Nat), j ≤ k ∧ s9 = .int .i64 j ∧ Hid (Sort.shiftDown ltN j d = D2) ∧ Hid (Au G N cp V0 d wr)) (fun s9 _ => (intOf s9).toNat)
                case atStart => exact ⟨k, _, Nat.le_refl _, by go_num, HS, A2⟩
                case round =>
                  clear HS A2
                  obtain ⟨j, d, hj, rfl, HS, HA⟩ := hrel
                  cases j with
                  | zero =>
                    have H3 := hid (show d = D2 from HS.out)
                    go_wp2_with fail
                    go_meet
                    case rel => exact hid (by rw [← H3.out]; exact HA.out)
                  | succ m =>
                    obtain ⟨j, hjm⟩ : ∃ j, m + 1 = j := ⟨_, rfl⟩
                    have HJ := hid hjm
                    rw [hjm] at hj ⊢
                    have hjz : (1 : Int) ≤ (j : Int) := by omega
                    have hmz : (j : Int) - 1 = (m : Int) := by omega
                    have hjN : (j : Int) < (N : Int) := by omega
                    have hmN : (m : Int) < (N : Int) := by omega
                    have x1 := HA.out.cell (show j < N by omega)
                    have x0 := HA.out.cell (show m < N by omega)
                    clear hjm
                    by_cases hl : ltN d[j]! d[m]! = true
                    · have H3 := hid (show Sort.shiftDown ltN m (Sort.swp d j m) = D2 by
                        have := HS.out
                        rw [Sort.shiftDown, HJ.out, if_neg (by simp [hl])] at this
                        exact this)
                      go_upto_region 16 with fail
                      go_quiet (first | (go_at_call 163; exact Calls.quiet_of_same (im_lessT hl _)))
                      have A1 := hid (HA.out.drewN nq)
                      clear HA x1 x0 HS
                      generalize wr.drewN nq = w1 at A1 ⊢
                      have x1 := A1.out.cell (show j < N by omega)
                      have x0 := A1.out.cell (show m < N by omega)
                      have f1 := A1.out.fz j
                      obtain ⟨u99, y0⟩ := A1.out.sw1 (show j < N by omega) (show m < N by omega)
                      have f0 := (A1.out.set (show j < N by omega) d[m]!).fz m
                      have A2 := hid (A1.out.swap (show j < N by omega) (show m < N by omega)).drew
                      clear A1
                      go_upto_region 17 with fail
                      go_region
                      clear x1 x0 f1 y0 f0
                      go_wp2
                      go_roundw
                      case rel => exact ⟨m, _, by omega, by go_num, H3, A2⟩
                      case measure => (simp [intOf]; try omega)
                    · have hl : ltN d[j]! d[m]! = false := by simpa using hl
                      have H3 := hid (show d = D2 by
                        have := HS.out
                        rw [Sort.shiftDown, HJ.out, if_pos (by simp [hl])] at this
                        exact this)
                      go_upto_region 16 with fail
                      go_quiet (first | (go_at_call 163; exact Calls.quiet_of_same (im_lessF hl _)))
                      have A1 := hid (HA.out.drewN nq)
                      clear HA x1 x0 HS
                      generalize wr.drewN nq = w1 at A1 ⊢
                      go_wp2_with fail
                      go_meet
                      case rel => exact hid (by rw [← H3.out]; exact A1.out)
              · have h2z : ¬ ((2 : Int) ≤ (ia : Int)) := by omega
                have H3 := hid (show Sort.swp d I1 k = D2 by have := HD2.out; rw [if_neg h2] at this; exact this)
                go_wp2_with fail
                go_meet
                case rel => exact hid (by rw [← H3.out]; exact A2.out)
            case rest =>
              have A3 := hcut
              clear hcut A2
              by_cases h2 : b - I1 ≥ 2
              · have h2z : (2 : Int) ≤ (bi : Int) := by omega
                have HS := hid (show Sort.shiftUp ltN b (I1 + 1) D2 = D3 by have := HD3.out; rw [if_pos h2] at this; exact this)
                clear HD2 HD3 HI
                go_wp2_with fail
                go_loopw [10] (fun s10 wr => ∃ (j : Nat) (d : Array Nat), I1 + 1 ≤ j ∧ j ≤ b ∧ s10 = .int .i64 j ∧ Hid (Sort.shiftUp ltN b j d = D3) ∧ Hid (Au G N cp V0 d wr)) (fun s10 _ => b + 1 - (intOf s10).toNat)
                case atStart => exact ⟨I1 + 1, _, Nat.le_refl _, by omega, by go_num, HS, A3⟩
                case round =>
                  clear HS A3
                  obtain ⟨j, d, hj1, hj2, rfl, HS, HA⟩ := hrel
                  by_cases hjb : j < b
                  · obtain ⟨m, hjm⟩ : ∃ m, j - 1 = m := ⟨_, rfl⟩
                    have HJ := hid hjm
                    have hjz : (j : Int) < (b : Int) := by omega
                    have hmz : (j : Int) - 1 = (m : Int) := by omega
                    have hjN : (j : Int) < (N : Int) := by omega
                    have hmN : (m : Int) < (N : Int) := by omega
                    have x1 := HA.out.cell (show j < N by omega)
                    have x0 := HA.out.cell (show m < N by omega)
                    clear hjm
                    by_cases hl : ltN d[j]! d[m]! = true
                    · have H3 := hid (show Sort.shiftUp ltN b (j + 1) (Sort.swp d j m) = D3 by
                        have := HS.out
                        rw [Sort.shiftUp, if_pos hjb, HJ.out, if_neg (by simp [hl])] at this
                        exact this)
                      go_upto_region 22 with fail
                      go_quiet (first | (go_at_call 163; exact Calls.quiet_of_same (im_lessT hl _)))
                      have A1 := hid (HA.out.drewN nq)
                      clear HA x1 x0 HS
                      generalize wr.drewN nq = w1 at A1 ⊢
                      have x1 := A1.out.cell (show j < N by omega)
                      have x0 := A1.out.cell (show m < N by omega)
                      have f1 := A1.out.fz j
                      obtain ⟨u99, y0⟩ := A1.out.sw1 (show j < N by omega) (show m < N by omega)
                      have f0 := (A1.out.set (show j < N by omega) d[m]!).fz m
                      have A2 := hid (A1.out.swap (show j < N by omega) (show m < N by omega)).drew
                      clear A1
                      go_upto_region 23 with fail
                      go_region
                      clear x1 x0 f1 y0 f0
                      go_wp2
                      go_roundw
                      case rel => exact ⟨j + 1, _, by omega, by omega, by go_num, H3, A2⟩
                      case measure => (simp [intOf]; try omega)
                    · have hl : ltN d[j]! d[m]! = false := by simpa using hl
                      have H3 := hid (show d = D3 by
                        have := HS.out
                        rw [Sort.shiftUp, if_pos hjb, HJ.out, if_pos (by simp [hl])] at this
                        exact this)
                      go_upto_region 22 with fail
                      go_quiet (first | (go_at_call 163; exact Calls.quiet_of_same (im_lessF hl _)))
                      have A1 := hid (show Au G N cp V0 D3 (wr.drewN nq) by rw [← H3.out]; exact HA.out.drewN nq)
                      clear HA x1 x0 HS
                      generalize wr.drewN nq = w1 at A1 ⊢
                      go_wp2
                      go_roundw
                      case rel => exact ⟨t + 1, I1, D3, by omega, by omega, by omega, by go_num, by go_num, hid (by rw [show 5 - (t + 1) = k5 by omega]; exact HR3.out), A1⟩
                      case measure => (simp [intOf]; try omega)
                  · have hjz : ¬ ((j : Int) < (b : Int)) := by omega
                    have H3 := hid (show d = D3 by
                      have := HS.out
                      rw [Sort.shiftUp, if_neg hjb] at this
                      exact this)
                    have A1 := hid (show Au G N cp V0 D3 wr by rw [← H3.out]; exact HA.out)
                    clear HA HS
                    go_wp2
                    go_roundw
                    case rel => exact ⟨t + 1, I1, D3, by omega, by omega, by omega, by go_num, by go_num, hid (by rw [show 5 - (t + 1) = k5 by omega]; exact HR3.out), A1⟩
                    case measure => (simp [intOf]; try omega)
              · have h2z : ¬ ((2 : Int) ≤ (bi : Int)) := by omega
                have H3 := hid (show D2 = D3 by have := HD3.out; rw [if_neg h2] at this; exact this)
                have A1 := hid (show Au G N cp V0 D3 _ by rw [← H3.out]; exact A3.out)
                clear A3
                go_wp2
                go_roundw
                case rel => exact ⟨t + 1, I1, D3, by omega, by omega, by omega, by go_num, by go_num, hid (by rw [show 5 - (t + 1) = k5 by omega]; exact HR3.out), A1⟩
                case measure => (simp [intOf]; try omega)
    · obtain rfl : t = 5 := by omega
      have HR3 := hid (show (d, false) = R0 from HR.out)
      clear HR
      go_wp2
      first | go_ret | ((try simp only [Exit.inBlock, Exit.then]); go_ret)
      exact ⟨by rw [← HR3.out]; rfl, by rw [← HR3.out]; exact HA.out⟩
end Go.Proofs.YtgandbaejlfppaaGreatDoor
