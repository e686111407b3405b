import Derived.Test.YtgandbaejlfppaaGreatDoorN38
import Derived.Test.YtgandbaejlfppaaGreatDoorN42
namespace Go.Proofs.YtgandbaejlfppaaGreatDoor
set_option linter.unusedVariables false
set_option linter.unusedSimpArgs false
set_option maxRecDepth 20000
set_option maxHeartbeats 8000000
open Go.RowKit Go.Maps
theorem scanU_range (p:Nat→Bool) (d:Array Nat) (j:Nat):∀ i,i≤j+1→i≤Sort.scanUp p d j i∧Sort.scanUp p d j i≤j+1:=by
 intro i
 induction h:j+1 - i generalizing i with
 | zero =>
  intro hi;rw [Sort.scanUp,if_neg (by simp;omega)];omega
 | succ n ih =>
  intro hi;rw [Sort.scanUp]
  split
  ·have:=ih (i+1) (by omega) (by omega);omega
  omega
theorem scanD_range (p:Nat→Bool) (d:Array Nat) (i:Nat):∀ j,i≤j+1→i≤Sort.scanDown p d i j+1∧Sort.scanDown p d i j≤j:=by
 intro j
 induction j with
 | zero=>intro h;exact⟨h,Nat.le_refl _⟩
 | succ j ih =>
  intro h;rw [Sort.scanDown]
  split
  ·rename_i h2
   simp at h2;have:=ih (by omega);omega
  omega
theorem scanU_stop (p : Nat → Bool) (d : Array Nat) (j : Nat) : ∀ i, Sort.scanUp p d j i ≤ j → p d[Sort.scanUp p d j i]! = false := by
  intro i
  induction h : j + 1 - i generalizing i with
  | zero =>
    rw [Sort.scanUp, if_neg (by simp; omega)]
    intro h9
    omega
  | succ n ih =>
    rw [Sort.scanUp]
    split
    · exact ih (i + 1) (by omega)
    · rename_i h2
      intro h9
      simpa [h9] using h2
theorem scanD_stop (p : Nat → Bool) (d : Array Nat) (i : Nat) (hi : 1 ≤ i) : ∀ j, i ≤ Sort.scanDown p d i j → p d[Sort.scanDown p d i j]! = false := by
  intro j
  induction j with
  | zero => intro h; simp [Sort.scanDown] at h; omega
  | succ j ih =>
    rw [Sort.scanDown]
    split
    · exact ih
    · rename_i h2
      intro h9
      simpa [h9] using h2
theorem scan_ne {p q : Nat → Bool} (hq : ∀ x, q x = !p x) {d : Array Nat} {i j I2 J2 : Nat} (hi : 1 ≤ I2) (h1 : Sort.scanUp p d j i = I2) (h2 : Sort.scanDown q d I2 j = J2) (h3 : J2 ≤ j) : I2 ≠ J2 := by
  intro e
  have a1 := scanU_stop p d j i (by rw [h1]; omega)
  have a2 := scanD_stop q d I2 hi j (by rw [h2]; omega)
  rw [h1] at a1
  rw [h2, ← e, hq, a1] at a2
  cases a2
theorem im_peq (G N cp a b pv : Nat) (d : Array Nat) (V0 V : World) (A : Au G N cp V0 d V) (h1 : a ≤ pv) (h2 : pv < b) (hb : b ≤ N) (hN : N ≤ 100000) :
    Calls Tryz.prog 164 #[.slice (some ⟨G, 0, none⟩) N cp, .int .i64 a, .int .i64 b, .int .i64 pv] V fun r V' => r = .returned (.int .i64 ((Sort.partitionEqual ltN d a b pv).1 : Nat)) ∧ Au G N cp V0 (Sort.partitionEqual ltN d a b pv).2 V' := by
  obtain ⟨R0, hR⟩ : ∃ R0, Sort.partitionEqual ltN d a b pv = R0 := ⟨_, rfl⟩
  rw [hR]
  obtain ⟨b1, hb1⟩ : ∃ b1, b - 1 = b1 := ⟨_, rfl⟩
  have hb1z : (b : Int) - 1 = (b1 : Int) := by omega
  have HR := hid (show Sort.partEqLoop ltN a (a + 1) b1 (Sort.swp d a pv) = R0 by rw [← hb1]; exact hR)
  have HA := hid A
  clear hR A
  go_enter Tryz.func164, Tryz.ntmps164
  have hiN : (a : Int) < (N : Int) := by omega
  have hjN : (pv : Int) < (N : Int) := by omega
  have x1 := HA.out.cell (show a < N by omega)
  have x0 := HA.out.cell (show pv < N by omega)
  have f1 := HA.out.fz a
  obtain ⟨u99, y0⟩ := HA.out.sw1 (show a < N by omega) (show pv < N by omega)
  have f0 := (HA.out.set (show a < N by omega) d[pv]!).fz pv
  have A2 := hid (HA.out.swap (show a < N by omega) (show pv < N by omega)).drew
  clear HA
  go_upto_region 1 with fail
  go_region
  clear x1 x0 f1 y0 f0
  go_wp2_with fail
  go_loopw [9, 10] (fun s9 s10 wr => ∃ (i j : Nat) (d : Array Nat), a + 1 ≤ i ∧ i ≤ j + 1 ∧ j < b ∧ s9 = .int .i64 i ∧ s10 = .int .i64 j ∧ Hid (Sort.partEqLoop ltN a i j d = R0) ∧ Hid (Au G N cp V0 d wr)) (fun s9 _ _ => b + 1 - (intOf s9).toNat)
  case atStart => exact ⟨a + 1, b1, _, by omega, by omega, by omega, by go_num, rfl, HR, A2⟩
  case round =>
    clear HR A2
    obtain ⟨i, j, d, hi1, hi2, hj, rfl, rfl, HR, HA⟩ := hrel
    obtain ⟨I2, hI2⟩ : ∃ I2, Sort.scanUp (fun x => !ltN d[a]! x) d j i = I2 := ⟨_, rfl⟩
    obtain ⟨J2, hJ2⟩ : ∃ J2, Sort.scanDown (fun x => ltN d[a]! x) d I2 j = J2 := ⟨_, rfl⟩
    have rI : i ≤ I2 ∧ I2 ≤ j + 1 := by rw [← hI2]; exact scanU_range _ d j i hi2
    have rJ : I2 ≤ J2 + 1 ∧ J2 ≤ j := by rw [← hJ2]; exact scanD_range _ d I2 j rI.2
    have HR2 := hid (show (if I2 > J2 then (I2, d) else Sort.partEqLoop ltN a (I2 + 1) (J2 - 1) (Sort.swp d I2 J2)) = R0 by
      have := HR.out
      rw [Sort.partEqLoop_eq, hI2, hJ2] at this
      exact this)
    have hne : I2 ≠ J2 := scan_ne (fun x => by cases ltN d[a]! x <;> rfl) (by omega) hI2 hJ2 rJ.2
    have HI2 := hid hI2
    have HJ2 := hid hJ2
    clear HR hI2 hJ2
    go_upto_block 2 with fail
    go_cut [9] from 29 to 45 (fun s9 w' => s9 = .int .i64 I2 ∧ Hid (Au G N cp V0 d w'))
    case first =>
      go_wp2_with fail
      go_loopw [9] (fun s9 wr => ∃ (i : Nat), a + 1 ≤ i ∧ i ≤ j + 1 ∧ s9 = .int .i64 i ∧ Hid (Sort.scanUp (fun x => !ltN d[a]! x) d j i = I2) ∧ Hid (Au G N cp V0 d wr)) (fun s9 _ => j + 2 - (intOf s9).toNat)
      case atStart => exact ⟨i, by omega, by omega, by go_num, HI2, HA⟩
      case round =>
        clear HI2 HA
        obtain ⟨i, hi1, hi2, rfl, HI, HA⟩ := hrel
        by_cases hij : i ≤ j
        · have hijz : (i : Int) ≤ (j : Int) := by omega
          have hiN : (i : Int) < (N : Int) := by omega
          have haN : (a : Int) < (N : Int) := by omega
          have x1 := HA.out.cell (show i < N by omega)
          have x0 := HA.out.cell (show a < N by omega)
          by_cases hl : ltN d[a]! d[i]! = false
          · have H3 := hid (show Sort.scanUp (fun x => !ltN d[a]! x) d j (i + 1) = I2 by
              have := HI.out
              rw [Sort.scanUp, if_pos (by simp [hl, hij])] at this
              exact this)
            go_upto_region 3 with fail
            go_quiet (first | (go_at_call 163; exact Calls.quiet_of_same (im_lessF hl _)))
            have A1 := hid (HA.out.drewN nq)
            clear HA x1 x0
            generalize wr.drewN nq = w1 at A1 ⊢
            go_wp2
            go_roundw
            case rel => exact ⟨i + 1, by omega, by omega, by go_num, H3, A1⟩
            case measure => (simp [intOf]; try omega)
          · have hl : ltN d[a]! d[i]! = true := by simpa using hl
            have H3 := hid (show i = I2 by
              have := HI.out
              rw [Sort.scanUp, if_neg (by simp [hl])] at this
              exact this)
            go_upto_region 3 with fail
            go_quiet (first | (go_at_call 163; exact Calls.quiet_of_same (im_lessT hl _)))
            have A1 := hid (HA.out.drewN nq)
            clear HA x1 x0
            generalize wr.drewN nq = w1 at A1 ⊢
            go_wp2_with fail
            go_meet
            case rel => exact ⟨by rw [← H3.out], A1⟩
        · have hijz : decide ((i : Int) ≤ (j : Int)) = false := decide_eq_false (by omega)
          have H3 := hid (show i = I2 by
            have := HI.out
            rw [Sort.scanUp, if_neg (by simp; omega)] at this
            exact this)
          go_upto_region 3 with fail
          go_quiet (fail)
          have A1 := hid (HA.out.drewN nq)
          clear HA
          generalize wr.drewN nq = w1 at A1 ⊢
          go_wp2_with fail
          go_meet
          case rel => exact ⟨by rw [← H3.out], A1⟩
    case rest =>
      obtain ⟨rfl, HA⟩ := hcut
      go_upto_block 4 with fail
      go_cut [10] from 46 to 61 (fun s10 w' => s10 = .int .i64 J2 ∧ Hid (Au G N cp V0 d w'))
      case first =>
        go_wp2_with fail
        go_loopw [10] (fun s10 wr => ∃ (j9 : Nat), I2 ≤ j9 + 1 ∧ j9 ≤ j ∧ s10 = .int .i64 j9 ∧ Hid (Sort.scanDown (fun x => ltN d[a]! x) d I2 j9 = J2) ∧ Hid (Au G N cp V0 d wr)) (fun s10 _ => (intOf s10).toNat)
        case atStart => exact ⟨j, by omega, by omega, by go_num, HJ2, HA⟩
        case round =>
          clear HJ2 HA
          obtain ⟨j9, hj1, hj2, rfl, HJ, HA⟩ := hrel
          by_cases hij : I2 ≤ j9
          · obtain ⟨m, hm⟩ : ∃ m, j9 = m + 1 := ⟨j9 - 1, by omega⟩
            have HMM := hid hm
            have hijz : (I2 : Int) ≤ (j9 : Int) := by omega
            have hmz : (j9 : Int) - 1 = (m : Int) := by omega
            have hiN : (j9 : Int) < (N : Int) := by omega
            have haN : (a : Int) < (N : Int) := by omega
            have x1 := HA.out.cell (show j9 < N by omega)
            have x0 := HA.out.cell (show a < N by omega)
            clear hm
            by_cases hl : ltN d[a]! d[j9]! = true
            · have H3 := hid (show Sort.scanDown (fun x => ltN d[a]! x) d I2 m = J2 by
                have := HJ.out
                rw [HMM.out, Sort.scanDown, if_pos (by rw [← HMM.out]; simp [hl, hij])] at this
                exact this)
              go_upto_region 5 with fail
              go_quiet (first | (go_at_call 163; exact Calls.quiet_of_same (im_lessT hl _)))
              have A1 := hid (HA.out.drewN nq)
              clear HA x1 x0
              generalize wr.drewN nq = w1 at A1 ⊢
              go_wp2
              go_roundw
              case rel => exact ⟨m, by omega, by omega, by go_num, H3, A1⟩
              case measure => (have := HMM.out; simp [intOf]; try omega)
            · have hl : ltN d[a]! d[j9]! = false := by simpa using hl
              have H3 := hid (show j9 = J2 by
                have := HJ.out
                rw [HMM.out, Sort.scanDown, if_neg (by rw [← HMM.out]; simp [hl])] at this
                rw [HMM.out]
                exact this)
              go_upto_region 5 with fail
              go_quiet (first | (go_at_call 163; exact Calls.quiet_of_same (im_lessF hl _)))
              have A1 := hid (HA.out.drewN nq)
              clear HA x1 x0
              generalize wr.drewN nq = w1 at A1 ⊢
              go_wp2_with fail
              go_meet
              case rel => exact ⟨by rw [← H3.out], A1⟩
          · have hijz : decide ((I2 : Int) ≤ (j9 : Int)) = false := decide_eq_false (by omega)
            have H3 := hid (show j9 = J2 by
              have := HJ.out
              cases j9 with
              | zero => exact this
              | succ m => rw [Sort.scanDown, if_neg (by simp; omega)] at this; exact this)
            go_upto_region 5 with fail
            go_quiet (fail)
            have A1 := hid (HA.out.drewN nq)
            clear HA
            generalize wr.drewN nq = w1 at A1 ⊢
            go_wp2_with fail
            go_meet
            case rel => exact ⟨by rw [← H3.out], A1⟩
      case rest =>
        obtain ⟨rfl, HA⟩ := hcut
        by_cases hgt : I2 > J2
        · have hgz : (J2 : Int) < (I2 : Int) := by omega
          have H3 := hid (show (I2, d) = R0 by have := HR2.out; rw [if_pos hgt] at this; exact this)
          clear HR2 HI2 HJ2
          go_wp2
          first | go_ret | ((try simp only [Exit.inBlock, Exit.then]); go_ret)
          exact ⟨by rw [← H3.out]; rfl, by rw [← H3.out]; exact HA.out⟩
        · have hgz : ¬ ((J2 : Int) < (I2 : Int)) := by omega
          obtain ⟨m, hm⟩ : ∃ m, J2 - 1 = m := ⟨_, rfl⟩
          have hmz : (J2 : Int) - 1 = (m : Int) := by omega
          have H3 := hid (show Sort.partEqLoop ltN a (I2 + 1) m (Sort.swp d I2 J2) = R0 by have := HR2.out; rw [if_neg hgt, hm] at this; exact this)
          clear HR2 HI2 HJ2 hm
          have hiN : (I2 : Int) < (N : Int) := by omega
          have hjN : (J2 : Int) < (N : Int) := by omega
          have x1 := HA.out.cell (show I2 < N by omega)
          have x0 := HA.out.cell (show J2 < N by omega)
          have f1 := HA.out.fz I2
          obtain ⟨u99, y0⟩ := HA.out.sw1 (show I2 < N by omega) (show J2 < N by omega)
          have f0 := (HA.out.set (show I2 < N by omega) d[J2]!).fz J2
          have A2 := hid (HA.out.swap (show I2 < N by omega) (show J2 < N by omega)).drew
          clear HA
          go_upto_region 8 with fail
          go_region
          clear x1 x0 f1 y0 f0
          go_wp2
          go_roundw
          case rel => exact ⟨I2 + 1, m, _, by omega, by omega, by omega, by go_num, by go_num, H3, A2⟩
          case measure => (simp [intOf]; try omega)
end Go.Proofs.YtgandbaejlfppaaGreatDoor
namespace Go.Proofs.YtgandbaejlfppaaGreatDoor
set_option linter.unusedVariables false
set_option linter.unusedSimpArgs false
set_option maxRecDepth 20000
set_option maxHeartbeats 8000000
open Go.RowKit Go.Maps
theorem im_part (G N cp a b pv : Nat) (d0 : Array Nat) (V0 V : World) (A : Au G N cp V0 d0 V) (h1 : a ≤ pv) (h2 : pv < b) (hb : b ≤ N) (hN : N ≤ 100000) :
    Calls Tryz.prog 165 #[.slice (some ⟨G, 0, none⟩) N cp, .int .i64 a, .int .i64 b, .int .i64 pv] V fun r V' => r = .returned (.tuple #[.int .i64 ((Sort.partition ltN d0 a b pv).1 : Nat), .bool (Sort.partition ltN d0 a b pv).2.1]) ∧ Au G N cp V0 (Sort.partition ltN d0 a b pv).2.2 V' := by
  obtain ⟨R0, hR⟩ : ∃ R0, Sort.partition ltN d0 a b pv = R0 := ⟨_, rfl⟩
  rw [hR]
  obtain ⟨i, hi⟩ : ∃ i, a + 1 = i := ⟨_, rfl⟩
  obtain ⟨j, hj⟩ : ∃ j, b - 1 = j := ⟨_, rfl⟩
  have hiz : (a : Int) + 1 = (i : Int) := by omega
  have hjz : (b : Int) - 1 = (j : Int) := by omega
  have HA := hid A
  unfold Sort.partition at hR
  rw [hi, hj] at hR
  have HR := hid hR
  clear hR A
  go_enter Tryz.func165, Tryz.ntmps165
  have hiN : (a : Int) < (N : Int) := by omega
  have hjN : (pv : Int) < (N : Int) := by omega
  have x1 := HA.out.cell (show a < N by omega)
  have x0 := HA.out.cell (show pv < N by omega)
  have f1 := HA.out.fz a
  obtain ⟨u99, y0⟩ := HA.out.sw1 (show a < N by omega) (show pv < N by omega)
  have f0 := (HA.out.set (show a < N by omega) d0[pv]!).fz pv
  have A2 := hid (HA.out.swap (show a < N by omega) (show pv < N by omega)).drew
  clear HA
  go_upto_region 1 with fail
  go_region
  clear x1 x0 f1 y0 f0
  generalize Sort.swp d0 a pv = d at A2 HR
  generalize World.drew _ = w0 at A2 ⊢
  have HA := A2
  clear A2
  obtain ⟨I2, hI2⟩ : ∃ I2, Sort.scanUp (fun x => ltN x d[a]!) d j i = I2 := ⟨_, rfl⟩
  obtain ⟨J2, hJ2⟩ : ∃ J2, Sort.scanDown (fun x => !ltN x d[a]!) d I2 j = J2 := ⟨_, rfl⟩
  have rI : i ≤ I2 ∧ I2 ≤ j + 1 := by rw [← hI2]; exact scanU_range _ d j i (by omega)
  have rJ : I2 ≤ J2 + 1 ∧ J2 ≤ j := by rw [← hJ2]; exact scanD_range _ d I2 j rI.2
  have hne : I2 ≠ J2 := scan_ne (fun x => rfl) (by omega) hI2 hJ2 rJ.2
  have HR2 := hid (show (if I2 > J2 then (J2, true, Sort.swp d J2 a) else ((Sort.partLoop ltN a (I2 + 1) (J2 - 1) (Sort.swp d I2 J2)).1, false, Sort.swp (Sort.partLoop ltN a (I2 + 1) (J2 - 1) (Sort.swp d I2 J2)).2 (Sort.partLoop ltN a (I2 + 1) (J2 - 1) (Sort.swp d I2 J2)).1 a)) = R0 by
    have := HR.out
    simp only [hI2, hJ2] at this
    exact this)
  have HI2 := hid hI2
  have HJ2 := hid hJ2
  clear HR hI2 hJ2
  go_upto_block 0 with fail
  go_cut [10] from 30 to 45 (fun s9 w' => s9 = .int .i64 I2 ∧ Hid (Au G N cp V0 d w'))
  case first =>
    go_wp2_with fail
    go_loopw [10] (fun s9 wr => ∃ (i : Nat), a + 1 ≤ i ∧ i ≤ j + 1 ∧ s9 = .int .i64 i ∧ Hid (Sort.scanUp (fun x => ltN x d[a]!) d j i = I2) ∧ Hid (Au G N cp V0 d wr)) (fun s9 _ => j + 2 - (intOf s9).toNat)
    case atStart => exact ⟨i, by omega, by omega, by go_num, HI2, HA⟩
    case round =>
      clear HI2 HA
      obtain ⟨i, hi1, hi2, rfl, HI, HA⟩ := hrel
      by_cases hij : i ≤ j
      · have hijz : (i : Int) ≤ (j : Int) := by omega
        have hiN : (i : Int) < (N : Int) := by omega
        have haN : (a : Int) < (N : Int) := by omega
        have x1 := HA.out.cell (show i < N by omega)
        have x0 := HA.out.cell (show a < N by omega)
        by_cases hl : ltN d[i]! d[a]! = true
        · have H3 := hid (show Sort.scanUp (fun x => ltN x d[a]!) d j (i + 1) = I2 by
            have := HI.out
            rw [Sort.scanUp, if_pos (by simp [hl, hij])] at this
            exact this)
          go_upto_region 3 with fail
          go_quiet (first | (go_at_call 163; exact Calls.quiet_of_same (im_lessT hl _)))
          have A1 := hid (HA.out.drewN nq)
          clear HA x1 x0
          generalize wr.drewN nq = w1 at A1 ⊢
          go_wp2
          go_roundw
          case rel => exact ⟨i + 1, by omega, by omega, by go_num, H3, A1⟩
          case measure => (simp [intOf]; try omega)
        · have hl : ltN d[i]! d[a]! = false := by simpa using hl
          have H3 := hid (show i = I2 by
            have := HI.out
            rw [Sort.scanUp, if_neg (by simp [hl])] at this
            exact this)
          go_upto_region 3 with fail
          go_quiet (first | (go_at_call 163; exact Calls.quiet_of_same (im_lessF hl _)))
          have A1 := hid (HA.out.drewN nq)
          clear HA x1 x0
          generalize wr.drewN nq = w1 at A1 ⊢
          go_wp2_with fail
          go_meet
          case rel => exact ⟨by rw [← H3.out], A1⟩
      · have hijz : decide ((i : Int) ≤ (j : Int)) = false := decide_eq_false (by omega)
        have H3 := hid (show i = I2 by
          have := HI.out
          rw [Sort.scanUp, if_neg (by simp; omega)] at this
          exact this)
        go_upto_region 3 with fail
        go_quiet (fail)
        have A1 := hid (HA.out.drewN nq)
        clear HA
        generalize wr.drewN nq = w1 at A1 ⊢
        go_wp2_with fail
        go_meet
        case rel => exact ⟨by rw [← H3.out], A1⟩
  case rest =>
    obtain ⟨rfl, HA⟩ := hcut
    go_upto_block 2 with fail
    go_cut [11] from 46 to 62 (fun s10 w' => s10 = .int .i64 J2 ∧ Hid (Au G N cp V0 d w'))
    case first =>
      go_wp2_with fail
      go_loopw [11] (fun s10 wr => ∃ (j9 : Nat), I2 ≤ j9 + 1 ∧ j9 ≤ j ∧ s10 = .int .i64 j9 ∧ Hid (Sort.scanDown (fun x => !ltN x d[a]!) d I2 j9 = J2) ∧ Hid (Au G N cp V0 d wr)) (fun s10 _ => (intOf s10).toNat)
      case atStart => exact ⟨j, by omega, by omega, by go_num, HJ2, HA⟩
      case round =>
        clear HJ2 HA
        obtain ⟨j9, hj1, hj2, rfl, HJ, HA⟩ := hrel
        by_cases hij : I2 ≤ j9
        · obtain ⟨m, hm⟩ : ∃ m, j9 = m + 1 := ⟨j9 - 1, by omega⟩
          have HMM := hid hm
          have hijz : (I2 : Int) ≤ (j9 : Int) := by omega
          have hmz : (j9 : Int) - 1 = (m : Int) := by omega
          have hiN : (j9 : Int) < (N : Int) := by omega
          have haN : (a : Int) < (N : Int) := by omega
          have x1 := HA.out.cell (show j9 < N by omega)
          have x0 := HA.out.cell (show a < N by omega)
          clear hm
          by_cases hl : ltN d[j9]! d[a]! = false
          · have H3 := hid (show Sort.scanDown (fun x => !ltN x d[a]!) d I2 m = J2 by
              have := HJ.out
              rw [HMM.out, Sort.scanDown, if_pos (by rw [← HMM.out]; simp [hl, hij])] at this
              exact this)
            go_upto_region 5 with fail
            go_quiet (first | (go_at_call 163; exact Calls.quiet_of_same (im_lessF hl _)))
            have A1 := hid (HA.out.drewN nq)
            clear HA x1 x0
            generalize wr.drewN nq = w1 at A1 ⊢
            go_wp2
            go_roundw
            case rel => exact ⟨m, by omega, by omega, by go_num, H3, A1⟩
            case measure => (have := HMM.out; simp [intOf]; try omega)
          · have hl : ltN d[j9]! d[a]! = true := by simpa using hl
            have H3 := hid (show j9 = J2 by
              have := HJ.out
              rw [HMM.out, Sort.scanDown, if_neg (by rw [← HMM.out]; simp [hl])] at this
              rw [HMM.out]
              exact this)
            go_upto_region 5 with fail
            go_quiet (first | (go_at_call 163; exact Calls.quiet_of_same (im_lessT hl _)))
            have A1 := hid (HA.out.drewN nq)
            clear HA x1 x0
            generalize wr.drewN nq = w1 at A1 ⊢
            go_wp2_with fail
            go_meet
            case rel => exact ⟨by rw [← H3.out], A1⟩
        · have hijz : decide ((I2 : Int) ≤ (j9 : Int)) = false := decide_eq_false (by omega)
          have H3 := hid (show j9 = J2 by
            have := HJ.out
            cases j9 with
            | zero => exact this
            | succ m => rw [Sort.scanDown, if_neg (by simp; omega)] at this; exact this)
          go_upto_region 5 with fail
          go_quiet (fail)
          have A1 := hid (HA.out.drewN nq)
          clear HA
          generalize wr.drewN nq = w1 at A1 ⊢
          go_wp2_with fail
          go_meet
          case rel => exact ⟨by rw [← H3.out], A1⟩
    case rest =>
      obtain ⟨rfl, HA⟩ := hcut
      by_cases hgt : I2 > J2
      · have hgz : (J2 : Int) < (I2 : Int) := by omega
        have H3 := hid (show (J2, true, Sort.swp d J2 a) = R0 by have := HR2.out; rw [if_pos hgt] at this; exact this)
        clear HR2 HI2 HJ2
        have hiN : (J2 : Int) < (N : Int) := by omega
        have hjN : (a : Int) < (N : Int) := by omega
        have x1 := HA.out.cell (show J2 < N by omega)
        have x0 := HA.out.cell (show a < N by omega)
        have f1 := HA.out.fz J2
        obtain ⟨u99, y0⟩ := HA.out.sw1 (show J2 < N by omega) (show a < N by omega)
        have f0 := (HA.out.set (show J2 < N by omega) d[a]!).fz a
        have A2 := hid (HA.out.swap (show J2 < N by omega) (show a < N by omega)).drew
        clear HA
        go_upto_region 8 with fail
        go_region
        clear x1 x0 f1 y0 f0
        go_wp2
        refine bodyPost_ret (results_pair rfl _ _) rfl ?_
        exact ⟨by rw [← H3.out]; rfl, by rw [← H3.out]; exact A2.out⟩
      · have hgz : ¬ ((J2 : Int) < (I2 : Int)) := by omega
        obtain ⟨R1, hR1⟩ : ∃ R1, Sort.partLoop ltN a (I2 + 1) (J2 - 1) (Sort.swp d I2 J2) = R1 := ⟨_, rfl⟩
        have HR3 := hid (show (R1.1, false, Sort.swp R1.2 R1.1 a) = R0 by have := HR2.out; rw [if_neg hgt, hR1] at this; exact this)
        obtain ⟨m, hm⟩ : ∃ m, J2 - 1 = m := ⟨_, rfl⟩
        have hmz : (J2 : Int) - 1 = (m : Int) := by omega
        rw [hm] at hR1
        have HR4 := hid hR1
        clear HR2 HI2 HJ2 hR1 hm
        have hiN : (I2 : Int) < (N : Int) := by omega
        have hjN : (J2 : Int) < (N : Int) := by omega
        have x1 := HA.out.cell (show I2 < N by omega)
        have x0 := HA.out.cell (show J2 < N by omega)
        have f1 := HA.out.fz I2
        obtain ⟨u99, y0⟩ := HA.out.sw1 (show I2 < N by omega) (show J2 < N by omega)
        have f0 := (HA.out.set (show I2 < N by omega) d[J2]!).fz J2
        have A2 := hid (HA.out.swap (show I2 < N by omega) (show J2 < N by omega)).drew
        clear HA
        go_upto_region 10 with fail
        go_region
        clear x1 x0 f1 y0 f0
        go_wp2_with fail
        go_loopw [10, 11] (fun s10 s11 wr => ∃ (i j : Nat) (d : Array Nat), a + 1 ≤ i ∧ i ≤ j + 1 ∧ j < b ∧ s10 = .int .i64 i ∧ s11 = .int .i64 j ∧ Hid (Sort.partLoop ltN a i j d = R1) ∧ Hid (Au G N cp V0 d wr)) (fun s10 _ _ => b + 1 - (intOf s10).toNat)
        case atStart => exact ⟨I2 + 1, m, _, by omega, by omega, by omega, by go_num, by go_num, HR4, A2⟩
        case round =>
          clear HR4 A2 hiz hjz hmz hi hj
          clear rI rJ hne
          obtain ⟨i, j, d, hi1, hi2, hj, rfl, rfl, HR, HA⟩ := hrel
          obtain ⟨I2, hI2⟩ : ∃ I2, Sort.scanUp (fun x => ltN x d[a]!) d j i = I2 := ⟨_, rfl⟩
          obtain ⟨J2, hJ2⟩ : ∃ J2, Sort.scanDown (fun x => !ltN x d[a]!) d I2 j = J2 := ⟨_, rfl⟩
          have rI : i ≤ I2 ∧ I2 ≤ j + 1 := by rw [← hI2]; exact scanU_range _ d j i (by omega)
          have rJ : I2 ≤ J2 + 1 ∧ J2 ≤ j := by rw [← hJ2]; exact scanD_range _ d I2 j rI.2
          have hne : I2 ≠ J2 := scan_ne (fun x => rfl) (by omega) hI2 hJ2 rJ.2
          have HR2 := hid (show (if I2 > J2 then (J2, d) else Sort.partLoop ltN a (I2 + 1) (J2 - 1) (Sort.swp d I2 J2)) = R1 by
            have := HR.out
            rw [Sort.partLoop_eq, hI2, hJ2] at this
            exact this)
          have HI2 := hid hI2
          have HJ2 := hid hJ2
          clear HR hI2 hJ2
          go_upto_block 6 with fail
          go_cut [10] from 99 to 114 (fun s9 w' => s9 = .int .i64 I2 ∧ Hid (Au G N cp V0 d w'))
          case first =>
            go_wp2_with fail
            go_loopw [10] (fun s9 wr => ∃ (i : Nat), a + 1 ≤ i ∧ i ≤ j + 1 ∧ s9 = .int .i64 i ∧ Hid (Sort.scanUp (fun x => ltN x d[a]!) d j i = I2) ∧ Hid (Au G N cp V0 d wr)) (fun s9 _ => j + 2 - (intOf s9).toNat)
            case atStart => exact ⟨i, by omega, by omega, by go_num, HI2, HA⟩
            case round =>
              clear HI2 HA
              obtain ⟨i, hi1, hi2, rfl, HI, HA⟩ := hrel
              by_cases hij : i ≤ j
              · have hijz : (i : Int) ≤ (j : Int) := by omega
                have hiN : (i : Int) < (N : Int) := by omega
                have haN : (a : Int) < (N : Int) := by omega
                have x1 := HA.out.cell (show i < N by omega)
                have x0 := HA.out.cell (show a < N by omega)
                by_cases hl : ltN d[i]! d[a]! = true
                · have H3 := hid (show Sort.scanUp (fun x => ltN x d[a]!) d j (i + 1) = I2 by
                    have := HI.out
                    rw [Sort.scanUp, if_pos (by simp [hl, hij])] at this
                    exact this)
                  go_upto_region 13 with fail
                  go_quiet (first | (go_at_call 163; exact Calls.quiet_of_same (im_lessT hl _)))
                  have A1 := hid (HA.out.drewN nq)
                  clear HA x1 x0
                  generalize wr.drewN nq = w1 at A1 ⊢
                  go_wp2
                  go_roundw
                  case rel => exact ⟨i + 1, by omega, by omega, by go_num, H3, A1⟩
                  case measure => (simp [intOf]; try omega)
                · have hl : ltN d[i]! d[a]! = false := by simpa using hl
                  have H3 := hid (show i = I2 by
                    have := HI.out
                    rw [Sort.scanUp, if_neg (by simp [hl])] at this
                    exact this)
                  go_upto_region 13 with fail
                  go_quiet (first | (go_at_call 163; exact Calls.quiet_of_same (im_lessF hl _)))
                  have A1 := hid (HA.out.drewN nq)
                  clear HA x1 x0
                  generalize wr.drewN nq = w1 at A1 ⊢
                  go_wp2_with fail
                  go_meet
                  case rel => exact ⟨by rw [← H3.out], A1⟩
              · have hijz : decide ((i : Int) ≤ (j : Int)) = false := decide_eq_false (by omega)
                have H3 := hid (show i = I2 by
                  have := HI.out
                  rw [Sort.scanUp, if_neg (by simp; omega)] at this
                  exact this)
                go_upto_region 13 with fail
                go_quiet (fail)
                have A1 := hid (HA.out.drewN nq)
                clear HA
                generalize wr.drewN nq = w1 at A1 ⊢
                go_wp2_with fail
                go_meet
                case rel => exact ⟨by rw [← H3.out], A1⟩
          case rest =>
            obtain ⟨rfl, HA⟩ := hcut
            go_upto_block 8 with fail
            go_cut [11] from 115 to 131 (fun s10 w' => s10 = .int .i64 J2 ∧ Hid (Au G N cp V0 d w'))
            case first =>
              go_wp2_with fail
              go_loopw [11] (fun s10 wr => ∃ (j9 : Nat), I2 ≤ j9 + 1 ∧ j9 ≤ j ∧ s10 = .int .i64 j9 ∧ Hid (Sort.scanDown (fun x => !ltN x d[a]!) d I2 j9 = J2) ∧ Hid (Au G N cp V0 d wr)) (fun s10 _ => (intOf s10).toNat)
              case atStart => exact ⟨j, by omega, by omega, by go_num, HJ2, HA⟩
              case round =>
                clear HJ2 HA
                obtain ⟨j9, hj1, hj2, rfl, HJ, HA⟩ := hrel
                by_cases hij : I2 ≤ j9
                · obtain ⟨m, hm⟩ : ∃ m, j9 = m + 1 := ⟨j9 - 1, by omega⟩
                  have HMM := hid hm
                  have hijz : (I2 : Int) ≤ (j9 : Int) := by omega
                  have hmz : (j9 : Int) - 1 = (m : Int) := by omega
                  have hiN : (j9 : Int) < (N : Int) := by omega
                  have haN : (a : Int) < (N : Int) := by omega
                  have x1 := HA.out.cell (show j9 < N by omega)
                  have x0 := HA.out.cell (show a < N by omega)
                  clear hm
                  by_cases hl : ltN d[j9]! d[a]! = false
                  · have H3 := hid (show Sort.scanDown (fun x => !ltN x d[a]!) d I2 m = J2 by
                      have := HJ.out
                      rw [HMM.out, Sort.scanDown, if_pos (by rw [← HMM.out]; simp [hl, hij])] at this
                      exact this)
                    go_upto_region 15 with fail
                    go_quiet (first | (go_at_call 163; exact Calls.quiet_of_same (im_lessF hl _)))
                    have A1 := hid (HA.out.drewN nq)
                    clear HA x1 x0
                    generalize wr.drewN nq = w1 at A1 ⊢
                    go_wp2
                    go_roundw
                    case rel => exact ⟨m, by omega, by omega, by go_num, H3, A1⟩
                    case measure => (have := HMM.out; simp [intOf]; try omega)
                  · have hl : ltN d[j9]! d[a]! = true := by simpa using hl
                    have H3 := hid (show j9 = J2 by
                      have := HJ.out
                      rw [HMM.out, Sort.scanDown, if_neg (by rw [← HMM.out]; simp [hl])] at this
                      rw [HMM.out]
                      exact this)
                    go_upto_region 15 with fail
                    go_quiet (first | (go_at_call 163; exact Calls.quiet_of_same (im_lessT hl _)))
                    have A1 := hid (HA.out.drewN nq)
                    clear HA x1 x0
                    generalize wr.drewN nq = w1 at A1 ⊢
                    go_wp2_with fail
                    go_meet
                    case rel => exact ⟨by rw [← H3.out], A1⟩
                · have hijz : decide ((I2 : Int) ≤ (j9 : Int)) = false := decide_eq_false (by omega)
                  have H3 := hid (show j9 = J2 by
                    have := HJ.out
                    cases j9 with
                    | zero => exact this
                    | succ m => rw [Sort.scanDown, if_neg (by simp; omega)] at this; exact this)
                  go_upto_region 15 with fail
                  go_quiet (fail)
                  have A1 := hid (HA.out.drewN nq)
                  clear HA
                  generalize wr.drewN nq = w1 at A1 ⊢
                  go_wp2_with fail
                  go_meet
                  case rel => exact ⟨by rw [← H3.out], A1⟩
            case rest =>
              obtain ⟨rfl, HA⟩ := hcut
              by_cases hgt : I2 > J2
              · have hgz : (J2 : Int) < (I2 : Int) := by omega
                have H3 := hid (show (J2, d) = R1 by have := HR2.out; rw [if_pos hgt] at this; exact this)
                have H4 := hid (show (J2, false, Sort.swp d J2 a) = R0 by rw [← HR3.out, ← H3.out])
                clear HR2 HI2 HJ2
                have hiN : (J2 : Int) < (N : Int) := by omega
                have hjN : (a : Int) < (N : Int) := by omega
                have x1 := HA.out.cell (show J2 < N by omega)
                have x0 := HA.out.cell (show a < N by omega)
                have f1 := HA.out.fz J2
                obtain ⟨u99, y0⟩ := HA.out.sw1 (show J2 < N by omega) (show a < N by omega)
                have f0 := (HA.out.set (show J2 < N by omega) d[a]!).fz a
                have A2 := hid (HA.out.swap (show J2 < N by omega) (show a < N by omega)).drew
                clear HA
                go_upto_region 21 with fail
                go_region
                clear x1 x0 f1 y0 f0
                go_wp2
                refine bodyPost_ret (results_pair rfl _ _) rfl ?_
                exact ⟨by rw [← H4.out]; rfl, by rw [← H4.out]; exact A2.out⟩
              · have hgz : ¬ ((J2 : Int) < (I2 : Int)) := by omega
                obtain ⟨m, hm⟩ : ∃ m, J2 - 1 = m := ⟨_, rfl⟩
                have hmz : (J2 : Int) - 1 = (m : Int) := by omega
                have H3 := hid (show Sort.partLoop ltN a (I2 + 1) m (Sort.swp d I2 J2) = R1 by have := HR2.out; rw [if_neg hgt, hm] at this; exact this)
                clear HR2 HI2 HJ2 hm
                have hiN : (I2 : Int) < (N : Int) := by omega
                have hjN : (J2 : Int) < (N : Int) := by omega
                have x1 := HA.out.cell (show I2 < N by omega)
                have x0 := HA.out.cell (show J2 < N by omega)
                have f1 := HA.out.fz I2
                obtain ⟨u99, y0⟩ := HA.out.sw1 (show I2 < N by omega) (show J2 < N by omega)
                have f0 := (HA.out.set (show I2 < N by omega) d[J2]!).fz J2
                have A2 := hid (HA.out.swap (show I2 < N by omega) (show J2 < N by omega)).drew
                clear HA
                go_upto_region 18 with fail
                go_region
                clear x1 x0 f1 y0 f0
                go_wp2
                go_roundw
                case rel => exact ⟨I2 + 1, m, _, by omega, by omega, by omega, by go_num, by go_num, H3, A2⟩
                case measure => (simp [intOf]; try omega)
end Go.Proofs.YtgandbaejlfppaaGreatDoor
