import Derived.Test.YthcimbocchoehaaWalkQ
import Derived.Deep.LoopGhost

namespace Go.Proofs.Ythcimbocchoehaa
open Go.ChangeShapes Go.WideShapes Go.ChangeAt Go.RowKit
set_option linter.unusedVariables false

theorem frees_min (zs : List Int) (j k : Nat) (h : j < k) : (frees zs (min (j + 1) k)).length = (frees zs (min j k)).length + (if bitAt zs j then 0 else 1) := by
  rw [Nat.min_eq_left (by omega), Nat.min_eq_left (by omega)]
  cases hb : bitAt zs j
  · rw [frees_off zs j hb]; simp
  · rw [frees_on zs j hb]; simp

set_option maxRecDepth 100000 in
set_option maxHeartbeats 4000000 in
theorem law_bits (a0 : Option Addr) (len0 cap0 : Nat) (z0 : List Int) (w : World) (hz : IsRow .u8 w a0 len0 cap0 z0) :
    Calls Try.prog 3 #[.slice a0 len0 cap0] w fun e w' => e = .returned (.bool true) ∧ Below w.heap.size w w' := by
  by_cases hlen : 1048576 < len0
  · have hl' : ((1048576 : Int) < (len0 : Int)) := by omega
    go_enter Try.func3, Try.ntmps3
    go_wp2
    go_ret
    exact ⟨rfl, Below.refl _ _⟩
  · have hlen' : len0 ≤ 1048576 := by omega
    have DR := hid (draw_put w a0 len0 cap0 z0 hz hlen')
    clear hlen hz
    go_enter Try.func3, Try.ntmps3
    go_wp2_with fail
    refine DR.out.mono ?_
    rintro e x1 ⟨g, L, c, zs, n, i, b0, rfl, rfl, hL2, hw, hn1, hn2, hi1, hi2, hrow, hbel⟩
    have R1 := hid (And.intro hrow hbel)
    have PI := hid (fun g c (ys : List Int) i on W (hl : ys.length = zs.length) (hw : Wf ys) hr => impl_put g zs.length c ys n i on W hl (by omega) hw hr)
    have PS := hid (fun W hr => spec_put g zs.length c zs n i true W rfl hw hr)
    have HB := hid (fun W hr => impl_has g zs.length c zs n i W rfl (by omega) hw hr)
    have HW := hid hw
    clear hrow hbel hw DR
    go_wp2_with fail
    refine (PI.out g c zs i true _ rfl HW.out R1.out.1).mono ?_
    rintro e x2 (⟨ho, rfl, b2⟩ | ⟨ho, go, co, rfl, hgo, ron, b2⟩)
    · have R2 := hid (And.intro (R1.out.1.below b2 R1.out.1.lt) (bl_trans R1.out.2 b2))
      have HO := hid ho
      clear b2 ho
      go_wp2_with fail
      refine (PS.out _ R2.out.1).mono ?_
      rintro e x3 (⟨_, rfl, b3⟩ | ⟨ho', _⟩)
      rotate_left
      · exact absurd (HO.out.symm.trans ho') (by decide)
      have R3 := hid (And.intro (R2.out.1.below b3 R2.out.1.lt) (bl_trans R2.out.2 b3))
      clear b3
      go_wp2_with fail
      refine (HB.out _ R3.out.1).mono ?_
      rintro e x4 ⟨rfl, b4⟩
      have B4 := hid (bl_trans R3.out.2 b4)
      have hf : hasB zs n i = false := by
        have := HO.out
        unfold putOk at this
        unfold hasB
        rw [Bool.and_assoc (goodB zs n), this]; rfl
      rw [hf]
      clear b4 hf
      go_wp2
      go_ret
      exact ⟨rfl, B4.out⟩
    · have hp := ho
      unfold putOk at hp
      simp only [Bool.and_eq_true, decide_eq_true_eq] at hp
      obtain ⟨hg, hi0, hin⟩ := hp
      obtain ⟨k, rfl⟩ := Int.eq_ofNat_of_zero_le hi0
      obtain ⟨m, rfl⟩ := Int.eq_ofNat_of_zero_le (good_n zs n hg).1
      have hm := good_n zs m hg
      simp only [Int.toNat_natCast] at hm ron
      have hk : k < m := by omega
      have W2 := hid (And.intro (R1.out.1.below b2 R1.out.1.lt) (And.intro ron (bl_trans R1.out.2 b2)))
      have HO := hid ho
      have HG := hid (And.intro hg hm)
      clear b2 ho hg ron hgo hi0 hin hn1 hn2 hi1 hi2 hm
      go_wp2_with fail
      refine (PS.out _ W2.out.1).mono ?_
      rintro e x3 (⟨ho', _⟩ | ⟨_, gs, cs, rfl, _, _, b3⟩)
      · exact absurd (ho'.symm.trans HO.out) (by decide)
      have W3 := hid (And.intro (W2.out.1.below b3 W2.out.1.lt) (And.intro (W2.out.2.1.below b3 W2.out.2.1.lt) (bl_trans W2.out.2.2 b3)))
      clear b3
      go_wp2_with fail
      refine (PI.out go co (putZ zs k true) k false _ (putZ_len zs k true) (putZ_wf zs HW.out k true) W3.out.2.1).mono ?_
      rintro e x4 (⟨ho', _⟩ | ⟨_, gf, cf, rfl, _, roff, b4⟩)
      · refine absurd ho' ?_
        unfold putOk
        rw [put_good HW.out (by have := HG.out.2.2.1; omega) HG.out.2.2.2 HG.out.1 hk true]
        simp; omega
      rw [putZ_len]
      simp only [Int.toNat_natCast] at roff
      have T4 := hid (show Tri w zs k g go gf x4 from ⟨W3.out.1.below b4 W3.out.1.lt, W3.out.2.1.below b4 W3.out.2.1.lt, roff, bl_trans W3.out.2.2 b4⟩)
      obtain ⟨P, F, S, Fo, hP, hF, hF2, hFo, hS, SY⟩ := says w zs m k g c go co gf cf HW.out (by have := HG.out.2.2.1; omega) HG.out.2.2.2 HG.out.1 hk
      have SAY := hid SY
      have hmm : m ≤ 4096 := by have := HG.out.2.2.1; omega
      have HF := hid hF
      clear b4 roff SY hF
      go_wp2_with fail
      refine (SAY.out.hasOn _ T4.out).mono ?_
      rintro e y1 ⟨rfl, t⟩
      have T5 := hid t
      clear t T4
      go_wp2_with fail
      refine (SAY.out.hasOff _ T5.out).mono ?_
      rintro e y2 ⟨rfl, t⟩
      have T6 := hid t
      clear t T5
      go_wp2_with fail
      refine (SAY.out.cntOn _ T6.out).mono ?_
      rintro e y3 ⟨rfl, t⟩
      have T7 := hid t
      clear t T6
      go_wp2_with fail
      refine (SAY.out.cntOff _ T7.out).mono ?_
      rintro e y4 ⟨rfl, t⟩
      have T8 := hid t
      clear t T7
      go_wp2_with fail
      refine (SAY.out.was _ T8.out).mono ?_
      rintro e y5 ⟨rfl, t⟩
      have T9 := hid t
      clear t T8
      go_wp2_with fail
      refine (SAY.out.hasB _ T9.out).mono ?_
      rintro e y6 ⟨rfl, t⟩
      have T10 := hid t
      clear t T9
      cases hb : bitAt zs k
      all_goals
        simp only [Bool.toNat_true, Bool.toNat_false]
        clear hb
        go_wp2_with fail
        refine (SAY.out.cntOn _ T10.out).mono ?_
        rintro e y7 ⟨rfl, t⟩
        have T11 := hid t
        clear t
        go_wp2_with fail
        refine (SAY.out.scanOff _ T11.out).mono ?_
        rintro e y8 ⟨rfl, t⟩
        have T12 := hid t
        clear t T11
        go_wp2_with fail
        go_loopg [13, 14] m (fun gh s13 s14 wr => ∃ j : Nat, j + gh = m ∧ s14 = .int .i64 j ∧ s13 = .int .i64 ((frees zs (min j k)).length : Nat) ∧ Hid (Tri w zs k g go gf wr))
        case atStart => exact ⟨0, by omega, rfl, by simp [frees], T12.out⟩
        case round =>
          obtain ⟨j, hj, rfl, rfl, ht⟩ := hrel
          by_cases hlt : j < m
          · have hfl := frees_len zs (min j k)
            have hfm : (frees zs (min j k)).length ≤ 4096 := by omega
            clear hfl
            by_cases hjk : j = k
            · have q1 : ((j : Int) != (k : Int)) = false := by simp; omega
              have q2 : k ≤ j := by omega
              have q3 : (frees zs (min (j + 1) k)).length = (frees zs (min j k)).length := by rw [Nat.min_eq_right (by omega), Nat.min_eq_right (by omega)]
              have Q3 := hid q3
              clear q3 hjk
              generalize (frees zs (min j k)).length = f at *
              go_wp2
              go_roundg (m - (j + 1))
              case measure => omega
              case rel => exact ⟨j + 1, by omega, by go_num, by rw [Q3.out], ht⟩
            · have q1 : ((j : Int) != (k : Int)) = true := by simp; omega
              by_cases hlk : j < k
              · have Q3 := hid (frees_min zs j k hlk)
                generalize (frees zs (min j k)).length = f at *
                go_wp2_with fail
                refine (SAY.out.eachOn j hlt hjk _ ht.out).mono ?_
                rintro e z1 ⟨rfl, t⟩
                have U1 := hid t
                clear t
                go_wp2_with fail
                refine (SAY.out.eachB j hlt _ U1.out).mono ?_
                rintro e z2 ⟨rfl, t⟩
                have U2 := hid t
                clear t U1
                go_wp2_with fail
                refine (SAY.out.eachOff j hlt hjk _ U2.out).mono ?_
                rintro e z3 ⟨rfl, t⟩
                have U3 := hid t
                clear t U2
                go_wp2_with fail
                refine (SAY.out.eachB j hlt _ U3.out).mono ?_
                rintro e z4 ⟨rfl, t⟩
                have U4 := hid t
                clear t U3
                go_wp2_with fail
                refine (SAY.out.eachB j hlt _ U4.out).mono ?_
                rintro e z5 ⟨rfl, t⟩
                have U5 := hid t
                clear t U4
                cases hbj : bitAt zs j
                · rw [hbj] at Q3
                  clear hbj
                  go_wp2
                  go_roundg (m - (j + 1))
                  case measure => omega
                  case rel => exact ⟨j + 1, by omega, by go_num, by rw [Q3.out]; simp, U5.out⟩
                · rw [hbj] at Q3
                  clear hbj
                  go_wp2
                  go_roundg (m - (j + 1))
                  case measure => omega
                  case rel => exact ⟨j + 1, by omega, by go_num, by rw [Q3.out]; simp, U5.out⟩
              · have q3 : (frees zs (min (j + 1) k)).length = (frees zs (min j k)).length := by rw [Nat.min_eq_right (by omega), Nat.min_eq_right (by omega)]
                have Q3 := hid q3
                have q2 : k ≤ j := by omega
                clear q3
                generalize (frees zs (min j k)).length = f at *
                go_wp2_with fail
                refine (SAY.out.eachOn j hlt hjk _ ht.out).mono ?_
                rintro e z1 ⟨rfl, t⟩
                have U1 := hid t
                clear t
                go_wp2_with fail
                refine (SAY.out.eachB j hlt _ U1.out).mono ?_
                rintro e z2 ⟨rfl, t⟩
                have U2 := hid t
                clear t U1
                go_wp2_with fail
                refine (SAY.out.eachOff j hlt hjk _ U2.out).mono ?_
                rintro e z3 ⟨rfl, t⟩
                have U3 := hid t
                clear t U2
                go_wp2_with fail
                refine (SAY.out.eachB j hlt _ U3.out).mono ?_
                rintro e z4 ⟨rfl, t⟩
                have U4 := hid t
                clear t U3
                go_wp2
                go_roundg (m - (j + 1))
                case measure => omega
                case rel => exact ⟨j + 1, by omega, by go_num, by rw [Q3.out], U4.out⟩
          · have q3 : (frees zs (min j k)).length = F := by rw [HF.out, Nat.min_eq_right (by omega)]
            rw [q3]
            clear q3
            go_wp2_with fail
            refine (SAY.out.freeOff _ ht.out).mono ?_
            rintro e z1 ⟨rfl, t⟩
            have U1 := hid t
            clear t
            go_wp2_with fail
            refine (SAY.out.freeOn _ U1.out).mono ?_
            rintro e z2 ⟨rfl, t⟩
            have U2 := hid t
            clear t U1
            have q4 : (Fo == (k : Int)) = false := by simpa using hFo
            go_wp2_with fail
            refine (SAY.out.scanOn _ U2.out).mono ?_
            rintro e z3 ⟨rfl, t⟩
            have U3 := hid t
            clear t U2 q4
            rcases hS with ⟨rfl, hpm⟩ | ⟨hS0, hSm, hpm⟩
            · have q5 : ((P : Int) + 1 == (m : Int)) = true := by simp; omega
              go_wp2
              go_ret
              exact ⟨rfl, U3.out.bel⟩
            · have q5 : ((P : Int) + 1 == (m : Int)) = false := by simp; omega
              have q6 : (S == -1) = false := by simp; omega
              have q7 : ¬ S < 0 := by omega
              go_wp2_with fail
              refine (SAY.out.hasOnS _ U3.out hS0).mono ?_
              rintro e z4 ⟨rfl, t⟩
              have U4 := hid t
              clear t
              go_wp2
              go_ret
              exact ⟨rfl, U4.out.bel⟩
end Go.Proofs.Ythcimbocchoehaa
