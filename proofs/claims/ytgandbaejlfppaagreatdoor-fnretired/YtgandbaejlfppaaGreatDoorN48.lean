import Derived.Test.YtgandbaejlfppaaGreatDoorN43
import Derived.Test.YtgandbaejlfppaaGreatDoorN44
import Derived.Test.YtgandbaejlfppaaGreatDoorN46
import Derived.Test.YtgandbaejlfppaaGreatDoorN47
namespace Go.Proofs.YtgandbaejlfppaaGreatDoor
set_option linter.unusedVariables false
set_option linter.unusedSimpArgs false
set_option maxRecDepth 20000
set_option maxHeartbeats 8000000
open Go.RowKit Go.Maps
def Sp9 (a b:Nat) (d d':Array Nat):Prop:=Sort.PermIn a b d d'∧Sort.SortedIn ltN a b d'
theorem hcN_le (h:Sort.Hint):hcN h≤2:=by cases h <;> decide
theorem im_pdq (G N cp : Nat) (V0 : World) (hN : N ≤ 100000) : ∀ (n a0 b0 lim0 : Nat) (d0 : Array Nat) (V : World), b0 - a0 < n → Au G N cp V0 d0 V → a0 ≤ b0 → b0 ≤ N → lim0 ≤ 100 → Sort.Below ltN a0 b0 d0 →
    Calls Tryz.prog 118 #[.slice (some ⟨G, 0, none⟩) N cp, .int .i64 a0, .int .i64 b0, .int .i64 lim0] V fun r V' => r = .returned (.tuple #[]) ∧ ∃ d', Sp9 a0 b0 d0 d' ∧ Au G N cp V0 d' V' := by
  intro n
  induction n with
  | zero => intro _ _ _ _ _ h; exact absurd h (Nat.not_lt_zero _)
  | succ n ih =>
    intro a0 b0 lim0 d0 V hn A hab hb hlim hBel
    have IH := hid ih
    have HA := hid A
    have HB := hid hBel
    have HG := hid (show ∀ d', Sp9 a0 b0 d0 d' → Sp9 a0 b0 d0 d' from fun _ h => h)
    clear ih A hBel
    go_enter Tryz.func118, Tryz.ntmps118
    go_wp2_with fail
    go_loopw [1, 2, 3, 8, 9] (fun s1 s2 s3 s8 s9 wr => ∃ (a b lim : Nat) (wb wp : Bool) (d : Array Nat), s1 = .int .i64 a ∧ s2 = .int .i64 b ∧ s3 = .int .i64 lim ∧ s8 = .bool wb ∧ s9 = .bool wp ∧ a ≤ b ∧ b ≤ b0 ∧ a0 ≤ a ∧ lim ≤ 100 ∧ Hid (Sort.Below ltN a b d) ∧ Hid (∀ d', Sp9 a b d d' → Sp9 a0 b0 d0 d') ∧ Hid (Au G N cp V0 d wr)) (fun s1 s2 _ _ _ _ => (intOf s2 - intOf s1).toNat)
    case atStart => exact ⟨a0, b0, lim0, true, true, d0, rfl, rfl, rfl, rfl, rfl, hab, Nat.le_refl _, Nat.le_refl _, hlim, HB, HG, HA⟩
    case round =>
      clear HB HG HA
      obtain ⟨a, b, lim, wb, wp, d, rfl, rfl, rfl, rfl, rfl, hab2, hb2, ha2, hl2, HB, HG, HA⟩ := hrel
      obtain ⟨L, hL⟩ : ∃ L, b - a = L := ⟨_, rfl⟩
      have hLz : (b : Int) - (a : Int) = (L : Int) := by omega
      have hsz := HA.out.sz
      by_cases h12 : L ≤ 12
      · have h12z : (L : Int) ≤ 12 := by omega
        have H1 := hid (Sort.insertionSort_holds swoN d a b hab2 (by rw [hsz]; omega))
        go_wp2_with fail
        refine (im_ins G N cp a b d V0 _ HA.out (by omega) hN (by omega)).mono ?_
        rintro e w1 ⟨rfl, A1⟩
        have A2 := hid A1
        clear A1 HA
        go_wp2
        first | go_end0 | ((try simp only [Exit.inBlock, Exit.then]); refine bodyPost_ret (results_none rfl _ _ _) rfl ?_)
        exact ⟨rfl, _, HG.out _ H1.out, A2.out⟩
      · have h12z : ¬ ((L : Int) ≤ 12) := by omega
        by_cases hl0 : lim = 0
        · subst hl0
          have H1 := hid (Sort.heapSort_holds swoN d a b hab2 (by rw [hsz]; omega))
          go_wp2_with fail
          refine (im_heap G N cp a b d V0 _ HA.out (by omega) (by omega) hN).mono ?_
          rintro e w1 ⟨rfl, A1⟩
          have A2 := hid A1
          clear A1 HA
          go_wp2
          first | go_end0 | ((try simp only [Exit.inBlock, Exit.then]); refine bodyPost_ret (results_none rfl _ _ _) rfl ?_)
          exact ⟨rfl, _, HG.out _ H1.out, A2.out⟩
        · have hl0z : ¬ ((lim : Int) = 0) := by omega
          go_upto_if 35 with fail
          go_cut [3] from 19 to 133 (fun s3 w' => ∃ (lim1 : Nat) (d1 : Array Nat), s3 = .int .i64 lim1 ∧ lim1 ≤ 100 ∧ Hid (Sort.PermIn a b d d1) ∧ Hid (Au G N cp V0 d1 w'))
          case first =>
            cases wb
            · have H1 := hid (Sort.breakPatterns_holds d a b hab2 (by rw [hsz]; omega))
              obtain ⟨lim1, hlim1⟩ : ∃ lim1, lim - 1 = lim1 := ⟨_, rfl⟩
              have hlz : (lim : Int) - 1 = (lim1 : Int) := by omega
              go_wp2_with fail
              refine (im_break G N cp a b d V0 _ HA.out (by omega) (by omega) hN).mono ?_
              rintro e w1 ⟨rfl, A1⟩
              have A2 := hid A1
              clear A1 HA
              go_wp2_with fail
              go_meet
              case rel => exact ⟨lim1, _, rfl, by omega, H1, A2⟩
            · go_wp2_with fail
              go_meet
              case rel => exact ⟨lim, d, rfl, hl2, hid (Sort.permIn_refl _ _ _), HA⟩
          case rest =>
            obtain ⟨lim1, d1, rfl, hlim1, HP1, HA1⟩ := hcut
            have hsz1 := HA1.out.sz
            have HB1 := hid (HB.out.perm (by rw [hsz]; omega) HP1.out)
            have hcp := Sort.choosePivot_holds ltN d1 a b (by omega)
            have PV := hid (fun V9 (A9 : Au G N cp V0 d1 V9) => im_pivot G N cp a b d1 V0 V9 A9 (by omega) (by omega) hN)
            have hhn := hcN_le (Sort.choosePivot ltN d1 a b).2
            generalize (Sort.choosePivot ltN d1 a b).1 = pv at hcp PV
            generalize hcN (Sort.choosePivot ltN d1 a b).2 = hn9 at PV hhn
            clear HA HB hsz
            go_upto_region 10 with fail
            go_wp2_with fail
            refine (PV.out _ HA1.out).mono ?_
            rintro e w1 ⟨rfl, A1⟩
            have HA2 := hid A1
            clear A1 HA1 PV
            go_upto_if 50 with fail
            go_cut [11, 12] from 19 to 133 (fun s11 s12 w' => ∃ (pv2 hn2 : Nat) (d2 : Array Nat), s11 = .int .i64 pv2 ∧ s12 = .int .i64 hn2 ∧ a ≤ pv2 ∧ pv2 < b ∧ hn2 ≤ 2 ∧ Hid (Sort.PermIn a b d1 d2) ∧ Hid (Au G N cp V0 d2 w'))
            case first =>
              by_cases h2 : hn9 = 2
              · subst h2
                have H1 := hid (Sort.reverseRange_holds d1 a b (by omega) (by rw [hsz1]; omega))
                obtain ⟨b1, hb1⟩ : ∃ b1, b - 1 = b1 := ⟨_, rfl⟩
                obtain ⟨pa, hpa⟩ : ∃ pa, pv - a = pa := ⟨_, rfl⟩
                obtain ⟨p2, hp2⟩ : ∃ p2, b1 - pa = p2 := ⟨_, rfl⟩
                have z1 : (b : Int) - 1 = (b1 : Int) := by omega
                have z2 : (pv : Int) - (a : Int) = (pa : Int) := by omega
                have z3 : (b1 : Int) - (pa : Int) = (p2 : Int) := by omega
                go_wp2_with fail
                refine (im_rev G N cp a b d1 V0 _ HA2.out (by omega) (by omega) hN).mono ?_
                rintro e w1 ⟨rfl, A1⟩
                have A2 := hid A1
                clear A1 HA2
                go_wp2_with fail
                go_meet
                case rel => exact ⟨p2, 1, _, rfl, by go_num, by omega, by omega, by omega, H1, A2⟩
              · have h2z : ¬ ((hn9 : Int) = 2) := by omega
                go_wp2_with fail
                go_meet
                case rel => exact ⟨pv, hn9, d1, rfl, rfl, hcp.1, hcp.2, hhn, hid (Sort.permIn_refl _ _ _), HA2⟩
            case rest =>
              obtain ⟨pv2, hn2, d2, rfl, rfl, hpv1, hpv2, hhn2, HP2, HA3⟩ := hcut
              have hsz2 := HA3.out.sz
              have HB2 := hid (HB1.out.perm (by rw [hsz1]; omega) HP2.out)
              clear HA2 hhn hcp
              go_upto_region 15 with fail
              go_cut [12, 68] from 19 to 133 (fun s12 s68 w' => ∃ bb : Bool, s12 = .int .i64 hn2 ∧ s68 = .bool bb ∧ Hid (Au G N cp V0 d2 w'))
              case first =>
                by_cases h1 : hn2 = 1
                · subst h1
                  cases wb <;> cases wp <;>
                    (go_wp2_with fail
                     go_meet
                     exact ⟨_, rfl, rfl, HA3⟩)
                · have h1z : ¬ ((hn2 : Int) = 1) := by omega
                  cases wb <;> cases wp <;>
                    (go_wp2_with fail
                     go_meet
                     exact ⟨_, rfl, rfl, HA3⟩)
              case rest =>
                obtain ⟨bb, rfl, rfl, HA4⟩ := hcut
                clear HA3
                go_upto_if 68 with fail
                go_cut [] from 19 to 133 (fun w' => ∃ d3 : Array Nat, Hid (Sort.PermIn a b d2 d3) ∧ Hid (Au G N cp V0 d3 w'))
                case first =>
                  cases bb
                  · go_wp2_with fail
                    go_meet
                    case rel => exact ⟨d2, hid (Sort.permIn_refl _ _ _), HA4⟩
                  · obtain ⟨hpi1, hpi2⟩ := Sort.partialInsertionSort_holds swoN d2 a b (by omega) (by rw [hsz2]; omega) HB2.out
                    have PI := hid (im_pins G N cp a b d2 V0 _ HA4.out (by omega) (by omega) hN)
                    generalize Sort.partialInsertionSort ltN d2 a b = R at hpi1 hpi2 PI
                    obtain ⟨d3, br⟩ := R
                    simp only [] at hpi1 hpi2 PI
                    have HPI := hid hpi1
                    cases br
                    · clear hpi1 hpi2
                      go_wp2_with fail
                      refine (PI.out).mono ?_
                      rintro e w1 ⟨rfl, A1⟩
                      have A2 := hid A1
                      clear A1 HA4
                      go_wp2_with fail
                      go_meet
                      case rel => exact ⟨d3, HPI, A2⟩
                    · have HSo := hid (hpi2 rfl)
                      clear hpi1 hpi2
                      go_wp2_with fail
                      refine (PI.out).mono ?_
                      rintro e w1 ⟨rfl, A1⟩
                      have A2 := hid A1
                      clear A1 HA4
                      go_wp2
                      first | go_end0 | ((try simp only [Exit.inBlock, Exit.then]); refine bodyPost_ret (results_none rfl _ _ _) rfl ?_)
                      exact ⟨rfl, d3, HG.out _ ⟨Sort.permIn_trans _ _ _ a b HP1.out (Sort.permIn_trans _ _ _ a b HP2.out HPI.out), HSo.out⟩, A2.out⟩
                case rest =>
                  obtain ⟨d3, HP3, HA5⟩ := hcut
                  clear HA4
                  have hsz3 := HA5.out.sz
                  have HB3 := hid (HB2.out.perm (by rw [hsz2]; omega) HP3.out)
                  have HG3 := hid (show ∀ d', Sp9 a b d3 d' → Sp9 a0 b0 d0 d' from fun d' h => HG.out d' ⟨Sort.permIn_trans _ _ _ a b HP1.out (Sort.permIn_trans _ _ _ a b HP2.out (Sort.permIn_trans _ _ _ a b HP3.out h.1)), h.2⟩)
                  clear HG HP1 HP2 HP3 HB1 HB2 hsz1 hsz2
                  have xp := HA5.out.cell (show pv2 < N by omega)
                  have hpN : (pv2 : Int) < (N : Int) := by omega
                  go_upto_region 17 with fail
                  go_cut [87] from 19 to 133 (fun s87 w' => s87 = .bool (decide (a > 0) && !ltN d3[a - 1]! d3[pv2]!) ∧ Hid (Au G N cp V0 d3 w'))
                  case first =>
                    by_cases ha0 : a > 0
                    · obtain ⟨a1, ha1⟩ : ∃ a1, a - 1 = a1 := ⟨_, rfl⟩
                      have ha0z : (0 : Int) < (a : Int) := by omega
                      have ha1z : (a : Int) - 1 = (a1 : Int) := by omega
                      have ha1N : (a1 : Int) < (N : Int) := by omega
                      have xa := HA5.out.cell (show a1 < N by omega)
                      have HH := hid ha1
                      by_cases hl : ltN d3[a1]! d3[pv2]! = true
                      · clear ha1
                        go_quiet (first | (go_at_call 163; exact Calls.quiet_of_same (im_lessT hl _)))
                        have A1 := hid (HA5.out.drewN nq)
                        go_wp2_with fail
                        go_meet
                        case rel => exact ⟨by rw [HH.out, hl]; simp, A1⟩
                      · have hl : ltN d3[a1]! d3[pv2]! = false := by simpa using hl
                        clear ha1
                        go_quiet (first | (go_at_call 163; exact Calls.quiet_of_same (im_lessF hl _)))
                        have A1 := hid (HA5.out.drewN nq)
                        go_wp2_with fail
                        go_meet
                        case rel => exact ⟨by rw [HH.out, hl]; simp [ha0], A1⟩
                    · have ha0z : decide ((0 : Int) < (a : Int)) = false := decide_eq_false (by omega)
                      go_quiet (fail)
                      have A1 := hid (HA5.out.drewN nq)
                      go_wp2_with fail
                      go_meet
                      case rel => exact ⟨by simp [ha0], A1⟩
                  case rest =>
                    obtain ⟨rfl, HA6⟩ := hcut
                    clear xp HA5
                    cases h87 : (decide (a > 0) && !ltN d3[a - 1]! d3[pv2]!)
                    · obtain ⟨mid, ap, d4, hx⟩ : ∃ mid ap d4, Sort.partition ltN d3 a b pv2 = (mid, ap, d4) := ⟨(Sort.partition ltN d3 a b pv2).1, (Sort.partition ltN d3 a b pv2).2.1, (Sort.partition ltN d3 a b pv2).2.2, rfl⟩
                      obtain ⟨r1, r2, r3, r4, r5, r6, r7⟩ := Sort.round_part swoN (Sort.partition_holds ltN) hpv1 hpv2 (show b ≤ d3.size by rw [hsz3]; omega) HB3.out hx
                      have PT := hid (im_part G N cp a b pv2 d3 V0 _ HA6.out hpv1 hpv2 (by omega) hN)
                      rw [hx] at PT
                      simp only [] at PT
                      have R4 := hid r4
                      have R5 := hid r5
                      have R6 := hid r6
                      have R7 := hid r7
                      clear r4 r5 r6 r7 hx h87
                      obtain ⟨ml, hml⟩ : ∃ ml, mid - a = ml := ⟨_, rfl⟩
                      obtain ⟨mr, hmr⟩ : ∃ mr, b - mid = mr := ⟨_, rfl⟩
                      obtain ⟨l8, hl8⟩ : ∃ l8, L / 8 = l8 := ⟨_, rfl⟩
                      have hmlz : (mid : Int) - (a : Int) = (ml : Int) := by omega
                      have hmrz : (b : Int) - (mid : Int) = (mr : Int) := by omega
                      have hl8z : (L : Int).tdiv 8 = (l8 : Int) := by rw [Int.tdiv_eq_ediv_of_nonneg (by omega)]; omega
                      have hl8y : (L : Int) / 8 = (l8 : Int) := by omega
                      obtain ⟨m1, hm1⟩ : ∃ m1, mid + 1 = m1 := ⟨_, rfl⟩
                      have hm1z : (mid : Int) + 1 = (m1 : Int) := by omega
                      go_upto_region 20 with fail
                      go_wp2_with fail
                      refine (PT.out).mono ?_
                      rintro e w7 ⟨rfl, A7⟩
                      have HA7 := hid A7
                      have hsz4 := A7.sz
                      clear A7 HA6 PT
                      by_cases h4 : ml < mr
                      · have h4z : (ml : Int) < (mr : Int) := by omega
                        have C1 := hid (IH.out a mid lim1 d4 w7 (by omega) HA7.out (by omega) (by omega) hlim1 R4.out)
                        go_wp2_with fail
                        refine (C1.out).mono ?_
                        rintro e w8 ⟨rfl, dL, ⟨pL, sL⟩, A8⟩
                        obtain ⟨hBL, hGL⟩ := R6.out dL pL sL
                        have HA8 := hid A8
                        have HBL := hid (show Sort.Below ltN m1 b dL by rw [← hm1]; exact hBL)
                        have HGL := hid (show ∀ d', Sp9 m1 b dL d' → Sp9 a0 b0 d0 d' from fun d' h => HG3.out d' (hGL d' (by rw [hm1]; exact h.1) (by rw [hm1]; exact h.2)))
                        clear pL sL A8 hBL hGL HA7 C1
                        go_wp2
                        go_roundw
                        case rel => exact ⟨m1, b, lim1, _, ap, dL, by go_num, rfl, rfl, rfl, rfl, by omega, by omega, by omega, hlim1, HBL, HGL, HA8⟩
                        case measure => (simp [intOf]; try omega)
                      · have h4z : ¬ ((ml : Int) < (mr : Int)) := by omega
                        have C1 := hid (IH.out m1 b lim1 d4 w7 (by omega) HA7.out (by omega) (by omega) hlim1 (by rw [← hm1]; exact R5.out))
                        go_wp2_with fail
                        refine (C1.out).mono ?_
                        rintro e w8 ⟨rfl, dL, ⟨pL, sL⟩, A8⟩
                        rw [← hm1] at pL sL
                        obtain ⟨hBL, hGL⟩ := R7.out dL pL sL
                        have HA8 := hid A8
                        have HBL := hid hBL
                        have HGL := hid (show ∀ d', Sp9 a mid dL d' → Sp9 a0 b0 d0 d' from fun d' h => HG3.out d' (hGL d' h.1 h.2))
                        clear pL sL A8 hBL hGL HA7 C1
                        go_wp2
                        go_roundw
                        case rel => exact ⟨a, mid, lim1, _, ap, dL, rfl, rfl, rfl, rfl, rfl, by omega, by omega, by omega, hlim1, HBL, HGL, HA8⟩
                        case measure => (simp [intOf]; try omega)
                    · have h9 : a > 0 ∧ ltN d3[a - 1]! d3[pv2]! = false := by simpa using h87
                      obtain ⟨mid, d4, hx⟩ : ∃ mid d4, Sort.partitionEqual ltN d3 a b pv2 = (mid, d4) := ⟨(Sort.partitionEqual ltN d3 a b pv2).1, (Sort.partitionEqual ltN d3 a b pv2).2, rfl⟩
                      obtain ⟨r1, r2, r3, r4, r5⟩ := Sort.round_eq swoN (Sort.partitionEqual_holds ltN) h9.1 hpv1 hpv2 (show b ≤ d3.size by rw [hsz3]; omega) HB3.out h9.2 hx
                      have PT := hid (im_peq G N cp a b pv2 d3 V0 _ HA6.out hpv1 hpv2 (by omega) hN)
                      rw [hx] at PT
                      simp only [] at PT
                      have HB4 := hid r4
                      have HG4 := hid (show ∀ d', Sp9 mid b d4 d' → Sp9 a0 b0 d0 d' from fun d' h => HG3.out d' (r5 d' h.1 h.2))
                      clear r4 r5 hx h87 h9
                      go_wp2_with fail
                      refine (PT.out).mono ?_
                      rintro e w7 ⟨rfl, A7⟩
                      have HA7 := hid A7
                      clear A7 HA6 PT
                      go_wp2
                      go_roundw
                      case rel => exact ⟨mid, b, lim1, wb, wp, d4, rfl, rfl, rfl, rfl, rfl, by omega, by omega, by omega, hlim1, HB4, HG4, HA7⟩
                      case measure => (simp [intOf]; try omega)
end Go.Proofs.YtgandbaejlfppaaGreatDoor
namespace Go.Proofs.YtgandbaejlfppaaGreatDoor
set_option linter.unusedVariables false
set_option linter.unusedSimpArgs false
set_option maxRecDepth 20000
set_option maxHeartbeats 8000000
open Go.RowKit Go.Maps
theorem im_len (n:Nat) (hn:n < 18446744073709551616) (w:World):Calls Tryz.prog 114 #[Vu (n:Nat)] w fun e w'=>e=.returned (Vi (Sort.bitsLen n:Nat))∧w'=w:=by
 have h:=Any.bits_Len (SlLaysF0.n15.bits (P:=Tryz.prog) (ρ:=Tryz.sortR_ren) { Tryz.sortR with }) (n:Int) w (by omega) (by omega);rw [Int.toNat_natCast,bitLen_eq _ (by omega)] at h;exact h
theorem own_self {W:World} {B:Nat} {e:TypeId} {sz:Nat} {G n cap:Nat} {xs:List Value} (h:W.ownsRow B e sz (Vl G n cap) n xs):W.ownsRow G e sz (Vl G n cap) n xs:=by
 refine⟨h.1,?_⟩
 rcases h.2 with ⟨e,_⟩|⟨g,cap',cur,e,h1,h2⟩
 ·cases e
 cases e
 exact .inr ⟨G,cap,cur,rfl,Nat.le_refl _,h2⟩
theorem im_ins0 (W:World):Calls Tryz.prog 157 #[Vn,Vi 0,Vi 0] W fun e W'=>e=.returned (.tuple #[])∧W'=W:=by
 go_enter Tryz.func157,Tryz.ntmps157;go_wp2_with fail;go_loopw [6] (fun s6 wr=>s6=Vi 1∧wr=W) (fun s6 _=>0)
 case atStart=>exact ⟨rfl,rfl⟩
 case round =>
  obtain⟨rfl,rfl⟩:=hrel;go_wp2
  go_end0
  exact⟨rfl,rfl⟩
theorem im_pdq0 (W:World) (lim:Nat):Calls Tryz.prog 118 #[Vn,Vi 0,Vi 0,Vi (lim:Nat)] W fun e W'=>e=.returned (.tuple #[])∧W'=W:=by
 go_enter Tryz.func118,Tryz.ntmps118;go_wp2_with fail;go_loopw [1,2,3,8,9] (fun s1 s2 s3 s8 s9 wr=>s1=Vi 0∧s2=Vi 0∧wr=W) (fun _ _ _ _ _ _=>0)
 case atStart=>exact ⟨rfl,rfl,rfl⟩
 case round =>
  obtain⟨rfl,rfl,rfl⟩:=hrel;go_wp2_with fail;refine (im_ins0 wr).mono ?_;rintro e w1 ⟨rfl,rfl⟩;go_wp2
  first|go_end0|((try simp only [Exit.inBlock,Exit.then]);refine bodyPost_ret (results_none rfl _ _ _) rfl ?_)
  exact⟨rfl,rfl⟩
theorem im_sort (W:World) (B:Nat) (v:Value) (l:List Nat) (hr:W.ownsRow B 23 1 v l.length (Us l)) (hl:l.length≤1000) :
  Calls Tryz.prog 85 #[v] W fun e W'=>e=.returned (.tuple #[])∧∃ l',l'.Perm l∧l'.Pairwise (fun a b=>a≤b)∧W'.ownsRow B 23 1 v l.length (Us l')∧Below B W W':=by
 rcases hr.2 with ⟨rfl,h0⟩|⟨G,cap,cur,hv,hG,h2⟩
 ·have hl0:l=[]:=List.length_eq_zero_iff.1 h0;subst hl0;have LN:=hid (im_len 0 (by omega));have PD:=hid (im_pdq0 · (Sort.bitsLen 0));go_enter Tryz.func85,Tryz.ntmps85;go_wp2_with fail;refine (LN.out _).mono ?_;rintro e w1 ⟨rfl,rfl⟩;go_wp2_with fail;refine (PD.out _).mono ?_;rintro e w1 ⟨rfl,rfl⟩;go_wp2
  go_end0
  exact⟨rfl,[],List.Perm.refl _,List.Pairwise.nil,hr,Below.refl _ _⟩
 subst hv;obtain⟨N,hN⟩:∃ N,l.length=N:=⟨_,rfl⟩;rw [hN] at hr hl ⊢;have A:Au G N cap W l.toArray W:=⟨by simpa using hN,own_self hr,Below.refl _ _⟩;have HA:=hid A;have hbl:Sort.bitsLen N≤100:=by
  have:=(Sort.bitsLen_le_iff N 20).2 (by omega);omega
 have LN:=hid (im_len N (by omega));have PD:=hid (im_pdq G N cap W (by omega) (N+1) 0 N (Sort.bitsLen N) l.toArray W (by omega) A (by omega) (Nat.le_refl _) hbl (Or.inl rfl));have HR:=hid hr;have HN:=hid hN;clear A hr h2;go_enter Tryz.func85,Tryz.ntmps85;go_wp2_with fail;refine (LN.out _).mono ?_;rintro e w1 ⟨rfl,rfl⟩;generalize Sort.bitsLen N=bl at *;go_wp2_with fail;refine (PD.out).mono ?_;rintro e w1 ⟨rfl,d',⟨hp,hs⟩,A1⟩;have H1:=hid (And.intro hp (And.intro hs A1));clear hp hs A1 PD;go_wp2
 go_end0
 obtain⟨hp,hs,A1⟩:=H1.out;have hsz:l.toArray.size=N:=by simpa using HN.out
 have e1:(l.toArray.extract 0 N).toList=l:=by rw [←hsz];simp
 have e2:(d'.extract 0 N).toList=d'.toList:=by rw [←A1.sz];simp
 have hp2:=hp.2.2;rw [e1,e2] at hp2;refine⟨rfl,d'.toList,hp2,?_,own_mono9 A1.row hG,A1.bel.mono hG⟩;rw [List.pairwise_iff_getElem];intro i j hi hj hij;have hi':i < d'.size:=by simpa using hi
 have hj':j < d'.size:=by simpa using hj
 have:=hs i j (Nat.zero_le _) hij (by rw [←A1.sz];exact hj');rw [getElem!_pos d' i hi',getElem!_pos d' j hj'] at this;simp [ltN] at this;simpa using this
theorem sortedC:SortedC:=by
 intro X va vn vc l W base hX hr hl;obtain⟨a9,c9,e9⟩:=own_sl2 hr
 cases e9
 have AS:Hid (Calls Tryz.prog 117 #[Vn,.func (.func 86) #[] #[Vp X 0]] W fun e W'=>∃ v,e=.returned v∧W'.ownsRow W.heap.size 23 1 v l.length (Us l)∧Below W.heap.size W W'):=hid ((callsIn_wide (n:=5)).1 (im_appendSeq_in X va vc base l W hX hr hl));have hf:Calls Tryz.prog 84 #[.func (.func 86) #[] #[Vp X 0]] W fun e W'=>∃ v,e=.returned v∧W'.ownsRow W.heap.size 23 1 v l.length (Us l)∧Below W.heap.size W W':=by
  clear hX hr hl;go_enter Tryz.func84,Tryz.ntmps84;go_wp2_with fail;refine (AS.out).mono ?_;rintro e w1 ⟨v,rfl,hv,b1⟩;have H1:=hid (And.intro hv b1);clear hv b1;go_wp2;go_ret;exact⟨v,rfl,H1.out.1,H1.out.2⟩
 have HF:=hid hf;have HL:=hid hl;clear hX hr hl hf AS;go_enter Tryz.func46,Tryz.ntmps46;go_wp2_with fail;refine (HF.out).mono ?_;rintro e w1 ⟨v,rfl,hv,b1⟩;have ST:=hid (im_sort w1 W.heap.size v l hv HL.out);have H1:=hid b1;clear hv b1 HF;go_wp2_with fail;refine (ST.out).mono ?_;rintro e w2 ⟨rfl,l',hp,hs,ho,b2⟩;have H2:=hid (And.intro hp (And.intro hs (And.intro ho (H1.out.trans b2))));clear hp hs ho b2 ST H1;go_wp2;go_ret;exact⟨v,l',rfl,H2.out.1,H2.out.2.1,H2.out.2.2.1,H2.out.2.2.2⟩
end Go.Proofs.YtgandbaejlfppaaGreatDoor
