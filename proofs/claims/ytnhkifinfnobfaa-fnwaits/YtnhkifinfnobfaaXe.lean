import Derived.Test.YtnhkifinfnobfaaXd
namespace Go.Proofs.Ytnhkifinfnobfaa
open Go.ChangeShapes Go.WideShapes Go.ChangeAt Go.RowKit
set_option linter.unusedVariables false

/-- what the draws of a run may be -/
def Drawn (w : World) (e : Ending) (w' : World) : Prop :=
  ∃ (mix lim : Int) (slots draws : List Int) (a2 : Option Addr) (c2 : Nat) (a3 : Option Addr) (c3 : Nat), e = .returned (.tuple #[.int .i64 mix, .int .i64 lim, .slice a2 slots.length c2, .slice a3 draws.length c3]) ∧ Sl w' a2 slots ∧ Sl w' a3 draws ∧ slots.length ≤ 2001 ∧ (nb 0 slots = true → slots = rampIn 0 slots.length) ∧ Below w.heap.size w w'

theorem results_four {P : Program} {fn : Func} {p q r t : Tmp} (h : fn.results = #[.tmp p, .tmp q, .tmp r, .tmp t]) (tmps : Array Value) (w : World) : (results fn tmps).run P w = .ok (.tuple #[tmps.getD p undef, tmps.getD q undef, tmps.getD r undef, tmps.getD t undef]) w := by
  simp [results, h]

theorem Dw.fin {w0 : World} {a : Option Addr} {len cap R j : Nat} {a2 : Option Addr} {c2 : Nat} {a3 : Option Addr} {c3 : Nat} {ds : List Int} {W : World} (h : Dw w0 a len cap R j a2 c2 a3 c3 ds W) (hj : j ≤ 2001) (mix lim : Int) :
    Drawn w0 (.returned (.tuple #[.int .i64 mix, .int .i64 lim, .slice a2 j c2, .slice a3 ds.length c3])) W :=
  ⟨mix, lim, rampIn 0 j, ds, a2, c2, a3, c3, by rw [rampIn_len], h.s.sl, h.d.sl, by rw [rampIn_len]; exact hj, fun _ => by rw [rampIn_len], h.rd.bel⟩
theorem Dw.bad {w0 : World} {a : Option Addr} {len cap R j : Nat} {a2 : Option Addr} {c2 : Nat} {a3 : Option Addr} {c3 : Nat} {ds : List Int} {W : World} (h : Dw w0 a len cap R j a2 c2 a3 c3 ds W) (hj : j ≤ 2001) (h0 : 0 < j) (mix lim : Int) :
    ∃ g, a2 = some ⟨g, 0, none⟩ ∧ W.cell? ⟨g, j / 2, none⟩ = some (.int .i64 (j / 2 : Nat)) ∧ W.frozen? ⟨g, j / 2, none⟩ = false ∧ Drawn w0 (.returned (.tuple #[.int .i64 mix, .int .i64 lim, .slice (some ⟨g, 0, none⟩) j c2, .slice a3 ds.length c3])) (W.setCell ⟨g, j / 2, none⟩ (.int .i64 (-1))) := by
  obtain ⟨g, rfl, hr⟩ : ∃ g, a2 = some ⟨g, 0, none⟩ ∧ RowV W g 3 (Ns .i64 (rampIn 0 j)) := by
    rcases h.s.sl with ⟨_, e⟩ | e
    · have := rampIn_len 0 j; rw [e] at this; simp at this; omega
    · exact e
  have hl : j / 2 < j := by omega
  have hc := cell_n hr (j / 2) (by rw [rampIn_len]; exact hl)
  rw [rampIn_get 0 j (j / 2) hl] at hc
  simp only [Option.getD_some, Nat.zero_add] at hc
  have hset := hr.set (j / 2) (by rw [Ns_len, rampIn_len]; exact hl) (.int .i64 (-1))
  rw [Ns_set] at hset
  have hgb := (h.s.base g rfl).1
  refine ⟨g, rfl, hc, hr.free _, mix, lim, (rampIn 0 j).set (j / 2) (-1), ds, _, c2, a3, c3, by rw [List.length_set, rampIn_len], .inr ⟨g, rfl, hset⟩, ?_, by rw [List.length_set, rampIn_len]; exact hj, fun hn => ?_, h.rd.bel.setCell (by have := h.rd.new; dsimp only; omega) _⟩
  · exact (h.d.but (S := fun k => k = g) ((But.refl _ W).set _ _ _ rfl) (fun g' e e' => by subst e'; exact h.ap _ rfl e)).sl
  · exfalso
    have := nb_iff.1 hn (-1) (List.mem_set (by rw [rampIn_len]; exact hl) _)
    omega

set_option maxRecDepth 20000 in
set_option maxHeartbeats 2000000 in
theorem draw_in (a : Option Addr) (len cap : Nat) (zs : List Int) (w : World) (h0 : IsRow .u8 w a len cap zs) (hlen : len ≤ 1048576) :
    Calls Try.prog 6 #[.slice a len cap] w fun e w' => Drawn w e w' := by
  have N := hid (fun R W h => next_in w a len cap zs h0 hlen R W h)
  have R0 := hid (show Rd w a len cap w.heap.size (w.alloc (.cells #[.slice a len cap, .int .i64 0] 45)) from ⟨⟨0, Nat.zero_le _, al_last _ _⟩, (Below.refl _ w).alloc (Nat.le_refl _) _, Nat.le_refl _⟩)
  clear h0
  go_enter Try.func6, Try.ntmps6
  go_wp2_with fail
  generalize w.heap.size = R at R0 ⊢
  refine (N.out _ _ R0.out).mono ?_
  rintro e W1 ⟨⟨k, hk, rfl⟩, r1, bx⟩
  clear bx
  have R1 := hid r1
  clear r1 R0
  go_upto_block 0 with fail
  go_cut [8, 9] (fun s8 s9 w => ∃ mx lm : Int, s8 = .int .i64 mx ∧ s9 = .int .i64 lm ∧ w = W1)
  case first =>
    by_cases h1 : 252 ≤ k
    · go_wp2
      go_meet
      case rel => exact ⟨_, _, rfl, rfl, rfl⟩
    · by_cases h2 : 248 ≤ k
      · go_wp2
        go_meet
        case rel => exact ⟨_, _, rfl, rfl, rfl⟩
      · by_cases h3 : 246 ≤ k
        · go_wp2
          go_meet
          case rel => exact ⟨_, _, rfl, rfl, rfl⟩
        · go_wp2
          go_meet
          case rel => exact ⟨_, _, rfl, rfl, rfl⟩
  case rest =>
    obtain ⟨mx, lm, rfl, rfl, rfl⟩ := hcut
    go_wp2_with fail
    refine (N.out _ _ R1.out).mono ?_
    rintro e W2 ⟨⟨n0, hn0, rfl⟩, r2, bx⟩
    clear bx
    have R2 := hid r2
    clear r2 R1
    go_upto_if 44 with fail
    go_cut [12] (fun s12 w' => ∃ n : Nat, n ≤ 2001 ∧ s12 = .int .i64 n ∧ Hid (Rd w a len cap R w'))
    case first =>
      by_cases h240 : k = 240
      · subst h240
        go_wp2_with fail
        refine (N.out _ _ R2.out).mono ?_
        rintro e W3 ⟨⟨n1, hn1, rfl⟩, r3, bx⟩
        clear bx
        have R3 := hid r3
        clear r3
        go_wp2
        go_meet
        case rel => exact ⟨2000 + n1 % 2, by omega, int_cast (by omega), R3⟩
      · have h240' : ((k : Int) == 240) = false := by simp; omega
        go_wp2
        go_meet
        case rel => exact ⟨n0 % 60, by omega, int_cast (by omega), R2⟩
    case rest =>
      obtain ⟨n, hn, rfl, R3⟩ := hcut
      clear R2
      go_wp2
      have D0 := hid (show Dw w a len cap R 0 none 0 none 0 [] wc from ⟨R3.out, Ow.nil _ _, Ow.nil _ _, fun g e => by cases e⟩)
      clear R3
      go_loopw [10, 11, 13] (fun s t i wr => ∃ (j : Nat) (a2 : Option Addr) (c2 : Nat) (a3 : Option Addr) (c3 : Nat) (ds : List Int), j ≤ n ∧ ds.length ≤ j ∧ s = .slice a2 j c2 ∧ t = .slice a3 ds.length c3 ∧ i = .int .i64 j ∧ Hid (Dw w a len cap R j a2 c2 a3 c3 ds wr)) (fun _ _ i _ => n - (intOf i).toNat)
      case atStart => exact ⟨0, none, 0, none, 0, [], Nat.zero_le _, Nat.le_refl _, rfl, rfl, rfl, D0⟩
      case round =>
        obtain ⟨j, a2, c2, a3, c3, ds, hj, hds, rfl, rfl, rfl, HD0⟩ := hrel
        clear D0
        by_cases hlt : j < n
        · obtain ⟨a', c', W4, happ, hd1⟩ := HD0.out.slot (by omega)
          have HS := hid hd1
          clear hd1 HD0
          by_cases h3 : j % 3 < 2
          · have h3' : (j : Int) % 3 < 2 := by omega
            go_wp2_with (at_builtin; refine wpList_app rfl (.tmp 54) (.tmp 56) (by with_reducible rfl) rfl rfl rfl happ ?_)
            refine (N.out _ _ HS.out.rd).mono ?_
            rintro e W5 ⟨⟨c, hc, rfl⟩, r5, bx⟩
            have H5 := hid (HS.out.but r5 bx)
            clear r5 bx HS happ
            obtain ⟨a'', c'', W6, happ2, hd2⟩ := H5.out.draw (by omega) ((c : Int) - 100)
            have HD := hid hd2
            clear hd2 H5
            go_wp2_with (at_builtin; refine wpList_app rfl (.tmp 66) (.tmp 70) (by with_reducible rfl) rfl rfl rfl happ2 ?_)
            go_roundw
            case rel => exact ⟨j + 1, _, _, _, _, ds ++ [(c : Int) - 100], by omega, by rw [List.length_append]; simp; omega, rfl, by rw [List.length_append]; rfl, by go_num, HD⟩
            case measure => simp [intOf]; omega
          · have h3' : ¬ ((j : Int) % 3 < 2) := by omega
            by_cases hk2 : k % 2 = 1
            · have hk2' : ((k : Int) % 2 == 1) = true := by simp; omega
              go_wp2_with (at_builtin; refine wpList_app rfl (.tmp 54) (.tmp 56) (by with_reducible rfl) rfl rfl rfl happ ?_)
              refine (N.out _ _ HS.out.rd).mono ?_
              rintro e W5 ⟨⟨c, hc, rfl⟩, r5, bx⟩
              have H5 := hid (HS.out.but r5 bx)
              clear r5 bx HS happ
              obtain ⟨a'', c'', W6, happ2, hd2⟩ := H5.out.draw (by omega) ((c : Int) - 100)
              have HD := hid hd2
              clear hd2 H5
              go_wp2_with (at_builtin; refine wpList_app rfl (.tmp 66) (.tmp 70) (by with_reducible rfl) rfl rfl rfl happ2 ?_)
              go_roundw
              case rel => exact ⟨j + 1, _, _, _, _, ds ++ [(c : Int) - 100], by omega, by rw [List.length_append]; simp; omega, rfl, by rw [List.length_append]; rfl, by go_num, HD⟩
              case measure => simp [intOf]; omega
            · have hk2' : ((k : Int) % 2 == 1) = false := by simp; omega
              go_wp2_with (at_builtin; refine wpList_app rfl (.tmp 54) (.tmp 56) (by with_reducible rfl) rfl rfl rfl happ ?_)
              go_roundw
              case rel => exact ⟨j + 1, _, _, _, _, ds, by omega, by omega, rfl, rfl, by go_num, HS⟩
              case measure => simp [intOf]; omega
        · obtain rfl : n = j := by omega
          by_cases h241 : k = 241 ∧ 0 < n
          · obtain ⟨rfl, hn0⟩ := h241
            obtain ⟨g, rfl, hc, hf, hfin⟩ := HD0.out.bad hn hn0 mx lm
            have HF := hid hfin
            clear hfin HD0
            have hb : n / 2 < n := by omega
            have hn0' : (0 : Int) < (n : Int) := by omega
            go_wp2
            refine bodyPost_ret (results_four (by rfl) _ _) (by rfl) ?_
            exact HF.out
          · have HF := hid (HD0.out.fin hn mx lm)
            clear HD0
            by_cases hk1 : k = 241
            · have hn0' : ¬ ((0 : Int) < (n : Int)) := by omega
              subst hk1
              go_wp2
              refine bodyPost_ret (results_four (by rfl) _ _) (by rfl) ?_
              exact HF.out
            · have hk1' : ((k : Int) == 241) = false := by simp; omega
              go_wp2
              refine bodyPost_ret (results_four (by rfl) _ _) (by rfl) ?_
              exact HF.out
end Go.Proofs.Ytnhkifinfnobfaa
