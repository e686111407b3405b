import Derived.Test.YtcefihmnnndleaaDoorRtA
import Derived.Deep.DeepCutAuto
import Derived.BigQuiet
namespace Go.Proofs.YtcefihmnnndleaaDoor
open Go.ChangeShapes Go.WideShapes Go.ChangeAt Go.RowKit
set_option linter.unusedVariables false
set_option maxRecDepth 20000
set_option linter.unusedSimpArgs false
set_option maxHeartbeats 1000000 in
theorem im_text_no (s : ByteArray) (v0 : Value) (w : World) (hs : 20000 < s.size) (hs2 : s.size ≤ 1048576) (h0 : w.cell? ⟨0, 0, none⟩ = some v0) :
    Calls Tryd.prog 22 #[.string s] w fun e w' => e = .returned (.tuple #[.pointer none, v0]) ∧ Below w.heap.size w w' := by
  have h9 : decide ((s.size : Int) > 20000) = true := by simp; omega
  go_enter Tryd.func22, Tryd.ntmps22
  go_wp2_with fail
  go_quiet (fail)
  go_wp2_with fail
  go_ret2
  exact ⟨rfl, below_drewN' (Below.refl _ _) _⟩
theorem lineM_G (i : Nat) (l : List UInt8) (s : RdS) : lineM i l s = (lineS s (wordsM l [])).getD { s with bad := s.bad ++ [((i + 1 : Nat) : Int)] } := by
  rw [lineM_S]
  cases lineS s (wordsM l []) <;> rfl
theorem ClF.keepG {B S p k : Nat} {W W' : World} {fs : List Nat} (h : ClF W S p k fs) (g : Gb B S W W') (h1 : S < p) (h2 : p + 3 < B) : ClF W' S p k fs :=
  ⟨by rw [g.block _ (by omega) (by omega)]; exact h.b0, by rw [g.block _ (by omega) (by omega)]; exact h.b1, by rw [g.block _ (by omega) (by omega)]; exact h.b2, by rw [g.block _ (by omega) (by omega)]; exact h.b3⟩
theorem Mp.keepG {B S M : Nat} {W W' : World} {es : List (List UInt8 × Value)} (h : Mp W M es) (g : Gb B S W W') (h1 : M < B) (h2 : M ≠ S) : Mp W' M es := by
  obtain ⟨arr, c, h3, h4⟩ := h
  exact ⟨arr, c, by rw [g.block _ h1 h2]; exact h3, h4⟩
theorem gb_al {B S : Nat} {w w' : World} (h : Gb B S w w') {k : Nat} (h1 : k < B) (h2 : k ≠ S) {a : Nat} {v : Value} (hc : w.cell? ⟨k, a, none⟩ = some v) : w'.cell? ⟨k, a, none⟩ = some v := by rw [h.cell h1 h2]; exact hc
theorem lt_cell {w : World} {g a : Nat} {v : Value} (h : w.cell? ⟨g, a, none⟩ = some v) : g < w.heap.size := by
  unfold World.cell? at h
  split at h
  · rename_i h8; exact lt_of_block h8
  · cases h
set_option maxHeartbeats 2000000 in
theorem im_text (s : ByteArray) (a1 : Addr) (mx : Int) (w : World) (hs : s.size ≤ 20000) (h1 : w.cell? ⟨1, 0, none⟩ = some (.iface 141 (.pointer (some a1)))) (hm : w.cell? ⟨2, 0, none⟩ = some (.int .i64 mx)) :
    Calls Tryd.prog 22 #[.string s] w fun e w' => ∃ S B dv ov bd ps, e = .returned (.tuple #[.pointer (some ⟨S, 0, none⟩), .nilIface]) ∧ w.heap.size ≤ S ∧ Below w.heap.size w w' ∧ Ss B S w' (readM s.data.toList) dv ov bd ps := by
  have h9 : decide ((s.size : Int) > 20000) = false := by simp; omega
  obtain ⟨W1, hW1⟩ : ∃ W, W = w.alloc (.cells #[.int .i64 2, .int .i64 4, .int .i64 2, .int .i64 100, .int .u64 1, .slice none 0 0, .slice none 0 0, .slice none 0 0] 57) := ⟨_, rfl⟩
  have hb1 : Below w.heap.size w W1 := by rw [hW1]; exact (Below.refl _ w).alloc (Nat.le_refl _) _
  have hbx1 : Bx W1 w.heap.size 57 startC := by rw [hW1]; exact al_last _ _
  have hl1 := lt_cell h1
  obtain ⟨S, hS⟩ : ∃ S, S = w.heap.size := ⟨_, rfl⟩
  have hO := im_orders S W1
  have HSP := hid (split_read s.data.toList (by rw [← Lib.size_eq]; exact hs))
  have HSL := hid (show (splitM s.data.toList []).length ≤ 20001 by have := split_len s.data.toList []; rw [← Lib.size_eq] at this; omega)
  have HSM := hid (show ∀ x ∈ splitM s.data.toList [], x.length ≤ 20000 from fun x hx => by have := split_mem s.data.toList [] x hx; rw [← Lib.size_eq] at this; simp at this; omega)
  have h1b := below_cell hb1 h1
  have hmb := below_cell hb1 hm
  have HB1 := hid hb1
  have HBX := hid hbx1
  have HS := hid hS
  have hsz : W1.heap.size = w.heap.size + 1 := by rw [hW1]; simp
  have HSZ := hid hsz
  have HL1 := hid hl1
  clear hb1 hbx1 hsz hl1 h1 hm
  go_enter Tryd.func22, Tryd.ntmps22
  go_upto_region 4 with fail
  refine Eq.mp (congrArg _ hW1) ?_
  rw [← hS]
  clear hW1 hS
  go_wp2_with fail
  refine hO.mono ?_
  rintro e w1 ⟨rfl, hb2, p, hM, hp, hcl⟩
  have hmc := below_cell hb2 hmb
  have h1c := below_cell hb2 h1b
  have hC := im_split s mx w1 (by omega) hmc
  unfold nl at hC
  have HB2 := hid hb2
  have HM := hid hM
  have HP := hid hp
  have HCL := hid hcl
  have H1 := hid h1c
  clear hO hb2 hM hp hcl hmc h1c h1b hmb
  go_wp2_with fail
  refine hC.mono ?_
  rintro e w2 ⟨rfl, hw2⟩
  obtain ⟨ls, hls⟩ : ∃ ls, ls = splitM s.data.toList [] := ⟨_, rfl⟩
  rw [← hls] at HSP HSL HSM hw2 ⊢
  obtain ⟨N, hN⟩ : ∃ N, N = ls.length := ⟨_, rfl⟩
  rw [← hN] at HSL ⊢
  have hNl : N ≤ 20001 := HSL.out
  obtain ⟨R, hR⟩ : ∃ R, R = w1.heap.size := ⟨_, rfl⟩
  rw [← hR]
  have hbw : Below w1.heap.size w1 w2 := by rw [hw2]; exact (Below.refl _ w1).alloc (Nat.le_refl _) _
  have HROW := hid (show ∀ k, k < N → w2.cell? ⟨R, k, none⟩ = some (.string (bs (ls.getD k []))) from fun k hk => by
    have hb : w2.heap[R]? = some (.cells (ls.map wv).toArray 9 (0, 0)) := by rw [hw2, hR]; exact al_last _ _
    have hk' : k < ls.length := by omega
    rw [cell_of_row _ _ k _ _ _ hb]
    simp [hk', wv])
  have hB : ∃ B, B = w2.heap.size := ⟨_, rfl⟩
  obtain ⟨B, hB⟩ := hB
  have hB2 : B = R + 1 := by rw [hB, hw2, hR]; simp
  have hSR : S < R := by rw [hR]; have := HB2.out.size; have := HSZ.out; have := HS.out; omega
  have HSS := hid (show ∃ dv ov bd ps, Ss B S w2 startM dv ov bd ps from ⟨nil0, nil0, nil0, [], Ss.start (by
    have h8 := HBX.out
    rw [← HS.out] at h8
    exact (h8.below HB2.out h8.lt).below hbw (by have := h8.lt; have := HB2.out.size; omega)) (by omega) (by omega)⟩)
  have HM2 := hid (HM.out.below hbw)
  have HCL2 := hid (show ∀ i fs, fsO[i]? = some fs → ClF w2 S (p i) i fs ∧ p i + 3 < R from fun i fs hf => by
    have h8 := HCL.out i fs hf
    refine ⟨⟨?_, ?_, ?_, ?_⟩, ?_⟩
    · rw [hbw.block _ (lt_of_block h8.b0)]; exact h8.b0
    · rw [hbw.block _ (lt_of_block h8.b1)]; exact h8.b1
    · rw [hbw.block _ (lt_of_block h8.b2)]; exact h8.b2
    · rw [hbw.block _ (lt_of_block h8.b3)]; exact h8.b3
    · have := lt_of_block h8.b3; rw [hR]; omega)
  have h1w := below_cell hbw H1.out
  have H12 := hid h1w
  have HW2 := hid (show Below w.heap.size w w2 from HB1.out.trans ((HB2.out.trans (hbw.mono HB2.out.size)).mono HB1.out.size))
  have HN := hid hN
  have HRB := hid (And.intro hB2 (And.intro hSR (And.intro hB hR)))
  have HLT := hid (show ∀ i, i < 7 → S < p i ∧ p i + 3 < B from fun i hi => by
    have h7 := HP.out i hi
    have h6 := HSZ.out
    have h5 := HS.out
    obtain ⟨fs, hf⟩ : ∃ fs, fsO[i]? = some fs := ⟨fsO[i]'(by simp [fsO]; omega), by simp⟩
    have := (HCL2.out i fs hf).2
    omega)
  obtain ⟨M, hMM⟩ : ∃ M, M = W1.heap.size := ⟨_, rfl⟩
  have HMB := hid (show M < B ∧ M ≠ S from by have := HM2.out.lt; have := HSZ.out; have := HS.out; omega)
  rw [← hMM] at HM2 ⊢
  have HLS := hid hls
  clear hC hls hN hw2 hbw hB hB2 hSR HM HP HCL H1 h1w hMM hR HBX HB2
  go_wp2_with fail
  go_loopw [21] (fun i wr => ∃ (j : Nat) (s5 : RdS), j ≤ N ∧ i = .int .i64 (j : Int) ∧ Hid (∃ dv ov bd ps, Ss B S wr s5 dv ov bd ps) ∧ Hid (Gb B S w2 wr) ∧ Hid (linesF ls 0 startM = linesF (ls.drop j) j s5) ∧ Hid (s5.ops.length ≤ j ∧ s5.cf.draws.length ≤ j * 20001 ∧ s5.bad.length ≤ j)) (fun i _ => N - (intOf i).toNat)
  case atStart => exact ⟨0, startM, by omega, rfl, HSS, hid (Gb.refl _ _ _), hid rfl, hid (by simp [startM])⟩
  case round =>
    obtain ⟨j, s5, hj, rfl, HI, HG, HE, HZ⟩ := hrel
    by_cases hjN : j = N
    · subst hjN
      have HFin := hid (show readM s.data.toList = s5 by rw [HSP.out, HE.out, HN.out, List.drop_length]; rfl)
      clear HE
      go_wp2_with fail
      go_ret2
      obtain ⟨dv, ov, bd, ps, hss⟩ := HI.out
      refine ⟨S, B, dv, ov, bd, ps, rfl, by rw [HS.out]; exact Nat.le_refl _, ?_, by rw [HFin.out]; exact hss⟩
      have hg := HG.out
      have hw := HW2.out
      have hrb := HRB.out
      have hsz := HS.out
      refine ⟨hg.os.trans hw.os, hg.tape.trans hw.tape, hg.out.trans hw.output, Nat.le_trans hw.size hg.size, fun k hk => (hg.block k (by omega) (by omega)).trans (hw.block k hk)⟩
    · have hjl : j < N := by omega
      have hjl' : decide ((j : Int) < (N : Int)) = true := by simp; omega
      have hln := gb_al HG.out (show R < B by have := HRB.out; omega) (by have := HRB.out; omega) (HROW.out j hjl)
      have h1r := gb_al HG.out (show 1 < B by have := HRB.out; have := HL1.out; have := HS.out; omega) (by have := HL1.out; have := HS.out; omega) H12.out
      obtain ⟨sl, hsl⟩ : ∃ t, t = bs (ls.getD j []) := ⟨_, rfl⟩
      rw [← hsl] at hln
      have hmem : (ls.getD j []) ∈ ls := by
        have h7 : j < ls.length := by rw [← HN.out]; exact hjl
        simp [h7]
      have hll := HSM.out _ hmem
      have hW := im_wordsOf sl wr (by rw [hsl, bs_size]; omega)
      rw [hsl, bs_list, ← hsl] at hW
      obtain ⟨q, hq⟩ : ∃ q, q = wordsM (ls.getD j []) [] := ⟨_, rfl⟩
      have HLM := hid (show linesF ls 0 startM = linesF (ls.drop (j + 1)) (j + 1) ((lineS s5 q).getD { s5 with bad := s5.bad ++ [((j + 1 : Nat) : Int)] }) by
        have h7 : j < ls.length := by rw [← HN.out]; exact hjl
        rw [HE.out, linesF_at ls j s5 h7, lineM_G, hq]
        simp [h7])
      have HQL := hid (show q.length ≤ 20001 by rw [hq]; have := words_len (ls.getD j []) []; omega)
      have HQW := hid (show ∀ x ∈ q, 0 < x.length ∧ x.length ≤ 1048576 from fun x hx => by
        rw [hq] at hx
        exact ⟨words_pos _ _ _ hx, by have h5 := words_mem _ _ _ hx; rw [List.length_nil] at h5; omega⟩)
      have HJ := hid hjN
      clear hmem hll HE hjN hsl
      go_wp2_with fail
      refine hW.mono ?_
      rintro e w3 ⟨hb3, A, hA, rfl, hcq⟩
      rw [← hq] at hcq ⊢
      obtain ⟨n, hn⟩ : ∃ n, n = q.length := ⟨_, rfl⟩
      rw [← hn]
      have hg3 : Gb B S w2 w3 := HG.out.trans (Gb.below hb3 (by have h5 := HG.out.size; have h6 := HRB.out; omega))
      obtain ⟨dv, ov, bd, ps, hss⟩ := HI.out
      have h13 := below_cell hb3 h1r
      have hOb := im_obey B S M p a1 A n q s5 dv ov bd ps w3 (hss.below hb3) (HM2.out.keepG hg3 HMB.out.1 HMB.out.2) (fun i fs hf => (HCL2.out i fs hf).1.keepG hg3 (HLT.out i (by
        have h5 := (List.getElem?_eq_some_iff.1 hf).1; simpa [fsO] using h5)).1 (HLT.out i (by have h5 := (List.getElem?_eq_some_iff.1 hf).1; simpa [fsO] using h5)).2) HLT.out hn hcq (by have := HQL.out; omega) HQW.out h13 (by have h5 := HZ.out.2.1; have h6 : j * 20001 ≤ 20001 * 20001 := Nat.mul_le_mul_right _ (by omega); omega) (by have h5 := HZ.out.1; omega)
      have HG3 := hid hg3
      have HQN := hid hn
      clear hW hb3 hcq hg3 hss hn hq HI h1r hln hA
      cases hL : lineS s5 q with
      | some s6 =>
        rw [hL] at hOb
        have HLM2 := hid (show linesF ls 0 startM = linesF (ls.drop (j + 1)) (j + 1) s6 by rw [HLM.out, hL]; rfl)
        have HZ2 := hid (show s6.ops.length ≤ j + 1 ∧ s6.cf.draws.length ≤ (j + 1) * 20001 ∧ s6.bad.length ≤ j + 1 from by
          have h5 := lineS_grow hL
          have h6 := HZ.out
          have h7 := HQL.out
          refine ⟨by omega, by omega, by rw [h5.2.2]; omega⟩)
        clear hL HLM HZ
        go_wp2_with fail
        refine hOb.mono ?_
        rintro e w4 ⟨hg4, rfl, hS4⟩
        have h14 : w4.cell? ⟨1, 0, none⟩ = some (.iface 141 (.pointer (some a1))) := gb_al hg4 (show 1 < B by have := HRB.out; have := HL1.out; have := HS.out; omega) (by have := HL1.out; have := HS.out; omega) h13
        have HS4 := hid hS4
        have HG4 := hid (HG3.out.trans hg4)
        have hI := is_nil a1 w4
        clear hOb hg4 hS4 h13
        go_wp2_with fail
        refine hI.mono ?_
        rintro e w5 ⟨rfl, rfl⟩
        clear hI h14
        go_wp2_with fail
        go_roundw
        case rel => exact ⟨j + 1, s6, by omega, by go_num, HS4, HG4, HLM2, HZ2⟩
        case measure => simp [intOf]; omega
      | none =>
        rw [hL] at hOb
        obtain ⟨s6, hs6⟩ : ∃ s6 : RdS, s6 = { s5 with bad := s5.bad ++ [((j + 1 : Nat) : Int)] } := ⟨_, rfl⟩
        have HLM2 := hid (show linesF ls 0 startM = linesF (ls.drop (j + 1)) (j + 1) s6 by rw [HLM.out, hL, hs6]; rfl)
        have HZ2 := hid (show s6.ops.length ≤ j + 1 ∧ s6.cf.draws.length ≤ (j + 1) * 20001 ∧ s6.bad.length ≤ j + 1 from by
          have h6 := HZ.out
          rw [hs6]
          simp
          omega)
        clear hL HLM
        go_wp2_with fail
        refine hOb.mono ?_
        rintro e w4 ⟨hg4, ⟨v, rfl, hu⟩, hS4⟩
        have h14 : w4.cell? ⟨1, 0, none⟩ = some (.iface 141 (.pointer (some a1))) := gb_al hg4 (show 1 < B by have := HRB.out; have := HL1.out; have := HS.out; omega) (by have := HL1.out; have := HS.out; omega) h13
        have HS4 := hid hS4
        have HG4 := hid (HG3.out.trans hg4)
        have hI : Calls Tryd.prog 23 #[v, .iface 141 (.pointer (some a1))] w4 fun e w' => e = .returned (.bool true) ∧ Below w4.heap.size w4 w' := by
          rcases hu with rfl | ⟨s9, rfl⟩
          · refine (is_same a1 w4).mono ?_
            rintro e w9 ⟨rfl, rfl⟩
            exact ⟨rfl, Below.refl _ _⟩
          · exact is_word s9 a1 w4
        clear hOb hg4 hS4 h13 hu
        go_wp2_with fail
        refine hI.mono ?_
        rintro e w5 ⟨rfl, hb5⟩
        obtain ⟨dv, ov, bd, ps, hss⟩ := HS4.out
        have hg5 := HG4.out.trans (Gb.below hb5 hss.bw)
        have hs5 := hss.below hb5
        obtain ⟨v6, w6, e6, bx6, g6, ⟨ea, em, ec, rfl⟩, ss6⟩ := hs5.badMore (((j + 1 : Nat) : Int)) (by have := HZ.out; omega)
        have HG6 := hid ((hg5.trans g6).set 7 (.slice ea em ec))
        have HS6 := hid (show ∃ dv ov bd ps, Ss B S (w6.setCell ⟨S, 7, none⟩ (.slice ea em ec)) s6 dv ov bd ps from ⟨_, _, _, _, hs6 ▸ ss6⟩)
        obtain ⟨ba, bm, bc, rfl, hbm⟩ := own_sl3 hs5.res.bdo
        have c7 : w5.cell? ⟨S, 7, none⟩ = some (.slice ba bm bc) := hs5.bx.cell 7
        have c7b : w6.cell? ⟨S, 7, none⟩ = some (.slice ba bm bc) := bx6.cell 7
        have f7 := bx6.free 7
        rw [show (((j + 1 : Nat) : Int)) = (j : Int) + 1 by omega] at e6
        clear hI h14 hb5 hss hg5 hs5 bx6 g6 ss6 hbm HS4 HG4 hs6
        go_wp2_with (at_builtin; refine list_app rfl (.tmp 37) (.tmp 40) (by with_reducible rfl) rfl rfl rfl e6 ?_)
        go_roundw
        case rel => exact ⟨j + 1, s6, by omega, by go_num, HS6, HG6, HLM2, HZ2⟩
        case measure => simp [intOf]; omega
end Go.Proofs.YtcefihmnnndleaaDoor
