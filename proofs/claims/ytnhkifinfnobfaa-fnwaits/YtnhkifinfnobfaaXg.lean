import Derived.Test.YtnhkifinfnobfaaXf
namespace Go.Proofs.Ytnhkifinfnobfaa
open Go.ChangeShapes Go.WideShapes Go.ChangeAt Go.RowKit
set_option linter.unusedVariables false

theorem wpA_good {mix fifo : List Int} {n : Nat} {x : Int} (d : Int) (hg : goodM mix fifo (n : Nat) = true) (hx : 0 ≤ x) : wpA mix fifo (n : Nat) x d = ((wpM n mix fifo x d).1, (wpM n mix fifo x d).2.1, (n : Int), (wpM n mix fifo x d).2.2) := by
  unfold wpA
  rw [if_pos (by rw [hg]; simpa using hx)]
  simp only [Int.toNat_natCast]

/-- the law's own quarantine while its places are laid -/
structure L1 (w : World) (o n k : Nat) (a : Option Addr) (c : Nat) (W : World) : Prop where
  ob : W.heap[o]? = some (.cells #[.slice a k c, .slice none 0 0, .int .i64 (n : Nat)] 29 (0, 0))
  ow : Ow W (o + 1) a c (List.replicate k (-1))
  b : Below w.heap.size w W
  lo : w.heap.size ≤ o
theorem L1.next {w : World} {o n k : Nat} {a : Option Addr} {c : Nat} {W : World} (h : L1 w o n k a c W) (hk : k ≤ 16) :
    ∃ a' c' W', (Builtin.append_ #[23, 23] 23 #[.slice a k c, .slice (some ⟨W.heap.size, 0, none⟩) 1 1]).run Try.prog (W.alloc (.cells #[.int .i64 (-1)] 3)) = .ok (.slice a' (k + 1) c') W' ∧ W'.cell? ⟨o, 0, none⟩ = some (.slice a k c) ∧ W'.frozen? ⟨o, 0, none⟩ = false ∧ L1 w o n (k + 1) a' c' (W'.setCell ⟨o, 0, none⟩ (.slice a' (k + 1) c')) := by
  have ol := lt_blk h.ob
  obtain ⟨a', c', W', hr, hw, hb⟩ := app_one W (o + 1) a c (List.replicate k (-1)) (-1) h.ow (by simp; omega) (by omega)
  rw [List.length_replicate] at hr
  rw [rep_snoc] at hw
  have ho := hb.at h.ob (by omega)
  have hlo := h.lo
  refine ⟨a', c', W', hr, by rw [cell_of_row _ _ _ _ _ _ ho]; rfl, frozen_of_row _ _ _ _ _ ho, ⟨?_, ?_, ?_, h.lo⟩⟩
  · rw [heap_setCell_same _ _ _ _ _ _ ho]; rfl
  · exact hw.but (S := fun k => k = o) ((But.refl _ W').set _ _ _ rfl) (fun g e => by have := (hw.base g e).1; omega)
  · exact (h.b.trans (hb.below h.b.size (fun g hg => by omega))).setCell (by dsimp only; omega) _

/-- the law's own quarantine after k pushes -/
structure Lw (w : World) (o n m : Nat) (slots draws : List Int) (k : Nat) (b1 : Option Addr) (d1 : Nat) (b2 : Option Addr) (d2 : Nat) (W : World) : Prop where
  ob : W.heap[o]? = some (.cells #[.slice b1 (stW n m slots draws k).1.length d1, .slice b2 (stW n m slots draws k).2.length d2, .int .i64 (n : Nat)] 29 (0, 0))
  wt : Wt W b1 (stW n m slots draws k).1.length b2 (stW n m slots draws k).2.length (stW n m slots draws k).1 (stW n m slots draws k).2
  b : Below w.heap.size w W
  lo : w.heap.size ≤ o
theorem Lw.next {w : World} {o n m : Nat} {slots draws : List Int} {k : Nat} {b1 : Option Addr} {d1 : Nat} {b2 : Option Addr} {d2 : Nat} {W w5 : World} (h : Lw w o n m slots draws k b1 d1 b2 d2 W) {f1 : Option Addr} {g1 : Nat} {f2 : Option Addr} {g2 : Nat}
    (h1 : Os w5 f1 g1 (stW n m slots draws (k + 1)).1) (h2 : Os w5 f2 g2 (stW n m slots draws (k + 1)).2) (hb : Below W.heap.size W w5) :
    w5.heap[o]? = some (.cells #[.slice b1 (stW n m slots draws k).1.length d1, .slice b2 (stW n m slots draws k).2.length d2, .int .i64 (n : Nat)] 29 (0, 0)) ∧
    Lw w o n m slots draws (k + 1) f1 g1 f2 g2 (((w5.setCell ⟨o, 0, none⟩ (.slice f1 (stW n m slots draws (k + 1)).1.length g1)).setCell ⟨o, 1, none⟩ (.slice f2 (stW n m slots draws (k + 1)).2.length g2)).setCell ⟨o, 2, none⟩ (.int .i64 (n : Nat))) := by
  have ho := below_at h.ob hb
  have bt : But (fun k => k = o) w5 (((w5.setCell ⟨o, 0, none⟩ (.slice f1 (stW n m slots draws (k + 1)).1.length g1)).setCell ⟨o, 1, none⟩ (.slice f2 (stW n m slots draws (k + 1)).2.length g2)).setCell ⟨o, 2, none⟩ (.int .i64 (n : Nat))) := (((But.refl (fun k => k = o) w5).set _ _ _ rfl).set _ _ _ rfl).set _ _ _ rfl
  have hw : Wt w5 f1 (stW n m slots draws (k + 1)).1.length f2 (stW n m slots draws (k + 1)).2.length (stW n m slots draws (k + 1)).1 (stW n m slots draws (k + 1)).2 := ⟨h1.sl, rfl, h2.sl, rfl⟩
  exact ⟨ho, set3 ho _ _ _, hw.but bt (hw.m.ne ho (by decide)) (hw.f.ne ho (by decide)), (bl_trans h.b hb).trans (bt.below (bl_trans h.b hb).size (fun g e => by have := h.lo; omega)), h.lo⟩
theorem cntP_take (zs : List Int) (k : Nat) (h : k < zs.length) : cntP (zs.take (k + 1)) = cntP (zs.take k) + one (zs[k]?.getD 0) := by
  unfold cntP one
  rw [List.take_add_one, List.countP_append]
  simp [h, List.countP_cons]

set_option maxRecDepth 20000 in
set_option maxHeartbeats 4000000 in
theorem walkF (a0 : Option Addr) (len0 cap0 : Nat) (z0 : List Int) (w : World) (w0 : IsRow .u8 w a0 len0 cap0 z0) :
    Calls Try.prog 3 #[.slice a0 len0 cap0] w fun e w' => e = .returned (.bool true) ∧ Below w.heap.size w w' := by
  by_cases hlen : 1048576 < len0
  · have hl' : (1048576 : Int) < (len0 : Int) := by omega
    clear w0
    go_enter Try.func3, Try.ntmps3
    go_wp2
    go_ret
    exact ⟨rfl, Below.refl _ _⟩
  have hl' : ¬ ((1048576 : Int) < (len0 : Int)) := by omega
  have DR := hid (draw_in a0 len0 cap0 z0 w w0 (by omega))
  clear w0
  go_enter Try.func3, Try.ntmps3
  go_wp2_with fail
  refine (DR.out).mono ?_
  rintro e w1 ⟨mix, lim, slots, draws, a2, c2, a3, c3, rfl, hs, hd, hsl, hrg, b1⟩
  have B1 := hid b1
  obtain ⟨N, hN⟩ : ∃ N, slots.length = N := ⟨_, rfl⟩
  obtain ⟨D, hD⟩ : ∃ D, draws.length = D := ⟨_, rfl⟩
  have PU := hid (run_any mix lim a2 N c2 a3 D c3 slots draws w1 hs hN hd hD (by omega))
  have SP := hid (fun W (hW : Below w1.heap.size w1 W) => srun_any mix lim a2 N c2 a3 D c3 slots draws W (hs.below hW) hN (hd.below hW) hD)
  rw [hN, hD]
  have NN := hid hN
  have DD := hid hD
  have NL := hid hsl
  have HS := hid hs
  have HD := hid hd
  have RG := hid hrg
  clear b1 hs hd hrg DR hN hD hsl
  go_wp2_with fail
  refine (PU.out).mono ?_
  rintro e w2 ⟨ga, gc, rfl, go, gn, b2⟩
  have B2 := hid b2
  have GO := hid go.sl
  clear go gn b2 PU
  go_wp2_with fail
  refine (SP.out _ B2.out).mono ?_
  rintro e w3 ⟨sa, sc, rfl, so, b3⟩
  have B3 := hid (bl_trans B2.out b3)
  have GO3 := hid (GO.out.below b3)
  clear so b3 SP GO
  cases hk : okW mix lim slots with
  | false =>
    have eR : rwA mix lim slots draws = [] := by unfold rwA; rw [if_neg (by simp [hk])]
    have HB := hid (bl_trans B1.out B3.out)
    rw [eR]
    clear hk eR GO3 RG
    go_wp2
    go_ret
    exact ⟨rfl, HB.out⟩
  | true =>
    obtain ⟨⟨m1, m2⟩, ⟨n1, n2, n3⟩, s1, s2⟩ := ok_parts hk
    have eR : rwA mix lim slots draws = outsW lim.toNat mix.toNat slots draws := by unfold rwA; rw [if_pos hk]
    have eS := RG.out s2
    have eL : (rwA mix lim slots draws).length = N := by rw [eR, outsW_len, NN.out]
    rw [eL]
    rw [eR] at GO3
    clear hk eR eL s1
    generalize mix.toNat = m at *
    generalize lim.toNat = n at *
    subst m1
    subst n1
    have SG := hid (fun k => slot_ge s2 k)
    have GK := hid (fun k => stW_good (draws := draws) m2 ⟨n2, n3⟩ s2 k)
    have HB := hid (bl_trans B1.out B3.out)
    have HS3 := hid (HS.out.below B3.out)
    have HD3 := hid (HD.out.below B3.out)
    have IV := hid (fun k (hk : k ≤ slots.length) => (show Iv k (stW n m slots draws k).1 (stW n m slots draws k).2 ∧ (stW n m slots draws k).2.length ≤ n ∧ cntP (stW n m slots draws k).1 + (stW n m slots draws k).2.length + leftN n m slots draws k = k by
      have := run_iv n m slots.length draws n2 k hk
      rwa [← eS] at this))
    have OV := hid (fun k (hk : k < slots.length) => (show outW n m slots draws k = -1 ∨ (0 ≤ outW n m slots draws k ∧ outW n m slots draws k + n ≤ k) by
      have := out_iv n m slots.length draws n2 k hk
      rwa [← eS] at this))
    have PS := hid (fun W k (f1 : Option Addr) (g1 : Nat) (f2 : Option Addr) (g2 : Nat) (hW : Wt W f1 (stW n m slots draws k).1.length f2 (stW n m slots draws k).2.length (stW n m slots draws k).1 (stW n m slots draws k).2) =>
      (show Calls Try.prog 9 #[wv f1 (stW n m slots draws k).1.length g1 f2 (stW n m slots draws k).2.length g2 (n : Nat), .int .i64 (slots[k]?.getD 0), .int .i64 (draws[k]?.getD 0)] W fun e w' => ∃ a1 c1 a2 c2, e = .returned (.tuple #[wv a1 (stW n m slots draws (k + 1)).1.length c1 a2 (stW n m slots draws (k + 1)).2.length c2 (n : Nat), .int .i64 (outW n m slots draws k)]) ∧ Os w' a1 c1 (stW n m slots draws (k + 1)).1 ∧ Os w' a2 c2 (stW n m slots draws (k + 1)).2 ∧ Ap W.heap.size a1 a2 ∧ Below W.heap.size W w' by
        have := push_any f1 _ g1 f2 _ g2 (n : Nat) _ _ (slots[k]?.getD 0) (draws[k]?.getD 0) W hW
        rw [wpA_good _ (GK.out k) (SG.out k)] at this
        exact this))
    have LO := hid (show ∀ k, (stW n m slots draws k).1.length = m from stW_len n m slots draws)
    unfold wv at PS
    have hN2 : N ≤ 2001 := by rw [← NN.out]; exact NL.out
    clear eS s2 RG HS HD B1 B2 B3 GK
    have A3 := hid ((Below.refl _ w3).alloc (Nat.le_refl _) (.cells #[.slice none 0 0, .slice none 0 0, .int .i64 (n : Nat)] 29))
    have L0 := hid (show L1 w3 w3.heap.size n 0 none 0 (w3.alloc (.cells #[.slice none 0 0, .slice none 0 0, .int .i64 (n : Nat)] 29)) from ⟨al_last _ _, Ow.nil _ _, A3.out, Nat.le_refl _⟩)
    clear A3
    go_wp2
    obtain ⟨o, ho⟩ : ∃ o, o = w3.heap.size := ⟨_, rfl⟩
    rw [← ho] at L0 ⊢
    have HO := hid ho
    clear ho
    generalize w3.alloc (.cells #[.slice none 0 0, .slice none 0 0, .int .i64 (n : Nat)] 29) = W1 at *
    go_loopw [12] (fun i wr => ∃ (k : Nat) (a : Option Addr) (c : Nat), k ≤ m ∧ i = .int .i64 k ∧ Hid (L1 w3 o n k a c wr)) (fun i _ => m - (intOf i).toNat)
    case atStart => exact ⟨0, none, 0, Nat.zero_le _, rfl, L0⟩
    case round =>
      obtain ⟨k, a, c, hk, rfl, HL⟩ := hrel
      clear L0
      by_cases hlt : k < m
      · obtain ⟨a', c', W', happ, o1, o2, hn⟩ := HL.out.next (by omega)
        have HN := hid hn
        have o0 : wr.cell? ⟨o, 0, none⟩ = some (.slice a k c) := by rw [cell_of_row _ _ _ _ _ _ HL.out.ob]; rfl
        clear hn HL
        go_wp2_with (at_builtin; refine wpList_app rfl (.tmp 73) (.tmp 74) (by with_reducible rfl) rfl rfl rfl happ ?_)
        go_roundw
        case rel => exact ⟨k + 1, a', c', by omega, by go_num, HN⟩
        case measure => simp [intOf]; omega
      · have hk2 : ¬ ((k : Int) < (m : Int)) := by omega
        have hkm : k = m := by omega
        have L2 := hid (show Lw w3 o n m slots draws 0 a c none 0 wr from ⟨by rw [LO.out 0, ← hkm]; exact HL.out.ob, ⟨by rw [show (stW n m slots draws 0).1 = List.replicate k (-1) by rw [hkm]; rfl]; exact HL.out.ow.sl, rfl, .inl ⟨rfl, rfl⟩, rfl⟩, HL.out.b, HL.out.lo⟩)
        clear HL hkm hlt hk
        go_wp2
        go_loopw [79, 13] (fun i v W => ∃ (k : Nat) (f1 : Option Addr) (g1 : Nat) (f2 : Option Addr) (g2 : Nat), k ≤ N ∧ i = .int .i64 k ∧ v = .int .i64 (leftN n m slots draws k : Nat) ∧ Hid (Lw w3 o n m slots draws k f1 g1 f2 g2 W)) (fun i _ _ => N - (intOf i).toNat)
        case atStart => exact ⟨0, _, _, _, _, Nat.zero_le _, rfl, rfl, L2⟩
        case round =>
          clear L2 hk2
          obtain ⟨k', f1, g1, f2, g2, hk, rfl, rfl, HL⟩ := hrel
          have q0 := (cell_of_row _ _ 0 _ _ _ HL.out.ob).trans rfl
          have q1 := (cell_of_row _ _ 1 _ _ _ HL.out.ob).trans rfl
          have q2 := (cell_of_row _ _ 2 _ _ _ HL.out.ob).trans rfl
          by_cases hlt : k' < N
          · obtain ⟨sg, rfl, hcs⟩ := (HS3.out.below HL.out.b).cells k' (by rw [NN.out]; exact hlt)
            by_cases hl3 : k' < D
            · obtain ⟨dg, rfl, hcd⟩ := (HD3.out.below HL.out.b).cells k' (by rw [DD.out]; exact hl3)
              go_wp2_with fail
              refine (PS.out _ k' f1 g1 f2 g2 HL.out.wt).mono ?_
              rintro e w5 ⟨x1, y1, x2, y2, rfl, p1, p2, _, hb⟩
              obtain ⟨ho5, nx⟩ := HL.out.next p1 p2 hb
              obtain ⟨gg, rfl, hcg⟩ := (GO3.out.below nx.b).cells k' (by rw [outsW_len, NN.out]; exact hlt)
              rw [outsW_get _ _ _ _ _ (by rw [NN.out]; exact hlt), Option.getD_some] at hcg
              have HN := hid nx
              have d0 : w5.cell? ⟨o, 0, none⟩ = some _ := (cell_of_row _ _ 0 _ _ _ ho5).trans rfl
              have d1 : w5.cell? ⟨o, 1, none⟩ = some _ := (cell_of_row _ _ 1 _ _ _ ho5).trans rfl
              have d2 : w5.cell? ⟨o, 2, none⟩ = some _ := (cell_of_row _ _ 2 _ _ _ ho5).trans rfl
              have e0 := frozen_of_row _ _ 0 _ _ ho5
              have e1 := frozen_of_row _ _ 1 _ _ ho5
              have e2 := frozen_of_row _ _ 2 _ _ ho5
              have hov := OV.out k' (by rw [NN.out]; exact hlt)
              have hle := left_le n m slots draws k'
              have EL := hid (show leftN n m slots draws (k' + 1) = leftN n m slots draws k' + one (outW n m slots draws k') from rfl)
              clear p1 p2 hb nx ho5 HL q0 q1 q2
              generalize leftN n m slots draws k' = ln0 at *
              generalize outW n m slots draws k' = z at *
              have tz : (z != z) = false := by simp
              rcases hov with hz | hz
              · have hz' : ¬ (0 ≤ z) := by omega
                have EL' := hid (show leftN n m slots draws (k' + 1) = ln0 by rw [EL.out]; unfold one; rw [if_neg hz']; rfl)
                go_wp2
                go_roundw
                case rel => exact ⟨k' + 1, x1, y1, x2, y2, by omega, by go_num, by rw [EL'.out], HN⟩
                case measure => simp [intOf]; omega
              · have hz' := hz.1
                have hz2 : ¬ ((N : Int) ≤ z) := by omega
                have hz3 : ¬ ((k' : Int) < z + (n : Int)) := by omega
                have EL' := hid (show leftN n m slots draws (k' + 1) = ln0 + 1 by rw [EL.out]; unfold one; rw [if_pos hz'])
                go_wp2
                go_roundw
                case rel => exact ⟨k' + 1, x1, y1, x2, y2, by omega, by go_num, by rw [EL'.out]; go_num, HN⟩
                case measure => simp [intOf]; omega
            · have hdz : draws[k']?.getD 0 = 0 := by rw [List.getElem?_eq_none (by rw [DD.out]; omega)]; rfl
              have PS0 := PS.out _ k' f1 g1 f2 g2 HL.out.wt
              rw [hdz] at PS0
              have PX := hid PS0
              clear hdz PS0
              go_wp2_with fail
              refine (PX.out).mono ?_
              rintro e w5 ⟨x1, y1, x2, y2, rfl, p1, p2, _, hb⟩
              obtain ⟨ho5, nx⟩ := HL.out.next p1 p2 hb
              obtain ⟨gg, rfl, hcg⟩ := (GO3.out.below nx.b).cells k' (by rw [outsW_len, NN.out]; exact hlt)
              rw [outsW_get _ _ _ _ _ (by rw [NN.out]; exact hlt), Option.getD_some] at hcg
              have HN := hid nx
              have d0 : w5.cell? ⟨o, 0, none⟩ = some _ := (cell_of_row _ _ 0 _ _ _ ho5).trans rfl
              have d1 : w5.cell? ⟨o, 1, none⟩ = some _ := (cell_of_row _ _ 1 _ _ _ ho5).trans rfl
              have d2 : w5.cell? ⟨o, 2, none⟩ = some _ := (cell_of_row _ _ 2 _ _ _ ho5).trans rfl
              have e0 := frozen_of_row _ _ 0 _ _ ho5
              have e1 := frozen_of_row _ _ 1 _ _ ho5
              have e2 := frozen_of_row _ _ 2 _ _ ho5
              have hov := OV.out k' (by rw [NN.out]; exact hlt)
              have hle := left_le n m slots draws k'
              have EL := hid (show leftN n m slots draws (k' + 1) = leftN n m slots draws k' + one (outW n m slots draws k') from rfl)
              clear p1 p2 hb nx ho5 HL q0 q1 q2
              generalize leftN n m slots draws k' = ln0 at *
              generalize outW n m slots draws k' = z at *
              have tz : (z != z) = false := by simp
              rcases hov with hz | hz
              · have hz' : ¬ (0 ≤ z) := by omega
                have EL' := hid (show leftN n m slots draws (k' + 1) = ln0 by rw [EL.out]; unfold one; rw [if_neg hz']; rfl)
                go_wp2
                go_roundw
                case rel => exact ⟨k' + 1, x1, y1, x2, y2, by omega, by go_num, by rw [EL'.out], HN⟩
                case measure => simp [intOf]; omega
              · have hz' := hz.1
                have hz2 : ¬ ((N : Int) ≤ z) := by omega
                have hz3 : ¬ ((k' : Int) < z + (n : Int)) := by omega
                have EL' := hid (show leftN n m slots draws (k' + 1) = ln0 + 1 by rw [EL.out]; unfold one; rw [if_pos hz'])
                go_wp2
                go_roundw
                case rel => exact ⟨k' + 1, x1, y1, x2, y2, by omega, by go_num, by rw [EL'.out]; go_num, HN⟩
                case measure => simp [intOf]; omega
          · obtain rfl : N = k' := by omega
            obtain ⟨_, hfl, hcnt⟩ := IV.out N (by rw [NN.out]; exact Nat.le_refl _)
            have hml := LO.out N
            have HM := hid HL.out.wt.m
            have HBB := hid (bl_trans HB.out HL.out.b)
            have hmc : cntP (stW n m slots draws N).1 ≤ m := by have := List.countP_le_length (p := fun x : Int => decide (0 ≤ x)) (l := (stW n m slots draws N).1); unfold cntP; omega
            rw [hml] at q0
            clear HL IV OV PS LO
            generalize (stW n m slots draws N).1 = M at *
            generalize leftN n m slots draws N = ln at *
            obtain ⟨fl, hfe⟩ : ∃ fl, (stW n m slots draws N).2.length = fl := ⟨_, rfl⟩
            rw [hfe] at q0 q1 q2 hfl hcnt
            generalize (stW n m slots draws N).2 = F at *
            have ML := hid hml
            have CN := hid (show fl + cntP M + ln = N by omega)
            have hb1 : fl ≤ 32 := by omega
            have hb2 : ln ≤ 2001 := by omega
            clear hfe hml hcnt
            go_wp2
            go_loopw [133, 18] (fun i v W => ∃ j : Nat, j ≤ m ∧ i = .int .i64 j ∧ v = .int .i64 (fl + cntP (M.take j) : Nat) ∧ W = wr) (fun i _ _ => m - (intOf i).toNat)
            case atStart => exact ⟨0, Nat.zero_le _, rfl, by simp [cntP], rfl⟩
            case round =>
              obtain ⟨j, hj, rfl, rfl, rfl⟩ := hrel
              by_cases hjl : j < m
              · obtain ⟨mg, rfl, hcm⟩ := HM.out.cells j (by rw [ML.out]; exact hjl)
                have hct := cntP_take M j (by rw [ML.out]; exact hjl)
                have hcl : cntP (M.take j) ≤ m := by have := List.countP_le_length (p := fun x : Int => decide (0 ≤ x)) (l := M.take j); unfold cntP; simp at this; omega
                have HT := hid hct
                clear hct
                generalize cntP (M.take j) = ct0 at *
                generalize M[j]?.getD 0 = x at *
                by_cases hx : 0 ≤ x
                · have E1 := hid (show cntP (M.take (j + 1)) = ct0 + 1 by rw [HT.out]; unfold one; rw [if_pos hx])
                  go_wp2
                  go_roundw
                  case rel => exact ⟨j + 1, by omega, by go_num, by rw [E1.out]; go_num, trivial⟩
                  case measure => simp [intOf]; omega
                · have E1 := hid (show cntP (M.take (j + 1)) = ct0 by rw [HT.out]; unfold one; rw [if_neg hx]; rfl)
                  go_wp2
                  go_roundw
                  case rel => exact ⟨j + 1, by omega, by go_num, by rw [E1.out], trivial⟩
                  case measure => simp [intOf]; omega
              · have hjm : ¬ ((j : Int) < (m : Int)) := by omega
                have ect : cntP (M.take j) = cntP M := by rw [List.take_of_length_le (by rw [ML.out]; omega)]
                have hce : (((fl + cntP (M.take j) : Nat) : Int) + (ln : Int) == (N : Int)) = true := by have := CN.out; rw [ect]; simp; omega
                have hme : ((m : Int) == (m : Int)) = true := by simp
                have hfe : ((fl : Int) ≤ (n : Int)) := by omega
                have hcl : cntP (M.take j) ≤ m := by rw [ect]; exact hmc
                have hhb : fl + cntP (M.take j) ≤ 48 := by omega
                clear ect hcl
                generalize fl + cntP (M.take j) = hh at *
                go_wp2
                go_ret
                exact ⟨rfl, HBB.out⟩
end Go.Proofs.Ytnhkifinfnobfaa
