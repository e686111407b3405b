import Derived.Test.YtnhkifinfnobfaaWaQ
namespace Go.Proofs.Ytnhkifinfnobfaa
open Go.ChangeShapes Go.WideShapes Go.ChangeAt Go.RowKit
set_option linter.unusedVariables false

theorem Ow.mono {w : World} {b b' : Nat} {a : Option Addr} {c : Nat} {zs : List Int} (h : Ow w b' a c zs) (hb : b ≤ b') : Ow w b a c zs := by
  refine ⟨h.1, ?_⟩
  rcases h.2 with h2 | ⟨g, cap, cur, e, hg, hh⟩
  · exact .inl h2
  · exact .inr ⟨g, cap, cur, e, by omega, hh⟩

/-- an append whose run is known -/
theorem wpList_app {ops : Array Oper} {rest : List Oper} {o : Oper} {a : Act} {w : World} {Q : Exit → Act → World → Prop} (hgd : o.guard = none) (s x : Operand)
    (ho : o.op = .call { callee := .builtin .append, args := #[s, x], argTypes := #[23, 23] }) (ht : o.type = 23) {v v2 v' : Value} {w' : World} (hs : a.eval s = v) (hx : a.eval x = v2)
    (hr : (Builtin.append_ #[23, 23] 23 #[v, v2]).run Try.prog w = .ok v' w') (h : wpList Try.prog ops Q rest (a.put o.dst v') w') : wpList Try.prog ops Q (o :: rest) a w := by
  refine wpList_plain hgd fun K hK => ?_
  unfold Oper.wp
  simp [execOp, ho, ht, resolve, invoke, builtin, hs, hx, hr, Result.andThen]
  exact hK _ _ h

/-- what goes on after k places were looked at -/
def onAt (mix : List Int) (i : Nat) (x : Int) (k : Nat) : Int := if i < k then mix[i]?.getD 0 else x

set_option maxHeartbeats 1000000 in
theorem spush_yes (am : Option Addr) (lm cm : Nat) (af : Option Addr) (lf cf n : Nat) (mix fifo : List Int) (x d : Int) (w : World) (h : Wt w am lm af lf mix fifo) (hcf : af = none → cf = 0) (hg : goodM mix fifo (n : Nat) = true) (hx : 0 ≤ x) :
    Calls Try.prog 11 #[wv am lm cm af lf cf (n : Nat), .int .i64 x, .int .i64 d] w fun e w' => Ans w n (wpM n mix fifo x d).1 (wpM n mix fifo x d).2.1 (wpM n mix fifo x d).2.2 e w' := by
  obtain ⟨i, hi⟩ : ∃ i, i = md d lm := ⟨_, rfl⟩
  have T2 := hid (al_two w (.cells #[.slice am lm cm, .slice af lf cf, .int .i64 (n : Nat)] 29) (.cells #[.slice none 0 0, .slice none 0 0, .int .i64 0] 29))
  have GD := hid (l5Good_in am lm cm af lf cf (n : Nat) mix fifo _ (h.below T2.out.2.2))
  rw [hg] at GD
  obtain ⟨g1, g2, g3, g4⟩ := good_parts hg
  rw [h.ml] at g1
  rw [h.fl] at g4
  have LM := hid (fun W (hp : 0 < lm) => l5Mod_in d lm W hp (by omega))
  rw [← hi] at LM
  have HI := hid (show 0 < lm → i < lm from fun hp => hi ▸ md_lt d lm hp)
  have CM := hid (fun W (hW : Below w.heap.size w W) => (h.m.below hW).cells)
  have GS := hid (fun W (hW : Below w.heap.size w W) => (h.f.below hW).srcs)
  have ML := hid h.ml
  have FL := hid h.fl
  have hx' : ¬ (x < 0) := by omega
  have HW := hid (show wpM n mix fifo x d = if lm = 0 then ([], (pushF n fifo x).1, (pushF n fifo x).2) else if mix[i]?.getD 0 = -1 then (mix.set i x, fifo, -1) else (mix.set i x, (pushF n fifo (mix[i]?.getD 0)).1, (pushF n fifo (mix[i]?.getD 0)).2) by
    unfold wpM
    rw [h.ml, ← hi]
    by_cases h0 : lm = 0
    · rw [if_pos h0, if_pos (List.length_eq_zero_iff.1 (by rw [h.ml]; exact h0))]
    · rw [if_neg h0, if_neg (fun e => h0 (by rw [← h.ml, e]; rfl))])
  have NB := hid (show ∀ k, k < lm → -1 ≤ mix[k]?.getD 0 by
    intro k hk
    unfold goodM at hg
    simp only [Bool.and_eq_true] at hg
    have := hg.2.2.2.2.1
    unfold nb at this
    rw [List.all_eq_true] at this
    have hk' : k < mix.length := by rw [h.ml]; exact hk
    have h2 := this (mix[k]) (by simp)
    simp [hk'] at h2 ⊢
    exact h2)
  unfold wv at GD ⊢
  clear h hg hi
  go_enter Try.func11, Try.ntmps11
  go_wp2_with fail
  refine (GD.out).mono ?_
  rintro e w1 ⟨rfl, b1⟩
  have B1 := hid (bl_trans T2.out.2.2 b1)
  have x0 := hid (below_at T2.out.1 b1)
  have x1 := hid (below_at T2.out.2.1 b1)
  have S1 := hid (show w.heap.size + 1 < w1.heap.size by have := b1.size; rw [al_size, al_size] at this; omega)
  clear b1 GD T2
  have c2 : w1.cell? ⟨w.heap.size, 2, none⟩ = some (.int .i64 (n : Nat)) := by rw [cell_of_row _ _ _ _ _ _ x0.out]; rfl
  have A1 := hid ((Below.refl _ w1).alloc (Nat.le_refl _) (.cells #[.slice none 0 0, .slice none 0 0, .int .i64 (n : Nat)] 29))
  have L0 := hid (show Lp w w.heap.size w1.heap.size am lm cm af lf cf n 0 none 0 (mix.set i x) (w1.alloc (.cells #[.slice none 0 0, .slice none 0 0, .int .i64 (n : Nat)] 29)) from
    ⟨al_last _ _, Ow.nil _ _, below_at x0.out A1.out, below_at x1.out A1.out, bl_trans B1.out A1.out⟩)
  have c0 : (w1.alloc (.cells #[.slice none 0 0, .slice none 0 0, .int .i64 (n : Nat)] 29)).cell? ⟨w.heap.size, 0, none⟩ = some (.slice am lm cm) := by rw [cell_of_row _ _ _ _ _ _ L0.out.s0]; rfl
  clear A1 x0 x1 B1
  go_wp2
  generalize w1.heap.size = o at *
  go_loopw [28, 9] (fun v y wr => ∃ (k : Nat) (a : Option Addr) (c : Nat), k ≤ lm ∧ v = .int .i64 k ∧ y = .int .i64 (onAt mix i x k) ∧ Hid (Lp w w.heap.size o am lm cm af lf cf n k a c (mix.set i x) wr)) (fun v _ _ => lm - (intOf v).toNat)
  case atStart => exact ⟨0, none, 0, Nat.zero_le _, rfl, rfl, L0⟩
  case round =>
    obtain ⟨k, a, c, hk, rfl, rfl, hl⟩ := hrel
    clear L0 c0
    by_cases hlt : k < lm
    · obtain ⟨g, rfl, hc⟩ := CM.out _ hl.out.b k (by rw [ML.out]; exact hlt)
      have hp : 0 < lm := by omega
      have HI' := HI.out hp
      have s0 : wr.cell? ⟨w.heap.size, 0, none⟩ = some (.slice (some ⟨g, 0, none⟩) lm cm) := by rw [cell_of_row _ _ _ _ _ _ hl.out.s0]; rfl
      have o0 : wr.cell? ⟨o, 0, none⟩ = some (.slice a k c) := by rw [cell_of_row _ _ _ _ _ _ hl.out.ob]; rfl
      have hst := set_take mix i k x (by rw [ML.out]; exact hlt)
      by_cases hki : k = i
      · have hki' : ((k : Int) == (i : Int)) = true := by simp [hki]
        rw [if_pos hki] at hst
        obtain ⟨a', c', W', happ, hcell, hfr, hl'⟩ := hl.out.next rfl S1.out (by rw [List.length_set, ML.out]) hlt g1 x hst
        have HL := hid hl'
        have HO := hid (show mix[k]?.getD 0 = onAt mix i x (k + 1) by unfold onAt; rw [if_pos (by omega), hki])
        clear hl' hst hki
        go_wp2_with fail
        refine (LM.out _ hp).mono ?_
        rintro e w2 ⟨rfl, rfl⟩
        go_wp2_with (at_builtin; refine wpList_app rfl (.tmp 43) (.tmp 45) rfl rfl rfl rfl happ ?_)
        go_roundw
        case rel => exact ⟨k + 1, a', c', by omega, by go_num, by rw [← HO.out], HL⟩
        case measure => simp [intOf]; omega
      · have hki' : ((k : Int) == (i : Int)) = false := by simp; omega
        rw [if_neg hki] at hst
        obtain ⟨a', c', W', happ, hcell, hfr, hl'⟩ := hl.out.next rfl S1.out (by rw [List.length_set, ML.out]) hlt g1 _ hst
        have HL := hid hl'
        have HO := hid (show onAt mix i x k = onAt mix i x (k + 1) by
          unfold onAt
          by_cases h : i < k
          · rw [if_pos h, if_pos (by omega)]
          · rw [if_neg h, if_neg (by omega)])
        clear hl' hst hki
        generalize mix[k]?.getD 0 = y at *
        go_wp2_with fail
        refine (LM.out _ hp).mono ?_
        rintro e w2 ⟨rfl, rfl⟩
        go_wp2_with (at_builtin; refine wpList_app rfl (.tmp 43) (.tmp 45) rfl rfl rfl rfl happ ?_)
        go_roundw
        case rel => exact ⟨k + 1, a', c', by omega, by go_num, by rw [← HO.out], HL⟩
        case measure => simp [intOf]; omega
    · obtain rfl : lm = k := by omega
      have HY := hid (show -1 ≤ onAt mix i x lm ∧ (onAt mix i x lm = -1 → wpM n mix fifo x d = (mix.set i x, fifo, -1)) ∧ (0 ≤ onAt mix i x lm → wpM n mix fifo x d = (mix.set i x, (pushF n fifo (onAt mix i x lm)).1, (pushF n fifo (onAt mix i x lm)).2)) by
        rw [HW.out]
        by_cases h0 : lm = 0
        · have e : onAt mix i x lm = x := by unfold onAt; rw [if_neg (by omega)]
          have em : mix = [] := List.length_eq_zero_iff.1 (by rw [ML.out]; exact h0)
          rw [e, if_pos h0, em]
          exact ⟨by omega, fun h => by omega, fun _ => rfl⟩
        · have e : onAt mix i x lm = mix[i]?.getD 0 := by unfold onAt; rw [if_pos (HI.out (by omega))]
          have h1 := NB.out i (HI.out (by omega))
          rw [e, if_neg h0]
          refine ⟨h1, fun h => by rw [if_pos h], fun h => by rw [if_neg (by omega)]⟩)
      clear HW NB HI LM CM
      obtain ⟨a2, c2, W2, happ, hF, hb⟩ := app_run wr wr.heap.size none 0 [] af lf cf fifo (Ow.nil _ _) FL.out hcf (GS.out _ hl.out.b) (by simp; omega) (Nat.le_refl _)
      simp only [List.length_nil, Nat.zero_add, List.nil_append] at happ hF
      have hB2 := hb.below (Nat.le_refl _) (fun _ h => h)
      have s1c : wr.cell? ⟨w.heap.size, 1, none⟩ = some (.slice af lf cf) := by rw [cell_of_row _ _ _ _ _ _ hl.out.s0]; rfl
      have ML' : (mix.set i x).length = lm := by rw [List.length_set, ML.out]
      clear GS hb
      generalize onAt mix i x lm = y at *
      by_cases hy : y = -1
      · have hy' : ¬ (0 ≤ y) := by omega
        have HE := hid (HY.out.2.1 hy)
        have n2 : W2.cell? ⟨w.heap.size, 2, none⟩ = some (.int .i64 (n : Nat)) := by rw [cell_of_row _ _ _ _ _ _ (below_at hl.out.s0 hB2)]; rfl
        have hle : (lf : Int) ≤ (n : Int) := by omega
        obtain ⟨ho2, fin⟩ := hl.out.fin rfl S1.out ML' hB2 hF
        rw [FL.out] at fin
        obtain ⟨p0, p1, p2, p3, p4⟩ := fin _ (.inl rfl)
        have o1 : W2.cell? ⟨o, 1, none⟩ = some (.slice none 0 0) := by rw [cell_of_row _ _ _ _ _ _ ho2]; rfl
        have o2 : W2.frozen? ⟨o, 1, none⟩ = false := frozen_of_row _ _ _ _ _ ho2
        have P3 := hid p3
        have P4 := hid p4
        have d0 := (cell_of_row _ _ 0 _ _ _ p3).trans rfl
        have d1 := (cell_of_row _ _ 1 _ _ _ p3).trans rfl
        have d2 := (cell_of_row _ _ 2 _ _ _ p3).trans rfl
        have f0 := frozen_of_row _ _ 0 _ _ p3
        have f1 := frozen_of_row _ _ 1 _ _ p3
        have f2 := frozen_of_row _ _ 2 _ _ p3
        clear ho2 fin p3 p4 hl hF hB2 HY
        go_wp2_with (at_builtin; refine wpList_app rfl (.const (.slice none 0 0)) (.tmp 50) (by with_reducible rfl) rfl rfl rfl happ ?_)
        refine bodyPost_ret (results_two (by rfl) _ _ (w.heap.size + 1) 29 _ (0, 0) _ (by rfl) (set3 P3.out _ _ _) Try.underlying29 rfl (by kernel_rfl)) (by rfl) ?_
        rw [HE.out]
        exact P4.out _ _ (.inl rfl)
      · have hy0 : 0 ≤ y := by have := HY.out.1; omega
        have HE := hid (HY.out.2.2 hy0)
        obtain ⟨a3, c3, W3, happ2, hF3, hb3⟩ := app_one W2 wr.heap.size a2 c2 fifo y hF (by rw [FL.out]; omega) hB2.size
        have hB3 : Below wr.heap.size wr W3 := hB2.trans (hb3.below hB2.size (fun _ h => h))
        have e3 : (fifo ++ [y]).length = lf + 1 := by rw [List.length_append, FL.out]; rfl
        rw [FL.out] at happ2
        have n2 : W3.cell? ⟨w.heap.size, 2, none⟩ = some (.int .i64 (n : Nat)) := by rw [cell_of_row _ _ _ _ _ _ (below_at hl.out.s0 hB3)]; rfl
        clear hF hb3 hB2
        by_cases hln : lf < n
        · have hle : (lf : Int) + 1 ≤ (n : Int) := by omega
          have HE' := hid (show wpM n mix fifo x d = (mix.set i x, fifo ++ [y], -1) by rw [HE.out]; unfold pushF; rw [if_pos (by rw [FL.out]; exact hln)])
          obtain ⟨ho2, fin⟩ := hl.out.fin rfl S1.out ML' hB3 hF3
          rw [e3] at fin
          obtain ⟨p0, p1, p2, p3, p4⟩ := fin _ (.inl rfl)
          have o1 : W3.cell? ⟨o, 1, none⟩ = some (.slice none 0 0) := by rw [cell_of_row _ _ _ _ _ _ ho2]; rfl
          have o2 : W3.frozen? ⟨o, 1, none⟩ = false := frozen_of_row _ _ _ _ _ ho2
          have P3 := hid p3
          have P4 := hid p4
          have d0 := (cell_of_row _ _ 0 _ _ _ p3).trans rfl
          have d1 := (cell_of_row _ _ 1 _ _ _ p3).trans rfl
          have d2 := (cell_of_row _ _ 2 _ _ _ p3).trans rfl
          have f0 := frozen_of_row _ _ 0 _ _ p3
          have f1 := frozen_of_row _ _ 1 _ _ p3
          have f2 := frozen_of_row _ _ 2 _ _ p3
          clear ho2 fin p3 p4 hl hB3 HY HE hF3 e3
          go_wp2_with (at_builtin; first | refine wpList_app rfl (.const (.slice none 0 0)) (.tmp 50) (by with_reducible rfl) rfl rfl rfl happ ?_ | refine wpList_app rfl (.tmp 54) (.tmp 56) (by with_reducible rfl) rfl rfl rfl happ2 ?_)
          refine bodyPost_ret (results_two (by rfl) _ _ (w.heap.size + 1) 29 _ (0, 0) _ (by rfl) (set3 P3.out _ _ _) Try.underlying29 rfl (by kernel_rfl)) (by rfl) ?_
          rw [HE'.out]
          exact P4.out _ _ (.inl rfl)
        · have hle : ¬ ((lf : Int) + 1 ≤ (n : Int)) := by omega
          have HE' := hid (show wpM n mix fifo x d = (mix.set i x, (fifo ++ [y]).drop 1, fifo[0]?.getD 0) by
            rw [HE.out]; unfold pushF; rw [if_neg (by rw [FL.out]; exact hln)]
            cases fifo with
            | nil => have := FL.out; simp at this; omega
            | cons f r => rfl)
          obtain ⟨g, rfl, hrow⟩ : ∃ g, a3 = some ⟨g, 0, none⟩ ∧ RowV W3 g 3 (Ns .i64 (fifo ++ [y])) := by
            rcases hF3.sl with ⟨_, h0⟩ | h
            · simp at h0
            · exact h
          have hcap := hF3.capge
          rw [e3] at hcap
          obtain ⟨dp, hsl, hdp⟩ := sliced_at g 1 (lf + 1) c3 (by omega) hcap
          simp only [Nat.add_sub_cancel] at hsl
          have hc31 : ¬ (c3 = 1) := by omega
          have hdp' := hdp (by omega)
          subst hdp'
          have hgb := hF3.base g rfl
          have l1 : ((fifo ++ [y]).drop 1).length = lf := by rw [List.length_drop, e3]; omega
          obtain ⟨a4, c4, W4, happ3, hF4, hb4⟩ := app_run W3 W3.heap.size none 0 [] (some ⟨g, 1, none⟩) lf (c3 - 1) ((fifo ++ [y]).drop 1) (Ow.nil _ _) l1 (by simp) (.inr ⟨_, rfl, by
            have := src_at hrow 1 lf (by rw [e3]; omega)
            rwa [List.take_of_length_le (by omega)] at this⟩) (by simp; omega) (Nat.le_refl _)
          simp only [List.length_nil, Nat.zero_add, List.nil_append] at happ3 hF4
          have hB4 := hB3.trans (hb4.below (B := wr.heap.size) hB3.size (fun k h => Nat.le_trans hB3.size h))
          have hrow4 := hrow.below (hb4.below (Nat.le_refl _) (fun _ h => h)) hrow.lt
          obtain ⟨ho2, fin⟩ := hl.out.fin rfl S1.out ML' hB4 (hF4.mono hB3.size)
          rw [l1] at fin
          obtain ⟨p0, p1, p2, p3, p4⟩ := fin _ (.inl rfl)
          have o1 : W4.cell? ⟨o, 1, none⟩ = some (.slice none 0 0) := by rw [cell_of_row _ _ _ _ _ _ ho2]; rfl
          have o2 : W4.frozen? ⟨o, 1, none⟩ = false := frozen_of_row _ _ _ _ _ ho2
          have hgo : g ≠ o := by have := lt_blk hl.out.ob; omega
          have hgs : g ≠ w.heap.size + 1 := by have := lt_blk hl.out.ob; have := S1.out; omega
          have hgs' : w.heap.size + 1 ≠ g := fun e => hgs e.symm
          have q0 : (W4.setCell ⟨o, 1, none⟩ (.slice a4 lf c4)).cell? ⟨g, 0, none⟩ = some (.int .i64 (fifo[0]?.getD 0)) := by
            have := cell_n (hrow4.other (p := ⟨o, 1, none⟩) hgo (.slice a4 lf c4)) 0 (by rw [e3]; omega)
            rw [this]
            congr 2
            cases fifo with
            | nil => have := FL.out; simp at this; omega
            | cons f r => rfl
          have P3 := hid p3
          have P4 := hid p4
          have d0 := (cell_of_row _ _ 0 _ _ _ p3).trans rfl
          have d1 := (cell_of_row _ _ 1 _ _ _ p3).trans rfl
          have d2 := (cell_of_row _ _ 2 _ _ _ p3).trans rfl
          have f0 := frozen_of_row _ _ 0 _ _ p3
          have f1 := frozen_of_row _ _ 1 _ _ p3
          have f2 := frozen_of_row _ _ 2 _ _ p3
          clear ho2 fin p3 p4 hl hB3 HY HE hF3 e3 hrow hrow4 hF4 hb4 hB4 hgb l1 hcap hdp
          generalize fifo[0]?.getD 0 = f at *
          go_wp2_with (at_builtin; first | refine wpList_app rfl (.const (.slice none 0 0)) (.tmp 50) (by with_reducible rfl) rfl rfl rfl happ ?_ | refine wpList_app rfl (.tmp 54) (.tmp 56) (by with_reducible rfl) rfl rfl rfl happ2 ?_ | refine wpList_app rfl (.const (.slice none 0 0)) (.tmp 67) (by with_reducible rfl) rfl rfl rfl happ3 ?_)
          go_region
          all_goals
            go_wp2
            refine bodyPost_ret (results_two (by rfl) _ _ (w.heap.size + 1) 29 _ (0, 0) _ (by rfl) (set3 P3.out _ _ _) Try.underlying29 rfl (by kernel_rfl)) (by rfl) ?_
            rw [HE'.out]
            exact P4.out _ _ (.inr rfl)
end Go.Proofs.Ytnhkifinfnobfaa
