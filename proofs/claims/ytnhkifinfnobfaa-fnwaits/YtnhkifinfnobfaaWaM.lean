import Derived.Test.YtnhkifinfnobfaaWaL
namespace Go.Proofs.Ytnhkifinfnobfaa
open Go.ChangeShapes Go.WideShapes Go.ChangeAt Go.RowKit
set_option linter.unusedVariables false

theorem good_parts {mix fifo : List Int} {n : Nat} (h : goodM mix fifo (n : Nat) = true) : mix.length ≤ 16 ∧ 1 ≤ n ∧ n ≤ 32 ∧ fifo.length ≤ n := by
  unfold goodM at h
  simp only [Bool.and_eq_true, decide_eq_true_eq] at h
  omega
theorem epushL (M rm G rq n : Nat) (mix fifo : List Int) (x d : Int) (w : World) (h : Qr w M rm G rq n mix fifo) (hnl : n ≤ 1024) (h0 : mix.length = 0) :
    Calls Try.prog 56 #[.pointer (some ⟨G, 0, none⟩), .int .i64 x, .int .i64 d] w fun e w' => ∃ z, e = .returned (.int .i64 z) ∧ z = (wpM n mix fifo x d).2.2 ∧ Qr w' M rm G rq n (wpM n mix fifo x d).1 (wpM n mix fifo x d).2.1 ∧ But (Qs rm G rq) w w' := by
  obtain rfl := List.length_eq_zero_iff.1 h0
  exact epush M rm G rq n fifo x d w h hnl

set_option maxHeartbeats 400000 in
theorem push_e (am : Option Addr) (lm cm : Nat) (af : Option Addr) (lf cf n : Nat) (mix fifo : List Int) (x d : Int) (w : World) (h : Wt w am lm af lf mix fifo) (hg : goodM mix fifo (n : Nat) = true) (hx : 0 ≤ x) (h0 : mix.length = 0) :
    Calls Try.prog 9 #[wv am lm cm af lf cf (n : Nat), .int .i64 x, .int .i64 d] w fun e w' => ∃ g1 g2, e = .returned (.tuple #[wv (some ⟨g1, 0, none⟩) (wpM n mix fifo x d).1.length (wpM n mix fifo x d).1.length (some ⟨g2, 0, none⟩) (wpM n mix fifo x d).2.1.length (wpM n mix fifo x d).2.1.length (n : Nat), .int .i64 (wpM n mix fifo x d).2.2]) ∧ RowV w' g1 3 (Ns .i64 (wpM n mix fifo x d).1) ∧ RowV w' g2 3 (Ns .i64 (wpM n mix fifo x d).2.1) ∧ w.heap.size ≤ g1 ∧ g1 < g2 ∧ Below w.heap.size w w' := by
  have T2 := hid (al_two w (.cells #[.slice am lm cm, .slice af lf cf, .int .i64 (n : Nat)] 29) (.cells #[.slice none 0 0, .slice none 0 0, .int .i64 0] 29))
  have GD := hid (good_in am lm cm af lf cf (n : Nat) mix fifo _ (h.below T2.out.2.2))
  rw [hg] at GD
  obtain ⟨g1, g2, g3, g4⟩ := good_parts hg
  rw [h.ml] at g1
  rw [h.fl] at g4
  have NQ := hid (fun W (hW : Below w.heap.size w W) => newQ_in am lm cm af lf cf n mix fifo W (h.below hW) g1 ⟨g2, g3⟩ g4)
  have PS := hid (fun W M rm G rq (hW : Qr W M rm G rq n mix fifo) => epushL M rm G rq n mix fifo x d W hW (by omega) h0)
  have TL := hid (fun W M rm G rq (hW : Qr W M rm G rq n (wpM n mix fifo x d).1 (wpM n mix fifo x d).2.1) => told_in M rm G rq n _ _ W hW (by rw [wpM_len, h.ml]; omega) (by omega))
  have qe : ∀ M G, qv M G (wpM n mix fifo x d).1 = .agg #[.pointer (some ⟨M, 0, none⟩), .pointer (some ⟨G, 0, none⟩), .iface 51 (.pointer (some ⟨G, 0, none⟩))] := fun M G => by unfold qv; rw [wpM_len, if_pos h0]
  have qe' : ∀ M G, qv M G mix = .agg #[.pointer (some ⟨M, 0, none⟩), .pointer (some ⟨G, 0, none⟩), .iface 51 (.pointer (some ⟨G, 0, none⟩))] := fun M G => by unfold qv; rw [if_pos h0]
  simp only [qe] at TL
  simp only [qe'] at NQ
  have hx' : ¬ (x < 0) := by omega
  unfold wv at GD NQ ⊢
  clear h hg g1 g2 g3 g4 qe qe' h0 hx
  generalize wpM n mix fifo x d = R at *
  go_enter Try.func9, Try.ntmps9
  go_wp2_with fail
  refine (GD.out).mono ?_
  rintro e w1 ⟨rfl, b1⟩
  have B1 := hid (bl_trans T2.out.2.2 b1)
  have x0 := hid (below_at T2.out.1 b1)
  have x1 := hid (below_at T2.out.2.1 b1)
  have S1 := hid (show w.heap.size + 2 ≤ w1.heap.size by have := b1.size; rw [al_size, al_size] at this; omega)
  clear b1 GD T2
  have c0 : w1.cell? ⟨w.heap.size, 0, none⟩ = some (.slice am lm cm) := by rw [cell_of_row _ _ _ _ _ _ x0.out]; rfl
  have c1 : w1.cell? ⟨w.heap.size, 1, none⟩ = some (.slice af lf cf) := by rw [cell_of_row _ _ _ _ _ _ x0.out]; rfl
  have c2 : w1.cell? ⟨w.heap.size, 2, none⟩ = some (.int .i64 (n : Nat)) := by rw [cell_of_row _ _ _ _ _ _ x0.out]; rfl
  go_wp2_with fail
  refine (NQ.out _ B1.out).mono ?_
  rintro e w2 ⟨M, rm, G, rq, rfl, q2, l2, b2⟩
  clear c0 c1 c2
  have B2 := hid (bl_trans B1.out b2)
  have y1 := hid (below_at x1.out b2)
  have S2 := hid (show w.heap.size + 2 ≤ w2.heap.size by have := b2.size; have := S1.out; omega)
  have A2 := hid ((Below.refl _ w2).alloc (Nat.le_refl _) (.cells #[.pointer (some ⟨M, 0, none⟩), .pointer (some ⟨G, 0, none⟩), .iface 51 (.pointer (some ⟨G, 0, none⟩))] 55))
  have Q2 := hid (q2.below A2.out)
  have z1 := hid (below_at y1.out A2.out)
  have zq := hid (al_last w2 (.cells #[.pointer (some ⟨M, 0, none⟩), .pointer (some ⟨G, 0, none⟩), .iface 51 (.pointer (some ⟨G, 0, none⟩))] 55))
  have L2 := hid (show (w.heap.size + 2 ≤ rm ∧ w.heap.size + 2 ≤ G ∧ w.heap.size + 2 ≤ rq) ∧ rm < w2.heap.size ∧ G < w2.heap.size ∧ rq < w2.heap.size by
    have := S1.out; have := q2.lts; omega)
  have zB := hid (bl_trans B2.out A2.out)
  have hmq := fun w => meth_q ⟨G, 0, none⟩ w
  have hmm := fun w => meth_m ⟨M, 0, none⟩ w
  clear x0 x1 b2 q2 l2 B1 B2 NQ y1 A2 S1
  go_wp2_with fail
  refine (PS.out _ M rm G rq Q2.out).mono ?_
  rintro e w3 ⟨z, rfl, hz, q3, b3⟩
  have Q3 := hid q3
  have v1 := hid (b3.at z1.out (by unfold Qs; have := L2.out; omega))
  have vq := hid (b3.at zq.out (by unfold Qs; have := L2.out; omega))
  have vB := hid (zB.out.trans (b3.below zB.out.size (fun g hg => by unfold Qs at hg; have := L2.out; omega)))
  have hz' := hid hz
  have S3 := hid (show w.heap.size + 2 ≤ w3.heap.size by have := b3.size; rw [al_size] at this; have := S2.out; omega)
  have SX := hid (show w2.heap.size < w3.heap.size by have := b3.size; rw [al_size] at this; omega)
  clear z1 zq zB q3 b3 Q2 PS hz
  have c0 : w3.cell? ⟨w2.heap.size, 0, none⟩ = some (.pointer (some ⟨M, 0, none⟩)) := by rw [cell_of_row _ _ _ _ _ _ vq.out]; rfl
  have c1 : w3.cell? ⟨w2.heap.size, 1, none⟩ = some (.pointer (some ⟨G, 0, none⟩)) := by rw [cell_of_row _ _ _ _ _ _ vq.out]; rfl
  have c2 : w3.cell? ⟨w2.heap.size, 2, none⟩ = some (.iface 51 (.pointer (some ⟨G, 0, none⟩))) := by rw [cell_of_row _ _ _ _ _ _ vq.out]; rfl
  go_wp2_with fail
  refine (TL.out _ M rm G rq Q3.out).mono ?_
  rintro e w4 ⟨g1, g2, rfl, r1, r2, l1, l2, b4⟩
  clear c0 c1 c2
  have u1 := hid (below_at v1.out b4)
  have uB := hid (bl_trans vB.out b4)
  have R1 := hid r1
  have R2 := hid r2
  have LL := hid (show w.heap.size + 2 ≤ g1 ∧ g1 < g2 by have := S3.out; omega)
  clear v1 vq vB r1 r2 l1 l2 b4 TL Q3
  have d0 : w4.cell? ⟨w.heap.size + 1, 0, none⟩ = some (.slice none 0 0) := by rw [cell_of_row _ _ _ _ _ _ u1.out]; rfl
  have d1 : w4.cell? ⟨w.heap.size + 1, 1, none⟩ = some (.slice none 0 0) := by rw [cell_of_row _ _ _ _ _ _ u1.out]; rfl
  have d2 : w4.cell? ⟨w.heap.size + 1, 2, none⟩ = some (.int .i64 0) := by rw [cell_of_row _ _ _ _ _ _ u1.out]; rfl
  have f0 : w4.frozen? ⟨w.heap.size + 1, 0, none⟩ = false := frozen_of_row _ _ _ _ _ u1.out
  have f1 : w4.frozen? ⟨w.heap.size + 1, 1, none⟩ = false := frozen_of_row _ _ _ _ _ u1.out
  have f2 : w4.frozen? ⟨w.heap.size + 1, 2, none⟩ = false := frozen_of_row _ _ _ _ _ u1.out
  unfold wv
  go_wp2
  refine bodyPost_ret (results_two (by rfl) _ _ (w.heap.size + 1) 29 _ (0, 0) _ (by rfl) (set3 u1.out _ _ _) Try.underlying29 rfl (by kernel_rfl)) (by rfl) ?_
  have k1 : g1 ≠ w.heap.size + 1 := by have := LL.out; omega
  have k2 : g2 ≠ w.heap.size + 1 := by have := LL.out; omega
  refine ⟨g1, g2, by rw [← hz'.out]; rfl, ((R1.out.other k1 _).other k1 _).other k1 _, ((R2.out.other k2 _).other k2 _).other k2 _, by have := LL.out; omega, LL.out.2, ((uB.out.setCell (by dsimp only; omega) _).setCell (by dsimp only; omega) _).setCell (by dsimp only; omega) _⟩

set_option maxHeartbeats 400000 in
theorem push_m (am : Option Addr) (lm cm : Nat) (af : Option Addr) (lf cf n : Nat) (mix fifo : List Int) (x d : Int) (w : World) (h : Wt w am lm af lf mix fifo) (hg : goodM mix fifo (n : Nat) = true) (hx : 0 ≤ x) (h0 : mix.length ≠ 0) :
    Calls Try.prog 9 #[wv am lm cm af lf cf (n : Nat), .int .i64 x, .int .i64 d] w fun e w' => ∃ g1 g2, e = .returned (.tuple #[wv (some ⟨g1, 0, none⟩) (wpM n mix fifo x d).1.length (wpM n mix fifo x d).1.length (some ⟨g2, 0, none⟩) (wpM n mix fifo x d).2.1.length (wpM n mix fifo x d).2.1.length (n : Nat), .int .i64 (wpM n mix fifo x d).2.2]) ∧ RowV w' g1 3 (Ns .i64 (wpM n mix fifo x d).1) ∧ RowV w' g2 3 (Ns .i64 (wpM n mix fifo x d).2.1) ∧ w.heap.size ≤ g1 ∧ g1 < g2 ∧ Below w.heap.size w w' := by
  have T2 := hid (al_two w (.cells #[.slice am lm cm, .slice af lf cf, .int .i64 (n : Nat)] 29) (.cells #[.slice none 0 0, .slice none 0 0, .int .i64 0] 29))
  have GD := hid (good_in am lm cm af lf cf (n : Nat) mix fifo _ (h.below T2.out.2.2))
  rw [hg] at GD
  obtain ⟨g1, g2, g3, g4⟩ := good_parts hg
  rw [h.ml] at g1
  rw [h.fl] at g4
  have NQ := hid (fun W (hW : Below w.heap.size w W) => newQ_in am lm cm af lf cf n mix fifo W (h.below hW) g1 ⟨g2, g3⟩ g4)
  have PS := hid (fun W M rm G rq (hW : Qr W M rm G rq n mix fifo) => mpush M rm G rq n mix fifo x d W hW (fun e => h0 (by rw [e]; rfl)) (by rw [h.ml]; omega) (by omega))
  have TL := hid (fun W M rm G rq (hW : Qr W M rm G rq n (wpM n mix fifo x d).1 (wpM n mix fifo x d).2.1) => told_in M rm G rq n _ _ W hW (by rw [wpM_len, h.ml]; omega) (by omega))
  have qe : ∀ M G, qv M G (wpM n mix fifo x d).1 = .agg #[.pointer (some ⟨M, 0, none⟩), .pointer (some ⟨G, 0, none⟩), .iface 50 (.pointer (some ⟨M, 0, none⟩))] := fun M G => by unfold qv; rw [wpM_len, if_neg h0]
  have qe' : ∀ M G, qv M G mix = .agg #[.pointer (some ⟨M, 0, none⟩), .pointer (some ⟨G, 0, none⟩), .iface 50 (.pointer (some ⟨M, 0, none⟩))] := fun M G => by unfold qv; rw [if_neg h0]
  simp only [qe] at TL
  simp only [qe'] at NQ
  have hx' : ¬ (x < 0) := by omega
  unfold wv at GD NQ ⊢
  clear h hg g1 g2 g3 g4 qe qe' h0 hx
  generalize wpM n mix fifo x d = R at *
  go_enter Try.func9, Try.ntmps9
  go_wp2_with fail
  refine (GD.out).mono ?_
  rintro e w1 ⟨rfl, b1⟩
  have B1 := hid (bl_trans T2.out.2.2 b1)
  have x0 := hid (below_at T2.out.1 b1)
  have x1 := hid (below_at T2.out.2.1 b1)
  have S1 := hid (show w.heap.size + 2 ≤ w1.heap.size by have := b1.size; rw [al_size, al_size] at this; omega)
  clear b1 GD T2
  have c0 : w1.cell? ⟨w.heap.size, 0, none⟩ = some (.slice am lm cm) := by rw [cell_of_row _ _ _ _ _ _ x0.out]; rfl
  have c1 : w1.cell? ⟨w.heap.size, 1, none⟩ = some (.slice af lf cf) := by rw [cell_of_row _ _ _ _ _ _ x0.out]; rfl
  have c2 : w1.cell? ⟨w.heap.size, 2, none⟩ = some (.int .i64 (n : Nat)) := by rw [cell_of_row _ _ _ _ _ _ x0.out]; rfl
  go_wp2_with fail
  refine (NQ.out _ B1.out).mono ?_
  rintro e w2 ⟨M, rm, G, rq, rfl, q2, l2, b2⟩
  clear c0 c1 c2
  have B2 := hid (bl_trans B1.out b2)
  have y1 := hid (below_at x1.out b2)
  have S2 := hid (show w.heap.size + 2 ≤ w2.heap.size by have := b2.size; have := S1.out; omega)
  have A2 := hid ((Below.refl _ w2).alloc (Nat.le_refl _) (.cells #[.pointer (some ⟨M, 0, none⟩), .pointer (some ⟨G, 0, none⟩), .iface 50 (.pointer (some ⟨M, 0, none⟩))] 55))
  have Q2 := hid (q2.below A2.out)
  have z1 := hid (below_at y1.out A2.out)
  have zq := hid (al_last w2 (.cells #[.pointer (some ⟨M, 0, none⟩), .pointer (some ⟨G, 0, none⟩), .iface 50 (.pointer (some ⟨M, 0, none⟩))] 55))
  have L2 := hid (show (w.heap.size + 2 ≤ rm ∧ w.heap.size + 2 ≤ G ∧ w.heap.size + 2 ≤ rq) ∧ rm < w2.heap.size ∧ G < w2.heap.size ∧ rq < w2.heap.size by
    have := S1.out; have := q2.lts; omega)
  have zB := hid (bl_trans B2.out A2.out)
  have hmq := fun w => meth_q ⟨G, 0, none⟩ w
  have hmm := fun w => meth_m ⟨M, 0, none⟩ w
  clear x0 x1 b2 q2 l2 B1 B2 NQ y1 A2 S1
  go_wp2_with fail
  refine (PS.out _ M rm G rq Q2.out).mono ?_
  rintro e w3 ⟨z, rfl, hz, q3, b3⟩
  have Q3 := hid q3
  have v1 := hid (b3.at z1.out (by unfold Qs; have := L2.out; omega))
  have vq := hid (b3.at zq.out (by unfold Qs; have := L2.out; omega))
  have vB := hid (zB.out.trans (b3.below zB.out.size (fun g hg => by unfold Qs at hg; have := L2.out; omega)))
  have hz' := hid hz
  have S3 := hid (show w.heap.size + 2 ≤ w3.heap.size by have := b3.size; rw [al_size] at this; have := S2.out; omega)
  have SX := hid (show w2.heap.size < w3.heap.size by have := b3.size; rw [al_size] at this; omega)
  clear z1 zq zB q3 b3 Q2 PS hz
  have c0 : w3.cell? ⟨w2.heap.size, 0, none⟩ = some (.pointer (some ⟨M, 0, none⟩)) := by rw [cell_of_row _ _ _ _ _ _ vq.out]; rfl
  have c1 : w3.cell? ⟨w2.heap.size, 1, none⟩ = some (.pointer (some ⟨G, 0, none⟩)) := by rw [cell_of_row _ _ _ _ _ _ vq.out]; rfl
  have c2 : w3.cell? ⟨w2.heap.size, 2, none⟩ = some (.iface 50 (.pointer (some ⟨M, 0, none⟩))) := by rw [cell_of_row _ _ _ _ _ _ vq.out]; rfl
  go_wp2_with fail
  refine (TL.out _ M rm G rq Q3.out).mono ?_
  rintro e w4 ⟨g1, g2, rfl, r1, r2, l1, l2, b4⟩
  clear c0 c1 c2
  have u1 := hid (below_at v1.out b4)
  have uB := hid (bl_trans vB.out b4)
  have R1 := hid r1
  have R2 := hid r2
  have LL := hid (show w.heap.size + 2 ≤ g1 ∧ g1 < g2 by have := S3.out; omega)
  clear v1 vq vB r1 r2 l1 l2 b4 TL Q3
  have d0 : w4.cell? ⟨w.heap.size + 1, 0, none⟩ = some (.slice none 0 0) := by rw [cell_of_row _ _ _ _ _ _ u1.out]; rfl
  have d1 : w4.cell? ⟨w.heap.size + 1, 1, none⟩ = some (.slice none 0 0) := by rw [cell_of_row _ _ _ _ _ _ u1.out]; rfl
  have d2 : w4.cell? ⟨w.heap.size + 1, 2, none⟩ = some (.int .i64 0) := by rw [cell_of_row _ _ _ _ _ _ u1.out]; rfl
  have f0 : w4.frozen? ⟨w.heap.size + 1, 0, none⟩ = false := frozen_of_row _ _ _ _ _ u1.out
  have f1 : w4.frozen? ⟨w.heap.size + 1, 1, none⟩ = false := frozen_of_row _ _ _ _ _ u1.out
  have f2 : w4.frozen? ⟨w.heap.size + 1, 2, none⟩ = false := frozen_of_row _ _ _ _ _ u1.out
  unfold wv
  go_wp2
  refine bodyPost_ret (results_two (by rfl) _ _ (w.heap.size + 1) 29 _ (0, 0) _ (by rfl) (set3 u1.out _ _ _) Try.underlying29 rfl (by kernel_rfl)) (by rfl) ?_
  have k1 : g1 ≠ w.heap.size + 1 := by have := LL.out; omega
  have k2 : g2 ≠ w.heap.size + 1 := by have := LL.out; omega
  refine ⟨g1, g2, by rw [← hz'.out]; rfl, ((R1.out.other k1 _).other k1 _).other k1 _, ((R2.out.other k2 _).other k2 _).other k2 _, by have := LL.out; omega, LL.out.2, ((uB.out.setCell (by dsimp only; omega) _).setCell (by dsimp only; omega) _).setCell (by dsimp only; omega) _⟩

end Go.Proofs.Ytnhkifinfnobfaa
