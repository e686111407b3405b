import Derived.Test.YtnhkifinfnobfaaWaI
namespace Go.Proofs.Ytnhkifinfnobfaa
open Go.ChangeShapes Go.WideShapes Go.ChangeAt Go.RowKit
set_option linter.unusedVariables false

/-- a quarantine at work, as a value -/
def qv (M G : Nat) (mix : List Int) : Value := .agg #[.pointer (some ⟨M, 0, none⟩), .pointer (some ⟨G, 0, none⟩), if mix.length = 0 then .iface 51 (.pointer (some ⟨G, 0, none⟩)) else .iface 50 (.pointer (some ⟨M, 0, none⟩))]

theorem al_two (w : World) (A B : Obj) : (((w.alloc A).alloc B).heap[w.heap.size]? = some A) ∧ (((w.alloc A).alloc B).heap[w.heap.size + 1]? = some B) ∧ Below w.heap.size w ((w.alloc A).alloc B) := by
  have h1 := al_last w A
  have h2 := al_last (w.alloc A) B
  rw [al_size] at h2
  exact ⟨al_old h1 B, h2, ((Below.refl _ w).alloc (Nat.le_refl _) A).alloc (by rw [al_size]; omega) B⟩
theorem below_at {w w' : World} {g : Nat} {o : Obj} (h : w.heap[g]? = some o) (hb : Below w.heap.size w w') : w'.heap[g]? = some o := by
  rw [hb.block g (lt_blk h)]; exact h

theorem blk_ne {W : World} {g k : Nat} {A B : Obj} (h1 : W.heap[g]? = some A) (h2 : W.heap[k]? = some B) (hne : A ≠ B) : g ≠ k := by
  rintro rfl
  rw [h1] at h2
  cases h2
  exact hne rfl

set_option maxHeartbeats 400000 in
theorem newQ_in (am : Option Addr) (lm cm : Nat) (af : Option Addr) (lf cf n : Nat) (mix fifo : List Int) (w : World) (h : Wt w am lm af lf mix fifo) (hm : lm ≤ 16) (hn : 1 ≤ n ∧ n ≤ 32) (hf : lf ≤ n) :
    Calls Try.prog 24 #[wv am lm cm af lf cf (n : Nat)] w fun e w' => ∃ M rm G rq, e = .returned (qv M G mix) ∧ Qr w' M rm G rq n mix fifo ∧ (w.heap.size ≤ M ∧ w.heap.size ≤ rm ∧ w.heap.size ≤ G ∧ w.heap.size ≤ rq) ∧ Below w.heap.size w w' := by
  unfold wv
  have T2 := hid (al_two w (.cells #[.slice am lm cm, .slice af lf cf, .int .i64 (n : Nat)] 29) (.cells #[.pointer none, .pointer none, .nilIface] 55))
  have N1 := hid (newRing_in n lf cf af fifo _ h.fl hf (by omega) (h.f.below T2.out.2.2))
  have N2 := hid (fun W (hW : Below w.heap.size w W) => newRing_in lm lm cm am mix W h.ml (Nat.le_refl _) (by omega) (h.m.below hW))
  have ML := hid h.ml
  have FL := hid h.fl
  clear h
  go_enter Try.func24, Try.ntmps24
  go_wp2_with fail
  refine (N1.out).mono ?_
  rintro e w1 ⟨rq, rfl, r1, g1, b1⟩
  have B1 := hid (bl_trans T2.out.2.2 b1)
  have x0 := hid (below_at T2.out.1 b1)
  have x1 := hid (below_at T2.out.2.1 b1)
  have R1 := hid r1
  have G1 := hid (show w.heap.size ≤ rq ∧ rq < w1.heap.size from ⟨by have := T2.out.2.2.size; omega, r1.lt⟩)
  clear b1 r1 g1 N1 T2
  have A1 := hid ((Below.refl _ w1).alloc (Nat.le_refl _) (.cells #[.slice (some ⟨rq, 0, none⟩) n n, .int .i64 0, .int .i64 (lf : Nat)] 66))
  have c0 : (w1.alloc (.cells #[.slice (some ⟨rq, 0, none⟩) n n, .int .i64 0, .int .i64 (lf : Nat)] 66)).cell? ⟨w.heap.size, 0, none⟩ = some (.slice am lm cm) := by rw [cell_of_row _ _ _ _ _ _ (below_at x0.out A1.out)]; rfl
  go_wp2_with fail
  refine (N2.out _ (bl_trans B1.out A1.out)).mono ?_
  rintro e w2 ⟨rm, rfl, r2, g2, b2⟩
  clear c0
  have L1 := B1.out.size
  have hQ := hid (below_at (al_last w1 (.cells #[.slice (some ⟨rq, 0, none⟩) n n, .int .i64 0, .int .i64 (lf : Nat)] 66)) b2)
  have hrq := hid ((R1.out.below A1.out R1.out.lt).below b2 (Nat.lt_of_lt_of_le R1.out.lt A1.out.size))
  have B2 := hid (bl_trans (bl_trans B1.out A1.out) b2)
  have y0 := hid (below_at (below_at x0.out A1.out) b2)
  have y1 := hid (below_at (below_at x1.out A1.out) b2)
  have hne := hid (show rm ≠ rq by have := G1.out.2; rw [al_size] at g2; omega)
  have hrm := hid (show w.heap.size ≤ rm by rw [al_size] at g2; omega)
  have R2 := hid r2
  have hG := hid (show w.heap.size ≤ w1.heap.size by have := B1.out.size; omega)
  generalize w1.heap.size = G at *
  have A2 := hid ((Below.refl _ w2).alloc (Nat.le_refl _) (.cells #[.slice (some ⟨rm, 0, none⟩) lm lm, .int .i64 0, .int .i64 (lm : Nat), .iface 51 (.pointer (some ⟨G, 0, none⟩))] 68))
  clear x0 x1 b2 r2 g2 B1 A1 R1 N2
  have z0 := hid (below_at y0.out A2.out)
  have z1 := hid (below_at y1.out A2.out)
  have zM := hid (al_last w2 (.cells #[.slice (some ⟨rm, 0, none⟩) lm lm, .int .i64 0, .int .i64 (lm : Nat), .iface 51 (.pointer (some ⟨G, 0, none⟩))] 68))
  have zQ := hid (below_at hQ.out A2.out)
  have zr := hid (hrq.out.below A2.out hrq.out.lt)
  have zm := hid (R2.out.below A2.out R2.out.lt)
  have zB := hid (bl_trans B2.out A2.out)
  have hM := hid B2.out.size
  have c0 : (w2.alloc (.cells #[.slice (some ⟨rm, 0, none⟩) lm lm, .int .i64 0, .int .i64 (lm : Nat), .iface 51 (.pointer (some ⟨G, 0, none⟩))] 68)).cell? ⟨w.heap.size, 0, none⟩ = some (.slice am lm cm) := by rw [cell_of_row _ _ _ _ _ _ z0.out]; rfl
  have d0 : (w2.alloc (.cells #[.slice (some ⟨rm, 0, none⟩) lm lm, .int .i64 0, .int .i64 (lm : Nat), .iface 51 (.pointer (some ⟨G, 0, none⟩))] 68)).cell? ⟨w.heap.size + 1, 0, none⟩ = some (.pointer none) := by rw [cell_of_row _ _ _ _ _ _ z1.out]; rfl
  have d1 : (w2.alloc (.cells #[.slice (some ⟨rm, 0, none⟩) lm lm, .int .i64 0, .int .i64 (lm : Nat), .iface 51 (.pointer (some ⟨G, 0, none⟩))] 68)).cell? ⟨w.heap.size + 1, 1, none⟩ = some (.pointer none) := by rw [cell_of_row _ _ _ _ _ _ z1.out]; rfl
  have d2 : (w2.alloc (.cells #[.slice (some ⟨rm, 0, none⟩) lm lm, .int .i64 0, .int .i64 (lm : Nat), .iface 51 (.pointer (some ⟨G, 0, none⟩))] 68)).cell? ⟨w.heap.size + 1, 2, none⟩ = some .nilIface := by rw [cell_of_row _ _ _ _ _ _ z1.out]; rfl
  have f0 : (w2.alloc (.cells #[.slice (some ⟨rm, 0, none⟩) lm lm, .int .i64 0, .int .i64 (lm : Nat), .iface 51 (.pointer (some ⟨G, 0, none⟩))] 68)).frozen? ⟨w.heap.size + 1, 0, none⟩ = false := frozen_of_row _ _ _ _ _ z1.out
  have f1 : (w2.alloc (.cells #[.slice (some ⟨rm, 0, none⟩) lm lm, .int .i64 0, .int .i64 (lm : Nat), .iface 51 (.pointer (some ⟨G, 0, none⟩))] 68)).frozen? ⟨w.heap.size + 1, 1, none⟩ = false := frozen_of_row _ _ _ _ _ z1.out
  have f2 : (w2.alloc (.cells #[.slice (some ⟨rm, 0, none⟩) lm lm, .int .i64 0, .int .i64 (lm : Nat), .iface 51 (.pointer (some ⟨G, 0, none⟩))] 68)).frozen? ⟨w.heap.size + 1, 2, none⟩ = false := frozen_of_row _ _ _ _ _ z1.out
  have FIN := hid (show ∀ v0 v1 v2 : Value, ∀ W', W' = (((w2.alloc (.cells #[.slice (some ⟨rm, 0, none⟩) lm lm, .int .i64 0, .int .i64 (lm : Nat), .iface 51 (.pointer (some ⟨G, 0, none⟩))] 68)).setCell ⟨w.heap.size + 1, 0, none⟩ v0).setCell ⟨w.heap.size + 1, 1, none⟩ v1).setCell ⟨w.heap.size + 1, 2, none⟩ v2 → Qr W' w2.heap.size rm G rq n mix fifo ∧ (w.heap.size ≤ w2.heap.size ∧ w.heap.size ≤ rm ∧ w.heap.size ≤ G ∧ w.heap.size ≤ rq) ∧ Below w.heap.size w W' from ?FIN)
  case FIN =>
    rintro v0 v1 v2 W' rfl
    have bt : But (fun k => k = w.heap.size + 1) (w2.alloc (.cells #[.slice (some ⟨rm, 0, none⟩) lm lm, .int .i64 0, .int .i64 (lm : Nat), .iface 51 (.pointer (some ⟨G, 0, none⟩))] 68)) ((((w2.alloc (.cells #[.slice (some ⟨rm, 0, none⟩) lm lm, .int .i64 0, .int .i64 (lm : Nat), .iface 51 (.pointer (some ⟨G, 0, none⟩))] 68)).setCell ⟨w.heap.size + 1, 0, none⟩ v0).setCell ⟨w.heap.size + 1, 1, none⟩ v1).setCell ⟨w.heap.size + 1, 2, none⟩ v2) := (((But.refl (fun k => k = w.heap.size + 1) (w2.alloc (.cells #[.slice (some ⟨rm, 0, none⟩) lm lm, .int .i64 0, .int .i64 (lm : Nat), .iface 51 (.pointer (some ⟨G, 0, none⟩))] 68))).set _ _ _ rfl).set _ _ _ rfl).set _ _ _ rfl
    have q0 : Qr (w2.alloc (.cells #[.slice (some ⟨rm, 0, none⟩) lm lm, .int .i64 0, .int .i64 (lm : Nat), .iface 51 (.pointer (some ⟨G, 0, none⟩))] 68)) w2.heap.size rm G rq n mix fifo := by
      refine ⟨⟨by rw [ML.out]; exact zM.out, ?_⟩, ⟨_, 0, lf, zQ.out, zr.out, ?_, ?_, hf, fun _ => rfl, ?_⟩, hne.out⟩
      · have := zm.out
        rwa [Nat.sub_self, List.replicate_zero, List.append_nil] at this
      · rw [List.length_append, List.length_replicate, FL.out]; omega
      · omega
      · rw [List.drop_zero, List.take_zero, List.append_nil, ← FL.out, List.take_append_of_le_length (Nat.le_refl _), List.take_length]
    have o1 := z1.out
    have n1 := blk_ne zM.out o1 (by simp)
    have n2 : rm ≠ w.heap.size + 1 := (zm.out.ne o1 (by decide)).symm
    have n3 := blk_ne zQ.out o1 (by simp)
    have n4 : rq ≠ w.heap.size + 1 := (zr.out.ne o1 (by decide)).symm
    exact ⟨q0.but bt n1 n2 n3 n4, ⟨hM.out, hrm.out, hG.out, G1.out.1⟩, zB.out.trans (bt.below zB.out.size (fun g e => by omega))⟩
  clear z0 zM zQ zr zm zB hM hQ hrq hrm hG R2 A2 B2 y0 y1 hne
  by_cases h0 : lm = 0
  · have q1 : qv w2.heap.size G mix = .agg #[.pointer (some ⟨w2.heap.size, 0, none⟩), .pointer (some ⟨G, 0, none⟩), .iface 51 (.pointer (some ⟨G, 0, none⟩))] := by unfold qv; rw [ML.out, if_pos h0]
    have HQ := hid q1
    have h0' : ((lm : Int) == 0) = true := by simp [h0]
    clear q1 h0
    go_wp2
    refine bodyPost_ret (results_cell_row (by rfl) _ _ (w.heap.size + 1) 55 _ (0, 0) _ (by rfl) (set3 z1.out _ _ _) Try.underlying55 rfl (by kernel_rfl)) (by rfl) ?_
    exact ⟨w2.heap.size, rm, G, rq, by rw [HQ.out], FIN.out _ _ _ _ rfl⟩
  · have q1 : qv w2.heap.size G mix = .agg #[.pointer (some ⟨w2.heap.size, 0, none⟩), .pointer (some ⟨G, 0, none⟩), .iface 50 (.pointer (some ⟨w2.heap.size, 0, none⟩))] := by unfold qv; rw [ML.out, if_neg h0]
    have HQ := hid q1
    have h0' : ((lm : Int) == 0) = false := by simp; omega
    clear q1 h0
    go_wp2
    refine bodyPost_ret (results_cell_row (by rfl) _ _ (w.heap.size + 1) 55 _ (0, 0) _ (by rfl) (set3 z1.out _ _ _) Try.underlying55 rfl (by kernel_rfl)) (by rfl) ?_
    exact ⟨w2.heap.size, rm, G, rq, by rw [HQ.out], FIN.out _ _ _ _ rfl⟩
end Go.Proofs.Ytnhkifinfnobfaa
