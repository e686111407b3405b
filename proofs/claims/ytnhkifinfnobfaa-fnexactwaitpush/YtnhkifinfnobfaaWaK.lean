import Derived.Test.YtnhkifinfnobfaaWaJ
namespace Go.Proofs.Ytnhkifinfnobfaa
open Go.ChangeShapes Go.WideShapes Go.ChangeAt Go.RowKit
set_option linter.unusedVariables false

theorem rowM (M rm G rq n : Nat) (mix fifo : List Int) (W : World) (h : Qr W M rm G rq n mix fifo) (hml : mix.length ≤ 1024) :
    Calls Try.prog 33 #[.pointer (some ⟨M, 0, none⟩)] W fun e w' => e = .returned (.slice (some ⟨W.heap.size, 0, none⟩) mix.length mix.length) ∧ RowV w' W.heap.size 3 (Ns .i64 mix) ∧ Below W.heap.size W w' := by
  have hb := h.mx.1
  have hr := h.mx.2
  have := row_in M rm mix.length 0 mix.length _ W.heap.size mix W rfl rfl (by rw [cell_of_row _ _ _ _ _ _ hb]; rfl) (by rw [cell_of_row _ _ _ _ _ _ hb]; rfl) (by rw [cell_of_row _ _ _ _ _ _ hb]; rfl) hr rfl (Nat.zero_le _) (Nat.le_refl _) hml
  rwa [List.drop_zero, List.take_zero, List.append_nil, List.take_length] at this
theorem rowQ (M rm G rq n : Nat) (mix fifo : List Int) (W : World) (h : Qr W M rm G rq n mix fifo) (hnl : n ≤ 1024) :
    Calls Try.prog 33 #[.pointer (some ⟨G, 0, none⟩)] W fun e w' => e = .returned (.slice (some ⟨W.heap.size, 0, none⟩) fifo.length fifo.length) ∧ RowV w' W.heap.size 3 (Ns .i64 fifo) ∧ Below W.heap.size W w' := by
  obtain ⟨ps, o, k, hb, hr, hn, ho, hk, h0, e⟩ := h.qu
  have := row_in G rq n o k _ W.heap.size ps W rfl rfl (by rw [cell_of_row _ _ _ _ _ _ hb]; rfl) (by rw [cell_of_row _ _ _ _ _ _ hb]; rfl) (by rw [cell_of_row _ _ _ _ _ _ hb]; rfl) hr hn (by omega) hk hnl
  rw [← e] at this
  have el : fifo.length = k := by rw [e]; simp; omega
  rw [el]
  exact this
theorem cells_off (W : World) (g : Nat) (a b c : Value) (x : Addr) (h : x.block ≠ g) : (((W.setCell ⟨g, 0, none⟩ a).setCell ⟨g, 1, none⟩ b).setCell ⟨g, 2, none⟩ c).cell? x = W.cell? x := by
  unfold World.cell?
  rw [heap_setCell_other _ _ _ _ (by simpa using h), heap_setCell_other _ _ _ _ (by simpa using h), heap_setCell_other _ _ _ _ (by simpa using h)]

set_option maxHeartbeats 1000000 in
theorem told_any (M rm G rq n s : Nat) (t : TypeId) (a : Addr) (mix fifo : List Int) (w : World) (hs : s = w.heap.size) (h : Qr w M rm G rq n mix fifo) (hml : mix.length ≤ 1024) (hnl : n ≤ 1024) :
    Calls Try.prog 26 #[.agg #[.pointer (some ⟨M, 0, none⟩), .pointer (some ⟨G, 0, none⟩), .iface t (.pointer (some a))]] w fun e w' => ∃ g1 g2, e = .returned (wv (some ⟨g1, 0, none⟩) mix.length mix.length (some ⟨g2, 0, none⟩) fifo.length fifo.length (n : Nat)) ∧ RowV w' g1 3 (Ns .i64 mix) ∧ RowV w' g2 3 (Ns .i64 fifo) ∧ w.heap.size ≤ g1 ∧ g1 < g2 ∧ Below w.heap.size w w' := by
  have T2 := al_two w (.cells #[.pointer (some ⟨M, 0, none⟩), .pointer (some ⟨G, 0, none⟩), .iface t (.pointer (some a))] 55) (.cells #[.slice none 0 0, .slice none 0 0, .int .i64 0] 29)
  obtain ⟨ps, o, k, hb, hx⟩ := h.qu
  clear hx
  have RM := hid (fun W (hW : Qr W M rm G rq n mix fifo) => rowM M rm G rq n mix fifo W hW hml)
  have RQ := hid (fun W (hW : Qr W M rm G rq n mix fifo) => rowQ M rm G rq n mix fifo W hW hnl)
  have hGl := lt_blk hb
  have hGs : G ≠ s + 1 := by omega
  have hGn : G ≠ s := by omega
  have cG := below_cell T2.2.2 (show w.cell? ⟨G, 0, none⟩ = some (.slice (some ⟨rq, 0, none⟩) n n) by rw [cell_of_row _ _ _ _ _ _ hb]; rfl)
  have hq := h.but (But.ofBelow (S := fun _ => False) T2.2.2) id id id id
  have HS0 := hid (show w.heap.size + 2 ≤ ((w.alloc (.cells #[.pointer (some ⟨M, 0, none⟩), .pointer (some ⟨G, 0, none⟩), .iface t (.pointer (some a))] 55)).alloc (.cells #[.slice none 0 0, .slice none 0 0, .int .i64 0] 29)).heap.size by rw [al_size, al_size]; omega)
  clear h hb
  go_enter Try.func26, Try.ntmps26
  go_wp2
  rw [← hs]
  have HBx := T2.2.2
  rw [← hs] at T2
  generalize (w.alloc (.cells #[.pointer (some ⟨M, 0, none⟩), .pointer (some ⟨G, 0, none⟩), .iface t (.pointer (some a))] 55)).alloc (.cells #[.slice none 0 0, .slice none 0 0, .int .i64 0] 29) = W0 at *
  have CA0 : W0.drew.cell? ⟨s, 0, none⟩ = some (.pointer (some ⟨M, 0, none⟩)) ∧ W0.drew.cell? ⟨s, 1, none⟩ = some (.pointer (some ⟨G, 0, none⟩)) ∧ W0.drew.cell? ⟨G, 0, none⟩ = some (.slice (some ⟨rq, 0, none⟩) n n) := ⟨(cell_of_row W0 _ _ _ _ _ T2.1).trans rfl, (cell_of_row W0 _ _ _ _ _ T2.1).trans rfl, cG⟩
  have HQ : Hid (Qr W0.drew M rm G rq n mix fifo) := hq.but (S := fun _ => False) (But.refl _ _).drew id id id id
  have HZ : Hid (W0.drew.heap[s + 1]? = some (.cells #[.slice none 0 0, .slice none 0 0, .int .i64 0] 29 (0, 0))) := T2.2.1
  have HB := hid HBx.drew
  clear HBx
  have HW := hid hs
  clear T2 hs hq cG
  refine wp_region_held (S := fun W => W.cell? ⟨s, 0, none⟩ = some (.pointer (some ⟨M, 0, none⟩)) ∧ W.cell? ⟨s, 1, none⟩ = some (.pointer (some ⟨G, 0, none⟩)) ∧ W.cell? ⟨G, 0, none⟩ = some (.slice (some ⟨rq, 0, none⟩) n n)) (by kernel_rfl) ?_
  simp only [List.size_toArray, List.length_cons, List.length_nil, Nat.reduceAdd, Array.replicate_succ, Array.replicate_zero, List.push_toArray, List.nil_append, List.cons_append]
  have hS := CA0
  refine wpAnyH_put (i := 0) (d := 3) (v := .pointer (some ⟨s, 0, none⟩)) rfl (by kernel_rfl) (by kernel_rfl) (by kernel_rfl) (by kernel_rfl) (fun _ _ _ h => h) (Or.inl ⟨by kernel_rfl, fun _ _ => by kernel_rfl⟩) hS ?_
  simp only [List.setIfInBounds_toArray, List.set_cons_zero, List.set_cons_succ]
  refine wpAnyH_put (i := 1) (d := 4) (v := .pointer (some ⟨M, 0, none⟩)) rfl (by kernel_rfl) (by kernel_rfl) (by kernel_rfl) (by kernel_rfl) (fun _ _ _ h => h) (Or.inl ⟨by kernel_rfl, fun W hS => by obtain ⟨h1, h2, h3⟩ := hS; go_simp⟩) hS ?_
  simp only [List.setIfInBounds_toArray, List.set_cons_zero, List.set_cons_succ]
  refine wpAnyH_put (i := 2) (d := 5) (v := .pointer (some ⟨M, 0, none⟩)) rfl (by kernel_rfl) (by kernel_rfl) (by kernel_rfl) (by kernel_rfl) (fun _ _ _ h => h) (Or.inl ⟨by kernel_rfl, fun _ _ => by kernel_rfl⟩) hS ?_
  simp only [List.setIfInBounds_toArray, List.set_cons_zero, List.set_cons_succ]
  refine wpAnyH_put (i := 3) (d := 6) (v := .pointer (some ⟨M, 0, none⟩)) rfl (by kernel_rfl) (by kernel_rfl) (by kernel_rfl) (by kernel_rfl) (fun _ _ _ h => h) (Or.inl ⟨by kernel_rfl, fun _ _ => by kernel_rfl⟩) hS ?_
  simp only [List.setIfInBounds_toArray, List.set_cons_zero, List.set_cons_succ]
  refine wpAnyH_put (i := 5) (d := 8) (v := .pointer (some ⟨s, 1, none⟩)) rfl (by kernel_rfl) (by kernel_rfl) (by kernel_rfl) (by kernel_rfl) (fun _ _ _ h => h) (Or.inl ⟨by kernel_rfl, fun _ _ => by kernel_rfl⟩) hS ?_
  simp only [List.setIfInBounds_toArray, List.set_cons_zero, List.set_cons_succ]
  refine wpAnyH_put (i := 6) (d := 9) (v := .pointer (some ⟨G, 0, none⟩)) rfl (by kernel_rfl) (by kernel_rfl) (by kernel_rfl) (by kernel_rfl) (fun _ _ _ h => h) (Or.inl ⟨by kernel_rfl, fun W hS => by obtain ⟨h1, h2, h3⟩ := hS; go_simp⟩) hS ?_
  simp only [List.setIfInBounds_toArray, List.set_cons_zero, List.set_cons_succ]
  refine wpAnyH_put (i := 7) (d := 10) (v := .pointer (some ⟨G, 0, none⟩)) rfl (by kernel_rfl) (by kernel_rfl) (by kernel_rfl) (by kernel_rfl) (fun _ _ _ h => h) (Or.inl ⟨by kernel_rfl, fun _ _ => by kernel_rfl⟩) hS ?_
  simp only [List.setIfInBounds_toArray, List.set_cons_zero, List.set_cons_succ]
  refine wpAnyH_put (i := 8) (d := 11) (v := .pointer (some ⟨G, 0, none⟩)) rfl (by kernel_rfl) (by kernel_rfl) (by kernel_rfl) (by kernel_rfl) (fun _ _ _ h => h) (Or.inl ⟨by kernel_rfl, fun _ _ => by kernel_rfl⟩) hS ?_
  simp only [List.setIfInBounds_toArray, List.set_cons_zero, List.set_cons_succ]
  refine wpAnyH_put (i := 10) (d := 13) (v := .pointer (some ⟨s, 1, none⟩)) rfl (by kernel_rfl) (by kernel_rfl) (by kernel_rfl) (by kernel_rfl) (fun _ _ _ h => h) (Or.inl ⟨by kernel_rfl, fun _ _ => by kernel_rfl⟩) hS ?_
  simp only [List.setIfInBounds_toArray, List.set_cons_zero, List.set_cons_succ]
  refine wpAnyH_put (i := 11) (d := 14) (v := .pointer (some ⟨G, 0, none⟩)) rfl (by kernel_rfl) (by kernel_rfl) (by kernel_rfl) (by kernel_rfl) (fun _ _ _ h => h) (Or.inl ⟨by kernel_rfl, fun W hS => by obtain ⟨h1, h2, h3⟩ := hS; go_simp⟩) hS ?_
  simp only [List.setIfInBounds_toArray, List.set_cons_zero, List.set_cons_succ]
  refine wpAnyH_put (i := 12) (d := 15) (v := .pointer (some ⟨G, 0, none⟩)) rfl (by kernel_rfl) (by kernel_rfl) (by kernel_rfl) (by kernel_rfl) (fun _ _ _ h => h) (Or.inl ⟨by kernel_rfl, fun _ _ => by kernel_rfl⟩) hS ?_
  simp only [List.setIfInBounds_toArray, List.set_cons_zero, List.set_cons_succ]
  refine wpAnyH_put (i := 13) (d := 16) (v := .pointer (some ⟨G, 0, none⟩)) rfl (by kernel_rfl) (by kernel_rfl) (by kernel_rfl) (by kernel_rfl) (fun _ _ _ h => h) (Or.inl ⟨by kernel_rfl, fun _ _ => by kernel_rfl⟩) hS ?_
  simp only [List.setIfInBounds_toArray, List.set_cons_zero, List.set_cons_succ]
  refine wpAnyH_put (i := 14) (d := 17) (v := .pointer (some ⟨G, 0, none⟩)) rfl (by kernel_rfl) (by kernel_rfl) (by kernel_rfl) (by kernel_rfl) (fun _ _ _ h => h) (Or.inl ⟨by kernel_rfl, fun _ _ => by kernel_rfl⟩) hS ?_
  simp only [List.setIfInBounds_toArray, List.set_cons_zero, List.set_cons_succ]
  refine wpAnyH_put (i := 15) (d := 18) (v := .slice (some ⟨rq, 0, none⟩) n n) rfl (by kernel_rfl) (by kernel_rfl) (by kernel_rfl) (by kernel_rfl) (fun _ _ _ h => h) (Or.inl ⟨by kernel_rfl, fun W hS => by obtain ⟨h1, h2, h3⟩ := hS; go_simp⟩) hS ?_
  simp only [List.setIfInBounds_toArray, List.set_cons_zero, List.set_cons_succ]
  refine wpAnyH_put (i := 16) (d := 19) (v := .int .i64 (n : Nat)) rfl (by kernel_rfl) (by kernel_rfl) (by kernel_rfl) (by kernel_rfl) (fun _ _ _ h => h) (Or.inl ⟨by kernel_rfl, fun W _ => by first | (go_simp; done) | (go_simp; omega)⟩) hS ?_
  simp only [List.setIfInBounds_toArray, List.set_cons_zero, List.set_cons_succ]
  refine wpAnyH_one (r := 4) (by kernel_rfl) ?_
  refine wpOp_do rfl (by kernel_rfl) (fun K' hK => ?_)
  go_simp
  refine (RM.out _ HQ.out).mono ?_
  rintro e w1 ⟨rfl, r1, b1⟩
  have B1 := hid (bl_trans HB.out b1)
  have Q1 := hid (HQ.out.but (But.ofBelow (S := fun _ => False) b1) id id id id)
  have Z1 := hid (below_at HZ.out b1)
  have R1 := hid r1
  have hS1 := (show _ ∧ _ ∧ _ from ⟨below_cell b1 hS.1, below_cell b1 hS.2.1, below_cell b1 hS.2.2⟩)
  refine hK.out _ _ ⟨hS1, ?_⟩
  clear hS r1 b1
  have hS := hS1
  clear hS1
  clear hK K'
  refine wpAnyH_one (r := 9) (by kernel_rfl) ?_
  refine wpOp_do rfl (by kernel_rfl) (fun K' hK => ?_)
  go_simp
  refine (RQ.out _ Q1.out).mono ?_
  rintro e w2 ⟨rfl, r2, b2⟩
  have B2 := hid (bl_trans B1.out b2)
  have Z2 := hid (below_at Z1.out b2)
  have R2 := hid r2
  have X1 := hid (R1.out.below b2 R1.out.lt)
  have hS1 := (show _ ∧ _ ∧ _ from ⟨below_cell b2 hS.1, below_cell b2 hS.2.1, below_cell b2 hS.2.2⟩)
  refine hK.out _ _ ⟨hS1, ?_⟩
  have L1 := hid (R1.out.lt)
  clear hS r2 b2
  have hS := hS1
  clear hS1
  clear hK K'
  refine wpAnyH_put (i := 17) (d := 20) (v := .agg #[.slice (some ⟨W0.drew.heap.size, 0, none⟩) mix.length mix.length, .slice (some ⟨w1.heap.size, 0, none⟩) fifo.length fifo.length, .int .i64 (n : Nat)]) rfl (by kernel_rfl) (by kernel_rfl) (by kernel_rfl) (by kernel_rfl) (fun _ _ _ h => h) (Or.inl ⟨by kernel_rfl, fun _ _ => by kernel_rfl⟩) hS ?_
  simp only [List.setIfInBounds_toArray, List.set_cons_zero, List.set_cons_succ]
  have d0 : w2.cell? ⟨s + 1, 0, none⟩ = some (.slice none 0 0) := by rw [cell_of_row _ _ _ _ _ _ Z2.out]; rfl
  have d1 : w2.cell? ⟨s + 1, 1, none⟩ = some (.slice none 0 0) := by rw [cell_of_row _ _ _ _ _ _ Z2.out]; rfl
  have d2 : w2.cell? ⟨s + 1, 2, none⟩ = some (.int .i64 0) := by rw [cell_of_row _ _ _ _ _ _ Z2.out]; rfl
  have f0 : w2.frozen? ⟨s + 1, 0, none⟩ = false := frozen_of_row _ _ _ _ _ Z2.out
  have f1 : w2.frozen? ⟨s + 1, 1, none⟩ = false := frozen_of_row _ _ _ _ _ Z2.out
  have f2 : w2.frozen? ⟨s + 1, 2, none⟩ = false := frozen_of_row _ _ _ _ _ Z2.out
  refine wpAnyH_one (r := 18) (by kernel_rfl) ?_
  refine wpOp_do rfl (by kernel_rfl) (fun K' hK => ?_)
  go_simp
  refine hK.out _ _ ⟨⟨?_, ?_, ?_⟩, ?_⟩
  · have := hS.1; rw [cells_off _ _ _ _ _ _ (by dsimp only; omega)]; exact this
  · have := hS.2.1; rw [cells_off _ _ _ _ _ _ (by dsimp only; omega)]; exact this
  · have := hS.2.2; rw [cells_off _ _ _ _ _ _ (by dsimp only; exact hGs)]; exact this
  refine wpAnyH_done (by kernel_rfl) ?_ _
  go_wp2
  refine bodyPost_ret (results_cell_row (by rfl) _ _ (s + 1) 29 _ (0, 0) _ (by rfl) (set3 Z2.out _ _ _) Try.underlying29 rfl (by kernel_rfl)) (by rfl) ?_
  have hlt := HB.out.size
  have hw1 := R1.out.lt
  have h0 : s + 1 ≠ W0.drew.heap.size := by have := HS0.out; have := HW.out; show s + 1 ≠ W0.heap.size; omega
  have h1 : s + 1 ≠ w1.heap.size := by have := HS0.out; have := HW.out; have e : W0.drew.heap.size = W0.heap.size := rfl; omega
  refine ⟨W0.drew.heap.size, w1.heap.size, rfl, ?_, ?_, hlt, hw1, ?_⟩
  · exact ((X1.out.other (Ne.symm h0) _).other (Ne.symm h0) _).other (Ne.symm h0) _
  · exact ((R2.out.other (Ne.symm h1) _).other (Ne.symm h1) _).other (Ne.symm h1) _
  · have := HW.out
    exact ((B2.out.setCell (by dsimp only; omega) _).setCell (by dsimp only; omega) _).setCell (by dsimp only; omega) _

theorem told_in (M rm G rq n : Nat) (mix fifo : List Int) (w : World) (h : Qr w M rm G rq n mix fifo) (hml : mix.length ≤ 1024) (hnl : n ≤ 1024) :
    Calls Try.prog 26 #[qv M G mix] w fun e w' => ∃ g1 g2, e = .returned (wv (some ⟨g1, 0, none⟩) mix.length mix.length (some ⟨g2, 0, none⟩) fifo.length fifo.length (n : Nat)) ∧ RowV w' g1 3 (Ns .i64 mix) ∧ RowV w' g2 3 (Ns .i64 fifo) ∧ w.heap.size ≤ g1 ∧ g1 < g2 ∧ Below w.heap.size w w' := by
  unfold qv
  split
  · exact told_any M rm G rq n _ 51 ⟨G, 0, none⟩ mix fifo w rfl h hml hnl
  · exact told_any M rm G rq n _ 50 ⟨M, 0, none⟩ mix fifo w rfl h hml hnl
end Go.Proofs.Ytnhkifinfnobfaa
