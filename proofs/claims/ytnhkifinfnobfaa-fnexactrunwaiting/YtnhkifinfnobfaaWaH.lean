import Derived.Test.YtnhkifinfnobfaaWaG
namespace Go.Proofs.Ytnhkifinfnobfaa
open Go.ChangeShapes Go.WideShapes Go.ChangeAt Go.RowKit
set_option linter.unusedVariables false

theorem upon_value {P : Program} {o : Oper} {a : Act} {K : Act → World → Prop} {Q : Exit → Act → World → Prop} {r : Result Value} {v : Value} {w' : World} (h : r = .ok v w') (k : K (a.put o.dst v) w') : Oper.upon P o a K Q (r.andThen fun a w' => Result.ok (Next.value a) w') := by
  subst h
  simpa [Oper.upon, Result.andThen] using k

theorem sliced_at (g l len cap : Nat) (hl : l ≤ len) (hc : len ≤ cap) : ∃ dp, (∀ w : World, (Instr.slice 23 (.slice (some ⟨g, 0, none⟩) len cap) (some (.int .i64 (l : Nat))) none none).run Try.prog w = .ok (.slice dp (len - l) (cap - l)) w) ∧ (l < len → dp = some ⟨g, l, none⟩) := by
  have h := fun w => run_slice_l (P := Try.prog) w 23 (some ⟨g, 0, none⟩) len cap Try.underlying23 .i64 (l : Int) (by omega) (by omega)
  have hs : ∀ w : World, (sizeOf (Try.prog.elem 23)).run Try.prog w = .ok 1 w := fun w => by kernel_rfl
  refine ⟨if cap = l then some ⟨g, 0, none⟩ else some ⟨g, l, none⟩, fun w => ?_, fun h => ?_⟩
  · rw [h w, hs]
    have e : (⟨g, 0, none⟩ : Addr).add l = ⟨g, l, none⟩ := by cases l <;> simp [Addr.add]
    simp [sliced, Result.andThen, e]
  · rw [if_neg (by omega)]

theorem src_at {w : World} {r : Nat} {ps : List Int} (hr : RowV w r 3 (Ns .i64 ps)) (o k : Nat) (hk : o + k ≤ ps.length) : ∀ j v, (Ns .i64 ((ps.drop o).take k))[j]? = some v → w.cell? ((⟨r, o, none⟩ : Addr).add j) = some v := by
  intro j v hv
  have hj : j < k := by
    by_cases hj : j < k
    · exact hj
    · rw [List.getElem?_eq_none (by simp [Ns]; omega)] at hv; cases hv
  have e : (⟨r, o, none⟩ : Addr).add j = ⟨r, o + j, none⟩ := by cases j <;> simp [Addr.add]
  rw [e, hr.cell _ (by rw [Ns_len]; omega)]
  rw [← hv]
  simp [Ns, hj]

theorem splice2 {α : Type} (Z A B : List α) (m : Nat) (hA : A.length = m) (hZ : Z.length = m + B.length) : splice (splice Z 0 A) m B = A ++ B := by
  subst hA
  have e1 : splice Z 0 A = A ++ Z.drop A.length := by simp [splice]
  rw [e1]
  unfold splice
  rw [List.take_append_of_le_length (Nat.le_refl _), List.take_length, List.drop_of_length_le (by simp; omega)]
  simp
theorem row_list (ps : List Int) (n o h m : Nat) (hn : ps.length = n) (ho : o ≤ n) (hh : h ≤ n) (hm : m ≤ n - o ∧ m ≤ h ∧ (m = n - o ∨ m = h)) : (ps.drop o).take m ++ (ps.drop 0).take (h - m) = (ps.drop o ++ ps.take o).take h := by
  rw [List.take_append, List.drop_zero]
  have hl : (ps.drop o).length = n - o := by simp; omega
  rw [hl]
  rcases hm with ⟨a, b, c | c⟩
  · subst c
    rw [List.take_of_length_le (by omega), List.take_of_length_le (l := ps.drop o) (by omega), List.take_take, Nat.min_eq_left (by omega)]
  · subst c
    rw [Nat.sub_self, show m - (n - o) = 0 by omega]
    simp

set_option maxHeartbeats 400000 in
theorem row_in (G r n o h m g : Nat) (ps : List Int) (w : World) (hgw : g = w.heap.size) (hm : m = Nat.min (n - o) h) (c0 : w.cell? ⟨G, 0, none⟩ = some (.slice (some ⟨r, 0, none⟩) n n)) (c1 : w.cell? ⟨G, 1, none⟩ = some (.int .i64 (o : Nat))) (c2 : w.cell? ⟨G, 2, none⟩ = some (.int .i64 (h : Nat)))
    (hr : RowV w r 3 (Ns .i64 ps)) (hn : ps.length = n) (ho : o ≤ n) (hh : h ≤ n) (hnl : n ≤ 1024) :
    Calls Try.prog 33 #[.pointer (some ⟨G, 0, none⟩)] w fun e w' => e = .returned (.slice (some ⟨g, 0, none⟩) h h) ∧ RowV w' g 3 (Ns .i64 ((ps.drop o ++ ps.take o).take h)) ∧ Below w.heap.size w w' := by
  have hmn : m ≤ n - o ∧ m ≤ h ∧ (m = n - o ∨ m = h) := by
    rw [hm]; refine ⟨Nat.min_le_left _ _, Nat.min_le_right _ _, ?_⟩
    show min (n - o) h = _ ∨ min (n - o) h = _
    omega
  obtain ⟨dp, hs1, hdp⟩ := sliced_at r o n n ho (Nat.le_refl _)
  obtain ⟨dq, hs2, hdq⟩ := sliced_at g m h h hmn.2.1 (Nat.le_refl _)
  have hmk := fun W => mk23 h (by omega) W
  have gb : Below w.heap.size w (w.alloc (.cells (madeCells #[.int .i64 0] h) 3)).drew := ((Below.refl _ w).alloc (Nat.le_refl _) _).drew
  have gl : (w.alloc (.cells (madeCells #[.int .i64 0] h) 3)).drew.heap[g]? = some (.cells (Ns .i64 (List.replicate h 0)).toArray 3 (0, 0)) := by
    rw [← made_n, hgw]; exact al_last _ _
  have CA0 : (w.alloc (.cells (madeCells #[.int .i64 0] h) 3)).drew.cell? ⟨G, 0, none⟩ = some (.slice (some ⟨r, 0, none⟩) n n) ∧ (w.alloc (.cells (madeCells #[.int .i64 0] h) 3)).drew.cell? ⟨G, 1, none⟩ = some (.int .i64 (o : Nat)) := ⟨below_cell gb c0, below_cell gb c1⟩
  have hr0 := hr.below gb hr.lt
  have rl := hr.lt
  obtain ⟨w1, hcp, hg1, hgr⟩ := copy_run (w.alloc (.cells (madeCells #[.int .i64 0] h) 3)).drew (some ⟨g, 0, none⟩) dp h h (n - o) (n - o) g 0 (Ns .i64 (List.replicate h 0)) gl (Ns .i64 ((ps.drop o).take m)) (by rw [Ns_len]; simp; rw [← hm]; omega) (fun h0 => ⟨rfl, _, hdp (by rw [Ns_len] at h0; simp at h0; omega), src_at hr0 o m (by omega)⟩) (by rw [Ns_len, Ns_len]; simp; omega) (Ns_one _ _)
  rw [show (Ns .i64 ((ps.drop o).take m)).length = m by rw [Ns_len]; simp; omega] at hcp
  have gb1 := below_grown gb hgr (by omega)
  have CA1 : w1.drew.cell? ⟨G, 0, none⟩ = some (.slice (some ⟨r, 0, none⟩) n n) ∧ w1.drew.cell? ⟨G, 1, none⟩ = some (.int .i64 (o : Nat)) := ⟨below_cell gb1.drew c0, below_cell gb1.drew c1⟩
  have CA1' : w1.cell? ⟨G, 0, none⟩ = some (.slice (some ⟨r, 0, none⟩) n n) ∧ w1.cell? ⟨G, 1, none⟩ = some (.int .i64 (o : Nat)) := CA1
  have hr1 := hr.below gb1.drew hr.lt
  obtain ⟨w2, hcq, hg2, hgr2⟩ := copy_run w1.drew dq (some ⟨r, 0, none⟩) (h - m) (h - m) n n g m _ hg1 (Ns .i64 ((ps.drop 0).take (h - m))) (by rw [Ns_len]; simp; show min _ _ = min _ _; omega) (fun h0 => ⟨hdq (by rw [Ns_len] at h0; simp at h0; omega), _, rfl, src_at hr1 0 (h - m) (by omega)⟩) (by rw [length_splice _ _ _ (by rw [Ns_len, Ns_len]; simp; omega), Ns_len, Ns_len]; simp; omega) (Ns_one _ _)
  have gb2 := below_grown gb1.drew hgr2 (by omega)
  have CA2 : w2.cell? ⟨G, 0, none⟩ = some (.slice (some ⟨r, 0, none⟩) n n) ∧ w2.cell? ⟨G, 1, none⟩ = some (.int .i64 (o : Nat)) := ⟨below_cell gb2 c0, below_cell gb2 c1⟩
  have HL : splice (splice (Ns .i64 (List.replicate h 0)) 0 (Ns .i64 ((ps.drop o).take m))) m (Ns .i64 ((ps.drop 0).take (h - m))) = Ns .i64 ((ps.drop o ++ ps.take o).take h) := by
    rw [splice2 _ _ _ m (by rw [Ns_len]; simp; omega) (by rw [Ns_len, Ns_len]; simp; omega), ← row_list ps n o h m hn ho hh hmn]
    simp [Ns]
  rw [HL] at hg2
  have HR := hid (rowOf hg2)
  have HB := hid gb2
  have HW := hid hgw
  clear hgw hm
  clear hr0 hr1 hg1 hg2 hgr hgr2 gb gb1 gb2 gl HL hr
  go_enter Try.func33, Try.ntmps33
  go_wp2
  rw [← HW.out]
  generalize w.alloc (.cells (madeCells #[.int .i64 0] h) 3) = W0 at *
  refine wp_region_held (S := fun W => W.cell? ⟨G, 0, none⟩ = some (.slice (some ⟨r, 0, none⟩) n n) ∧ W.cell? ⟨G, 1, none⟩ = some (.int .i64 (o : Nat))) (by kernel_rfl) ?_
  simp only [List.size_toArray, List.length_cons, List.length_nil, Nat.reduceAdd, Array.replicate_succ, Array.replicate_zero, List.push_toArray, List.nil_append, List.cons_append]
  have hS := CA0
  refine wpAnyH_put (i := 0) (d := 10) (v := .slice (some ⟨g, 0, none⟩) h h) rfl (by kernel_rfl) (by kernel_rfl) (by kernel_rfl) (by kernel_rfl) (fun _ _ _ h => h) (Or.inl ⟨by kernel_rfl, fun _ _ => by kernel_rfl⟩) hS ?_
  simp only [List.setIfInBounds_toArray, List.set_cons_zero, List.set_cons_succ]
  refine wpAnyH_put (i := 1) (d := 11) (v := .pointer (some ⟨G, 0, none⟩)) rfl (by kernel_rfl) (by kernel_rfl) (by kernel_rfl) (by kernel_rfl) (fun _ _ _ h => h) (Or.inl ⟨by kernel_rfl, fun _ _ => by kernel_rfl⟩) hS ?_
  simp only [List.setIfInBounds_toArray, List.set_cons_zero, List.set_cons_succ]
  refine wpAnyH_put (i := 2) (d := 12) (v := .pointer (some ⟨G, 0, none⟩)) rfl (by kernel_rfl) (by kernel_rfl) (by kernel_rfl) (by kernel_rfl) (fun _ _ _ h => h) (Or.inl ⟨by kernel_rfl, fun _ _ => by kernel_rfl⟩) hS ?_
  simp only [List.setIfInBounds_toArray, List.set_cons_zero, List.set_cons_succ]
  refine wpAnyH_put (i := 3) (d := 13) (v := .pointer (some ⟨G, 0, none⟩)) rfl (by kernel_rfl) (by kernel_rfl) (by kernel_rfl) (by kernel_rfl) (fun _ _ _ h => h) (Or.inl ⟨by kernel_rfl, fun _ _ => by kernel_rfl⟩) hS ?_
  simp only [List.setIfInBounds_toArray, List.set_cons_zero, List.set_cons_succ]
  refine wpAnyH_put (i := 4) (d := 14) (v := .slice (some ⟨r, 0, none⟩) n n) rfl (by kernel_rfl) (by kernel_rfl) (by kernel_rfl) (by kernel_rfl) (fun _ _ _ h => h) (Or.inl ⟨by kernel_rfl, fun W hS => by obtain ⟨h1, h2⟩ := hS; go_simp⟩) hS ?_
  simp only [List.setIfInBounds_toArray, List.set_cons_zero, List.set_cons_succ]
  refine wpAnyH_put (i := 5) (d := 15) (v := .pointer (some ⟨G, 0, none⟩)) rfl (by kernel_rfl) (by kernel_rfl) (by kernel_rfl) (by kernel_rfl) (fun _ _ _ h => h) (Or.inl ⟨by kernel_rfl, fun _ _ => by kernel_rfl⟩) hS ?_
  simp only [List.setIfInBounds_toArray, List.set_cons_zero, List.set_cons_succ]
  refine wpAnyH_put (i := 6) (d := 16) (v := .pointer (some ⟨G, 0, none⟩)) rfl (by kernel_rfl) (by kernel_rfl) (by kernel_rfl) (by kernel_rfl) (fun _ _ _ h => h) (Or.inl ⟨by kernel_rfl, fun _ _ => by kernel_rfl⟩) hS ?_
  simp only [List.setIfInBounds_toArray, List.set_cons_zero, List.set_cons_succ]
  refine wpAnyH_put (i := 7) (d := 17) (v := .pointer (some ⟨G, 1, none⟩)) rfl (by kernel_rfl) (by kernel_rfl) (by kernel_rfl) (by kernel_rfl) (fun _ _ _ h => h) (Or.inl ⟨by kernel_rfl, fun _ _ => by kernel_rfl⟩) hS ?_
  simp only [List.setIfInBounds_toArray, List.set_cons_zero, List.set_cons_succ]
  refine wpAnyH_put (i := 8) (d := 18) (v := .int .i64 (o : Nat)) rfl (by kernel_rfl) (by kernel_rfl) (by kernel_rfl) (by kernel_rfl) (fun _ _ _ h => h) (Or.inl ⟨by kernel_rfl, fun W hS => by obtain ⟨h1, h2⟩ := hS; go_simp⟩) hS ?_
  simp only [List.setIfInBounds_toArray, List.set_cons_zero, List.set_cons_succ]
  refine wpAnyH_put (i := 9) (d := 19) (v := .slice dp (n - o) (n - o)) rfl (by kernel_rfl) (by kernel_rfl) (by kernel_rfl) (by kernel_rfl) (fun _ _ _ h => h) (Or.inl ⟨by kernel_rfl, fun W _ => by first | (go_simp; done) | (go_simp; omega)⟩) hS ?_
  simp only [List.setIfInBounds_toArray, List.set_cons_zero, List.set_cons_succ]
  refine wpAnyH_one (r := 10) (by kernel_rfl) ?_
  refine wpOp_do rfl (by kernel_rfl) (fun K' hK => ?_)
  go_simp
  refine hK.out _ _ ⟨CA1', ?_⟩
  clear hS
  have hS := CA1'
  clear hK K'
  refine wpAnyH_put (i := 11) (d := 4) (v := .int .i64 (m : Nat)) rfl (by kernel_rfl) (by kernel_rfl) (by kernel_rfl) (by kernel_rfl) (fun _ _ _ h => h) (Or.inl ⟨by kernel_rfl, fun _ _ => by kernel_rfl⟩) hS ?_
  simp only [List.setIfInBounds_toArray, List.set_cons_zero, List.set_cons_succ]
  refine wpAnyH_done (by kernel_rfl) ?_ _
  go_wp2
  refine wp_region_held (S := fun W => W.cell? ⟨G, 0, none⟩ = some (.slice (some ⟨r, 0, none⟩) n n) ∧ W.cell? ⟨G, 1, none⟩ = some (.int .i64 (o : Nat))) (by kernel_rfl) ?_
  simp only [List.size_toArray, List.length_cons, List.length_nil, Nat.reduceAdd, Array.replicate_succ, Array.replicate_zero, List.push_toArray, List.nil_append, List.cons_append]
  have hS := CA1
  refine wpAnyH_put (i := 0) (d := 21) (v := .slice (some ⟨g, 0, none⟩) h h) rfl (by kernel_rfl) (by kernel_rfl) (by kernel_rfl) (by kernel_rfl) (fun _ _ _ h => h) (Or.inl ⟨by kernel_rfl, fun _ _ => by kernel_rfl⟩) hS ?_
  simp only [List.setIfInBounds_toArray, List.set_cons_zero, List.set_cons_succ]
  refine wpAnyH_put (i := 1) (d := 22) (v := .int .i64 (m : Nat)) rfl (by kernel_rfl) (by kernel_rfl) (by kernel_rfl) (by kernel_rfl) (fun _ _ _ h => h) (Or.inl ⟨by kernel_rfl, fun _ _ => by kernel_rfl⟩) hS ?_
  simp only [List.setIfInBounds_toArray, List.set_cons_zero, List.set_cons_succ]
  refine wpAnyH_put (i := 2) (d := 23) (v := .slice dq (h - m) (h - m)) rfl (by kernel_rfl) (by kernel_rfl) (by kernel_rfl) (by kernel_rfl) (fun _ _ _ h => h) (Or.inl ⟨by kernel_rfl, fun W _ => by first | (go_simp; done) | (go_simp; omega)⟩) hS ?_
  simp only [List.setIfInBounds_toArray, List.set_cons_zero, List.set_cons_succ]
  refine wpAnyH_put (i := 3) (d := 24) (v := .pointer (some ⟨G, 0, none⟩)) rfl (by kernel_rfl) (by kernel_rfl) (by kernel_rfl) (by kernel_rfl) (fun _ _ _ h => h) (Or.inl ⟨by kernel_rfl, fun _ _ => by kernel_rfl⟩) hS ?_
  simp only [List.setIfInBounds_toArray, List.set_cons_zero, List.set_cons_succ]
  refine wpAnyH_put (i := 4) (d := 25) (v := .pointer (some ⟨G, 0, none⟩)) rfl (by kernel_rfl) (by kernel_rfl) (by kernel_rfl) (by kernel_rfl) (fun _ _ _ h => h) (Or.inl ⟨by kernel_rfl, fun _ _ => by kernel_rfl⟩) hS ?_
  simp only [List.setIfInBounds_toArray, List.set_cons_zero, List.set_cons_succ]
  refine wpAnyH_put (i := 5) (d := 26) (v := .pointer (some ⟨G, 0, none⟩)) rfl (by kernel_rfl) (by kernel_rfl) (by kernel_rfl) (by kernel_rfl) (fun _ _ _ h => h) (Or.inl ⟨by kernel_rfl, fun _ _ => by kernel_rfl⟩) hS ?_
  simp only [List.setIfInBounds_toArray, List.set_cons_zero, List.set_cons_succ]
  refine wpAnyH_put (i := 6) (d := 27) (v := .slice (some ⟨r, 0, none⟩) n n) rfl (by kernel_rfl) (by kernel_rfl) (by kernel_rfl) (by kernel_rfl) (fun _ _ _ h => h) (Or.inl ⟨by kernel_rfl, fun W hS => by obtain ⟨h1, h2⟩ := hS; go_simp⟩) hS ?_
  simp only [List.setIfInBounds_toArray, List.set_cons_zero, List.set_cons_succ]
  refine wpAnyH_one (r := 7) (by kernel_rfl) ?_
  refine wpOp_do rfl (by kernel_rfl) (fun K' hK => ?_)
  go_simp
  refine hK.out _ _ ⟨CA2, ?_⟩
  clear hK K'
  refine wpAnyH_done (by kernel_rfl) ?_ _
  go_wp2
  go_ret
  exact ⟨rfl, HR.out, HB.out⟩
end Go.Proofs.Ytnhkifinfnobfaa
