import Derived.Test.YtcefihmnnndleaaDoorRtB
namespace Go.Proofs.YtcefihmnnndleaaDoor
open Go.ChangeShapes Go.WideShapes Go.ChangeAt Go.RowKit
set_option linter.unusedVariables false
set_option maxRecDepth 20000
set_option linter.unusedSimpArgs false
theorem wpOp_store_row {P : Program} {ops : Array Oper} {Q : Exit → Act → World → Prop} {i : Nat} {o : Oper} {K : Act → World → Prop} {a : Act} {w : World} (hi : ops[i]? = some o) (hgd : o.guard = none) (ty : TypeId) (x y : Operand) (ho : o.op = .store ty x y)
    (g : Nat) (cells : Array Value) (hx : a.eval x = .pointer (some ⟨g, 0, none⟩)) (hy : a.eval y = .agg cells) (t : TypeId) (old : Array Value) (hg : w.heap[g]? = some (.cells old t (0, 0))) (hinfo : (P.info? ty).map (·.size) = some cells.size)
    (hold : old.size = cells.size) (h1 : cells.all (·.oneCell') = true) (h : K (a.put o.dst undef) (w.setRow g cells)) : wpOp P ops Q i K a w :=
  wpOp_do hi (by simp [Region.wanted, hgd]) (fun K' hK' => wp_store_row ty x y ho g cells hx hy t old hg hinfo hold h1 (hK'.out _ _ h))
theorem own_up {W : World} {B B2 : Nat} {e : TypeId} {sz : Nat} {v : Value} {n : Nat} {xs : List Value} (h : W.ownsRow B e sz v n xs) (hB : B2 ≤ B) : W.ownsRow B2 e sz v n xs := own_mono h hB
theorem Res.mono {B B2 : Nat} {W : World} {s : RdS} {dv ov bd : Value} {ps : List (OpS × Value)} (h : Res B W s dv ov bd ps) (hB : B2 ≤ B) : Res B2 W s dv ov bd ps :=
  ⟨own_mono h.dt hB, own_mono h.op hB, h.eq, fun p hp => own_mono (h.dd p hp) hB, own_mono h.bdo hB, h.ap, h.pw⟩
theorem conv_all {w : World} {g n c : Nat} {l : List UInt8} (hl : l.length = n) (hr : RowV w g 5 (bv l)) : (convert 22 9 (.slice (some ⟨g, 0, none⟩) n c)).run Tryd.prog w = .ok (.string (bs l)) w := by
  have h := conv_row hr 0 n c (by omega)
  rw [List.drop_zero, List.take_of_length_le (by omega)] at h
  exact h
theorem Res.row {B : Nat} {W : World} {s : RdS} {dv ov bd : Value} {ps : List (OpS × Value)} {R : Nat} {cs : List Value} (h : Res B W s dv ov bd ps) (hr : Bx W R 26 cs) (c : Array Value) : Res B (W.setRow R c) s dv ov bd ps := by
  have hk := K2.row hr (by decide) c
  exact ⟨own_setRow h.dt (hr.apart h.dt (by decide)) _, own_setRow h.op (hr.apart h.op (by decide)) _, h.eq, fun p hp => hk.own (h.dd p hp) (by decide), own_setRow h.bdo (hr.apart h.bdo (by decide)) _, h.ap, h.pw⟩
set_option maxHeartbeats 2000000 in
theorem im_read_no (g n c : Nat) (l : List UInt8) (a0 : Addr) (w : World) (hl : l.length = n) (hn : 20000 < n) (hn2 : n ≤ 1048576) (hr : RowV w g 5 (bv l)) (h0 : w.cell? ⟨0, 0, none⟩ = some (.iface 141 (.pointer (some a0)))) :
    Calls Tryd.prog 6 #[.slice (some ⟨g, 0, none⟩) n c] w fun e w' => ∃ dv ov bd ps, e = .returned (.tuple #[.agg (cfC (readM l).cf dv).toArray, ov, bd]) ∧ Res w.heap.size w' (readM l) dv ov bd ps ∧ Below w.heap.size w w' := by
  have HZ := hid (show readM l = zeroM by rw [readM, if_pos (by omega)])
  obtain ⟨W1, hW1⟩ : ∃ W, W = w.alloc (.cells zeroF.toArray 26) := ⟨_, rfl⟩
  have hb1 : Below w.heap.size w W1 := by rw [hW1]; exact (Below.refl _ w).alloc (Nat.le_refl _) _
  have hbx : Bx W1 w.heap.size 26 zeroF := by rw [hW1]; exact al_last _ _
  have hr1 : RowV W1 g 5 (bv l) := hr.below hb1 hr.lt
  have hC := conv_all (c := c) hl hr1
  have hT := im_text_no (bs l) (.iface 141 (.pointer (some a0))) W1 (by rw [bs_size]; omega) (by rw [bs_size]; omega) (below_cell hb1 h0)
  have h01 := below_cell hb1 h0
  obtain ⟨sx, hsx⟩ : ∃ t, t = bs l := ⟨_, rfl⟩
  rw [← hsx] at hC hT
  have HB1 := hid hb1
  have HBX := hid hbx
  have HSZ := hid (show W1.heap.size = w.heap.size + 1 by rw [hW1]; simp)
  have HL := hid hl
  clear hsx hr1 hr hb1 hbx h0 hl
  go_enter Tryd.func6, Tryd.ntmps6
  go_upto_region 1 with fail
  refine Eq.mp (congrArg _ hW1) ?_
  clear hW1
  obtain ⟨R, hR⟩ : ∃ R, R = w.heap.size := ⟨_, rfl⟩
  rw [← hR]
  have HR := hid hR
  clear hR
  go_wp2_with fail
  refine hT.mono ?_
  rintro e w2 ⟨rfl, hb2⟩
  have hI := is_same a0 w2
  have h02 := below_cell hb2 h01
  have HB2 := hid hb2
  clear hT hC h01 hb2
  go_wp2_with fail
  refine hI.mono ?_
  rintro e w3 ⟨rfl, rfl⟩
  clear hI h02
  have hx3 := HBX.out.below HB2.out HBX.out.lt
  rw [← HR.out] at hx3
  have HX : Hid (w3.heap[R]? = some (.cells zeroF.toArray 26 (0, 0))) := hid hx3
  have HS := hid (setRow_self w3 R zeroF.toArray 26 (0, 0) HX.out)
  have HB := hid (show Below w.heap.size w w3 from HB1.out.trans (HB2.out.mono HB1.out.size))
  clear hx3
  go_wp2_with (refine wpList_store_row rfl 26 _ _ rfl R _ rfl rfl 26 _ HX.out (by kernel_rfl) rfl (by simp [Value.oneCell']) ?_)
  refine Eq.mp (congrArg _ HS.out.symm) ?_
  refine bodyPost_ret (results_row3 (by rfl) _ _ R 26 _ (0, 0) _ (by rfl) HX.out Tryd.underlying26 rfl (by kernel_rfl)) (by rfl) ?_
  rw [HZ.out]
  exact ⟨nilV, nilV, nilV, [], rfl, ⟨⟨by simp [zeroM, iv], .inl ⟨rfl, rfl⟩⟩, ⟨by simp [flatP], .inl ⟨rfl, rfl⟩⟩, rfl, by simp, ⟨by simp [zeroM, iv], .inl ⟨rfl, rfl⟩⟩, (fun r h => by cases h), .nil⟩, HB.out⟩
set_option maxHeartbeats 2000000 in
theorem im_read_yes (g n c : Nat) (l : List UInt8) (a0 a1 : Addr) (mx : Int) (w : World) (hl : l.length = n) (hn : ¬ 20000 < n) (hr : RowV w g 5 (bv l)) (h0 : w.cell? ⟨0, 0, none⟩ = some (.iface 141 (.pointer (some a0)))) (h1 : w.cell? ⟨1, 0, none⟩ = some (.iface 141 (.pointer (some a1)))) (h2 : w.cell? ⟨2, 0, none⟩ = some (.int .i64 mx)) :
    Calls Tryd.prog 6 #[.slice (some ⟨g, 0, none⟩) n c] w fun e w' => ∃ dv ov bd ps, e = .returned (.tuple #[.agg (cfC (readM l).cf dv).toArray, ov, bd]) ∧ Res w.heap.size w' (readM l) dv ov bd ps ∧ Below w.heap.size w w' := by
  obtain ⟨W1, hW1⟩ : ∃ W, W = w.alloc (.cells zeroF.toArray 26) := ⟨_, rfl⟩
  have hb1 : Below w.heap.size w W1 := by rw [hW1]; exact (Below.refl _ w).alloc (Nat.le_refl _) _
  have hbx : Bx W1 w.heap.size 26 zeroF := by rw [hW1]; exact al_last _ _
  have hr1 : RowV W1 g 5 (bv l) := hr.below hb1 hr.lt
  have hC := conv_all (c := c) hl hr1
  have hT := im_text (bs l) a1 mx W1 (by rw [bs_size]; omega) (below_cell hb1 h1) (below_cell hb1 h2)
  rw [bs_list] at hT
  obtain ⟨s, hsE⟩ : ∃ s, s = readM l := ⟨_, rfl⟩
  rw [← hsE] at hT ⊢
  have HSE := hid hsE
  clear hsE
  have h01 := below_cell hb1 h0
  obtain ⟨sx, hsx⟩ : ∃ t, t = bs l := ⟨_, rfl⟩
  rw [← hsx] at hC hT
  have HB1 := hid hb1
  have HBX := hid hbx
  have HSZ := hid (show W1.heap.size = w.heap.size + 1 by rw [hW1]; simp)
  have HL := hid hl
  clear hsx hr1 hr hb1 hbx h0 h1 h2 hl
  go_enter Tryd.func6, Tryd.ntmps6
  go_upto_region 1 with fail
  refine Eq.mp (congrArg _ hW1) ?_
  clear hW1
  obtain ⟨R, hR⟩ : ∃ R, R = w.heap.size := ⟨_, rfl⟩
  rw [← hR]
  have HR := hid hR
  clear hR
  go_wp2_with fail
  refine hT.mono ?_
  rintro e w2 ⟨S, B, dv, ov, bd, ps, rfl, hS1, hb2, hss⟩
  have hI := is_nil a0 w2
  have h02 := below_cell hb2 h01
  have HB2 := hid hb2
  have HSS := hid hss
  have HS1 := hid hS1
  have HSR := hid (show S ≠ R by have := HSZ.out; have := HR.out; omega)
  clear hT hC h01 hb2 hss hS1
  go_wp2_with fail
  refine hI.mono ?_
  rintro e w3 ⟨rfl, rfl⟩
  clear hI h02
  have hx3 := HBX.out.below HB2.out HBX.out.lt
  rw [← HR.out] at hx3
  have HX : Hid (w3.drew.heap[R]? = some (.cells zeroF.toArray 26 (0, 0))) := hid hx3
  obtain ⟨da, dm, dc, rfl, hdm⟩ := own_sl3 HSS.out.res.dt
  obtain ⟨oa, om, oc, rfl, hom⟩ := own_sl3 HSS.out.res.op
  obtain ⟨ba, bm, bc, rfl, hbm⟩ := own_sl3 HSS.out.res.bdo
  have HB := hid (below_setRow (show Below w.heap.size w w3.drew from (HB1.out.trans (HB2.out.mono HB1.out.size)).drew) (by rw [HR.out]; exact Nat.le_refl _) (cfC s.cf (.slice da dm dc)).toArray (g := R))
  have hxd : Bx w3.drew R 26 zeroF := hx3
  have hrd : Res B w3.drew s (.slice da dm dc) (.slice oa om oc) (.slice ba bm bc) ps := HSS.out.res.below (Below.refl _ _).drew
  have HRR := hid (setRow_heap w3.drew R _ (cfC s.cf (.slice da dm dc)).toArray 26 (0, 0) HX.out)
  have HRS := hid (show Res w.heap.size (w3.drew.setRow R (cfC s.cf (.slice da dm dc)).toArray) s (.slice da dm dc) (.slice oa om oc) (.slice ba bm bc) ps from (hrd.mono (by have := HSS.out.sb; have := HS1.out; have := HSZ.out; omega)).row hxd _)
  have CN := hid (show ∀ W9, Bx W9 S 57 (cfC s.cf (.slice da dm dc) ++ [.slice oa om oc, .slice ba bm bc]) → W9.cell? ⟨S, 0, none⟩ = some (.int .i64 s.cf.mix) ∧ W9.cell? ⟨S, 1, none⟩ = some (.int .i64 s.cf.fifo) ∧ W9.cell? ⟨S, 2, none⟩ = some (.int .i64 s.cf.large) ∧ W9.cell? ⟨S, 3, none⟩ = some (.int .i64 s.cf.budget) ∧ W9.cell? ⟨S, 4, none⟩ = some (.int .u64 (s.cf.key : Int)) ∧ W9.cell? ⟨S, 5, none⟩ = some (.slice da dm dc) ∧ W9.cell? ⟨S, 6, none⟩ = some (.slice oa om oc) ∧ W9.cell? ⟨S, 7, none⟩ = some (.slice ba bm bc) from fun W9 h9 => ⟨h9.cell 0, h9.cell 1, h9.cell 2, h9.cell 3, h9.cell 4, h9.cell 5, h9.cell 6, h9.cell 7⟩)
  have K0 := hid (show Bx w3.drew S 57 (cfC s.cf (.slice da dm dc) ++ [.slice oa om oc, .slice ba bm bc]) from HSS.out.bx)
  have K1 := hid (show Bx (w3.drew.setRow R (cfC s.cf (.slice da dm dc)).toArray) S 57 (cfC s.cf (.slice da dm dc) ++ [.slice oa om oc, .slice ba bm bc]) from by
    unfold Bx; rw [setRow_other _ _ _ _ HSR.out]; exact K0.out)
  clear hx3 hxd hrd hdm hom hbm HBX
  go_wp2_with fail
  refine wp_region_held (S := fun W9 => W9.cell? ⟨S, 0, none⟩ = some (.int .i64 s.cf.mix) ∧ W9.cell? ⟨S, 1, none⟩ = some (.int .i64 s.cf.fifo) ∧ W9.cell? ⟨S, 2, none⟩ = some (.int .i64 s.cf.large) ∧ W9.cell? ⟨S, 3, none⟩ = some (.int .i64 s.cf.budget) ∧ W9.cell? ⟨S, 4, none⟩ = some (.int .u64 (s.cf.key : Int)) ∧ W9.cell? ⟨S, 5, none⟩ = some (.slice da dm dc) ∧ W9.cell? ⟨S, 6, none⟩ = some (.slice oa om oc) ∧ W9.cell? ⟨S, 7, none⟩ = some (.slice ba bm bc)) (by kernel_rfl) ?_
  simp only [List.size_toArray, List.length_cons, List.length_nil, Nat.reduceAdd, Array.replicate_succ, Array.replicate_zero, List.push_toArray, List.nil_append, List.cons_append]
  have hS := CN.out _ K0.out
  refine wpAnyH_put (i := 0) (d := 17) (v := .pointer (some ⟨S, 0, none⟩)) rfl (by kernel_rfl) (by kernel_rfl) (by kernel_rfl) (by kernel_rfl) (fun _ _ _ h => h) (Or.inl ⟨by kernel_rfl, fun _ _ => by kernel_rfl⟩) hS ?_
  simp only [List.setIfInBounds_toArray, List.set_cons_zero, List.set_cons_succ]
  refine wpAnyH_put (i := 1) (d := 18) (v := .pointer (some ⟨S, 0, none⟩)) rfl (by kernel_rfl) (by kernel_rfl) (by kernel_rfl) (by kernel_rfl) (fun _ _ _ h => h) (Or.inl ⟨by kernel_rfl, fun _ _ => by kernel_rfl⟩) hS ?_
  simp only [List.setIfInBounds_toArray, List.set_cons_zero, List.set_cons_succ]
  refine wpAnyH_put (i := 2) (d := 19) (v := .pointer (some ⟨S, 0, none⟩)) rfl (by kernel_rfl) (by kernel_rfl) (by kernel_rfl) (by kernel_rfl) (fun _ _ _ h => h) (Or.inl ⟨by kernel_rfl, fun _ _ => by kernel_rfl⟩) hS ?_
  simp only [List.setIfInBounds_toArray, List.set_cons_zero, List.set_cons_succ]
  refine wpAnyH_put (i := 3) (d := 20) (v := .agg #[.int .i64 s.cf.mix, .int .i64 s.cf.fifo, .int .i64 s.cf.large, .int .i64 s.cf.budget, .int .u64 (s.cf.key : Int), .slice da dm dc]) rfl (by kernel_rfl) (by kernel_rfl) (by kernel_rfl) (by kernel_rfl) (fun _ _ _ h => h) (Or.inl ⟨by kernel_rfl, fun W hS => by obtain ⟨y0, y1, y2, y3, y4, y5, y6, y7⟩ := hS; first | (go_simp; done) | (go_simp; omega)⟩) hS ?_
  simp only [List.setIfInBounds_toArray, List.set_cons_zero, List.set_cons_succ]
  refine wpAnyH_put (i := 4) (d := 21) (v := .pointer (some ⟨S, 0, none⟩)) rfl (by kernel_rfl) (by kernel_rfl) (by kernel_rfl) (by kernel_rfl) (fun _ _ _ h => h) (Or.inl ⟨by kernel_rfl, fun _ _ => by kernel_rfl⟩) hS ?_
  simp only [List.setIfInBounds_toArray, List.set_cons_zero, List.set_cons_succ]
  refine wpAnyH_put (i := 5) (d := 22) (v := .pointer (some ⟨S, 0, none⟩)) rfl (by kernel_rfl) (by kernel_rfl) (by kernel_rfl) (by kernel_rfl) (fun _ _ _ h => h) (Or.inl ⟨by kernel_rfl, fun _ _ => by kernel_rfl⟩) hS ?_
  simp only [List.setIfInBounds_toArray, List.set_cons_zero, List.set_cons_succ]
  refine wpAnyH_put (i := 6) (d := 23) (v := .pointer (some ⟨S, 6, none⟩)) rfl (by kernel_rfl) (by kernel_rfl) (by kernel_rfl) (by kernel_rfl) (fun _ _ _ h => h) (Or.inl ⟨by kernel_rfl, fun _ _ => by kernel_rfl⟩) hS ?_
  simp only [List.setIfInBounds_toArray, List.set_cons_zero, List.set_cons_succ]
  refine wpAnyH_put (i := 7) (d := 24) (v := .slice oa om oc) rfl (by kernel_rfl) (by kernel_rfl) (by kernel_rfl) (by kernel_rfl) (fun _ _ _ h => h) (Or.inl ⟨by kernel_rfl, fun W hS => by obtain ⟨y0, y1, y2, y3, y4, y5, y6, y7⟩ := hS; first | (go_simp; done) | (go_simp; omega)⟩) hS ?_
  simp only [List.setIfInBounds_toArray, List.set_cons_zero, List.set_cons_succ]
  refine wpAnyH_put (i := 8) (d := 25) (v := .pointer (some ⟨S, 0, none⟩)) rfl (by kernel_rfl) (by kernel_rfl) (by kernel_rfl) (by kernel_rfl) (fun _ _ _ h => h) (Or.inl ⟨by kernel_rfl, fun _ _ => by kernel_rfl⟩) hS ?_
  simp only [List.setIfInBounds_toArray, List.set_cons_zero, List.set_cons_succ]
  refine wpAnyH_put (i := 9) (d := 26) (v := .pointer (some ⟨S, 0, none⟩)) rfl (by kernel_rfl) (by kernel_rfl) (by kernel_rfl) (by kernel_rfl) (fun _ _ _ h => h) (Or.inl ⟨by kernel_rfl, fun _ _ => by kernel_rfl⟩) hS ?_
  simp only [List.setIfInBounds_toArray, List.set_cons_zero, List.set_cons_succ]
  refine wpAnyH_put (i := 10) (d := 27) (v := .pointer (some ⟨S, 7, none⟩)) rfl (by kernel_rfl) (by kernel_rfl) (by kernel_rfl) (by kernel_rfl) (fun _ _ _ h => h) (Or.inl ⟨by kernel_rfl, fun _ _ => by kernel_rfl⟩) hS ?_
  simp only [List.setIfInBounds_toArray, List.set_cons_zero, List.set_cons_succ]
  refine wpAnyH_put (i := 11) (d := 28) (v := .slice ba bm bc) rfl (by kernel_rfl) (by kernel_rfl) (by kernel_rfl) (by kernel_rfl) (fun _ _ _ h => h) (Or.inl ⟨by kernel_rfl, fun W hS => by obtain ⟨y0, y1, y2, y3, y4, y5, y6, y7⟩ := hS; first | (go_simp; done) | (go_simp; omega)⟩) hS ?_
  simp only [List.setIfInBounds_toArray, List.set_cons_zero, List.set_cons_succ]
  refine wpAnyH_one (r := 12) (by kernel_rfl) ?_
  refine wpOp_store_row rfl rfl 26 _ _ rfl R (cfC s.cf (.slice da dm dc)).toArray rfl rfl 26 _ HX.out (by kernel_rfl) rfl (cf_one _ _ _ _) ⟨CN.out _ K1.out, ?_⟩
  replace hS := CN.out _ K1.out
  refine wpAnyH_put (i := 13) (d := 3) (v := .slice oa om oc) rfl (by kernel_rfl) (by kernel_rfl) (by kernel_rfl) (by kernel_rfl) (fun _ _ _ h => h) (Or.inl ⟨by kernel_rfl, fun _ _ => by kernel_rfl⟩) hS ?_
  simp only [List.setIfInBounds_toArray, List.set_cons_zero, List.set_cons_succ]
  refine wpAnyH_put (i := 14) (d := 4) (v := .slice ba bm bc) rfl (by kernel_rfl) (by kernel_rfl) (by kernel_rfl) (by kernel_rfl) (fun _ _ _ h => h) (Or.inl ⟨by kernel_rfl, fun _ _ => by kernel_rfl⟩) hS ?_
  simp only [List.setIfInBounds_toArray, List.set_cons_zero, List.set_cons_succ]
  refine wpAnyH_done (by kernel_rfl) ?_ _
  go_wp2_with fail
  refine bodyPost_ret (results_row3 (by rfl) _ _ R 26 _ (0, 0) _ (by rfl) HRR.out Tryd.underlying26 rfl (by kernel_rfl)) (by rfl) ?_
  exact ⟨_, _, _, _, rfl, HRS.out, HB.out⟩
end Go.Proofs.YtcefihmnnndleaaDoor
