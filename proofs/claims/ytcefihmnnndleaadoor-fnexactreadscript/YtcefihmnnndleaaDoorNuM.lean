import Derived.Test.YtcefihmnnndleaaDoorNuK
namespace Go.Proofs.YtcefihmnnndleaaDoor
open Go.ChangeShapes Go.WideShapes Go.ChangeAt Go.RowKit
set_option linter.unusedVariables false
set_option maxRecDepth 20000

set_option maxHeartbeats 4000000 in
theorem im_opC (B S : Nat) (a1 : Addr) (k Pb Kb Sb Pr : Nat) (sa : Option Addr) (m c : Nat) (ws : List (List UInt8)) (s : RdS) (dv ov bd : Value) (ps : List (OpS × Value)) (w : World) (hs : Ss B S w s dv ov bd ps) (hcl : Cl B S w Pb Kb Sb Pr k [42, 40]) (hm : m = ws.length) (hw : Wd w sa ws) (hml : m ≤ 1048576) (hwl : ∀ x ∈ ws, 0 < x.length ∧ x.length ≤ 1048576) (h1 : w.cell? ⟨1, 0, none⟩ = some (.iface 141 (.pointer (some a1)))) (hol : s.ops.length ≤ 2000000) :
    Calls Tryd.prog 50 #[.slice sa m c, .pointer (some ⟨Pb, 0, none⟩), .pointer (some ⟨Kb, 0, none⟩), .pointer (some ⟨Sb, 0, none⟩)] w fun e w' => OrdP B S a1 w w' s (opO [42, 40] [80, 78] k s ws) e := by
  have HS := hid hs
  have c1 := hcl.pb
  have c2 := hcl.kb
  have HCL := hid hcl
  by_cases hmn : m = 2
  · subst hmn
    have HWN := hid (show ws.length = List.length ([42, 40] : List Nat) by rw [← hm]; rfl)
    obtain ⟨g, off, rfl, hcell⟩ : ∃ g off, sa = some ⟨g, off, none⟩ ∧ ∀ j, j < ws.length → w.cell? ⟨g, off + j, none⟩ = some (.string (bs (ws.getD j []))) := by
      rcases hw with h9 | ⟨g, off, h9, h8⟩
      · rw [h9] at hm; cases hm
      · exact ⟨g, off, h9, h8⟩
    have HWL := hid (show ∀ j, j < 2 → 0 < (ws.getD j []).length ∧ (ws.getD j []).length ≤ 1048576 from fun j hj => by
      have h9 : j < ws.length := by omega
      have : ws.getD j [] = ws[j] := by simp [h9]
      rw [this]; exact hwl _ (List.getElem_mem h9))
    obtain ⟨o0, ho0⟩ : ∃ o0 : OpS, o0 = ⟨k, 0, 0, 0, 0, []⟩ := ⟨_, rfl⟩
    obtain ⟨W4, hW4⟩ : ∃ W, W = w.alloc (.cells (opC ⟨k, 0, 0, 0, 0, []⟩ nil0).toArray 45) := ⟨_, rfl⟩
    have hb4 : Below w.heap.size w W4 := by rw [hW4]; exact (Below.refl _ w).alloc (Nat.le_refl _) _
    have hbx4 : Bx W4 w.heap.size 45 (opC o0 nil0) := by rw [hW4, ho0]; exact al_last _ _
    have HSS := hid (hs.below hb4)
    have h14 := below_cell hb4 h1
    have hO1 : w.heap.size ≠ 1 := by
      have : 1 < w.heap.size := by
        have h9 := h1
        unfold World.cell? at h9
        split at h9
        · rename_i h8; exact lt_of_block h8
        · cases h9
      omega
    have G4 := hid (Gb.below (B := B) (S := S) hb4 hs.bw)
    have HWC := hid (show ∀ W9, W4.grownBy W9 (some w.heap.size) → ∀ j, j < 2 → W9.cell? ⟨g, off + j, none⟩ = some (.string (bs (ws.getD j []))) from fun W9 h9 j hj => by
      have h8 := hcell j (by omega)
      have hgl : g < w.heap.size := by
        unfold World.cell? at h8
        split at h8
        · rename_i h7; exact lt_of_block h7
        · cases h8
      exact gb_cell h9 (below_cell hb4 h8) (by simp; omega))
    have HFC := hid (show ∀ W9, W4.grownBy W9 (some w.heap.size) → ∀ j f, ([42, 40] : List Nat)[j]? = some f → W9.cell? ⟨Pr, j, none⟩ = some (.func (.func f) #[] #[]) from fun W9 h9 j f hf => by
      have h8 := hcl.pr j f hf
      have := hcl.lt
      have := hs.bw
      exact gb_cell h9 (below_cell hb4 h8) (by simp; omega))
    have HSB := hid (show ∀ W9, W4.grownBy W9 (some w.heap.size) → W9.cell? ⟨Sb, 0, none⟩ = some (.pointer (some ⟨S, 0, none⟩)) from fun W9 h9 => by
      have := hcl.lt
      have := hs.bw
      exact gb_cell h9 (below_cell hb4 hcl.sb) (by simp; omega))
    have HOVN := hid (show ov.ownBlock ≠ some w.heap.size from fun e9 => by have := (hs.res.op.lt _ e9).2; omega)
    have HNEW := hid (show ∀ p ∈ ps, ∀ r, p.2.ownBlock = some r → r < w.heap.size from fun p hp r hr => ((hs.res.dd p hp).lt r hr).2)
    have HOB := hid (show B ≤ w.heap.size from hs.bw)
    have HOB2 := hid (show w.heap.size ≤ W4.heap.size from hb4.size)
    have c14 := below_cell hb4 hcl.pb
    have HM := hid hm
    clear hm
    go_enter Tryd.func50, Tryd.ntmps50
    go_upto_region 4 with fail
    rw [ho0] at hbx4
    refine Eq.mp (congrArg _ hW4) ?_
    obtain ⟨O, hO⟩ : ∃ O, O = w.heap.size := ⟨_, rfl⟩
    rw [← hO] at hbx4 hO1 HWC HFC HSB HOB HOB2 HOVN HNEW ⊢
    rw [← ho0] at hbx4
    have HBX := hid hbx4
    have HO0 := hid ho0
    have HOE := hid hO
    clear hW4 hb4 hbx4 hO ho0 hs hcl hcell hw hwl c1 c2 h1
    go_wp2_with fail
    go_loopw [20] (fun i wr => ∃ (j : Nat) (o : OpS) (dv5 : Value) (nm : Nat), j ≤ 2 ∧ i = .int .i64 (j : Int) ∧ nm ≤ j ∧ Hid (partsM [80, 78] ws 0 o0 = partsM (([80, 78] : List UInt8).drop j) (ws.drop j) (if j = 0 then 0 else if j = 1 then 0 else 1) o) ∧ Hid (Bx wr O 45 (opC o dv5)) ∧ Hid (wr.ownsRow O 5 1 dv5 o.data.length (dv8 o.data)) ∧ Hid (W4.grownBy wr (some O)) ∧ Hid (j < 2 → o.data = [] ∧ dv5 = nil0 ∧ (j = 0 → o.ref = 0 ∧ o.p = 0))) (fun i _ => 2 - (intOf i).toNat)
    case atStart => exact ⟨0, o0, nil0, 0, by omega, rfl, by omega, hid rfl, HBX, hid (by rw [HO0.out]; exact own_nil0 _ _), hid (grown_refl W4 O), hid (fun _ => by rw [HO0.out]; exact ⟨rfl, rfl, fun _ => ⟨rfl, rfl⟩⟩)⟩
    case round =>
      obtain ⟨j, o, dv5, nm, hj, rfl, hnm, HE, HB, HO, HG, HD⟩ := hrel
      rcases j with _ | _ | j
      · obtain ⟨hd9, rfl, hz9f⟩ := HD.out (by omega)
        have hz9 := hz9f rfl
        have cw := HWC.out wr HG.out 0 (by omega)
        have cf := HFC.out wr HG.out 0 42 rfl
        have h1r := gb_cell HG.out h14 (by simpa using Ne.symm hO1)
        have hsz := HWL.out 0 (by omega)
        obtain ⟨wS, hwS⟩ : ∃ t, t = bs (ws.getD 0 []) := ⟨_, rfl⟩
        rw [← hwS, Nat.add_zero] at cw
        have hws : wS.size ≤ 1048576 := by rw [hwS, bs_size]; exact hsz.2
        have hwp : 0 < wS.size := by rw [hwS, bs_size]; exact hsz.1
        have hP := im_setTarget a1 O o wS wr hws hwp h1r hO1 HB.out hd9 hz9.1 hz9.2
        have HST := hid (show partsM [80, 78] ws 0 o0 = (partM 80 (ws.getD 0 []) 0 o).bind (partsM [78] (ws.drop 1) 0) by
          rw [HE.out]
          have hh : (ws.drop 0).headD [] = ws.getD 0 [] := by rw [List.headD_eq_head?_getD, List.head?_drop]; simp
          show (partM 80 ((ws.drop 0).headD []) 0 o).bind (partsM [78] (ws.drop 0).tail 0) = _
          rw [hh, List.tail_drop])
        rw [show wS.data.toList = ws.getD 0 [] by rw [hwS, bs_list]] at hP
        clear hwS hsz HE
        cases hpm : partM 80 (ws.getD 0 []) 0 o with
        | none =>
          rw [hpm] at hP
          have HN := hid (show opO [42, 40] [80, 78] k s ws = none by rw [opO, if_pos HWN.out, ← HO0.out, HST.out, hpm]; rfl)
          clear hpm HST
          go_wp2_with fail
          refine hP.mono ?_
          rintro e w5 ⟨g5, v, rfl, hu⟩
          have H5 := HSS.out.off (gb_trans HG.out g5) HOB.out (.inr HBX.out) HOVN.out
          have GG := hid (G4.out.trans (Gb.ofG (gb_trans HG.out g5) HOB.out HSS.out.bw))
          have SS := hid H5
          clear hP H5
          rcases hu with rfl | ⟨s9, rfl⟩
          · go_wp2_with fail
            go_ret
            rw [HN.out]
            exact OrdP.no GG.out (.inl rfl) SS.out
          · unfold wE
            go_wp2_with fail
            go_ret
            rw [HN.out]
            exact OrdP.no GG.out (.inr ⟨s9, rfl⟩) SS.out
        | some o2 =>
          rw [hpm] at hP
          have HE2 := hid (show partsM [80, 78] ws 0 o0 = partsM [78] (ws.drop 1) 0 o2 by rw [HST.out, hpm]; rfl)
          have HX := hid (part_keep hpm)
          clear hpm HST
          go_wp2_with fail
          refine hP.mono ?_
          rintro e w5 ⟨g5, rfl, dv5, hb5, ho5, hz5⟩
          have HB5 := hid hb5
          have HO5 := hid (own_mono ho5 (Nat.le_trans HOB2.out HG.out.size))
          have HG5 := hid (gb_trans HG.out g5)
          have HD5 := hid (show 1 < 2 → o2.data = [] ∧ dv5 = nil0 ∧ ((1 : Nat) = 0 → o2.ref = 0 ∧ o2.p = 0) from fun _ => ⟨by rw [HX.out.2 (by decide) (by decide)]; exact hd9, hz5 (by rw [HX.out.2 (by decide) (by decide)]; exact hd9), fun h => absurd h (by omega)⟩)
          clear hP hb5 ho5 g5 hz5
          go_wp2_with fail
          go_roundw
          case rel => exact ⟨1, o2, dv5, 0, by omega, by go_num, by omega, HE2, HB5, HO5, HG5, HD5⟩
          case measure => simp [intOf]
      · obtain ⟨hd9, rfl, hz9f⟩ := HD.out (by omega)
        have cw := HWC.out wr HG.out 1 (by omega)
        have cf := HFC.out wr HG.out 1 40 rfl
        have h1r := gb_cell HG.out h14 (by simpa using Ne.symm hO1)
        have hsz := HWL.out 1 (by omega)
        obtain ⟨wS, hwS⟩ : ∃ t, t = bs (ws.getD 1 []) := ⟨_, rfl⟩
        rw [← hwS] at cw
        have hws : wS.size ≤ 1048576 := by rw [hwS, bs_size]; exact hsz.2
        have hwp : 0 < wS.size := by rw [hwS, bs_size]; exact hsz.1
        have hP := im_setA a1 O o wS wr hws hwp h1r hO1 HB.out hd9
        have HST := hid (show partsM [80, 78] ws 0 o0 = (partM 78 (ws.getD 1 []) 0 o).bind (partsM [] (ws.drop 2) 1) by
          rw [HE.out]
          have hh : (ws.drop 1).headD [] = ws.getD 1 [] := by rw [List.headD_eq_head?_getD, List.head?_drop]; simp
          show (partM 78 ((ws.drop 1).headD []) 0 o).bind (partsM [] (ws.drop 1).tail 1) = _
          rw [hh, List.tail_drop])
        rw [show wS.data.toList = ws.getD 1 [] by rw [hwS, bs_list]] at hP
        clear hwS hsz HE
        cases hpm : partM 78 (ws.getD 1 []) 0 o with
        | none =>
          rw [hpm] at hP
          have HN := hid (show opO [42, 40] [80, 78] k s ws = none by rw [opO, if_pos HWN.out, ← HO0.out, HST.out, hpm]; rfl)
          clear hpm HST
          go_wp2_with fail
          refine hP.mono ?_
          rintro e w5 ⟨g5, v, rfl, hu⟩
          have H5 := HSS.out.off (gb_trans HG.out g5) HOB.out (.inr HBX.out) HOVN.out
          have GG := hid (G4.out.trans (Gb.ofG (gb_trans HG.out g5) HOB.out HSS.out.bw))
          have SS := hid H5
          clear hP H5
          rcases hu with rfl | ⟨s9, rfl⟩
          · go_wp2_with fail
            go_ret
            rw [HN.out]
            exact OrdP.no GG.out (.inl rfl) SS.out
          · unfold wE
            go_wp2_with fail
            go_ret
            rw [HN.out]
            exact OrdP.no GG.out (.inr ⟨s9, rfl⟩) SS.out
        | some o2 =>
          rw [hpm] at hP
          have HE2 := hid (show partsM [80, 78] ws 0 o0 = partsM [] (ws.drop 2) 1 o2 by rw [HST.out, hpm]; rfl)
          have HX := hid (part_keep hpm)
          clear hpm HST
          go_wp2_with fail
          refine hP.mono ?_
          rintro e w5 ⟨g5, rfl, dv5, hb5, ho5, hz5⟩
          have HB5 := hid hb5
          have HO5 := hid (own_mono ho5 (Nat.le_trans HOB2.out HG.out.size))
          have HG5 := hid (gb_trans HG.out g5)
          have HD5 := hid (show 2 < 2 → o2.data = [] ∧ dv5 = nil0 ∧ ((2 : Nat) = 0 → o2.ref = 0 ∧ o2.p = 0) from fun h => absurd h (by omega))
          clear hP hb5 ho5 g5 hz5
          go_wp2_with fail
          go_roundw
          case rel => exact ⟨2, o2, dv5, 1, by omega, by go_num, by omega, HE2, HB5, HO5, HG5, HD5⟩
          case measure => simp [intOf]
      · obtain rfl : j = 0 := by omega
        have HN := hid (show opO [42, 40] [80, 78] k s ws = some { s with ops := s.ops ++ [o] } by rw [opO, if_pos HWN.out, ← HO0.out, HE.out]; rfl)
        have h4s := HSS.out.off HG.out HOB.out (.inr HBX.out) HOVN.out
        have hsd := h4s.below (Below.refl _ _).drew
        obtain ⟨da, dm, dc, rfl, hdm⟩ := own_sl3 HO.out
        obtain ⟨v2, w2, e2, bs2, g2, k2, ⟨ea, em, ec, rfl⟩, s2⟩ := hsd.opMore o (.slice da dm dc) O (own_below HO.out (Below.refl _ _).drew) HOB.out HNEW.out hol
        have hSO : S ≠ O := by have := HSS.out.sb; have := HOB.out; omega
        have hSbS : Sb ≠ S := HCL.out.lt.2.2.2.1
        have kx : ∀ W9, (W9.cell? ⟨Sb, 0, none⟩ = some (.pointer (some ⟨S, 0, none⟩)) ∧ Bx W9 O 45 (opC o (.slice da dm dc))) → W9.cell? ⟨Sb, 0, none⟩ = some (.pointer (some ⟨S, 0, none⟩)) ∧ W9.cell? ⟨O, 0, none⟩ = some (.int .i64 (o.kind : Int)) ∧ W9.cell? ⟨O, 1, none⟩ = some (.int .i64 (o.ref : Int)) ∧ W9.cell? ⟨O, 2, none⟩ = some (.int .u64 (o.p : Int)) ∧ W9.cell? ⟨O, 3, none⟩ = some (.int .u64 (o.a : Int)) ∧ W9.cell? ⟨O, 4, none⟩ = some (.int .u64 (o.b : Int)) ∧ W9.cell? ⟨O, 5, none⟩ = some (.slice da dm dc) := fun W9 h9 => ⟨h9.1, h9.2.cell 0, h9.2.cell 1, h9.2.cell 2, h9.2.cell 3, h9.2.cell 4, h9.2.cell 5⟩
        have CN := hid kx
        have sb0 := HSB.out wr HG.out
        have hbd : Bx wr.drew O 45 (opC o (.slice da dm dc)) := HB.out
        have K0 := hid (show wr.drew.cell? ⟨Sb, 0, none⟩ = some (.pointer (some ⟨S, 0, none⟩)) ∧ Bx wr.drew O 45 (opC o (.slice da dm dc)) from ⟨sb0, hbd⟩)
        have hba : Below wr.drew.heap.size wr.drew (wr.drew.alloc (.cells (opC o (.slice da dm dc)).toArray 45)) := (Below.refl _ _).alloc (Nat.le_refl _) _
        have KA := hid (And.intro (below_cell hba K0.out.1) (hbd.below hba hbd.lt))
        have sb2 : w2.cell? ⟨Sb, 0, none⟩ = some (.pointer (some ⟨S, 0, none⟩)) := by rw [g2.cell HCL.out.lt.1.2.2.1 hSbS]; exact sb0
        have hb2 := hbd.grown k2 (fun e9 => HOVN.out e9.symm)
        have KB := hid (And.intro sb2 hb2)
        have KC := hid (show (w2.setCell ⟨S, 6, none⟩ (.slice ea em ec)).cell? ⟨Sb, 0, none⟩ = some (.pointer (some ⟨S, 0, none⟩)) ∧ Bx (w2.setCell ⟨S, 6, none⟩ (.slice ea em ec)) O 45 (opC o (.slice da dm dc)) from ⟨by rw [cell_so _ hSbS]; exact sb2, hb2.other (Ne.symm hSO) _⟩)
        have S5 := hid s2
        have G5 := hid ((((G4.out.trans (Gb.ofG HG.out HOB.out HSS.out.bw)).trans (⟨rfl, rfl, rfl, Nat.le_refl _, fun _ _ _ => rfl⟩ : Gb B S wr wr.drew)).trans g2).set 6 (.slice ea em ec))
        obtain ⟨oa, om, oc, rfl, hom⟩ := own_sl3 h4s.res.op
        have c6 : wr.cell? ⟨S, 6, none⟩ = some (.slice oa om oc) := h4s.bx.cell 6
        have c6a : (wr.alloc (.cells (opC o (.slice da dm dc)).toArray 45)).cell? ⟨S, 6, none⟩ = some (.slice oa om oc) := below_cell ((Below.refl wr.heap.size wr).alloc (Nat.le_refl _) _) c6
        have c6d : (wr.drew.alloc (.cells (opC o (.slice da dm dc)).toArray 45)).cell? ⟨S, 6, none⟩ = some (.slice oa om oc) := below_cell hba c6
        have c6b : w2.cell? ⟨S, 6, none⟩ = some (.slice oa om oc) := bs2.cell 6
        have f6 := bs2.free 6
        unfold opC at e2 c6a c6d
        clear h4s hsd hdm bs2 g2 k2 s2 kx sb0 hbd hba sb2 hb2 hom HE
        go_wp2_with fail
        refine wp_region_held (S := fun W9 => W9.cell? ⟨Sb, 0, none⟩ = some (.pointer (some ⟨S, 0, none⟩)) ∧ W9.cell? ⟨O, 0, none⟩ = some (.int .i64 (o.kind : Int)) ∧ W9.cell? ⟨O, 1, none⟩ = some (.int .i64 (o.ref : Int)) ∧ W9.cell? ⟨O, 2, none⟩ = some (.int .u64 (o.p : Int)) ∧ W9.cell? ⟨O, 3, none⟩ = some (.int .u64 (o.a : Int)) ∧ W9.cell? ⟨O, 4, none⟩ = some (.int .u64 (o.b : Int)) ∧ W9.cell? ⟨O, 5, none⟩ = some (.slice da dm dc)) (by kernel_rfl) ?_
        simp only [List.size_toArray, List.length_cons, List.length_nil, Nat.reduceAdd, Array.replicate_succ, Array.replicate_zero, List.push_toArray, List.nil_append, List.cons_append]
        have hS := CN.out _ K0.out
        refine wpAnyH_put (i := 0) (d := 35) (v := .pointer (some ⟨S, 0, none⟩)) rfl (by kernel_rfl) (by kernel_rfl) (by kernel_rfl) (by kernel_rfl) (fun _ _ _ h => h) (Or.inl ⟨by kernel_rfl, fun W hS => by obtain ⟨y0, y1, y2, y3, y4, y5, y6⟩ := hS; first | (go_simp; done) | (go_simp; omega)⟩) hS ?_
        simp only [List.setIfInBounds_toArray, List.set_cons_zero, List.set_cons_succ]
        refine wpAnyH_put (i := 1) (d := 36) (v := .pointer (some ⟨S, 0, none⟩)) rfl (by kernel_rfl) (by kernel_rfl) (by kernel_rfl) (by kernel_rfl) (fun _ _ _ h => h) (Or.inl ⟨by kernel_rfl, fun W hS => by obtain ⟨y0, y1, y2, y3, y4, y5, y6⟩ := hS; first | (go_simp; done) | (go_simp; omega)⟩) hS ?_
        simp only [List.setIfInBounds_toArray, List.set_cons_zero, List.set_cons_succ]
        refine wpAnyH_put (i := 2) (d := 37) (v := .pointer (some ⟨S, 0, none⟩)) rfl (by kernel_rfl) (by kernel_rfl) (by kernel_rfl) (by kernel_rfl) (fun _ _ _ h => h) (Or.inl ⟨by kernel_rfl, fun _ _ => by kernel_rfl⟩) hS ?_
        simp only [List.setIfInBounds_toArray, List.set_cons_zero, List.set_cons_succ]
        refine wpAnyH_put (i := 3) (d := 38) (v := .pointer (some ⟨S, 6, none⟩)) rfl (by kernel_rfl) (by kernel_rfl) (by kernel_rfl) (by kernel_rfl) (fun _ _ _ h => h) (Or.inl ⟨by kernel_rfl, fun _ _ => by kernel_rfl⟩) hS ?_
        simp only [List.setIfInBounds_toArray, List.set_cons_zero, List.set_cons_succ]
        refine wpAnyH_put (i := 5) (d := 40) (v := .agg #[.int .i64 (o.kind : Int), .int .i64 (o.ref : Int), .int .u64 (o.p : Int), .int .u64 (o.a : Int), .int .u64 (o.b : Int), .slice da dm dc]) rfl (by kernel_rfl) (by kernel_rfl) (by kernel_rfl) (by kernel_rfl) (fun _ _ _ h => h) (Or.inl ⟨by kernel_rfl, fun W hS => by obtain ⟨y0, y1, y2, y3, y4, y5, y6⟩ := hS; first | (go_simp; done) | (go_simp; omega)⟩) hS ?_
        simp only [List.setIfInBounds_toArray, List.set_cons_zero, List.set_cons_succ]
        refine wpAnyH_all (rs := [4, 6]) (by kernel_rfl) (by simp) (fun i9 hi9 => ?_)
        rcases (by simpa using hi9 : i9 = 4 ∨ i9 = 6) with hi9 | hi9
        · subst hi9
          refine wpOp_do rfl (by kernel_rfl) (fun K' hK => ?_)
          go_simp
          refine hK.out _ _ ⟨hS, ?_⟩
          clear hK K'
          refine wpAnyH_one (r := 6) (by kernel_rfl) ?_
          refine wpOp_do rfl (by kernel_rfl) (fun K' hK => ?_)
          go_simp
          have h6 := CN.out _ KA.out
          refine hK.out _ _ ⟨h6, ?_⟩
          clear hS
          have hS := h6
          clear hK K'
          refine wpAnyH_one (r := 7) (by kernel_rfl) ?_
          have h7 := CN.out _ KB.out
          refine wpOp_app rfl rfl _ _ rfl rfl rfl rfl e2 ⟨h7, ?_⟩
          clear hS
          have hS := h7
          refine wpAnyH_put (i := 8) (d := 43) (v := .pointer (some ⟨S, 0, none⟩)) rfl (by kernel_rfl) (by kernel_rfl) (by kernel_rfl) (by kernel_rfl) (fun _ _ _ h => h) (Or.inl ⟨by kernel_rfl, fun _ _ => by kernel_rfl⟩) hS ?_
          simp only [List.setIfInBounds_toArray, List.set_cons_zero, List.set_cons_succ]
          refine wpAnyH_put (i := 9) (d := 44) (v := .pointer (some ⟨S, 6, none⟩)) rfl (by kernel_rfl) (by kernel_rfl) (by kernel_rfl) (by kernel_rfl) (fun _ _ _ h => h) (Or.inl ⟨by kernel_rfl, fun _ _ => by kernel_rfl⟩) hS ?_
          simp only [List.setIfInBounds_toArray, List.set_cons_zero, List.set_cons_succ]
          refine wpAnyH_one (r := 10) (by kernel_rfl) ?_
          refine wpOp_do rfl (by kernel_rfl) (fun K' hK => ?_)
          go_simp
          have h10 := CN.out _ KC.out
          refine hK.out _ _ ⟨h10, ?_⟩
          clear hS
          clear hK K'
          refine wpAnyH_done (by kernel_rfl) ?_ _
          go_wp2_with fail
          go_ret
          rw [HN.out]
          exact OrdP.yes G5.out S5.out
        · subst hi9
          refine wpOp_do rfl (by kernel_rfl) (fun K' hK => ?_)
          go_simp
          have h6 := CN.out _ KA.out
          refine hK.out _ _ ⟨h6, ?_⟩
          clear hS
          have hS := h6
          clear hK K'
          refine wpAnyH_one (r := 4) (by kernel_rfl) ?_
          refine wpOp_do rfl (by kernel_rfl) (fun K' hK => ?_)
          go_simp
          refine hK.out _ _ ⟨hS, ?_⟩
          clear hK K'
          refine wpAnyH_one (r := 7) (by kernel_rfl) ?_
          have h7 := CN.out _ KB.out
          refine wpOp_app rfl rfl _ _ rfl rfl rfl rfl e2 ⟨h7, ?_⟩
          clear hS
          have hS := h7
          refine wpAnyH_put (i := 8) (d := 43) (v := .pointer (some ⟨S, 0, none⟩)) rfl (by kernel_rfl) (by kernel_rfl) (by kernel_rfl) (by kernel_rfl) (fun _ _ _ h => h) (Or.inl ⟨by kernel_rfl, fun _ _ => by kernel_rfl⟩) hS ?_
          simp only [List.setIfInBounds_toArray, List.set_cons_zero, List.set_cons_succ]
          refine wpAnyH_put (i := 9) (d := 44) (v := .pointer (some ⟨S, 6, none⟩)) rfl (by kernel_rfl) (by kernel_rfl) (by kernel_rfl) (by kernel_rfl) (fun _ _ _ h => h) (Or.inl ⟨by kernel_rfl, fun _ _ => by kernel_rfl⟩) hS ?_
          simp only [List.setIfInBounds_toArray, List.set_cons_zero, List.set_cons_succ]
          refine wpAnyH_one (r := 10) (by kernel_rfl) ?_
          refine wpOp_do rfl (by kernel_rfl) (fun K' hK => ?_)
          go_simp
          have h10 := CN.out _ KC.out
          refine hK.out _ _ ⟨h10, ?_⟩
          clear hS
          clear hK K'
          refine wpAnyH_done (by kernel_rfl) ?_ _
          go_wp2_with fail
          go_ret
          rw [HN.out]
          exact OrdP.yes G5.out S5.out
  · have hmn' : ((m : Int) != 2) = true := by simp; omega
    have HN := hid (show opO [42, 40] [80, 78] k s ws = none by rw [opO, if_neg (by simp; omega)])
    have HM := hid hm
    clear hm hmn hs hcl
    go_enter Tryd.func50, Tryd.ntmps50
    go_wp2_with fail
    go_ret
    rw [HN.out]
    exact OrdP.no (Gb.refl _ _ _) (.inl rfl) HS.out
end Go.Proofs.YtcefihmnnndleaaDoor
