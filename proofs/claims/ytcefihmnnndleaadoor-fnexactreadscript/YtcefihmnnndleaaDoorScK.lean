import Derived.Test.YtcefihmnnndleaaDoorScJ
import Derived.Laws.CopyRow
import Derived.Laws.CopyOwn
import Derived.Deep.DeepCutAuto
import Derived.Deep.CutBlock
namespace Go.Proofs.YtcefihmnnndleaaDoor
open Go.ChangeShapes Go.WideShapes Go.ChangeAt Go.RowKit
set_option linter.unusedVariables false
set_option maxRecDepth 20000
set_option linter.unusedSimpArgs false

def zeroF : List Value := [.int .i64 0, .int .i64 0, .int .i64 0, .int .i64 0, .int .u64 0, .slice none 0 0]
structure St5 (B0 : Nat) (w W : World) (C R : Nat) (c : CfS) (dv : Value) : Prop where
  r : Bx W R 26 zeroF
  bx : Bx W C 26 (cfC c dv)
  dt : W.ownsRow B0 3 1 dv c.draws.length (iv c.draws)
  bel : Below w.heap.size w W
  ge : w.heap.size ≤ C ∧ w.heap.size ≤ R
  ne : C ≠ R
theorem St5.mk0 {B0 : Nat} (w : World) (c : CfS) (dv : Value) (h : w.ownsRow B0 3 1 dv c.draws.length (iv c.draws)) : St5 B0 w ((w.alloc (.cells (cfC c dv).toArray 26)).alloc (.cells zeroF.toArray 26)) w.heap.size (w.heap.size + 1) c dv := by
  have s1 : (w.alloc (.cells (cfC c dv).toArray 26)).heap.size = w.heap.size + 1 := by simp
  have b1 := (Below.refl w.heap.size w).alloc (Nat.le_refl _) (.cells (cfC c dv).toArray 26)
  have b2 := b1.alloc (by omega) (.cells zeroF.toArray 26)
  refine ⟨?_, ?_, own_below h b2, b2, by omega, by omega⟩
  · unfold Bx
    rw [← s1, al_last]
  · unfold Bx
    rw [al_old _ _ _ (by omega), al_last]
theorem St5.below {B0 : Nat} {w W W' : World} {C R : Nat} {c : CfS} {dv : Value} (h : St5 B0 w W C R c dv) (hb : Below W.heap.size W W') : St5 B0 w W' C R c dv :=
  ⟨h.r.below hb h.r.lt, h.bx.below hb h.bx.lt, own_below h.dt hb, h.bel.trans (hb.mono h.bel.size), h.ge, h.ne⟩
theorem St5.set {B0 : Nat} {w W : World} {C R : Nat} {c c' : CfS} {dv : Value} (h : St5 B0 w W C R c dv) (i : Nat) (v : Value) (hd : c'.draws = c.draws) (hc : (cfC c dv).set i v = cfC c' dv) : St5 B0 w (W.setCell ⟨C, i, none⟩ v) C R c' dv := by
  have b1 := h.bx.set i v
  rw [hc] at b1
  exact ⟨h.r.other (Ne.symm h.ne) v, b1, hd ▸ own_set h.dt (h.bx.apart h.dt (by decide)) v, h.bel.setCell h.ge.1 v, h.ge, h.ne⟩
theorem St5.grow {B0 : Nat} {w W W' : World} {C R : Nat} {c : CfS} {dv nv : Value} {n : Nat} {xs : List Value} (h : St5 B0 w W C R c dv) (hg : W.grownBy W' nv.ownBlock) (hn : W.ownsRow w.heap.size 3 1 nv n xs) (hap : ∀ r, dv.ownBlock = some r → r < w.heap.size) : St5 B0 w W' C R c dv :=
  ⟨h.r.grown hg (h.r.apart hn (by decide)), h.bx.grown hg (h.bx.apart hn (by decide)), h.dt.kept hg (by
    cases e : dv.ownBlock with
    | none => exact .inl rfl
    | some r => exact .inr (fun e2 => by have := hap r e; have := (hn.lt r e2.symm).1; omega)), h.bel.grown hg h.bel.size (fun r e => (hn.lt r e).1), h.ge, h.ne⟩
theorem St5.drawn {B0 : Nat} {w W W1 W2 : World} {C R : Nat} {c : CfS} {ns : List Int} {dv v1 v2 : Value} {n1 : Nat} {x1 : List Value} (h : St5 B0 w W C R c dv) (g1 : W.grownBy W1 none) (o1 : W1.ownsRow w.heap.size 3 1 v1 n1 x1) (g2 : W1.grownBy W2 v1.ownBlock) (o2 : W2.ownsRow w.heap.size 3 1 v2 (c.draws ++ ns).length (iv (c.draws ++ ns))) (hB : B0 ≤ w.heap.size) :
    St5 B0 w (W2.setCell ⟨C, 5, none⟩ v2) C R { c with draws := c.draws ++ ns } v2 := by
  have r1 := h.r.grown g1 (fun e => by cases e)
  have b1 := h.bx.grown g1 (fun e => by cases e)
  have r2 := r1.grown g2 (r1.apart o1 (by decide))
  have b2 := b1.grown g2 (b1.apart o1 (by decide))
  have k1 := h.bel.grown g1 h.bel.size (fun r e => by cases e)
  have k2 := k1.grown g2 k1.size (fun r e => (o1.lt r e).1)
  exact ⟨r2.other (Ne.symm h.ne) v2, by simpa [cfC] using b2.set 5 v2, own_mono (own_set o2 (b2.apart o2 (by decide)) v2) hB, k2.setCell h.ge.1 v2, h.ge, h.ne⟩
/-- the result of a line of the shape -/
def SetR (B0 B1 : Nat) (W : World) (c' : CfS) (ok : Bool) (v dv0 dv : Value) : Prop := v = .tuple #[.agg (cfC c' dv).toArray, .bool ok] ∧ W.ownsRow B0 3 1 dv c'.draws.length (iv c'.draws) ∧ (dv = dv0 ∨ ∀ r, dv.ownBlock = some r → B1 ≤ r)
set_option maxHeartbeats 4000000 in
theorem sp_set (c : CfS) (dv v : Value) (q : List (List UInt8)) (B B0 : Nat) (w : World) (hq : Ws B w v q) (hne : 0 < q.length) (hl : q.length ≤ 1048576) (hwl : ∀ x ∈ q, x.length ≤ 1048576) (hdr : w.ownsRow B0 3 1 dv c.draws.length (iv c.draws)) (hB0 : B0 ≤ w.heap.size) (hdl : c.draws.length ≤ 1000000000) :
    Calls Tryd.prog 21 #[.agg (cfC c dv).toArray, v] w fun e w' => ∃ r, e = .returned r ∧ (∃ dv', SetR B0 w.heap.size w' ((setM c q).getD c) (setM c q).isSome r dv dv') ∧ Below w.heap.size w w' := by
  obtain ⟨g, qc, rfl, hg, hqc⟩ : ∃ g qc, v = .slice (some ⟨g, 0, none⟩) q.length qc ∧ g < w.heap.size ∧ q.length ≤ qc := by
    rcases hq.2 with ⟨rfl, h0⟩ | ⟨g, cap, cur, rfl, hg, hh, h3, _⟩
    · omega
    · exact ⟨g, cap, rfl, lt_of_block hh, h3⟩
  have HQ := hid (fun (W : World) (hb : Below w.heap.size w W) (k : Nat) (hk : k < q.length) => (show W.cell? ⟨g, k, none⟩ = some (.string (bs (q.getD k []))) by rw [hb.cell hg]; exact ws_cell hq rfl hk))
  have HWL := hid (fun (k : Nat) (hk : k < q.length) => (show (q.getD k []).length ≤ 1048576 by
    have : q.getD k [] = q[k] := by simp [hk]
    rw [this]; exact hwl _ (List.getElem_mem hk)))
  obtain ⟨m, hm⟩ : ∃ m, q.length = m := ⟨_, rfl⟩
  rw [hm] at hne hl hqc ⊢
  have HM := hid hm
  clear hq hm hwl
  obtain ⟨a9, m9, c9, rfl, hm9⟩ := own_sl3 hdr
  clear hm9
  have H5 := hid (St5.mk0 w c (.slice a9 m9 c9) hdr)
  obtain ⟨W5, hW5⟩ : ∃ W, W = ((w.alloc (.cells (cfC c (.slice a9 m9 c9)).toArray 26)).alloc (.cells zeroF.toArray 26)) := ⟨_, rfl⟩
  rw [← hW5] at H5
  have h30 := HQ.out w (Below.refl _ _) 0 (by rw [HM.out]; exact hne)
  obtain ⟨q0, hq0⟩ : ∃ t, t = bs (q.getD 0 []) := ⟨_, rfl⟩
  rw [← hq0] at h30
  have HQ0 := hid (show q.headD [] = q0.toList by rw [hq0, Lib.toList_data, bs_list]; cases q <;> simp)
  clear hq0
  have HW5 := hid hW5
  have HAP := hid (show ∀ r, (Value.slice a9 m9 c9).ownBlock = some r → r < w.heap.size from fun r e => (hdr.lt r e).2)
  have HQ00 := hid (fun (W : World) (hb : Below w.heap.size w W) => (show W.cell? ⟨g, 0, none⟩ = some (.string q0) by rw [hb.cell hg]; exact h30))
  clear hW5 hdr
  go_enter Tryd.func21, Tryd.ntmps21
  by_cases x1 : q0.toList = [107, 101, 121]
  · by_cases x2 : m = 2
    · subst x2
      have hm2 := HM.out
      have KT := hid (show q.headD [] = kwKey ∧ q.length = 2 from ⟨by rw [HQ0.out]; exact x1, HM.out⟩)
      have hb0 : (q0.toList == [107, 101, 121]) = true := by rw [beq_iff_eq]; exact x1
      have cw := HQ.out w (Below.refl _ _) 1 (by rw [HM.out]; omega)
      have hwl := HWL.out 1 (by rw [HM.out]; omega)
      clear hm2
      obtain ⟨wl, hwlE⟩ : ∃ l, l = q.getD 1 [] := ⟨_, rfl⟩
      rw [← hwlE] at cw hwl
      have HSET := hid (show setM c q = (keyM wl).map (fun k : Nat => { c with key := k }) by rw [setM, if_pos KT.out, hwlE])
      clear hwlE
      obtain ⟨wS, hwS⟩ : ∃ s, s = bs wl := ⟨_, rfl⟩
      rw [← hwS] at cw
      have hwSs : wS.size ≤ 1048576 := by rw [hwS, bs_size]; exact hwl
      have HWS := hid (show wS.data.toList = wl by rw [hwS, bs_list])
      have HWZ := hid (show wl.length = wS.size by rw [hwS, bs_size])
      clear hwS hwl
      by_cases hA : allH wl = true ∧ 0 < wS.size
      · have hC := sp_hex_y wS W5 hwSs (by rw [HWS.out]; exact hA.1) hA.2
        rw [HWS.out] at hC
        go_wp2_with fail
        rw [HW5.out] at hC
        refine hC.mono ?_
        rintro e w' ⟨hg, hc, rfl, hge, hrow, hbel⟩
        rw [← HW5.out] at hge hbel
        have H6 := hid (H5.out.below hbel)
        have HRO := hid hrow
        have HHG := hid (show ¬ hg = w.heap.size by have := H5.out.bx.lt; omega)
        have HHG2 := hid (show ¬ w.heap.size = hg by have := H5.out.bx.lt; omega)
        have HA := hid hA.1
        have HA2 := hid hA.2
        clear hC H5 hrow hbel hA hge
        by_cases h16 : 16 < wS.size
        · have HE := hid (show setM c q = none by rw [HSET.out, key_long (by rw [HWZ.out]; exact h16)]; rfl)
          clear HSET HRO
          have HR : Hid (w'.heap[w.heap.size + 1]? = some (.cells zeroF.toArray 26 (0, 0))) := hid H6.out.r
          have HO : Hid (w'.heap[w.heap.size]? = some (.cells (cfC c (.slice a9 m9 c9)).toArray 26 (0, 0))) := hid H6.out.bx
          have HRR := hid (setRow_heap w' (w.heap.size + 1) _ (cfC c (.slice a9 m9 c9)).toArray 26 (0, 0) HR.out)
          have HBB := hid (below_setRow H6.out.bel H6.out.ge.2 (cfC c (.slice a9 m9 c9)).toArray)
          have HDT := hid (own_setRow H6.out.dt (H6.out.r.apart H6.out.dt (by decide)) (cfC c (.slice a9 m9 c9)).toArray)
          clear H6
          go_upto_region 4 with (fail)
          go_wp2_with (first | (refine wpList_load_row rfl 26 _ rfl w.heap.size rfl 26 _ (0, 0) _ HO.out Tryd.underlying26 rfl (by kernel_rfl) ?_) | (refine wpList_store_row rfl 26 _ _ rfl _ _ rfl rfl 26 _ HR.out (by kernel_rfl) rfl (by first | exact cf_one _ _ _ _ | simp [Value.oneCell', cfC]) ?_))
          refine bodyPost_ret (results_row2 (by rfl) _ _ (w.heap.size + 1) 26 _ (0, 0) _ (by rfl) HRR.out Tryd.underlying26 rfl (by kernel_rfl)) (by rfl) ?_
          rw [HE.out]
          exact ⟨_, rfl, ⟨_, rfl, HDT.out, by first | exact .inl rfl | exact .inr HFR.out⟩, HBB.out⟩
        · have HE := hid (show setM c q = some { c with key := foldH wl 0 } by rw [HSET.out, key_yes HA.out (by rw [HWZ.out]; exact HA2.out) (by rw [HWZ.out]; omega)]; rfl)
          clear HSET
          have c4 : w'.cell? ⟨w.heap.size, 4, none⟩ = some (.int .u64 (c.key : Int)) := H6.out.bx.cell 4
          have f4 := H6.out.bx.free 4
          have H7 := hid (H6.out.set (c' := { c with key := 0 }) 4 (.int .u64 0) rfl rfl)
          have HR7 := hid (HRO.out.other (p := ⟨w.heap.size, 4, none⟩) HHG.out (.int .u64 0))
          have h16b : wS.size ≤ 16 := by omega
          clear H6 HRO h16
          go_wp2_with fail
          go_loopw [42] (fun i wr => ∃ (k : Nat), k ≤ wS.size ∧ i = .int .i64 (k : Int) ∧ Hid (St5 B0 w wr w.heap.size (w.heap.size + 1) { c with key := foldH (wl.take k) 0 } (.slice a9 m9 c9)) ∧ Hid (RowV wr hg 5 (hv wl))) (fun i _ => wS.size - (intOf i).toNat)
          case atStart => exact ⟨0, Nat.zero_le _, rfl, H7, HR7⟩
          case round =>
            clear H7 HR7 c4 f4
            obtain ⟨k, hk, rfl, H7, HR7⟩ := hrel
            by_cases hlt : k < wS.size
            · have c99 := hv_cell HR7.out k (by rw [HWZ.out]; exact hlt)
              have c4 : wr.cell? ⟨w.heap.size, 4, none⟩ = some (.int .u64 ((foldH (wl.take k) 0 : Nat) : Int)) := H7.out.bx.cell 4
              have f4 := H7.out.bx.free 4
              have hd16 := hex_lt HA.out k
              have hfl : foldH (wl.take k) 0 < 1152921504606846976 := by
                have h1 := fold_lt (wl.take k) 0 (allH_take HA.out k)
                rw [Nat.zero_add, Nat.one_mul] at h1
                have h2 : 16 ^ (wl.take k).length ≤ 16 ^ 15 := Nat.pow_le_pow_right (by omega) (by rw [List.length_take]; omega)
                have h3 : (16 : Nat) ^ 15 = 1152921504606846976 := by decide
                omega
              have hkl : k < wl.length := by rw [HWZ.out]; exact hlt
              have hst : foldH (wl.take (k + 1)) 0 = foldH (wl.take k) 0 * 16 + (hexs wl).getD k 0 := by
                rw [fold_snoc wl k wl[k] 0 (List.drop_eq_getElem_cons hkl)]
                simp [hexs, hkl]
              have H8 := hid (show St5 B0 w (wr.setCell ⟨w.heap.size, 4, none⟩ (.int .u64 ((foldH (wl.take k) 0 : Nat) * 16 + (((hexs wl).getD k 0 : Nat) : Int)))) w.heap.size (w.heap.size + 1) { c with key := foldH (wl.take (k + 1)) 0 } (.slice a9 m9 c9) from H7.out.set (c' := { c with key := foldH (wl.take (k + 1)) 0 }) 4 (.int .u64 ((foldH (wl.take k) 0 : Nat) * 16 + (((hexs wl).getD k 0 : Nat) : Int))) rfl (by simp only [hst, cfC]; rfl))
              have HR8 := hid (HR7.out.other (p := ⟨w.heap.size, 4, none⟩) HHG.out (.int .u64 ((foldH (wl.take k) 0 : Nat) * 16 + (((hexs wl).getD k 0 : Nat) : Int))))
              clear H7 HR7 hst hkl
              generalize foldH (wl.take k) 0 = z at *
              generalize (hexs wl).getD k 0 = d at *
              go_wp2_with fail
              go_roundw
              case rel => exact ⟨k + 1, by omega, by go_num, H8, HR8⟩
              case measure => simp [intOf]; omega
            · have H9 := hid (show St5 B0 w wr w.heap.size (w.heap.size + 1) { c with key := foldH wl 0 } (.slice a9 m9 c9) by
                have h1 := H7.out
                rw [List.take_of_length_le (by rw [HWZ.out]; omega)] at h1
                exact h1)
              clear H7 HR7
              have HR : Hid (wr.heap[w.heap.size + 1]? = some (.cells zeroF.toArray 26 (0, 0))) := hid H9.out.r
              have HO : Hid (wr.heap[w.heap.size]? = some (.cells (cfC { c with key := foldH wl 0 } (.slice a9 m9 c9)).toArray 26 (0, 0))) := hid H9.out.bx
              have HRR := hid (setRow_heap wr (w.heap.size + 1) _ (cfC { c with key := foldH wl 0 } (.slice a9 m9 c9)).toArray 26 (0, 0) HR.out)
              have HBB := hid (below_setRow H9.out.bel H9.out.ge.2 (cfC { c with key := foldH wl 0 } (.slice a9 m9 c9)).toArray)
              have HDT := hid (own_setRow H9.out.dt (H9.out.r.apart H9.out.dt (by decide)) (cfC { c with key := foldH wl 0 } (.slice a9 m9 c9)).toArray)
              clear H9
              go_upto_region 11 with (fail)
              go_wp2_with (first | (refine wpList_load_row rfl 26 _ rfl w.heap.size rfl 26 _ (0, 0) _ HO.out Tryd.underlying26 rfl (by kernel_rfl) ?_) | (refine wpList_store_row rfl 26 _ _ rfl _ _ rfl rfl 26 _ HR.out (by kernel_rfl) rfl (by first | exact cf_one _ _ _ _ | simp [Value.oneCell', cfC]) ?_))
              refine bodyPost_ret (results_row2 (by rfl) _ _ (w.heap.size + 1) 26 _ (0, 0) _ (by rfl) HRR.out Tryd.underlying26 rfl (by kernel_rfl)) (by rfl) ?_
              rw [HE.out]
              exact ⟨_, rfl, ⟨_, rfl, HDT.out, by first | exact .inl rfl | exact .inr HFR.out⟩, HBB.out⟩
      · have HE := hid (show setM c q = none by rw [HSET.out, key_no (by rw [HWZ.out]; exact hA)]; rfl)
        have hC := sp_hex_n wS W5 hwSs (by rw [HWS.out]; exact hA)
        clear hA HSET
        go_wp2_with fail
        rw [HW5.out] at hC
        refine hC.mono ?_
        rintro e w' ⟨ha, hc, rfl, hbel⟩
        rw [← HW5.out] at hbel
        have H6 := hid (H5.out.below hbel)
        clear hC H5 hbel
        have HR : Hid (w'.heap[w.heap.size + 1]? = some (.cells zeroF.toArray 26 (0, 0))) := hid H6.out.r
        have HO : Hid (w'.heap[w.heap.size]? = some (.cells (cfC c (.slice a9 m9 c9)).toArray 26 (0, 0))) := hid H6.out.bx
        have HRR := hid (setRow_heap w' (w.heap.size + 1) _ (cfC c (.slice a9 m9 c9)).toArray 26 (0, 0) HR.out)
        have HBB := hid (below_setRow H6.out.bel H6.out.ge.2 (cfC c (.slice a9 m9 c9)).toArray)
        have HDT := hid (own_setRow H6.out.dt (H6.out.r.apart H6.out.dt (by decide)) (cfC c (.slice a9 m9 c9)).toArray)
        clear H6
        go_upto_region 4 with (fail)
        go_wp2_with (first | (refine wpList_load_row rfl 26 _ rfl w.heap.size rfl 26 _ (0, 0) _ HO.out Tryd.underlying26 rfl (by kernel_rfl) ?_) | (refine wpList_store_row rfl 26 _ _ rfl _ _ rfl rfl 26 _ HR.out (by kernel_rfl) rfl (by first | exact cf_one _ _ _ _ | simp [Value.oneCell', cfC]) ?_))
        refine bodyPost_ret (results_row2 (by rfl) _ _ (w.heap.size + 1) 26 _ (0, 0) _ (by rfl) HRR.out Tryd.underlying26 rfl (by kernel_rfl)) (by rfl) ?_
        rw [HE.out]
        exact ⟨_, rfl, ⟨_, rfl, HDT.out, by first | exact .inl rfl | exact .inr HFR.out⟩, HBB.out⟩
    · have NK := hid (show ¬ (q.headD [] = kwKey ∧ q.length = 2) from fun h => x2 (by rw [← HM.out]; exact h.2))
      have NH := hid (show ¬ q.headD [] = kwHeap by rw [HQ0.out, x1]; decide)
      have ND := hid (show ¬ q.headD [] = kwDraws by rw [HQ0.out, x1]; decide)
      have hb0 : (q0.toList == [107, 101, 121]) = true := by rw [beq_iff_eq]; exact x1
      have hb2 : ((m : Int) == 2) = false := by rw [beq_eq_false_iff_ne]; omega
      by_cases hq1 : qc = 1
      · subst hq1
        go_wp2
        try simp only [hb0, hb2]
        refine Eq.mp (congrArg _ HW5.out) ?_
        go_loopw [10, 58] (fun nv i wr => ∃ (k : Nat) (ns : List Int), k ≤ m - 1 ∧ i = .int .i64 (k : Int) ∧ ns.length = k ∧ Hid (intsM q.tail = (intsM (q.tail.drop k)).map (ns ++ ·)) ∧ Hid (wr.ownsRow w.heap.size 3 1 nv ns.length (iv ns)) ∧ Hid (St5 B0 w wr w.heap.size (w.heap.size + 1) c (.slice a9 m9 c9))) (fun _ i _ => m - 1 - (intOf i).toNat)
        case atStart => exact ⟨0, [], Nat.zero_le _, rfl, rfl, hid (by simp), hid ⟨by simp [iv], .inl ⟨rfl, rfl⟩⟩, H5⟩
        case round =>
          clear H5
          obtain ⟨k, ns, hk, rfl, hnk, HI, HO1, H5⟩ := hrel
          by_cases hlt : k < m - 1
          · exfalso; omega
          · have HN := hid (show intsM q.tail = some ns by
              rw [HI.out, List.drop_eq_nil_of_le (by rw [List.length_tail, HM.out]; omega)]
              simp [intsM])
            have hkm : k = m - 1 := by omega
            clear HI
            have c30 := HQ00.out _ H5.out.bel
            have HE := hid (show setM c q = none by rw [setM, if_neg NK.out, HN.out, Option.bind_some, if_neg (fun h => NH.out h.1), if_neg ND.out])
            clear HO1
            have HR : Hid (wr.heap[w.heap.size + 1]? = some (.cells zeroF.toArray 26 (0, 0))) := hid H5.out.r
            have HO : Hid (wr.heap[w.heap.size]? = some (.cells (cfC c (.slice a9 m9 c9)).toArray 26 (0, 0))) := hid H5.out.bx
            have HRR := hid (setRow_heap wr (w.heap.size + 1) _ (cfC c (.slice a9 m9 c9)).toArray 26 (0, 0) HR.out)
            have HBB := hid (below_setRow H5.out.bel H5.out.ge.2 (cfC c (.slice a9 m9 c9)).toArray)
            have HDT := hid (own_setRow H5.out.dt (H5.out.r.apart H5.out.dt (by decide)) (cfC c (.slice a9 m9 c9)).toArray)
            clear H5
            go_upto_region 30 with fail
            go_wp2_with (first | (refine wpList_load_row rfl 26 _ rfl w.heap.size rfl 26 _ (0, 0) _ HO.out Tryd.underlying26 rfl (by kernel_rfl) ?_) | (refine wpList_store_row rfl 26 _ _ rfl _ _ rfl rfl 26 _ HR.out (by kernel_rfl) rfl (by first | exact cf_one _ _ _ _ | simp [Value.oneCell', cfC]) ?_))
            refine bodyPost_ret (results_row2 (by rfl) _ _ (w.heap.size + 1) 26 _ (0, 0) _ (by rfl) HRR.out Tryd.underlying26 rfl (by kernel_rfl)) (by rfl) ?_
            rw [HE.out]
            exact ⟨_, rfl, ⟨_, rfl, HDT.out, by first | exact .inl rfl | exact .inr HFR.out⟩, HBB.out⟩
      · go_wp2
        try simp only [hb0, hb2]
        refine Eq.mp (congrArg _ HW5.out) ?_
        go_loopw [10, 58] (fun nv i wr => ∃ (k : Nat) (ns : List Int), k ≤ m - 1 ∧ i = .int .i64 (k : Int) ∧ ns.length = k ∧ Hid (intsM q.tail = (intsM (q.tail.drop k)).map (ns ++ ·)) ∧ Hid (wr.ownsRow w.heap.size 3 1 nv ns.length (iv ns)) ∧ Hid (St5 B0 w wr w.heap.size (w.heap.size + 1) c (.slice a9 m9 c9))) (fun _ i _ => m - 1 - (intOf i).toNat)
        case atStart => exact ⟨0, [], Nat.zero_le _, rfl, rfl, hid (by simp), hid ⟨by simp [iv], .inl ⟨rfl, rfl⟩⟩, H5⟩
        case round =>
          clear H5
          obtain ⟨k, ns, hk, rfl, hnk, HI, HO1, H5⟩ := hrel
          by_cases hlt : k < m - 1
          · have hkm : 1 + k < m := by omega
            have cw := HQ.out _ H5.out.bel (1 + k) (by rw [HM.out]; omega)
            have hwl := HWL.out (1 + k) (by rw [HM.out]; omega)
            obtain ⟨wl, hwlE⟩ : ∃ l, l = q.getD (1 + k) [] := ⟨_, rfl⟩
            rw [← hwlE] at cw hwl
            have hst : intsM (q.tail.drop k) = (intM wl).bind fun n => (intsM (q.tail.drop (k + 1))).map (n :: ·) := by
              have hl2 : k < q.tail.length := by rw [List.length_tail, HM.out]; omega
              rw [List.drop_eq_getElem_cons hl2, intsM, hwlE]
              have : q.tail[k] = q.getD (1 + k) [] := by
                have h9 : k + 1 < q.length := by rw [HM.out]; omega
                rw [Nat.add_comm 1 k]
                simp [h9]
              rw [this]
            have HST := hid hst
            clear hst hwlE
            obtain ⟨wS, hwS⟩ : ∃ s, s = bs wl := ⟨_, rfl⟩
            rw [← hwS] at cw
            have hD := sp_int wS wr (by rw [hwS, bs_size]; exact hwl)
            rw [show wS.data.toList = wl by rw [hwS, bs_list]] at hD
            clear hwS hwl
            cases hiw : intM wl with
            | none =>
              have HE := hid (show setM c q = none by rw [setM, if_neg NK.out, HI.out, HST.out, hiw]; rfl)
              rw [hiw] at hD
              clear hiw HI HST HO1
              have hD : Calls Tryd.prog 29 #[.string wS] wr fun e w' => e = .returned (.tuple #[.int .i64 0, .bool false]) ∧ w' = wr := hD
              have HR : Hid (wr.heap[w.heap.size + 1]? = some (.cells zeroF.toArray 26 (0, 0))) := hid H5.out.r
              have HO : Hid (wr.heap[w.heap.size]? = some (.cells (cfC c (.slice a9 m9 c9)).toArray 26 (0, 0))) := hid H5.out.bx
              have HRR := hid (setRow_heap wr (w.heap.size + 1) _ (cfC c (.slice a9 m9 c9)).toArray 26 (0, 0) HR.out)
              have HBB := hid (below_setRow H5.out.bel H5.out.ge.2 (cfC c (.slice a9 m9 c9)).toArray)
              have HDT := hid (own_setRow H5.out.dt (H5.out.r.apart H5.out.dt (by decide)) (cfC c (.slice a9 m9 c9)).toArray)
              clear H5
              go_upto_region 18 with (go_at_call 29; refine hD.mono ?_; rintro e w' ⟨rfl, rfl⟩)
              go_wp2_with (first | (refine wpList_load_row rfl 26 _ rfl w.heap.size rfl 26 _ (0, 0) _ HO.out Tryd.underlying26 rfl (by kernel_rfl) ?_) | (refine wpList_store_row rfl 26 _ _ rfl _ _ rfl rfl 26 _ HR.out (by kernel_rfl) rfl (by first | exact cf_one _ _ _ _ | simp [Value.oneCell', cfC]) ?_))
              refine bodyPost_ret (results_row2 (by rfl) _ _ (w.heap.size + 1) 26 _ (0, 0) _ (by rfl) HRR.out Tryd.underlying26 rfl (by kernel_rfl)) (by rfl) ?_
              rw [HE.out]
              exact ⟨_, rfl, ⟨_, rfl, HDT.out, by first | exact .inl rfl | exact .inr HFR.out⟩, HBB.out⟩
            | some n =>
              rw [hiw] at hD
              have hD : Calls Tryd.prog 29 #[.string wS] wr fun e w' => e = .returned (.tuple #[.int .i64 n, .bool true]) ∧ w' = wr := hD
              have hsm : ns.length ≤ 2000000 := by omega
              obtain ⟨v1, w1, e1, o1, b1⟩ := appB slIn HO1.out H5.out.bel.size #[.int .i64 n] rfl (by simp [Value.oneCell']) hsm
              have H6 := hid (show St5 B0 w w1 w.heap.size (w.heap.size + 1) c (.slice a9 m9 c9) from H5.out.grow b1 HO1.out HAP.out)
              have O1 := hid (show w1.ownsRow w.heap.size 3 1 v1 (ns ++ [n]).length (iv (ns ++ [n])) by rw [show iv (ns ++ [n]) = iv ns ++ [.int .i64 n] by simp [iv], List.length_append]; exact o1)
              have HI2 := hid (show intsM q.tail = (intsM (q.tail.drop (k + 1))).map ((ns ++ [n]) ++ ·) by
                rw [HI.out, HST.out, hiw]
                cases intsM (q.tail.drop (k + 1)) <;> simp)
              clear hiw HI HST HO1 o1 b1 H5 hsm
              go_wp2_with (first | (go_at_call 29; refine hD.mono ?_; rintro e w' ⟨rfl, rfl⟩) | (at_builtin; refine list_app rfl (.tmp 70) (.tmp 72) (by with_reducible rfl) rfl rfl rfl e1 ?_))
              go_roundw
              case rel => exact ⟨k + 1, ns ++ [n], by omega, by go_num, by simp [hnk], HI2, O1, H6⟩
              case measure => simp [intOf]; omega
          · have HN := hid (show intsM q.tail = some ns by
              rw [HI.out, List.drop_eq_nil_of_le (by rw [List.length_tail, HM.out]; omega)]
              simp [intsM])
            have hkm : k = m - 1 := by omega
            clear HI
            have c30 := HQ00.out _ H5.out.bel
            have HE := hid (show setM c q = none by rw [setM, if_neg NK.out, HN.out, Option.bind_some, if_neg (fun h => NH.out h.1), if_neg ND.out])
            clear HO1
            have HR : Hid (wr.heap[w.heap.size + 1]? = some (.cells zeroF.toArray 26 (0, 0))) := hid H5.out.r
            have HO : Hid (wr.heap[w.heap.size]? = some (.cells (cfC c (.slice a9 m9 c9)).toArray 26 (0, 0))) := hid H5.out.bx
            have HRR := hid (setRow_heap wr (w.heap.size + 1) _ (cfC c (.slice a9 m9 c9)).toArray 26 (0, 0) HR.out)
            have HBB := hid (below_setRow H5.out.bel H5.out.ge.2 (cfC c (.slice a9 m9 c9)).toArray)
            have HDT := hid (own_setRow H5.out.dt (H5.out.r.apart H5.out.dt (by decide)) (cfC c (.slice a9 m9 c9)).toArray)
            clear H5
            go_upto_region 30 with fail
            go_wp2_with (first | (refine wpList_load_row rfl 26 _ rfl w.heap.size rfl 26 _ (0, 0) _ HO.out Tryd.underlying26 rfl (by kernel_rfl) ?_) | (refine wpList_store_row rfl 26 _ _ rfl _ _ rfl rfl 26 _ HR.out (by kernel_rfl) rfl (by first | exact cf_one _ _ _ _ | simp [Value.oneCell', cfC]) ?_))
            refine bodyPost_ret (results_row2 (by rfl) _ _ (w.heap.size + 1) 26 _ (0, 0) _ (by rfl) HRR.out Tryd.underlying26 rfl (by kernel_rfl)) (by rfl) ?_
            rw [HE.out]
            exact ⟨_, rfl, ⟨_, rfl, HDT.out, by first | exact .inl rfl | exact .inr HFR.out⟩, HBB.out⟩
  · have NK := hid (show ¬ (q.headD [] = kwKey ∧ q.length = 2) from fun h => x1 (by rw [← HQ0.out]; exact h.1))
    have hb0 : (q0.toList == [107, 101, 121]) = false := by rw [beq_eq_false_iff_ne]; exact x1
    by_cases hq1 : qc = 1
    · subst hq1
      go_wp2
      try simp only [hb0]
      refine Eq.mp (congrArg _ HW5.out) ?_
      go_loopw [10, 58] (fun nv i wr => ∃ (k : Nat) (ns : List Int), k ≤ m - 1 ∧ i = .int .i64 (k : Int) ∧ ns.length = k ∧ Hid (intsM q.tail = (intsM (q.tail.drop k)).map (ns ++ ·)) ∧ Hid (wr.ownsRow w.heap.size 3 1 nv ns.length (iv ns)) ∧ Hid (St5 B0 w wr w.heap.size (w.heap.size + 1) c (.slice a9 m9 c9))) (fun _ i _ => m - 1 - (intOf i).toNat)
      case atStart => exact ⟨0, [], Nat.zero_le _, rfl, rfl, hid (by simp), hid ⟨by simp [iv], .inl ⟨rfl, rfl⟩⟩, H5⟩
      case round =>
        clear H5
        obtain ⟨k, ns, hk, rfl, hnk, HI, HO1, H5⟩ := hrel
        by_cases hlt : k < m - 1
        · exfalso; omega
        · have HN := hid (show intsM q.tail = some ns by
            rw [HI.out, List.drop_eq_nil_of_le (by rw [List.length_tail, HM.out]; omega)]
            simp [intsM])
          have hkm : k = m - 1 := by omega
          clear HI
          by_cases y1 : q0.toList = [104, 101, 97, 112]
          · have c30 := HQ00.out _ H5.out.bel
            obtain ⟨na, nn, nc, rfl, hnn⟩ := own_sl3 HO1.out
            have HNN := hid hnn
            clear hnn
            by_cases h4 : nn = 4
            · subst h4
              obtain ⟨ng, rfl, hng⟩ : ∃ ng, na = some ⟨ng, 0, none⟩ ∧ w.heap.size ≤ ng := by
                rcases HO1.out.2 with ⟨h9, _⟩ | ⟨g9, c9, cu9, h9, hg9, _⟩
                · cases h9
                · simp only [Value.slice.injEq] at h9; exact ⟨g9, h9.1, hg9⟩
              have hrow : ∀ i, i < 4 → wr.cell? ⟨ng, i, none⟩ = some (.int .i64 (ns.getD i 0)) := fun i hi => by
                have h0 := HO1.out
                rw [← HNN.out] at h0
                have h1 := (RowV.ofOwns h0).cell i (by rw [iv, List.length_map]; have := HNN.out; omega)
                rw [h1]
                have h2 : i < ns.length := by have := HNN.out; omega
                simp [iv, h2]
              have n0 := hrow 0 (by omega)
              have n1 := hrow 1 (by omega)
              have n2 := hrow 2 (by omega)
              have n3 := hrow 3 (by omega)
              have c0 : wr.cell? ⟨w.heap.size, 0, none⟩ = some (.int .i64 c.mix) := H5.out.bx.cell 0
              have c1 : wr.cell? ⟨w.heap.size, 1, none⟩ = some (.int .i64 c.fifo) := H5.out.bx.cell 1
              have c2 : wr.cell? ⟨w.heap.size, 2, none⟩ = some (.int .i64 c.large) := H5.out.bx.cell 2
              have c3 : wr.cell? ⟨w.heap.size, 3, none⟩ = some (.int .i64 c.budget) := H5.out.bx.cell 3
              have c4 : wr.cell? ⟨w.heap.size, 4, none⟩ = some (.int .u64 (c.key : Int)) := H5.out.bx.cell 4
              have c5 : wr.cell? ⟨w.heap.size, 5, none⟩ = some (.slice a9 m9 c9) := H5.out.bx.cell 5
              have f0 := H5.out.bx.free 0
              have f1 := H5.out.bx.free 1
              have f2 := H5.out.bx.free 2
              have f3 := H5.out.bx.free 3
              have hap1 : ¬ ng = w.heap.size := fun e => by
                obtain ⟨x9, hx9⟩ := own_obj HO1.out (r := ng) rfl
                have h8 := H5.out.bx
                unfold Bx at h8
                rw [e, h8] at hx9
                simp at hx9
              have hap2 : ¬ w.heap.size = ng := fun e => hap1 e.symm
              have HE := hid (show setM c q = some { c with mix := ns.getD 0 0, fifo := ns.getD 1 0, large := ns.getD 2 0, budget := ns.getD 3 0 } by
                rw [setM, if_neg NK.out, HN.out, Option.bind_some, if_pos ⟨by rw [HQ0.out]; exact y1, HNN.out.symm⟩])
              have H6 := hid ((((H5.out.set (c' := { c with mix := ns.getD 0 0 }) 0 (.int .i64 (ns.getD 0 0)) rfl rfl).set (c' := { c with mix := ns.getD 0 0, fifo := ns.getD 1 0 }) 1 (.int .i64 (ns.getD 1 0)) rfl rfl).set (c' := { c with mix := ns.getD 0 0, fifo := ns.getD 1 0, large := ns.getD 2 0 }) 2 (.int .i64 (ns.getD 2 0)) rfl rfl).set (c' := { c with mix := ns.getD 0 0, fifo := ns.getD 1 0, large := ns.getD 2 0, budget := ns.getD 3 0 }) 3 (.int .i64 (ns.getD 3 0)) rfl rfl)
              clear HO1 H5 hrow HN HNN hnk hkm
              generalize ns.getD 0 0 = z0 at *
              generalize ns.getD 1 0 = z1 at *
              generalize ns.getD 2 0 = z2 at *
              generalize ns.getD 3 0 = z3 at *
              go_upto_region 26 with (fail)
              obtain ⟨W9, hW9⟩ : ∃ W9, W9 = ((((wr.setCell ⟨w.heap.size, 0, none⟩ (.int .i64 z0)).setCell ⟨w.heap.size, 1, none⟩ (.int .i64 z1)).setCell ⟨w.heap.size, 2, none⟩ (.int .i64 z2)).setCell ⟨w.heap.size, 3, none⟩ (.int .i64 z3)) := ⟨_, rfl⟩
              rw [← hW9] at H6
              refine Eq.mp (congrArg _ hW9) ?_
              clear hW9
              have HR : Hid (W9.heap[w.heap.size + 1]? = some (.cells zeroF.toArray 26 (0, 0))) := hid H6.out.r
              have HO : Hid (W9.heap[w.heap.size]? = some (.cells (cfC { c with mix := z0, fifo := z1, large := z2, budget := z3 } (.slice a9 m9 c9)).toArray 26 (0, 0))) := hid H6.out.bx
              have HRR := hid (setRow_heap W9 (w.heap.size + 1) _ (cfC { c with mix := z0, fifo := z1, large := z2, budget := z3 } (.slice a9 m9 c9)).toArray 26 (0, 0) HR.out)
              have HBB := hid (below_setRow H6.out.bel H6.out.ge.2 (cfC { c with mix := z0, fifo := z1, large := z2, budget := z3 } (.slice a9 m9 c9)).toArray)
              have HDT := hid (own_setRow H6.out.dt (H6.out.r.apart H6.out.dt (by decide)) (cfC { c with mix := z0, fifo := z1, large := z2, budget := z3 } (.slice a9 m9 c9)).toArray)
              clear H6
              go_wp2_with (first | (refine wpList_load_row rfl 26 _ rfl w.heap.size rfl 26 _ (0, 0) _ HO.out Tryd.underlying26 rfl (by kernel_rfl) ?_) | (refine wpList_store_row rfl 26 _ _ rfl _ _ rfl rfl 26 _ HR.out (by kernel_rfl) rfl (by first | exact cf_one _ _ _ _ | simp [Value.oneCell', cfC]) ?_))
              refine bodyPost_ret (results_row2 (by rfl) _ _ (w.heap.size + 1) 26 _ (0, 0) _ (by rfl) HRR.out Tryd.underlying26 rfl (by kernel_rfl)) (by rfl) ?_
              rw [HE.out]
              exact ⟨_, rfl, ⟨_, rfl, HDT.out, by first | exact .inl rfl | exact .inr HFR.out⟩, HBB.out⟩
            · have h4' : ((nn : Int) == 4) = false := by rw [beq_eq_false_iff_ne]; omega
              have HE := hid (show setM c q = none by rw [setM, if_neg NK.out, HN.out, Option.bind_some, if_neg (fun h => h4 (by rw [HNN.out]; exact h.2)), if_neg (by rw [HQ0.out, y1]; decide)])
              clear HO1 HNN h4 hnk hkm
              have HR : Hid (wr.heap[w.heap.size + 1]? = some (.cells zeroF.toArray 26 (0, 0))) := hid H5.out.r
              have HO : Hid (wr.heap[w.heap.size]? = some (.cells (cfC c (.slice a9 m9 c9)).toArray 26 (0, 0))) := hid H5.out.bx
              have HRR := hid (setRow_heap wr (w.heap.size + 1) _ (cfC c (.slice a9 m9 c9)).toArray 26 (0, 0) HR.out)
              have HBB := hid (below_setRow H5.out.bel H5.out.ge.2 (cfC c (.slice a9 m9 c9)).toArray)
              have HDT := hid (own_setRow H5.out.dt (H5.out.r.apart H5.out.dt (by decide)) (cfC c (.slice a9 m9 c9)).toArray)
              clear H5
              go_upto_region 30 with (fail)
              go_wp2_with (first | (refine wpList_load_row rfl 26 _ rfl w.heap.size rfl 26 _ (0, 0) _ HO.out Tryd.underlying26 rfl (by kernel_rfl) ?_) | (refine wpList_store_row rfl 26 _ _ rfl _ _ rfl rfl 26 _ HR.out (by kernel_rfl) rfl (by first | exact cf_one _ _ _ _ | simp [Value.oneCell', cfC]) ?_))
              refine bodyPost_ret (results_row2 (by rfl) _ _ (w.heap.size + 1) 26 _ (0, 0) _ (by rfl) HRR.out Tryd.underlying26 rfl (by kernel_rfl)) (by rfl) ?_
              rw [HE.out]
              exact ⟨_, rfl, ⟨_, rfl, HDT.out, by first | exact .inl rfl | exact .inr HFR.out⟩, HBB.out⟩
          · by_cases y2 : q0.toList = [100, 114, 97, 119, 115]
            · have c30 := HQ00.out _ H5.out.bel
              obtain ⟨na, nn, nc, rfl, hnn⟩ := own_sl3 HO1.out
              clear hnn
              have c5 : wr.cell? ⟨w.heap.size, 5, none⟩ = some (.slice a9 m9 c9) := H5.out.bx.cell 5
              have HE := hid (show setM c q = some { c with draws := c.draws ++ ns } by rw [setM, if_neg NK.out, HN.out, Option.bind_some, if_neg (by rw [HQ0.out, y2]; simp [kwHeap]), if_pos (by rw [HQ0.out, y2]; rfl)])
              obtain ⟨v1, w1, e1, o1, g1⟩ := appO slIn (B := w.heap.size) (v := .slice none 0 0) (n := 0) (xs := []) ⟨by simp, .inl ⟨rfl, rfl⟩⟩ H5.out.bel.size H5.out.dt (iv_one _) (by omega)
              have hg1 : wr.heap.size ≤ w1.heap.size := g1.size
              obtain ⟨v2, w2, e2, o2, g2⟩ := appO slIn o1 (by have := H5.out.bel.size; omega) (HO1.out.kept g1 (by
                cases e9 : (Value.slice na nn nc).ownBlock with
                | none => exact .inl rfl
                | some r => exact .inr (fun h => by cases h))) (iv_one _) (by have := hnk; omega)
              have H6 := hid (H5.out.drawn (ns := ns) g1 o1 g2 (by rw [show iv (c.draws ++ ns) = ([] ++ iv c.draws) ++ iv ns by simp [iv], List.length_append]; simpa using o2) hB0)
              have hb2 : Bx w2 w.heap.size 26 (cfC c (.slice a9 m9 c9)) := (H5.out.bx.grown g1 (fun h => by cases h)).grown g2 ((H5.out.bx.grown g1 (fun h => by cases h)).apart o1 (by decide))
              have c5b : w2.cell? ⟨w.heap.size, 5, none⟩ = some (.slice a9 m9 c9) := hb2.cell 5
              have f5b := hb2.free 5
              obtain ⟨va, vm, vc, rfl, hvm⟩ := own_sl3 o2
              have HFR := hid (show ∀ r, (Value.slice va vm vc).ownBlock = some r → w.heap.size ≤ r from fun r e => (o2.lt r e).1)
              clear HO1 H5 HN hnk hkm o1 g1 o2 g2 hb2 hg1 hvm
              go_upto_region 29 with (first | (at_builtin; refine list_app rfl (.const (.slice none 0 0)) (.tmp 108) (by with_reducible rfl) rfl rfl rfl e1 ?_; clear e1) | (at_builtin; refine list_app rfl (.tmp 109) (.tmp 110) (by with_reducible rfl) rfl rfl rfl e2 ?_; clear e2))
              obtain ⟨W9, hW9⟩ : ∃ W9, W9 = (w2.setCell ⟨w.heap.size, 5, none⟩ (.slice va vm vc)) := ⟨_, rfl⟩
              rw [← hW9] at H6
              refine Eq.mp (congrArg _ hW9) ?_
              clear hW9
              have HR : Hid (W9.heap[w.heap.size + 1]? = some (.cells zeroF.toArray 26 (0, 0))) := hid H6.out.r
              have HO : Hid (W9.heap[w.heap.size]? = some (.cells (cfC { c with draws := c.draws ++ ns } (.slice va vm vc)).toArray 26 (0, 0))) := hid H6.out.bx
              have HRR := hid (setRow_heap W9 (w.heap.size + 1) _ (cfC { c with draws := c.draws ++ ns } (.slice va vm vc)).toArray 26 (0, 0) HR.out)
              have HBB := hid (below_setRow H6.out.bel H6.out.ge.2 (cfC { c with draws := c.draws ++ ns } (.slice va vm vc)).toArray)
              have HDT := hid (own_setRow H6.out.dt (H6.out.r.apart H6.out.dt (by decide)) (cfC { c with draws := c.draws ++ ns } (.slice va vm vc)).toArray)
              clear H6
              go_wp2_with (first | (refine wpList_load_row rfl 26 _ rfl w.heap.size rfl 26 _ (0, 0) _ HO.out Tryd.underlying26 rfl (by kernel_rfl) ?_) | (refine wpList_store_row rfl 26 _ _ rfl _ _ rfl rfl 26 _ HR.out (by kernel_rfl) rfl (by first | exact cf_one _ _ _ _ | simp [Value.oneCell', cfC]) ?_))
              refine bodyPost_ret (results_row2 (by rfl) _ _ (w.heap.size + 1) 26 _ (0, 0) _ (by rfl) HRR.out Tryd.underlying26 rfl (by kernel_rfl)) (by rfl) ?_
              rw [HE.out]
              exact ⟨_, rfl, ⟨_, rfl, HDT.out, by first | exact .inl rfl | exact .inr HFR.out⟩, HBB.out⟩
            · have NH := hid (show ¬ q.headD [] = kwHeap by rw [HQ0.out]; exact y1)
              have ND := hid (show ¬ q.headD [] = kwDraws by rw [HQ0.out]; exact y2)
              have hbh : (q0.toList == [104, 101, 97, 112]) = false := by rw [beq_eq_false_iff_ne]; exact y1
              have hbd : (q0.toList == [100, 114, 97, 119, 115]) = false := by rw [beq_eq_false_iff_ne]; exact y2
              have c30 := HQ00.out _ H5.out.bel
              have HE := hid (show setM c q = none by rw [setM, if_neg NK.out, HN.out, Option.bind_some, if_neg (fun h => NH.out h.1), if_neg ND.out])
              clear HO1
              have HR : Hid (wr.heap[w.heap.size + 1]? = some (.cells zeroF.toArray 26 (0, 0))) := hid H5.out.r
              have HO : Hid (wr.heap[w.heap.size]? = some (.cells (cfC c (.slice a9 m9 c9)).toArray 26 (0, 0))) := hid H5.out.bx
              have HRR := hid (setRow_heap wr (w.heap.size + 1) _ (cfC c (.slice a9 m9 c9)).toArray 26 (0, 0) HR.out)
              have HBB := hid (below_setRow H5.out.bel H5.out.ge.2 (cfC c (.slice a9 m9 c9)).toArray)
              have HDT := hid (own_setRow H5.out.dt (H5.out.r.apart H5.out.dt (by decide)) (cfC c (.slice a9 m9 c9)).toArray)
              clear H5
              go_upto_region 30 with fail
              go_wp2_with (first | (refine wpList_load_row rfl 26 _ rfl w.heap.size rfl 26 _ (0, 0) _ HO.out Tryd.underlying26 rfl (by kernel_rfl) ?_) | (refine wpList_store_row rfl 26 _ _ rfl _ _ rfl rfl 26 _ HR.out (by kernel_rfl) rfl (by first | exact cf_one _ _ _ _ | simp [Value.oneCell', cfC]) ?_))
              refine bodyPost_ret (results_row2 (by rfl) _ _ (w.heap.size + 1) 26 _ (0, 0) _ (by rfl) HRR.out Tryd.underlying26 rfl (by kernel_rfl)) (by rfl) ?_
              rw [HE.out]
              exact ⟨_, rfl, ⟨_, rfl, HDT.out, by first | exact .inl rfl | exact .inr HFR.out⟩, HBB.out⟩
    · go_wp2
      try simp only [hb0]
      refine Eq.mp (congrArg _ HW5.out) ?_
      go_loopw [10, 58] (fun nv i wr => ∃ (k : Nat) (ns : List Int), k ≤ m - 1 ∧ i = .int .i64 (k : Int) ∧ ns.length = k ∧ Hid (intsM q.tail = (intsM (q.tail.drop k)).map (ns ++ ·)) ∧ Hid (wr.ownsRow w.heap.size 3 1 nv ns.length (iv ns)) ∧ Hid (St5 B0 w wr w.heap.size (w.heap.size + 1) c (.slice a9 m9 c9))) (fun _ i _ => m - 1 - (intOf i).toNat)
      case atStart => exact ⟨0, [], Nat.zero_le _, rfl, rfl, hid (by simp), hid ⟨by simp [iv], .inl ⟨rfl, rfl⟩⟩, H5⟩
      case round =>
        clear H5
        obtain ⟨k, ns, hk, rfl, hnk, HI, HO1, H5⟩ := hrel
        by_cases hlt : k < m - 1
        · have hkm : 1 + k < m := by omega
          have cw := HQ.out _ H5.out.bel (1 + k) (by rw [HM.out]; omega)
          have hwl := HWL.out (1 + k) (by rw [HM.out]; omega)
          obtain ⟨wl, hwlE⟩ : ∃ l, l = q.getD (1 + k) [] := ⟨_, rfl⟩
          rw [← hwlE] at cw hwl
          have hst : intsM (q.tail.drop k) = (intM wl).bind fun n => (intsM (q.tail.drop (k + 1))).map (n :: ·) := by
            have hl2 : k < q.tail.length := by rw [List.length_tail, HM.out]; omega
            rw [List.drop_eq_getElem_cons hl2, intsM, hwlE]
            have : q.tail[k] = q.getD (1 + k) [] := by
              have h9 : k + 1 < q.length := by rw [HM.out]; omega
              rw [Nat.add_comm 1 k]
              simp [h9]
            rw [this]
          have HST := hid hst
          clear hst hwlE
          obtain ⟨wS, hwS⟩ : ∃ s, s = bs wl := ⟨_, rfl⟩
          rw [← hwS] at cw
          have hD := sp_int wS wr (by rw [hwS, bs_size]; exact hwl)
          rw [show wS.data.toList = wl by rw [hwS, bs_list]] at hD
          clear hwS hwl
          cases hiw : intM wl with
          | none =>
            have HE := hid (show setM c q = none by rw [setM, if_neg NK.out, HI.out, HST.out, hiw]; rfl)
            rw [hiw] at hD
            clear hiw HI HST HO1
            have hD : Calls Tryd.prog 29 #[.string wS] wr fun e w' => e = .returned (.tuple #[.int .i64 0, .bool false]) ∧ w' = wr := hD
            have HR : Hid (wr.heap[w.heap.size + 1]? = some (.cells zeroF.toArray 26 (0, 0))) := hid H5.out.r
            have HO : Hid (wr.heap[w.heap.size]? = some (.cells (cfC c (.slice a9 m9 c9)).toArray 26 (0, 0))) := hid H5.out.bx
            have HRR := hid (setRow_heap wr (w.heap.size + 1) _ (cfC c (.slice a9 m9 c9)).toArray 26 (0, 0) HR.out)
            have HBB := hid (below_setRow H5.out.bel H5.out.ge.2 (cfC c (.slice a9 m9 c9)).toArray)
            have HDT := hid (own_setRow H5.out.dt (H5.out.r.apart H5.out.dt (by decide)) (cfC c (.slice a9 m9 c9)).toArray)
            clear H5
            go_upto_region 18 with (go_at_call 29; refine hD.mono ?_; rintro e w' ⟨rfl, rfl⟩)
            go_wp2_with (first | (refine wpList_load_row rfl 26 _ rfl w.heap.size rfl 26 _ (0, 0) _ HO.out Tryd.underlying26 rfl (by kernel_rfl) ?_) | (refine wpList_store_row rfl 26 _ _ rfl _ _ rfl rfl 26 _ HR.out (by kernel_rfl) rfl (by first | exact cf_one _ _ _ _ | simp [Value.oneCell', cfC]) ?_))
            refine bodyPost_ret (results_row2 (by rfl) _ _ (w.heap.size + 1) 26 _ (0, 0) _ (by rfl) HRR.out Tryd.underlying26 rfl (by kernel_rfl)) (by rfl) ?_
            rw [HE.out]
            exact ⟨_, rfl, ⟨_, rfl, HDT.out, by first | exact .inl rfl | exact .inr HFR.out⟩, HBB.out⟩
          | some n =>
            rw [hiw] at hD
            have hD : Calls Tryd.prog 29 #[.string wS] wr fun e w' => e = .returned (.tuple #[.int .i64 n, .bool true]) ∧ w' = wr := hD
            have hsm : ns.length ≤ 2000000 := by omega
            obtain ⟨v1, w1, e1, o1, b1⟩ := appB slIn HO1.out H5.out.bel.size #[.int .i64 n] rfl (by simp [Value.oneCell']) hsm
            have H6 := hid (show St5 B0 w w1 w.heap.size (w.heap.size + 1) c (.slice a9 m9 c9) from H5.out.grow b1 HO1.out HAP.out)
            have O1 := hid (show w1.ownsRow w.heap.size 3 1 v1 (ns ++ [n]).length (iv (ns ++ [n])) by rw [show iv (ns ++ [n]) = iv ns ++ [.int .i64 n] by simp [iv], List.length_append]; exact o1)
            have HI2 := hid (show intsM q.tail = (intsM (q.tail.drop (k + 1))).map ((ns ++ [n]) ++ ·) by
              rw [HI.out, HST.out, hiw]
              cases intsM (q.tail.drop (k + 1)) <;> simp)
            clear hiw HI HST HO1 o1 b1 H5 hsm
            go_wp2_with (first | (go_at_call 29; refine hD.mono ?_; rintro e w' ⟨rfl, rfl⟩) | (at_builtin; refine list_app rfl (.tmp 70) (.tmp 72) (by with_reducible rfl) rfl rfl rfl e1 ?_))
            go_roundw
            case rel => exact ⟨k + 1, ns ++ [n], by omega, by go_num, by simp [hnk], HI2, O1, H6⟩
            case measure => simp [intOf]; omega
        · have HN := hid (show intsM q.tail = some ns by
            rw [HI.out, List.drop_eq_nil_of_le (by rw [List.length_tail, HM.out]; omega)]
            simp [intsM])
          have hkm : k = m - 1 := by omega
          clear HI
          by_cases y1 : q0.toList = [104, 101, 97, 112]
          · have c30 := HQ00.out _ H5.out.bel
            obtain ⟨na, nn, nc, rfl, hnn⟩ := own_sl3 HO1.out
            have HNN := hid hnn
            clear hnn
            by_cases h4 : nn = 4
            · subst h4
              obtain ⟨ng, rfl, hng⟩ : ∃ ng, na = some ⟨ng, 0, none⟩ ∧ w.heap.size ≤ ng := by
                rcases HO1.out.2 with ⟨h9, _⟩ | ⟨g9, c9, cu9, h9, hg9, _⟩
                · cases h9
                · simp only [Value.slice.injEq] at h9; exact ⟨g9, h9.1, hg9⟩
              have hrow : ∀ i, i < 4 → wr.cell? ⟨ng, i, none⟩ = some (.int .i64 (ns.getD i 0)) := fun i hi => by
                have h0 := HO1.out
                rw [← HNN.out] at h0
                have h1 := (RowV.ofOwns h0).cell i (by rw [iv, List.length_map]; have := HNN.out; omega)
                rw [h1]
                have h2 : i < ns.length := by have := HNN.out; omega
                simp [iv, h2]
              have n0 := hrow 0 (by omega)
              have n1 := hrow 1 (by omega)
              have n2 := hrow 2 (by omega)
              have n3 := hrow 3 (by omega)
              have c0 : wr.cell? ⟨w.heap.size, 0, none⟩ = some (.int .i64 c.mix) := H5.out.bx.cell 0
              have c1 : wr.cell? ⟨w.heap.size, 1, none⟩ = some (.int .i64 c.fifo) := H5.out.bx.cell 1
              have c2 : wr.cell? ⟨w.heap.size, 2, none⟩ = some (.int .i64 c.large) := H5.out.bx.cell 2
              have c3 : wr.cell? ⟨w.heap.size, 3, none⟩ = some (.int .i64 c.budget) := H5.out.bx.cell 3
              have c4 : wr.cell? ⟨w.heap.size, 4, none⟩ = some (.int .u64 (c.key : Int)) := H5.out.bx.cell 4
              have c5 : wr.cell? ⟨w.heap.size, 5, none⟩ = some (.slice a9 m9 c9) := H5.out.bx.cell 5
              have f0 := H5.out.bx.free 0
              have f1 := H5.out.bx.free 1
              have f2 := H5.out.bx.free 2
              have f3 := H5.out.bx.free 3
              have hap1 : ¬ ng = w.heap.size := fun e => by
                obtain ⟨x9, hx9⟩ := own_obj HO1.out (r := ng) rfl
                have h8 := H5.out.bx
                unfold Bx at h8
                rw [e, h8] at hx9
                simp at hx9
              have hap2 : ¬ w.heap.size = ng := fun e => hap1 e.symm
              have HE := hid (show setM c q = some { c with mix := ns.getD 0 0, fifo := ns.getD 1 0, large := ns.getD 2 0, budget := ns.getD 3 0 } by
                rw [setM, if_neg NK.out, HN.out, Option.bind_some, if_pos ⟨by rw [HQ0.out]; exact y1, HNN.out.symm⟩])
              have H6 := hid ((((H5.out.set (c' := { c with mix := ns.getD 0 0 }) 0 (.int .i64 (ns.getD 0 0)) rfl rfl).set (c' := { c with mix := ns.getD 0 0, fifo := ns.getD 1 0 }) 1 (.int .i64 (ns.getD 1 0)) rfl rfl).set (c' := { c with mix := ns.getD 0 0, fifo := ns.getD 1 0, large := ns.getD 2 0 }) 2 (.int .i64 (ns.getD 2 0)) rfl rfl).set (c' := { c with mix := ns.getD 0 0, fifo := ns.getD 1 0, large := ns.getD 2 0, budget := ns.getD 3 0 }) 3 (.int .i64 (ns.getD 3 0)) rfl rfl)
              clear HO1 H5 hrow HN HNN hnk hkm
              generalize ns.getD 0 0 = z0 at *
              generalize ns.getD 1 0 = z1 at *
              generalize ns.getD 2 0 = z2 at *
              generalize ns.getD 3 0 = z3 at *
              go_upto_region 26 with (fail)
              obtain ⟨W9, hW9⟩ : ∃ W9, W9 = ((((wr.setCell ⟨w.heap.size, 0, none⟩ (.int .i64 z0)).setCell ⟨w.heap.size, 1, none⟩ (.int .i64 z1)).setCell ⟨w.heap.size, 2, none⟩ (.int .i64 z2)).setCell ⟨w.heap.size, 3, none⟩ (.int .i64 z3)) := ⟨_, rfl⟩
              rw [← hW9] at H6
              refine Eq.mp (congrArg _ hW9) ?_
              clear hW9
              have HR : Hid (W9.heap[w.heap.size + 1]? = some (.cells zeroF.toArray 26 (0, 0))) := hid H6.out.r
              have HO : Hid (W9.heap[w.heap.size]? = some (.cells (cfC { c with mix := z0, fifo := z1, large := z2, budget := z3 } (.slice a9 m9 c9)).toArray 26 (0, 0))) := hid H6.out.bx
              have HRR := hid (setRow_heap W9 (w.heap.size + 1) _ (cfC { c with mix := z0, fifo := z1, large := z2, budget := z3 } (.slice a9 m9 c9)).toArray 26 (0, 0) HR.out)
              have HBB := hid (below_setRow H6.out.bel H6.out.ge.2 (cfC { c with mix := z0, fifo := z1, large := z2, budget := z3 } (.slice a9 m9 c9)).toArray)
              have HDT := hid (own_setRow H6.out.dt (H6.out.r.apart H6.out.dt (by decide)) (cfC { c with mix := z0, fifo := z1, large := z2, budget := z3 } (.slice a9 m9 c9)).toArray)
              clear H6
              go_wp2_with (first | (refine wpList_load_row rfl 26 _ rfl w.heap.size rfl 26 _ (0, 0) _ HO.out Tryd.underlying26 rfl (by kernel_rfl) ?_) | (refine wpList_store_row rfl 26 _ _ rfl _ _ rfl rfl 26 _ HR.out (by kernel_rfl) rfl (by first | exact cf_one _ _ _ _ | simp [Value.oneCell', cfC]) ?_))
              refine bodyPost_ret (results_row2 (by rfl) _ _ (w.heap.size + 1) 26 _ (0, 0) _ (by rfl) HRR.out Tryd.underlying26 rfl (by kernel_rfl)) (by rfl) ?_
              rw [HE.out]
              exact ⟨_, rfl, ⟨_, rfl, HDT.out, by first | exact .inl rfl | exact .inr HFR.out⟩, HBB.out⟩
            · have h4' : ((nn : Int) == 4) = false := by rw [beq_eq_false_iff_ne]; omega
              have HE := hid (show setM c q = none by rw [setM, if_neg NK.out, HN.out, Option.bind_some, if_neg (fun h => h4 (by rw [HNN.out]; exact h.2)), if_neg (by rw [HQ0.out, y1]; decide)])
              clear HO1 HNN h4 hnk hkm
              have HR : Hid (wr.heap[w.heap.size + 1]? = some (.cells zeroF.toArray 26 (0, 0))) := hid H5.out.r
              have HO : Hid (wr.heap[w.heap.size]? = some (.cells (cfC c (.slice a9 m9 c9)).toArray 26 (0, 0))) := hid H5.out.bx
              have HRR := hid (setRow_heap wr (w.heap.size + 1) _ (cfC c (.slice a9 m9 c9)).toArray 26 (0, 0) HR.out)
              have HBB := hid (below_setRow H5.out.bel H5.out.ge.2 (cfC c (.slice a9 m9 c9)).toArray)
              have HDT := hid (own_setRow H5.out.dt (H5.out.r.apart H5.out.dt (by decide)) (cfC c (.slice a9 m9 c9)).toArray)
              clear H5
              go_upto_region 30 with (fail)
              go_wp2_with (first | (refine wpList_load_row rfl 26 _ rfl w.heap.size rfl 26 _ (0, 0) _ HO.out Tryd.underlying26 rfl (by kernel_rfl) ?_) | (refine wpList_store_row rfl 26 _ _ rfl _ _ rfl rfl 26 _ HR.out (by kernel_rfl) rfl (by first | exact cf_one _ _ _ _ | simp [Value.oneCell', cfC]) ?_))
              refine bodyPost_ret (results_row2 (by rfl) _ _ (w.heap.size + 1) 26 _ (0, 0) _ (by rfl) HRR.out Tryd.underlying26 rfl (by kernel_rfl)) (by rfl) ?_
              rw [HE.out]
              exact ⟨_, rfl, ⟨_, rfl, HDT.out, by first | exact .inl rfl | exact .inr HFR.out⟩, HBB.out⟩
          · by_cases y2 : q0.toList = [100, 114, 97, 119, 115]
            · have c30 := HQ00.out _ H5.out.bel
              obtain ⟨na, nn, nc, rfl, hnn⟩ := own_sl3 HO1.out
              clear hnn
              have c5 : wr.cell? ⟨w.heap.size, 5, none⟩ = some (.slice a9 m9 c9) := H5.out.bx.cell 5
              have HE := hid (show setM c q = some { c with draws := c.draws ++ ns } by rw [setM, if_neg NK.out, HN.out, Option.bind_some, if_neg (by rw [HQ0.out, y2]; simp [kwHeap]), if_pos (by rw [HQ0.out, y2]; rfl)])
              obtain ⟨v1, w1, e1, o1, g1⟩ := appO slIn (B := w.heap.size) (v := .slice none 0 0) (n := 0) (xs := []) ⟨by simp, .inl ⟨rfl, rfl⟩⟩ H5.out.bel.size H5.out.dt (iv_one _) (by omega)
              have hg1 : wr.heap.size ≤ w1.heap.size := g1.size
              obtain ⟨v2, w2, e2, o2, g2⟩ := appO slIn o1 (by have := H5.out.bel.size; omega) (HO1.out.kept g1 (by
                cases e9 : (Value.slice na nn nc).ownBlock with
                | none => exact .inl rfl
                | some r => exact .inr (fun h => by cases h))) (iv_one _) (by have := hnk; omega)
              have H6 := hid (H5.out.drawn (ns := ns) g1 o1 g2 (by rw [show iv (c.draws ++ ns) = ([] ++ iv c.draws) ++ iv ns by simp [iv], List.length_append]; simpa using o2) hB0)
              have hb2 : Bx w2 w.heap.size 26 (cfC c (.slice a9 m9 c9)) := (H5.out.bx.grown g1 (fun h => by cases h)).grown g2 ((H5.out.bx.grown g1 (fun h => by cases h)).apart o1 (by decide))
              have c5b : w2.cell? ⟨w.heap.size, 5, none⟩ = some (.slice a9 m9 c9) := hb2.cell 5
              have f5b := hb2.free 5
              obtain ⟨va, vm, vc, rfl, hvm⟩ := own_sl3 o2
              have HFR := hid (show ∀ r, (Value.slice va vm vc).ownBlock = some r → w.heap.size ≤ r from fun r e => (o2.lt r e).1)
              clear HO1 H5 HN hnk hkm o1 g1 o2 g2 hb2 hg1 hvm
              go_upto_region 29 with (first | (at_builtin; refine list_app rfl (.const (.slice none 0 0)) (.tmp 108) (by with_reducible rfl) rfl rfl rfl e1 ?_; clear e1) | (at_builtin; refine list_app rfl (.tmp 109) (.tmp 110) (by with_reducible rfl) rfl rfl rfl e2 ?_; clear e2))
              obtain ⟨W9, hW9⟩ : ∃ W9, W9 = (w2.setCell ⟨w.heap.size, 5, none⟩ (.slice va vm vc)) := ⟨_, rfl⟩
              rw [← hW9] at H6
              refine Eq.mp (congrArg _ hW9) ?_
              clear hW9
              have HR : Hid (W9.heap[w.heap.size + 1]? = some (.cells zeroF.toArray 26 (0, 0))) := hid H6.out.r
              have HO : Hid (W9.heap[w.heap.size]? = some (.cells (cfC { c with draws := c.draws ++ ns } (.slice va vm vc)).toArray 26 (0, 0))) := hid H6.out.bx
              have HRR := hid (setRow_heap W9 (w.heap.size + 1) _ (cfC { c with draws := c.draws ++ ns } (.slice va vm vc)).toArray 26 (0, 0) HR.out)
              have HBB := hid (below_setRow H6.out.bel H6.out.ge.2 (cfC { c with draws := c.draws ++ ns } (.slice va vm vc)).toArray)
              have HDT := hid (own_setRow H6.out.dt (H6.out.r.apart H6.out.dt (by decide)) (cfC { c with draws := c.draws ++ ns } (.slice va vm vc)).toArray)
              clear H6
              go_wp2_with (first | (refine wpList_load_row rfl 26 _ rfl w.heap.size rfl 26 _ (0, 0) _ HO.out Tryd.underlying26 rfl (by kernel_rfl) ?_) | (refine wpList_store_row rfl 26 _ _ rfl _ _ rfl rfl 26 _ HR.out (by kernel_rfl) rfl (by first | exact cf_one _ _ _ _ | simp [Value.oneCell', cfC]) ?_))
              refine bodyPost_ret (results_row2 (by rfl) _ _ (w.heap.size + 1) 26 _ (0, 0) _ (by rfl) HRR.out Tryd.underlying26 rfl (by kernel_rfl)) (by rfl) ?_
              rw [HE.out]
              exact ⟨_, rfl, ⟨_, rfl, HDT.out, by first | exact .inl rfl | exact .inr HFR.out⟩, HBB.out⟩
            · have NH := hid (show ¬ q.headD [] = kwHeap by rw [HQ0.out]; exact y1)
              have ND := hid (show ¬ q.headD [] = kwDraws by rw [HQ0.out]; exact y2)
              have hbh : (q0.toList == [104, 101, 97, 112]) = false := by rw [beq_eq_false_iff_ne]; exact y1
              have hbd : (q0.toList == [100, 114, 97, 119, 115]) = false := by rw [beq_eq_false_iff_ne]; exact y2
              have c30 := HQ00.out _ H5.out.bel
              have HE := hid (show setM c q = none by rw [setM, if_neg NK.out, HN.out, Option.bind_some, if_neg (fun h => NH.out h.1), if_neg ND.out])
              clear HO1
              have HR : Hid (wr.heap[w.heap.size + 1]? = some (.cells zeroF.toArray 26 (0, 0))) := hid H5.out.r
              have HO : Hid (wr.heap[w.heap.size]? = some (.cells (cfC c (.slice a9 m9 c9)).toArray 26 (0, 0))) := hid H5.out.bx
              have HRR := hid (setRow_heap wr (w.heap.size + 1) _ (cfC c (.slice a9 m9 c9)).toArray 26 (0, 0) HR.out)
              have HBB := hid (below_setRow H5.out.bel H5.out.ge.2 (cfC c (.slice a9 m9 c9)).toArray)
              have HDT := hid (own_setRow H5.out.dt (H5.out.r.apart H5.out.dt (by decide)) (cfC c (.slice a9 m9 c9)).toArray)
              clear H5
              go_upto_region 30 with fail
              go_wp2_with (first | (refine wpList_load_row rfl 26 _ rfl w.heap.size rfl 26 _ (0, 0) _ HO.out Tryd.underlying26 rfl (by kernel_rfl) ?_) | (refine wpList_store_row rfl 26 _ _ rfl _ _ rfl rfl 26 _ HR.out (by kernel_rfl) rfl (by first | exact cf_one _ _ _ _ | simp [Value.oneCell', cfC]) ?_))
              refine bodyPost_ret (results_row2 (by rfl) _ _ (w.heap.size + 1) 26 _ (0, 0) _ (by rfl) HRR.out Tryd.underlying26 rfl (by kernel_rfl)) (by rfl) ?_
              rw [HE.out]
              exact ⟨_, rfl, ⟨_, rfl, HDT.out, by first | exact .inl rfl | exact .inr HFR.out⟩, HBB.out⟩
end Go.Proofs.YtcefihmnnndleaaDoor
