import Derived.Test.YtcefihmnnndleaaDoorScH
import Derived.Laws.Tables
import Derived.Laws.CopyRow
import Derived.Laws.CopyOwn
namespace Go.Proofs.YtcefihmnnndleaaDoor
open Go.ChangeShapes Go.WideShapes Go.ChangeAt Go.RowKit
set_option linter.unusedVariables false
set_option maxRecDepth 20000
set_option linter.unusedSimpArgs false

set_option maxHeartbeats 4000000 in
theorem sp_opA (v : Value) (q : List (List UInt8)) (B : Nat) (w : World) (hq : Ws B w v q) (hne : 0 < q.length) (hl : q.length ≤ 1048576) (hwl : ∀ x ∈ q, x.length ≤ 1048576) (h66 : hitM 6 q = false) :
    Calls Tryd.prog 20 #[v] w fun e w' => ∃ r, e = .returned r ∧ OpR w w' (opM q) r ∧ Below w.heap.size w w' := by
  obtain ⟨g, c, rfl, hg⟩ : ∃ g c, v = .slice (some ⟨g, 0, none⟩) q.length c ∧ g < w.heap.size := by
    rcases hq.2 with ⟨rfl, h0⟩ | ⟨g, cap, cur, rfl, hg, hh, _⟩
    · omega
    · exact ⟨g, cap, rfl, lt_of_block hh⟩
  have HQ := hid (fun (W : World) (hb : Below w.heap.size w W) (k : Nat) (hk : k < q.length) => (show W.cell? ⟨g, k, none⟩ = some (.string (bs (q.getD k []))) by rw [hb.cell hg]; exact ws_cell hq rfl hk))
  have HWL := hid (fun (k : Nat) (hk : k < q.length) => (show (q.getD k []).length ≤ 1048576 by
    have : q.getD k [] = q[k] := by simp [hk]
    rw [this]; exact hwl _ (List.getElem_mem hk)))
  obtain ⟨m, hm⟩ : ∃ m, q.length = m := ⟨_, rfl⟩
  rw [hm] at hne hl ⊢
  have HM := hid hm
  have H66 := hid h66
  clear h66
  clear hq hm hwl
  go_enter Tryd.func20, Tryd.ntmps20
  go_wp2
  have H3 := hid (sp3_mk w)
  obtain ⟨W3, hW3⟩ : ∃ W, W = (((w.alloc (.cells zeroC.toArray 45)).alloc (.cells (namesL.map wv).toArray 9)).alloc (.cells (formsL.map wv).toArray 9)) := ⟨_, rfl⟩
  rw [← hW3] at H3
  refine Eq.mp (congrArg _ hW3) ?_
  clear hW3
  obtain ⟨N2, hN2⟩ : ∃ N, N = w.heap.size + 1 + 1 := ⟨_, rfl⟩
  have h2R := hid (show N2 ≠ w.heap.size by omega)
  rw [← hN2] at H3 ⊢
  clear hN2
  generalize w.heap.size + 1 = N1 at H3 ⊢
  go_loopw [21] (fun i wr => ∃ (k : Nat), k ≤ 7 ∧ i = .int .i64 (k : Int) ∧ Hid (∀ j, j < k → hitM j q = false) ∧ wr = W3) (fun i _ => 7 - (intOf i).toNat)
  case atStart => exact ⟨0, by omega, rfl, hid (fun j hj => by omega), rfl⟩
  case round =>
    obtain ⟨k, hk, rfl, HNO, rfl⟩ := hrel
    by_cases hlt : k < 7
    · have c1 := H3.out.name hlt
      have c2 := H3.out.form hlt
      have c3 := HQ.out _ H3.out.bel 0 (by rw [HM.out]; exact hne)
      obtain ⟨t, ht⟩ : ∃ t, t = bs (formsL.getD k []) := ⟨_, rfl⟩
      obtain ⟨nm, hnm⟩ : ∃ t, t = bs (namesL.getD k []) := ⟨_, rfl⟩
      obtain ⟨q0, hq0⟩ : ∃ t, t = bs (q.getD 0 []) := ⟨_, rfl⟩
      rw [← hnm] at c1
      rw [← ht] at c2
      rw [← hq0] at c3
      have hts : t.size ≤ 2 := by rw [ht, bs_size]; exact form_le k
      have HT := hid ht
      have HX := hid (show ∀ j, j < k + 1 → ¬ hitM k q = true → hitM j q = false from fun j hj hh => by
        by_cases e : j = k
        · subst e; simpa using hh
        · exact HNO.out j (by omega))
      have hhit : hitM k q = decide (q0.toList = nm.toList ∧ m = t.size + 1) := by
        rw [hitM, ht, bs_size, HM.out, hq0, hnm, Lib.toList_data, Lib.toList_data, bs_list, bs_list]
        congr 1
        cases q <;> simp
      have HH := hid hhit
      clear ht hnm hq0 hhit
      by_cases x1 : q0.toList = nm.toList
      · by_cases x2 : m = t.size + 1
        · have x2' : ((m : Int) != (t.size : Int) + 1) = false := by simp; omega
          have HE := hid (show opM q = partsM (formsL.getD k []) q.tail 0 ⟨k, 0, 0, 0, 0, []⟩ from opM_hit hlt HNO.out (by rw [HH.out]; simp [x1, x2]))
          have HM2 := hid x2
          have H4 := hid (H3.out.open k h2R.out)
          have HK6 := hid (show k < 6 from Nat.lt_of_le_of_ne (by omega) (fun h8 => by have h7 := H66.out; rw [← h8, HH.out] at h7; simp [x1, x2] at h7))
          clear x2 HH HNO HX
          go_wp2
          obtain ⟨W4, hW4⟩ : ∃ W, W = wr.alloc (.cells (opC ⟨k, 0, 0, 0, 0, []⟩ (.slice none 0 0)).toArray 45) := ⟨_, rfl⟩
          rw [← hW4] at H4
          refine Eq.mp (congrArg _ hW4) ?_
          clear hW4
          obtain ⟨O, hO⟩ : ∃ O, O = wr.heap.size := ⟨_, rfl⟩
          rw [← hO] at H4 ⊢
          clear hO H3 c1 c2 c3
          obtain ⟨f, hf⟩ : ∃ f, f = formsL.getD k [] := ⟨_, rfl⟩
          rw [← hf] at HT HE
          have HF := hid hf
          clear hf
          have hfl : f.length = t.size := by rw [HT.out, bs_size]
          have hk7 : decide ((k : Int) < 7) = true := by simp; omega
          simp only [hk7]
          go_loopw [9, 10] (fun n9 i wq => ∃ (j nums : Nat) (o : OpS) (dv : Value), j ≤ t.size ∧ nums ≤ j ∧ n9 = .int .i64 (nums : Int) ∧ i = .int .i64 (j : Int) ∧ Hid (opM q = partsM (f.drop j) (q.tail.drop j) nums o) ∧ Hid (Sp4 w wq w.heap.size N2 O o dv) ∧ Hid (j < t.size → o.data = [] ∧ dv = .slice none 0 0)) (fun _ i _ => t.size - (intOf i).toNat)
          case atStart => exact ⟨0, 0, _, _, by omega, by omega, rfl, rfl, hid (by simpa using HE.out), H4, hid (fun _ => ⟨rfl, rfl⟩)⟩
          case round =>
            clear HE H4
            obtain ⟨j, nums, o, dv, hj, hnu, rfl, rfl, HE, H4, HD⟩ := hrel
            have c2 : wr.cell? ⟨N2, k, none⟩ = some (.string t) := by rw [HT.out, HF.out]; exact H4.out.form hlt
            by_cases hjt : j < t.size
            · have hjm : j + 1 < m := by have := HM2.out; omega
              have cw := HQ.out _ H4.out.bel (j + 1) (by rw [HM.out, HM2.out]; omega)
              have hwl := HWL.out (j + 1) (by rw [HM.out, HM2.out]; omega)
              obtain ⟨wl, hwlE⟩ : ∃ l, l = q.getD (j + 1) [] := ⟨_, rfl⟩
              rw [← hwlE] at cw hwl
              have htj : t[j].toNat = (f[j]'(by omega)).toNat := by
                rw [bs_at HT.out j hjt (by omega)]
              have hst : partsM (f.drop j) (q.tail.drop j) nums o = (partM (f[j]'(by omega)) wl nums o).bind (partsM (f.drop (j + 1)) (q.tail.drop (j + 1)) (if t[j].toNat = 78 then nums + 1 else nums)) := by
                rw [List.drop_eq_getElem_cons (l := f) (i := j) (by omega), partsM, htj]
                have hh : (q.tail.drop j).headD [] = wl := by rw [hwlE, List.headD_eq_head?_getD, List.head?_drop]; simp
                rw [hh, List.tail_drop]
              have hlet := form_let (k := k) (j := j) hlt (by rw [← HF.out]; omega)
              simp only [← HF.out] at hlet
              have hpart : partM (f[j]'(by omega)) wl nums o = if t[j].toNat = 78 then (numM 10 20 wl).map (fun n => if nums = 0 then { o with a := n } else { o with b := n }) else if t[j].toNat = 80 then (placeM wl).map (fun x => { o with ref := x.1, p := x.2 }) else (dataM wl).map (fun d => { o with data := o.data ++ d }) := by rw [partM, htj]
              rw [hpart] at hst
              rw [← htj] at hlet
              have H6N := hid (show t[j].toNat = 78 ∨ t[j].toNat = 80 by have h9 := form_noX (k := k) (j := j) HK6.out (by rw [← HF.out]; omega); simp only [← HF.out] at h9; rw [htj]; exact h9)
              have HST := hid (HE.out.trans hst)
              have HLET := hid hlet
              clear hst hpart hlet htj hwlE HE
              obtain ⟨wS, hwS⟩ : ∃ s, s = bs wl := ⟨_, rfl⟩
              rw [← hwS] at cw
              have hwSs : wS.size ≤ 1048576 := by rw [hwS, bs_size]; exact hwl
              have HWS := hid (show wS.data.toList = wl by rw [hwS, bs_list])
              clear hwS hwl
              have hb8 := u8_lt t j hjt
              by_cases l1 : t[j].toNat = 78
              · have b1 : (((t[j].toNat : Nat) : Int) == 78) = true := by rw [beq_iff_eq]; omega
                have hD := sp_digits wS 20 wr hwSs (by omega)
                rw [HWS.out] at hD
                have HP := hid (show opM q = (numM 10 20 wl).bind fun n => partsM (f.drop (j + 1)) (q.tail.drop (j + 1)) (nums + 1) (if nums = 0 then { o with a := n } else { o with b := n }) by
                  rw [HST.out, if_pos l1, if_pos l1]; cases numM 10 20 wl <;> rfl)
                have hnb := numM_bd (base := 10) (most := 20) wl
                clear HST HLET
                obtain ⟨r, hr⟩ : ∃ r, r = numM 10 20 wl := ⟨_, rfl⟩
                rw [← hr] at hD HP hnb
                clear hr
                unfold rN at hD
                rcases r with _ | n
                · have HN := hid (show opM q = none from HP.out)
                  clear HP
                  have hD : Calls Tryd.prog 26 #[.string wS, .int .i64 20] wr fun e w' => e = .returned (.tuple #[.int .u64 0, .bool false]) ∧ w' = wr := hD
                  have c3 : wr.cell? ⟨O, 3, none⟩ = some (.int .u64 (o.a : Int)) := H4.out.bx.cell 3
                  have c4 : wr.cell? ⟨O, 4, none⟩ = some (.int .u64 (o.b : Int)) := H4.out.bx.cell 4
                  have d3 := H4.out.bx.free 3
                  have d4 := H4.out.bx.free 4
                  generalize o.a = oa at c3
                  generalize o.b = ob at c4
                  by_cases h0 : nums = 0
                  · have h0' : ((nums : Int) == 0) = true := by rw [beq_iff_eq]; omega
                    have H5 := hid (H4.out.set (o' := { o with a := 0 }) 3 (by omega) (.int .u64 0) rfl rfl)
                    clear h0
                    have HR : Hid ((wr.setCell ⟨O, 3, none⟩ (.int .u64 0)).heap[w.heap.size]? = some (.cells zeroC.toArray 45 (0, 0))) := hid H5.out.r
                    have HS := hid (setRow_self (wr.setCell ⟨O, 3, none⟩ (.int .u64 0)) w.heap.size zeroC.toArray 45 (0, 0) H5.out.r)
                    go_wp2_with (first | (go_at_call 26; refine hD.mono ?_; rintro e w' ⟨rfl, rfl⟩) | (refine wpList_store_row rfl 45 _ _ rfl _ _ rfl rfl 45 _ HR.out (by kernel_rfl) rfl (by simp [Value.oneCell']) ?_))
                    refine Eq.mp (congrArg _ HS.out.symm) ?_
                    refine bodyPost_ret (results_row2 (by rfl) _ _ w.heap.size 45 _ (0, 0) _ (by rfl) HR.out Tryd.underlying45 rfl (by kernel_rfl)) (by rfl) ?_
                    rw [HN.out]
                    exact ⟨_, rfl, ⟨.slice none 0 0, _, rfl, (fun _ => rfl), (fun x hx => by cases hx)⟩, H5.out.bel⟩

                  · have h0' : ((nums : Int) == 0) = false := by rw [beq_eq_false_iff_ne]; omega
                    have H5 := hid (H4.out.set (o' := { o with b := 0 }) 4 (by omega) (.int .u64 0) rfl rfl)
                    clear h0
                    have HR : Hid ((wr.setCell ⟨O, 4, none⟩ (.int .u64 0)).heap[w.heap.size]? = some (.cells zeroC.toArray 45 (0, 0))) := hid H5.out.r
                    have HS := hid (setRow_self (wr.setCell ⟨O, 4, none⟩ (.int .u64 0)) w.heap.size zeroC.toArray 45 (0, 0) H5.out.r)
                    go_wp2_with (first | (go_at_call 26; refine hD.mono ?_; rintro e w' ⟨rfl, rfl⟩) | (refine wpList_store_row rfl 45 _ _ rfl _ _ rfl rfl 45 _ HR.out (by kernel_rfl) rfl (by simp [Value.oneCell']) ?_))
                    refine Eq.mp (congrArg _ HS.out.symm) ?_
                    refine bodyPost_ret (results_row2 (by rfl) _ _ w.heap.size 45 _ (0, 0) _ (by rfl) HR.out Tryd.underlying45 rfl (by kernel_rfl)) (by rfl) ?_
                    rw [HN.out]
                    exact ⟨_, rfl, ⟨.slice none 0 0, _, rfl, (fun _ => rfl), (fun x hx => by cases hx)⟩, H5.out.bel⟩
                · have HP2 := hid (show opM q = partsM (f.drop (j + 1)) (q.tail.drop (j + 1)) (nums + 1) (if nums = 0 then { o with a := n } else { o with b := n }) from HP.out)
                  have hnb2 : n < 18446744073709551616 := hnb
                  clear HP hnb
                  have hD : Calls Tryd.prog 26 #[.string wS, .int .i64 20] wr fun e w' => e = .returned (.tuple #[.int .u64 (n : Int), .bool true]) ∧ w' = wr := hD
                  have c3 : wr.cell? ⟨O, 3, none⟩ = some (.int .u64 (o.a : Int)) := H4.out.bx.cell 3
                  have c4 : wr.cell? ⟨O, 4, none⟩ = some (.int .u64 (o.b : Int)) := H4.out.bx.cell 4
                  have d3 := H4.out.bx.free 3
                  have d4 := H4.out.bx.free 4
                  have HDD := hid (fun (h : j + 1 < t.size) => HD.out (by omega))
                  by_cases h0 : nums = 0
                  · have h0' : ((nums : Int) == 0) = true := by rw [beq_iff_eq]; omega
                    have H5 := hid (H4.out.set (o' := { o with a := n }) 3 (by omega) (.int .u64 (n : Int)) rfl rfl)
                    rw [if_pos h0] at HP2
                    clear h0 HD H4
                    generalize o.a = oa at c3
                    generalize o.b = ob at c4
                    go_wp2_with (go_at_call 26; refine hD.mono ?_; rintro e w' ⟨rfl, rfl⟩)
                    go_roundw
                    case rel => exact ⟨j + 1, nums + 1, _, _, by omega, by omega, by go_num, by go_num, HP2, H5, HDD⟩
                    case measure => simp [intOf]; omega
                  · have h0' : ((nums : Int) == 0) = false := by rw [beq_eq_false_iff_ne]; omega
                    have H5 := hid (H4.out.set (o' := { o with b := n }) 4 (by omega) (.int .u64 (n : Int)) rfl rfl)
                    rw [if_neg h0] at HP2
                    clear h0 HD H4
                    generalize o.a = oa at c3
                    generalize o.b = ob at c4
                    go_wp2_with (go_at_call 26; refine hD.mono ?_; rintro e w' ⟨rfl, rfl⟩)
                    go_roundw
                    case rel => exact ⟨j + 1, nums + 1, _, _, by omega, by omega, by go_num, by go_num, HP2, H5, HDD⟩
                    case measure => simp [intOf]; omega
              by_cases l2 : t[j].toNat = 80
              · have b1 : (((t[j].toNat : Nat) : Int) == 78) = false := by rw [beq_eq_false_iff_ne]; omega
                have b2 : (((t[j].toNat : Nat) : Int) == 80) = true := by rw [beq_iff_eq]; omega
                have HP := hid (show opM q = (placeM wl).bind fun x => partsM (f.drop (j + 1)) (q.tail.drop (j + 1)) nums { o with ref := x.1, p := x.2 } by
                  rw [HST.out, if_neg l1, if_neg l1, if_pos l2]; cases placeM wl <;> rfl)
                clear HST HLET
                have c3 : wr.cell? ⟨O, 1, none⟩ = some (.int .i64 (o.ref : Int)) := H4.out.bx.cell 1
                have c4 : wr.cell? ⟨O, 2, none⟩ = some (.int .u64 (o.p : Int)) := H4.out.bx.cell 2
                have d3 := H4.out.bx.free 1
                have d4 := H4.out.bx.free 2
                cases hpl : placeM wl with
                | none =>
                  have HN := hid (show opM q = none by rw [HP.out, hpl]; rfl)
                  have hC := sp_place_n wS wr hwSs (by rw [HWS.out]; exact hpl)
                  clear HP hpl
                  have H6 := hid (fun pr pp : Nat => (H4.out.set (o' := { o with ref := pr }) 1 (by omega) (.int .i64 (pr : Int)) rfl rfl).set (o' := { o with ref := pr, p := pp }) 2 (by omega) (.int .u64 (pp : Int)) rfl rfl)
                  generalize o.ref = oa at c3
                  generalize o.p = ob at c4
                  go_wp2_with fail
                  refine hC.mono ?_
                  rintro e w' ⟨pr, pp, rfl, rfl⟩
                  have H5 := hid (H6.out pr pp)
                  clear hC H6
                  have HR : Hid (((w'.setCell ⟨O, 1, none⟩ (.int .i64 (pr : Int))).setCell ⟨O, 2, none⟩ (.int .u64 (pp : Int))).heap[w.heap.size]? = some (.cells zeroC.toArray 45 (0, 0))) := hid H5.out.r
                  have HS := hid (setRow_self ((w'.setCell ⟨O, 1, none⟩ (.int .i64 (pr : Int))).setCell ⟨O, 2, none⟩ (.int .u64 (pp : Int))) w.heap.size zeroC.toArray 45 (0, 0) H5.out.r)
                  go_wp2_with (refine wpList_store_row rfl 45 _ _ rfl _ _ rfl rfl 45 _ HR.out (by kernel_rfl) rfl (by simp [Value.oneCell']) ?_)
                  refine Eq.mp (congrArg _ HS.out.symm) ?_
                  refine bodyPost_ret (results_row2 (by rfl) _ _ w.heap.size 45 _ (0, 0) _ (by rfl) HR.out Tryd.underlying45 rfl (by kernel_rfl)) (by rfl) ?_
                  rw [HN.out]
                  exact ⟨_, rfl, ⟨.slice none 0 0, _, rfl, (fun _ => rfl), (fun x hx => by cases hx)⟩, H5.out.bel⟩
                | some x =>
                  obtain ⟨pr, pp⟩ := x
                  have HP2 := hid (show opM q = partsM (f.drop (j + 1)) (q.tail.drop (j + 1)) nums { o with ref := pr, p := pp } by rw [HP.out, hpl]; rfl)
                  have hC := sp_place_s wS wr hwSs pr pp (by rw [HWS.out]; exact hpl)
                  clear HP hpl
                  have H5 := hid ((H4.out.set (o' := { o with ref := pr }) 1 (by omega) (.int .i64 (pr : Int)) rfl rfl).set (o' := { o with ref := pr, p := pp }) 2 (by omega) (.int .u64 (pp : Int)) rfl rfl)
                  have HDD := hid (fun (h : j + 1 < t.size) => HD.out (by omega))
                  clear HD H4
                  generalize o.ref = oa at c3
                  generalize o.p = ob at c4
                  go_wp2_with (go_at_call 27; refine hC.mono ?_; rintro e w' ⟨rfl, rfl⟩)
                  go_roundw
                  case rel => exact ⟨j + 1, nums, _, _, by omega, by omega, rfl, by go_num, HP2, H5, HDD⟩
                  case measure => simp [intOf]; omega
              · exfalso; have h6 := H6N.out; rcases h6 with h6 | h6 <;> omega
            · obtain rfl : j = t.size := by omega
              have HN := hid (show opM q = some o by rw [HE.out, List.drop_eq_nil_of_le (by omega)]; rfl)
              obtain ⟨da, dm, dc, rfl, hdm⟩ := own_sl3 H4.out.dt
              clear hdm
              have HR : Hid (wr.heap[w.heap.size]? = some (.cells zeroC.toArray 45 (0, 0))) := hid H4.out.r
              have HO : Hid (wr.heap[O]? = some (.cells (opC o (.slice da dm dc)).toArray 45 (0, 0))) := hid H4.out.bx
              have HRR := hid (setRow_heap wr w.heap.size _ (opC o (.slice da dm dc)).toArray 45 (0, 0) HR.out)
              have HB := hid (below_setRow H4.out.bel (Nat.le_refl _) (opC o (.slice da dm dc)).toArray)
              have HDT := hid (own_setRow H4.out.dt (H4.out.r.apart H4.out.dt (by decide)) (opC o (.slice da dm dc)).toArray)
              clear HE H4 HD
              go_wp2_with (first | (refine wpList_load_row rfl 45 _ rfl O rfl 45 _ (0, 0) _ HO.out Tryd.underlying45 rfl (by kernel_rfl) ?_) | (refine wpList_store_row rfl 45 _ _ rfl _ _ rfl rfl 45 _ HR.out (by kernel_rfl) rfl (by first | exact op_one _ _ _ _ | simp [Value.oneCell', opC]) ?_))
              refine bodyPost_ret (results_row2 (by rfl) _ _ w.heap.size 45 _ (0, 0) _ (by rfl) HRR.out Tryd.underlying45 rfl (by kernel_rfl)) (by rfl) ?_
              rw [HN.out]
              exact ⟨_, rfl, ⟨.slice da dm dc, _, rfl, (fun h => by cases h), (fun x hx => by cases hx; exact ⟨rfl, HDT.out⟩)⟩, HB.out⟩
        · have x2' : ((m : Int) != (t.size : Int) + 1) = true := by simp; omega
          have HN := hid (show ∀ j, j < k + 1 → hitM j q = false from fun j hj => HX.out j hj (by rw [HH.out]; simp [x2]))
          clear x2 HH
          go_wp2
          go_roundw
          case rel => exact ⟨k + 1, by omega, by go_num, HN, trivial⟩
          case measure => simp [intOf]; omega
      · have HN := hid (show ∀ j, j < k + 1 → hitM j q = false from fun j hj => HX.out j hj (by rw [HH.out]; simp [x1]))
        clear HH
        go_wp2
        go_roundw
        case rel => exact ⟨k + 1, by omega, by go_num, HN, trivial⟩
        case measure => simp [intOf]; omega
    · have HN := hid (show opM q = none from opM_none fun j hj => HNO.out j (by omega))
      have HR : Hid (wr.heap[w.heap.size]? = some (.cells zeroC.toArray 45 (0, 0))) := hid H3.out.r
      have HS := hid (setRow_self wr w.heap.size zeroC.toArray 45 (0, 0) H3.out.r)
      go_wp2_with (refine wpList_store_row rfl 45 _ _ rfl _ _ rfl rfl 45 _ HR.out (by kernel_rfl) rfl (by simp [Value.oneCell']) ?_)
      refine Eq.mp (congrArg _ HS.out.symm) ?_
      refine bodyPost_ret (results_row2 (by rfl) _ _ w.heap.size 45 _ (0, 0) _ (by rfl) HR.out Tryd.underlying45 rfl (by kernel_rfl)) (by rfl) ?_
      rw [HN.out]
      exact ⟨_, rfl, ⟨.slice none 0 0, _, rfl, (fun _ => rfl), (fun x hx => by cases hx)⟩, H3.out.bel⟩
end Go.Proofs.YtcefihmnnndleaaDoor
