import Derived.Test.YtcefihmnnndleaaDoorNuF
namespace Go.Proofs.YtcefihmnnndleaaDoor
open Go.ChangeShapes Go.WideShapes Go.ChangeAt Go.RowKit
set_option linter.unusedVariables false
set_option maxRecDepth 20000

def PartT (f : Nat) (c : UInt8) (nums : Nat) : Prop := ∀ (a1 : Addr) (O : Nat) (o : OpS) (s : ByteArray) (w : World), s.size ≤ 1048576 → 0 < s.size → w.cell? ⟨1, 0, none⟩ = some (.iface 141 (.pointer (some a1))) → O ≠ 1 → Bx w O 45 (opC o nil0) → o.data = [] → o.ref = 0 → o.p = 0 →
  Calls Tryd.prog f #[.pointer (some ⟨O, 0, none⟩), .string s] w fun e w' => PartP a1 O w w' (partM c s.data.toList nums o) e
theorem own_nil0 (W : World) (B : Nat) : W.ownsRow B 5 1 nil0 0 (dv8 []) := ⟨by simp [dv8], .inl ⟨rfl, rfl⟩⟩
theorem op_rp {o : OpS} {r p : Nat} (dv : Value) : ((opC o dv).set 2 (.int .u64 (p : Int))).set 1 (.int .i64 (r : Int)) = opC { o with ref := r, p := p } dv := rfl
set_option maxHeartbeats 1000000 in
theorem im_setTarget : PartT 42 80 0 := by
  intro a1 O o s w hs hpos h1 hO hbx hd hr0 hp0
  have e80 : partM 80 s.data.toList 0 o = (placeM s.data.toList).map (fun x => { o with ref := x.1, p := x.2 }) := by rw [partM, if_neg (by decide), if_pos (by decide)]
  rw [e80]
  clear e80
  obtain ⟨l, hl⟩ : ∃ l, l = s.data.toList := ⟨_, rfl⟩
  have HL := hid hl
  rw [← hl]
  by_cases h36 : fst l = 36
  · have hcut := fun w9 => im_cut_y s 36 w9 (by rw [← hl]; exact h36) (by decide)
    obtain ⟨t, ht⟩ : ∃ t, t = s.extract 1 s.size := ⟨_, rfl⟩
    have hts : t.size ≤ 1048576 := by rw [ht, ext_size]; omega
    have htl : t.data.toList = l.tail := by rw [ht, ext_tail, hl]
    rw [← ht] at hcut
    have HP := hid (show placeM l = refM l.tail by rw [placeM, if_pos h36])
    obtain ⟨m, hm⟩ : ∃ m, m = l.tail := ⟨_, rfl⟩
    rw [← hm] at htl HP
    have hml : m.length = t.size := by rw [← htl]; simp
    have hany := im_any t w hts
    rw [htl] at hany
    have HTL := hid htl
    clear ht hl hm h36
    have hcl := cut_le m
    by_cases hct : cutM m < m.length
    · have HA := hid (show anyR m = (cutM m : Int) by unfold anyR; rw [if_pos hct])
      rw [HA.out] at hany
      have HR := hid (show refM m = (numM 10 3 (m.take (cutM m))).bind fun q => if q = 0 then none else (distM (m.drop (cutM m))).map (fun n : Nat => (q, n)) by
        unfold refM distM
        congr 1
        funext q
        by_cases hq : q = 0
        · rw [if_pos hq, if_pos hq]
        · rw [if_neg hq, if_neg hq, if_neg (by omega), List.tail_drop, Option.map_map]; rfl)
      obtain ⟨c, hc⟩ : ∃ c, c = cutM m := ⟨_, rfl⟩
      rw [← hc] at hany HR hct
      have hct2 : c < t.size := by omega
      have hul : (t.extract c t.size).data.toList = m.drop c := by
        rw [ext_list, HTL.out, List.take_of_length_le (by simp; omega)]
      have hus : 0 < (t.extract c t.size).size := by rw [ext_size]; omega
      clear hc HA hct
      cases hdm : distM (m.drop c) with
      | none =>
        have HN := hid (show placeM l = none by
          rw [HP.out, HR.out]
          cases numM 10 3 (m.take c) with
          | none => rfl
          | some q => rw [Option.bind_some, hdm]; split <;> rfl)
        go_enter Tryd.func42, Tryd.ntmps42
        go_wp2_with fail
        refine (hcut _).mono ?_
        rintro e w0 ⟨rfl, rfl⟩
        go_wp2_with fail
        refine hany.mono ?_
        rintro e w1 ⟨rfl, hb1⟩
        have hdi := im_distance_n (t.extract c t.size) a1 w1 (by rw [ext_size]; omega) hus (below_cell hb1 h1) (by rw [hul]; exact hdm)
        have G1 := hid (gb_below (O := some O) hb1)
        clear hany hcut
        go_wp2_with fail
        refine hdi.mono ?_
        rintro e w2 ⟨v, rfl, hue, hb2⟩
        have G2 := hid (gb_trans G1.out (gb_below hb2))
        clear hdi
        rcases hue with rfl | ⟨s9, rfl⟩
        · go_wp2_with fail
          go_ret
          rw [HN.out]
          exact ⟨G2.out, _, rfl, .inl rfl⟩
        · unfold wE
          go_wp2_with fail
          go_ret
          rw [HN.out]
          exact ⟨G2.out, _, rfl, .inr ⟨s9, rfl⟩⟩
      | some p =>
        have hdi := fun w1 h9 => im_distance_s (t.extract c t.size) p a1 w1 (by rw [ext_size]; omega) hus h9 (by rw [hul]; exact hdm)
        have hrl : (t.extract 0 c).data.toList = m.take c := by rw [ext_list, HTL.out, List.drop_zero, Nat.sub_zero]
        have hrs : (t.extract 0 c).size ≤ 1048576 := by rw [ext_size]; omega
        go_enter Tryd.func42, Tryd.ntmps42
        go_wp2_with fail
        refine (hcut _).mono ?_
        rintro e w0 ⟨rfl, rfl⟩
        go_wp2_with fail
        refine hany.mono ?_
        rintro e w1 ⟨rfl, hb1⟩
        have hdi1 := hdi w1 (below_cell hb1 h1)
        have hbx1 := hbx.below hb1 hbx.lt
        have G1 := hid (gb_below (O := some O) hb1)
        clear hany hcut hdi
        go_wp2_with fail
        refine hdi1.mono ?_
        rintro e w2 ⟨rfl, hb2⟩
        have hbx2 := hbx1.below hb2 hbx1.lt
        have G2 := gb_trans G1.out (gb_below hb2)
        have c2 : w2.cell? ⟨O, 2, none⟩ = some (.int .u64 (o.p : Int)) := hbx2.cell 2
        have f2 := hbx2.free 2
        have hbx3 := hbx2.set 2 (.int .u64 (p : Int))
        have G3 := grown_set G2 2 (.int .u64 (p : Int))
        have h13 := gb_cell G3 h1 (by simpa using Ne.symm hO)
        generalize o.p = op9 at c2
        clear hdi1
        cases hn3 : numM 10 3 (m.take c) with
        | none =>
          have hC := im_number_n (t.extract 0 c) 10 3 a1 (w2.setCell ⟨O, 2, none⟩ (.int .u64 (p : Int))) hrs (by omega) (by omega) (by omega) h13 (by rw [hrl]; exact hn3)
          unfold wE at hC
          have HN := hid (show placeM l = none by rw [HP.out, HR.out, hn3]; rfl)
          go_wp2_with fail
          refine hC.mono ?_
          rintro e w4 ⟨rfl, hb4⟩
          have hbx4 := hbx3.below hb4 hbx3.lt
          have G4 := gb_trans G3 (gb_below hb4)
          have c1 : w4.cell? ⟨O, 1, none⟩ = some (.int .i64 (o.ref : Int)) := hbx4.cell 1
          have f1 := hbx4.free 1
          generalize o.ref = or9 at c1
          have G5 := hid (grown_set G4 1 (.int .i64 0))
          clear hC hbx4 G4
          go_wp2_with fail
          go_ret
          rw [HN.out]
          exact ⟨G5.out, _, rfl, .inr ⟨_, rfl⟩⟩
        | some q =>
          have hC := im_number_s (t.extract 0 c) 10 3 q a1 (w2.setCell ⟨O, 2, none⟩ (.int .u64 (p : Int))) hrs (by omega) (by omega) (by omega) h13 (by rw [hrl]; exact hn3)
          have hq9 : q < 1000 := numM_ten hn3
          go_wp2_with fail
          refine hC.mono ?_
          rintro e w4 ⟨rfl, hb4⟩
          have hbx4 := hbx3.below hb4 hbx3.lt
          have G4 := gb_trans G3 (gb_below hb4)
          have h14 := gb_cell G4 h1 (by simpa using Ne.symm hO)
          clear hC
          by_cases hq : q = 0
          · have hq' : ((q : Int) == 0) = true := by rw [beq_iff_eq]; omega
            have HN := hid (show placeM l = none by rw [HP.out, HR.out, hn3, Option.bind_some, if_pos hq])
            have hU := im_unclear s a1 w4 h14
            unfold wE at hU
            have G5 := hid G4
            clear hq hbx4 G4
            go_wp2_with (go_at_call 45; refine hU.mono ?_; rintro e w9 ⟨rfl, rfl⟩)
            go_ret
            rw [HN.out]
            exact ⟨G5.out, _, rfl, .inr ⟨_, rfl⟩⟩
          · have hq' : ((q : Int) == 0) = false := by rw [beq_eq_false_iff_ne]; omega
            have HN := hid (show placeM l = some (q, p) by rw [HP.out, HR.out, hn3, Option.bind_some, if_neg hq, hdm]; rfl)
            have B5 := hid (hbx4.set 1 (.int .i64 (q : Int)))
            have G5 := hid (grown_set G4 1 (.int .i64 (q : Int)))
            have c1 : w4.cell? ⟨O, 1, none⟩ = some (.int .i64 (o.ref : Int)) := hbx4.cell 1
            have f1 := hbx4.free 1
            generalize o.ref = or9 at c1
            clear hbx4 G4
            go_wp2_with fail
            go_ret
            rw [HN.out]
            refine ⟨G5.out, rfl, nil0, ?_, ?_, fun _ => rfl⟩
            · exact B5.out
            · show World.ownsRow _ _ _ _ _ (List.length o.data) (dv8 o.data)
              rw [hd]; exact own_nil0 _ _
    · have HA := hid (show anyR m = -1 by unfold anyR; rw [if_neg hct])
      rw [HA.out] at hany
      have hce : cutM m = m.length := by omega
      have HR := hid (show refM m = (numM 10 3 m).bind fun q => if q = 0 then none else some (q, 0) by
        unfold refM
        rw [hce, List.take_length]
        congr 1
        funext q
        simp)
      clear hce hct HA
      go_enter Tryd.func42, Tryd.ntmps42
      go_wp2_with fail
      refine (hcut _).mono ?_
      rintro e w0 ⟨rfl, rfl⟩
      go_wp2_with fail
      refine hany.mono ?_
      rintro e w3 ⟨rfl, hb1⟩
      have hbx3 := hbx.below hb1 hbx.lt
      have G3 := gb_below (O := some O) hb1
      have h13 := below_cell hb1 h1
      clear hany hcut
      cases hn3 : numM 10 3 m with
      | none =>
        have hC := im_number_n t 10 3 a1 w3 hts (by omega) (by omega) (by omega) h13 (by rw [HTL.out]; exact hn3)
        unfold wE at hC
        have HN := hid (show placeM l = none by rw [HP.out, HR.out, hn3]; rfl)
        go_wp2_with fail
        refine hC.mono ?_
        rintro e w4 ⟨rfl, hb4⟩
        have hbx4 := hbx3.below hb4 hbx3.lt
        have G4 := gb_trans G3 (gb_below hb4)
        have c1 : w4.cell? ⟨O, 1, none⟩ = some (.int .i64 (o.ref : Int)) := hbx4.cell 1
        have f1 := hbx4.free 1
        generalize o.ref = or9 at c1
        have G5 := hid (grown_set G4 1 (.int .i64 0))
        clear hC hbx4 G4
        go_wp2_with fail
        go_ret
        rw [HN.out]
        exact ⟨G5.out, _, rfl, .inr ⟨_, rfl⟩⟩
      | some q =>
        have hC := im_number_s t 10 3 q a1 w3 hts (by omega) (by omega) (by omega) h13 (by rw [HTL.out]; exact hn3)
        have hq9 : q < 1000 := numM_ten hn3
        go_wp2_with fail
        refine hC.mono ?_
        rintro e w4 ⟨rfl, hb4⟩
        have hbx4 := hbx3.below hb4 hbx3.lt
        have G4 := gb_trans G3 (gb_below hb4)
        have h14 := gb_cell G4 h1 (by simpa using Ne.symm hO)
        clear hC
        by_cases hq : q = 0
        · have hq' : ((q : Int) == 0) = true := by rw [beq_iff_eq]; omega
          have HN := hid (show placeM l = none by rw [HP.out, HR.out, hn3, Option.bind_some, if_pos hq])
          have hU := im_unclear s a1 w4 h14
          unfold wE at hU
          have G5 := hid G4
          clear hq hbx4 G4
          go_wp2_with (go_at_call 45; refine hU.mono ?_; rintro e w9 ⟨rfl, rfl⟩)
          go_ret
          rw [HN.out]
          exact ⟨G5.out, _, rfl, .inr ⟨_, rfl⟩⟩
        · have hq' : ((q : Int) == 0) = false := by rw [beq_eq_false_iff_ne]; omega
          have HN := hid (show placeM l = some (q, 0) by rw [HP.out, HR.out, hn3, Option.bind_some, if_neg hq])
          have B5 := hid (hbx4.set 1 (.int .i64 (q : Int)))
          have G5 := hid (grown_set G4 1 (.int .i64 (q : Int)))
          have c1 : w4.cell? ⟨O, 1, none⟩ = some (.int .i64 (o.ref : Int)) := hbx4.cell 1
          have f1 := hbx4.free 1
          generalize o.ref = or9 at c1
          clear hbx4 G4
          go_wp2_with fail
          go_ret
          rw [HN.out]
          refine ⟨G5.out, rfl, nil0, ?_, ?_, fun _ => rfl⟩
          · have h9 := B5.out
            have e9 : (opC o nil0).set 1 (.int .i64 (q : Int)) = opC { o with ref := q, p := 0 } nil0 := by rw [← hp0]; rfl
            rw [e9] at h9
            exact h9
          · show World.ownsRow _ _ _ _ _ (List.length o.data) (dv8 o.data)
            rw [hd]; exact own_nil0 _ _
  · have hcut := fun w9 => im_cut_n s 36 w9 (by rw [← hl]; exact h36)
    have HP := hid (show placeM l = (numM 10 20 l).map (fun n : Nat => (0, n)) by rw [placeM, if_neg h36])
    clear h36
    cases hn : numM 10 20 l with
    | none =>
      have hC := fun w9 h9 => im_number_n s 10 20 a1 w9 hs (by omega) (by omega) (by omega) h9 (by rw [← hl]; exact hn)
      unfold wE at hC
      have HN := hid (show placeM l = none by rw [HP.out, hn]; rfl)
      clear hl
      go_enter Tryd.func42, Tryd.ntmps42
      go_wp2_with fail
      refine (hcut _).mono ?_
      rintro e w0 ⟨rfl, rfl⟩
      have hC0 := hC _ h1
      clear hC hcut
      go_wp2_with fail
      refine hC0.mono ?_
      rintro e w1 ⟨rfl, hb⟩
      have b2 := hbx.below hb hbx.lt
      have c2 : w1.cell? ⟨O, 2, none⟩ = some (.int .u64 (o.p : Int)) := b2.cell 2
      have f2 := b2.free 2
      generalize o.p = oa at c2
      clear hC0 b2
      go_wp2_with fail
      go_ret
      rw [HN.out]
      exact ⟨grown_set (gb_below hb) 2 _, _, rfl, .inr ⟨_, rfl⟩⟩
    | some n =>
      have hC := fun w9 h9 => im_number_s s 10 20 n a1 w9 hs (by omega) (by omega) (by omega) h9 (by rw [← hl]; exact hn)
      have HN := hid (show placeM l = some (0, n) by rw [HP.out, hn]; rfl)
      clear hl
      go_enter Tryd.func42, Tryd.ntmps42
      go_wp2_with fail
      refine (hcut _).mono ?_
      rintro e w0 ⟨rfl, rfl⟩
      have hC0 := hC _ h1
      clear hC hcut
      go_wp2_with fail
      refine hC0.mono ?_
      rintro e w1 ⟨rfl, hb⟩
      have b2 := hbx.below hb hbx.lt
      have B3 := hid (b2.set 2 (.int .u64 (n : Int)))
      have c2 : w1.cell? ⟨O, 2, none⟩ = some (.int .u64 (o.p : Int)) := b2.cell 2
      have f2 := b2.free 2
      generalize o.p = oa at c2
      clear hC0 b2
      go_wp2_with fail
      go_ret
      rw [HN.out]
      refine ⟨grown_set (gb_below hb) 2 _, rfl, nil0, ?_, ?_, fun _ => rfl⟩
      · have h9 := B3.out
        have e9 : (opC o nil0).set 2 (.int .u64 (n : Int)) = opC { o with ref := 0, p := n } nil0 := by rw [← hr0]; rfl
        rw [e9] at h9
        exact h9
      · show World.ownsRow _ _ _ _ _ (List.length o.data) (dv8 o.data)
        rw [hd]; exact own_nil0 _ _
end Go.Proofs.YtcefihmnnndleaaDoor
