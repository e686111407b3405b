import Derived.Test.YtcefihmnnndleaaDoorNuC
import Derived.Laws.Strings2
namespace Go.Proofs.YtcefihmnnndleaaDoor
open Go.ChangeShapes Go.WideShapes Go.ChangeAt Go.RowKit
set_option linter.unusedVariables false
set_option maxRecDepth 20000

theorem gb_more {w W W' : World} {O : Nat} {v : Value} (h : w.grownBy W (some O)) (k : W.grownBy W' v.ownBlock) (hv : ∀ r, v.ownBlock = some r → w.heap.size ≤ r) : w.grownBy W' (some O) :=
  ⟨k.os.trans h.os, k.tape.trans h.tape, k.output.trans h.output, Nat.le_trans h.size k.size, fun i hi hne => (k.block i (Nat.lt_of_lt_of_le hi h.size) (fun e => by have := hv i e.symm; omega)).trans (h.block i hi hne)⟩
theorem two_at {l : List UInt8} {k : Nat} (h : k + 1 < l.length) : (l.drop k).take 2 = [l[k], l[k + 1]] := by
  rw [List.drop_eq_getElem_cons (by omega), List.drop_eq_getElem_cons (by omega)]
  rfl
theorem num_two_y {c d : UInt8} (h1 : dgt c.toNat < 16) (h2 : dgt d.toNat < 16) : numM 16 2 [c, d] = some (dgt c.toNat * 16 + dgt d.toNat) := by
  rw [numM, if_pos (by simp), valL_yes (by omega), valL_yes (by omega)]
  simp [valL]
theorem num_two_n {c d : UInt8} (h : ¬ (dgt c.toNat < 16 ∧ dgt d.toNat < 16)) : numM 16 2 [c, d] = none := by
  rw [numM, if_pos (by simp)]
  by_cases h1 : dgt c.toNat < 16
  · rw [valL_yes (by omega), valL_no (by omega)]
  · rw [valL_no (by omega)]
theorem allH_at {l : List UInt8} (h : allH l = true) {k : Nat} (hk : k < l.length) : dgt l[k].toNat < 16 := by
  have := List.all_eq_true.1 h l[k] (List.getElem_mem hk)
  simpa using this
theorem pairs_at {l : List UInt8} {i : Nat} (h : 2 * i + 1 < l.length) : (pairs (hexs l))[i]? = some (dgt (l[2 * i]'(by omega)).toNat * 16 + dgt (l[2 * i + 1]).toNat) := by
  rw [pairs_get (hexs l) i (by simpa [hexs] using h)]
  simp [hexs, show 2 * i < l.length by omega, h]
set_option maxHeartbeats 1000000 in
theorem im_setData : PartC 43 88 0 := by
  intro a1 O o s w hs hpos h1 hO hbx hd
  have e88 : partM 88 s.data.toList 0 o = (dataM s.data.toList).map (fun d => { o with data := o.data ++ d }) := by rw [partM, if_neg (by decide), if_neg (by decide)]
  rw [e88]
  clear e88
  obtain ⟨l, hl⟩ : ∃ l, l = s.data.toList := ⟨_, rfl⟩
  have hll : l.length = s.size := by rw [hl]; simp
  have HL := hid hl
  rw [← hl]
  clear hl
  by_cases hpar : s.size % 2 = 0
  · have hpar' : (((s.size : Nat) : Int) % 2 != 0) = false := by simp; omega
    go_enter Tryd.func43, Tryd.ntmps43
    go_wp2_with fail
    go_loopw [5] (fun v wr => ∃ (k i : Nat) (dv : Value), k ≤ s.size ∧ v = .int .i64 (k : Int) ∧ Hid (k = 2 * i) ∧ Hid (allH (l.take k) = true) ∧ Hid (wr.ownsRow w.heap.size 5 1 dv i (dv8 ((pairs (hexs l)).take i))) ∧ Hid (Bx wr O 45 (opC o dv)) ∧ Hid (w.grownBy wr (some O))) (fun v _ => s.size - (intOf v).toNat)
    case atStart => exact ⟨0, 0, nil0, by omega, rfl, hid rfl, hid rfl, hid ⟨by simp [dv8], .inl ⟨rfl, rfl⟩⟩, hid hbx, hid (grown_refl w O)⟩
    case round =>
      obtain ⟨k, i, dv, hk, rfl, HK, HA, HO, HB, HG⟩ := hrel
      by_cases hlt : k < s.size
      · have hk1 : k + 1 < l.length := by have := HK.out; omega
        have hk2 : k + 2 ≤ s.size := by omega
        have hC0 : (s.extract k (k + 2)).data.toList = [l[k], l[k + 1]] := by
          rw [ext_list, ← HL.out, show k + 2 - k = 2 by omega, two_at hk1]
        have hsl := run_slice_string (P := Tryd.prog) wr 9 s .i64 .i64 (k : Int) ((k : Int) + 2) Tryd.underlying9 (by omega) (by omega) (by omega)
        have hto : (((k : Int) + 2).toNat) = k + 2 := by omega
        have hto2 : ((k : Int).toNat) = k := by omega
        rw [hto, hto2] at hsl
        clear hto hto2
        have h1' := gb_cell HG.out h1 (by simpa using Ne.symm hO)
        by_cases hx : dgt l[k].toNat < 16 ∧ dgt l[k + 1].toNat < 16
        · have hC := im_number_s (s.extract k (k + 2)) 16 2 _ a1 wr (by rw [ext_size]; omega) (by omega) (by omega) (by omega) h1' (by rw [hC0]; exact num_two_y hx.1 hx.2)
          have hpx : (pairs (hexs l))[i]? = some (dgt l[k].toNat * 16 + dgt l[k + 1].toNat) := by
            have := pairs_at (l := l) (i := i) (by have := HK.out; omega)
            have e9 := HK.out
            subst e9
            exact this
          have HA2 := hid (show allH (l.take (k + 2)) = true by
            have e1 := (hex_snoc l k l[k] (List.drop_eq_getElem_cons (by omega))).2
            have e2 := (hex_snoc l (k + 1) l[k + 1] (List.drop_eq_getElem_cons (by omega))).2
            rw [e2, e1, HA.out]; simp [hx.1, hx.2])
          obtain ⟨x, hxe⟩ : ∃ x, x = dgt l[k].toNat * 16 + dgt l[k + 1].toNat := ⟨_, rfl⟩
          rw [← hxe] at hC hpx
          have hx256 : x < 256 := by omega
          clear hxe hC0 hx HA
          go_wp2_with fail
          refine hC.mono ?_
          rintro e w1 ⟨rfl, hb⟩
          have O1 := own_below HO.out hb
          have B1 := HB.out.below hb HB.out.lt
          have G1 := gb_trans HG.out (gb_below hb)
          obtain ⟨v2, w2, e2, o2, g2⟩ := appB slBy O1 G1.size #[.int .u8 (x : Int)] rfl (by simp [Value.oneCell']) (by have := HK.out; omega)
          have B2 := B1.grown g2 (B1.apart O1 (by decide))
          have G2 := gb_more G1 g2 (fun r e => (O1.lt r e).1)
          have o3 : w2.ownsRow w.heap.size 5 1 v2 (i + 1) (dv8 ((pairs (hexs l)).take (i + 1))) := by rw [dv8_snoc _ _ _ hpx]; exact o2
          have B3 := hid (show Bx (w2.setCell ⟨O, 5, none⟩ v2) O 45 (opC o v2) by simpa [opC] using B2.set 5 v2)
          have O3 := hid (own_set (p := ⟨O, 5, none⟩) o3 (B2.apart o3 (by decide)) v2)
          have G3 := hid (grown_set G2 5 v2)
          obtain ⟨da, dm, dc, rfl, hdm⟩ := own_sl3 O1
          have c5 : w1.cell? ⟨O, 5, none⟩ = some (.slice da dm dc) := B1.cell 5
          have c5b : w2.cell? ⟨O, 5, none⟩ = some (.slice da dm dc) := B2.cell 5
          have f5 := B2.free 5
          obtain ⟨ea, em, ec, rfl, hem⟩ := own_sl3 o2
          clear hC HO HB HG O1 B1 G1 o2 g2 B2 G2 o3 hdm hem hb hpx
          go_wp2_with (at_builtin; refine list_app rfl (.tmp 36) (.tmp 39) (by with_reducible rfl) rfl rfl rfl e2 ?_)
          go_roundw
          case rel => exact ⟨k + 2, i + 1, _, by omega, by go_num, hid (by have := HK.out; omega), HA2, O3, B3, G3⟩
          case measure => simp [intOf]; omega
        · have hC := im_number_n (s.extract k (k + 2)) 16 2 a1 wr (by rw [ext_size]; omega) (by omega) (by omega) (by omega) h1' (by rw [hC0]; exact num_two_n hx)
          have HN := hid (show dataM l = none by
            rw [dataM, if_neg]
            rintro ⟨_, h9, _⟩
            exact hx ⟨allH_at h9 (by omega), allH_at h9 hk1⟩)
          unfold wE at hC
          clear hC0 hx HA
          go_wp2_with fail
          refine hC.mono ?_
          rintro e w1 ⟨rfl, hb⟩
          have G1 := hid (gb_trans HG.out (gb_below hb))
          clear hC
          go_wp2_with fail
          go_ret
          rw [HN.out]
          exact ⟨G1.out, _, rfl, .inr ⟨_, rfl⟩⟩
      · have HN := hid (show dataM l = some (pairs (hexs l)) by
          have h9 := HA.out
          rw [List.take_of_length_le (by omega)] at h9
          rw [dataM, if_pos ⟨by rw [hll]; exact hpar, h9, by omega⟩])
        have HO2 := hid (show wr.ownsRow w.heap.size 5 1 dv (pairs (hexs l)).length (dv8 (pairs (hexs l))) by
          have h9 := HO.out
          have hpl : (pairs (hexs l)).length = i := by rw [pairs_len]; have := HK.out; simp [hexs]; omega
          rw [List.take_of_length_le (by omega)] at h9
          rw [hpl]; exact h9)
        go_wp2_with fail
        go_ret
        rw [HN.out]
        refine ⟨HG.out, rfl, dv, HB.out, ?_, fun h9 => ?_⟩
        rotate_left
        · have h8 := congrArg List.length (show o.data ++ pairs (hexs l) = [] from h9)
          rw [hd] at h8
          simp [pairs_len, hexs] at h8
          omega
        show wr.ownsRow w.heap.size 5 1 dv (o.data ++ pairs (hexs l)).length (dv8 (o.data ++ pairs (hexs l)))
        rw [hd]
        exact HO2.out
  · have hpar' : (((s.size : Nat) : Int) % 2 != 0) = true := by simp; omega
    have hC := im_unclear s a1 w h1
    unfold wE at hC
    have HN := hid (show dataM l = none by rw [dataM, if_neg (fun h => hpar (by rw [← hll]; exact h.1))])
    go_enter Tryd.func43, Tryd.ntmps43
    go_wp2_with (go_at_call 45; refine hC.mono ?_; rintro e w' ⟨rfl, rfl⟩)
    go_ret
    rw [HN.out]
    exact ⟨grown_refl _ O, _, rfl, .inr ⟨_, rfl⟩⟩
end Go.Proofs.YtcefihmnnndleaaDoor
