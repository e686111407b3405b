import Derived.Test.YtcefihmnnndleaaDoorScC
import Derived.OwnWalk
namespace Go.Proofs.YtcefihmnnndleaaDoor
open Go.ChangeShapes Go.WideShapes Go.ChangeAt Go.RowKit
set_option linter.unusedVariables false

theorem cut_step {l : List UInt8} {j : Nat} {c : UInt8} (h : l.drop j = c :: l.drop (j + 1)) : j + (l.drop j).findIdx sgn = if sgn c then j else j + 1 + (l.drop (j + 1)).findIdx sgn := by
  rw [h, List.findIdx_cons]
  cases sgn c <;> simp
  omega
theorem cut_le (l : List UInt8) : cutM l ≤ l.length := List.findIdx_le_length
theorem numM_bd {base most : Nat} (l : List UInt8) : (numM base most l).getD 0 < 18446744073709551616 := by
  cases h : numM base most l with
  | none => simp
  | some m => exact numM_lt h
theorem wrap_neg {d : Nat} (h : d < 18446744073709551616) : IntKind.u64.wrap (-(d : Int)) = ((negM d : Nat) : Int) := by
  simp [IntKind.wrap, IntKind.bits, IntKind.signed, negM]
  omega
set_option maxHeartbeats 400000 in
theorem sp_place_no (s : ByteArray) (w : World) (hs : s.size ≤ 1048576) (h1 : ¬ fst s.data.toList = 36) :
    Calls Tryd.prog 27 #[.string s] w fun e w' => ∃ v, e = .returned v ∧ PlR (placeM s.data.toList) v ∧ w' = w := by
  have hD := sp_digits s 20 w hs (by omega)
  have HP := hid (show placeM s.data.toList = (numM 10 20 s.data.toList).map (fun n : Nat => (0, n)) by rw [placeM, if_neg h1])
  have hb := numM_bd (base := 10) (most := 20) s.data.toList
  obtain ⟨o, ho⟩ : ∃ o, o = numM 10 20 s.data.toList := ⟨_, rfl⟩
  rw [← ho] at hD HP hb
  clear ho
  have fin : ∀ v, v = rN o → ∃ r p : Nat, r < 1000 ∧ p < 18446744073709551616 ∧ (Value.tuple #[.int .i64 0, .int .u64 ((o.getD 0 : Nat) : Int), .bool o.isSome]) = .tuple #[.int .i64 r, .int .u64 p, .bool (placeM s.data.toList).isSome] ∧ ∀ x, placeM s.data.toList = some x → x = (r, p) := by
    intro v hv
    refine ⟨0, o.getD 0, by omega, hb, by rw [HP.out]; cases o <;> rfl, fun x hx => ?_⟩
    rw [HP.out] at hx
    cases o with
    | none => cases hx
    | some n => simpa using hx.symm
  have FIN := hid (fin _ rfl)
  clear fin HP
  unfold rN at hD
  generalize o.getD 0 = d at hD hb FIN
  generalize o.isSome = b at hD FIN
  by_cases h0 : 0 < s.size
  · rw [fst_of s h0] at h1
    have h1' : ¬ ((s[0].toNat : Nat) : Int) = 36 := by omega
    have h0' : ((s.size : Int) == 0) = false := by rw [beq_eq_false_iff_ne]; omega
    go_enter Tryd.func27, Tryd.ntmps27
    go_wp2_with (go_at_call 26; refine hD.mono ?_; rintro e w' ⟨rfl, rfl⟩)
    go_ret3
    exact ⟨_, rfl, FIN.out, rfl⟩
  · have h0' : s.size = 0 := by omega
    go_enter Tryd.func27, Tryd.ntmps27
    go_wp2_with (go_at_call 26; refine hD.mono ?_; rintro e w' ⟨rfl, rfl⟩)
    go_ret3
    exact ⟨_, rfl, FIN.out, rfl⟩
set_option maxHeartbeats 800000 in
theorem sp_place_yes (s : ByteArray) (w : World) (hs : s.size ≤ 1048576) (h1 : fst s.data.toList = 36) :
    Calls Tryd.prog 27 #[.string s] w fun e w' => ∃ v, e = .returned v ∧ PlR (placeM s.data.toList) v ∧ w' = w := by
  have h0 : 0 < s.size := by
    by_cases h0 : 0 < s.size
    · exact h0
    · rw [list_none s h0] at h1; cases h1
  obtain ⟨t, ht⟩ : ∃ t, t = s.extract 1 s.size := ⟨_, rfl⟩
  have hts : t.size ≤ 1048576 := by rw [ht, ext_size]; omega
  obtain ⟨l, hl⟩ : ∃ l, l = t.data.toList := ⟨_, rfl⟩
  have hl2 : s.data.toList.tail = l := by rw [hl, ht, ext_tail]
  have hll : l.length = t.size := by rw [hl]; simp
  have HP : placeM s.data.toList = refM l := by rw [placeM, if_pos h1, hl2]
  rw [HP]
  clear HP
  rw [fst_of s h0] at h1
  have h1' : ((s[0].toNat : Nat) : Int) = 36 := by omega
  have h0' : ((s.size : Int) == 0) = false := by rw [beq_eq_false_iff_ne]; omega
  have HT := hid ht
  have HL := hid hl
  clear ht hl hl2 h1
  go_enter Tryd.func27, Tryd.ntmps27
  go_wp2
  rw [← HT.out]
  go_loopw [7, 8] (fun c i wr => ∃ (j k : Nat), j ≤ t.size ∧ i = .int .i64 ((j : Int) - 1) ∧ c = .int .i64 (k : Int) ∧ Hid (k = j + (l.drop j).findIdx sgn) ∧ wr = w) (fun _ i _ => (intOf i + 1).toNat)
  case atStart => exact ⟨t.size, t.size, Nat.le_refl _, by rw [HT.out, ext_size]; go_num, by rw [HT.out, ext_size]; go_num, hid (by rw [← hll, List.drop_length]; rfl), rfl⟩
  case round =>
    obtain ⟨j, k, hj, rfl, rfl, hk, rfl⟩ := hrel
    rcases j with _ | j
    · have hk0 : k = cutM l := by rw [hk.out]; simp [cutM]
      have hkl : k ≤ t.size := by rw [hk0, ← hll]; exact cut_le l
      have HR := hid (show refM l = (numM 10 3 (l.take k)).bind fun q => if q = 0 then none else if k = l.length then some (q, 0) else (numM 10 9 (l.drop (k + 1))).map (fun n : Nat => (q, if fst (l.drop k) = 45 then negM n else n)) by rw [hk0]; rfl)
      clear hk hk0
      have hz : (((0 : Nat) : Int) - 1) = -1 := by omega
      rw [hz]
      have hD := sp_digits (t.extract 0 k) 3 wr (by rw [ext_size]; omega) (by omega)
      rw [ext_list, List.drop_zero, Nat.sub_zero, ← HL.out] at hD
      have hb := numM_getD (most := 3) (l.take k)
      obtain ⟨o, ho⟩ : ∃ o, o = numM 10 3 (l.take k) := ⟨_, rfl⟩
      rw [← ho] at hD HR hb
      clear ho
      have hb2 : o.getD 0 < 1000 := hb
      clear hb
      rcases o with _ | q
      · have HN := hid (show refM l = none from HR.out)
        clear HR hb2
        unfold rN at hD
        go_wp2_with (go_at_call 26; refine hD.mono ?_; rintro e w' ⟨rfl, rfl⟩)
        go_ret3
        exact ⟨_, rfl, ⟨0, 0, by omega, by omega, by rw [HN.out]; rfl, fun x hx => by rw [HN.out] at hx; cases hx⟩, rfl⟩
      have hb3 : q < 1000 := hb2
      clear hb2
      have hD : Calls Tryd.prog 26 #[.string (t.extract 0 k), .int .i64 3] wr fun e w' => e = .returned (.tuple #[.int .u64 (q : Int), .bool true]) ∧ w' = wr := hD
      by_cases hq : q = 0
      · subst hq
        have HN := hid (show refM l = none by rw [HR.out, Option.bind_some, if_pos rfl])
        clear HR hb3
        go_wp2_with (go_at_call 26; refine hD.mono ?_; rintro e w' ⟨rfl, rfl⟩)
        go_ret3
        exact ⟨_, rfl, ⟨0, 0, by omega, by omega, by rw [HN.out]; rfl, fun x hx => by rw [HN.out] at hx; cases hx⟩, rfl⟩
      have hq' : ((q : Int) == 0) = false := by rw [beq_eq_false_iff_ne]; omega
      by_cases hkt : k = t.size
      · have HN := hid (show refM l = some (q, 0) by rw [HR.out, Option.bind_some, if_neg hq, if_pos (by rw [hkt, hll])])
        have hkt' : ((k : Int) == (t.size : Int)) = true := by rw [beq_iff_eq]; omega
        clear HR hq hkt
        go_wp2_with (go_at_call 26; refine hD.mono ?_; rintro e w' ⟨rfl, rfl⟩)
        go_ret3
        exact ⟨_, rfl, ⟨q, 0, hb3, by omega, by rw [HN.out]; rfl, fun x hx => by rw [HN.out] at hx; simpa using hx.symm⟩, rfl⟩
      · have hkt2 : k < t.size := by omega
        have hkt' : ((k : Int) == (t.size : Int)) = false := by rw [beq_eq_false_iff_ne]; omega
        have hE := sp_digits (t.extract (k + 1) t.size) 9 wr (by rw [ext_size]; omega) (by omega)
        have hfst : fst (l.drop k) = t[k].toNat := by rw [HL.out, drop_cons t k hkt2]; rfl
        rw [ext_list, List.take_of_length_le (by rw [List.length_drop, ← HL.out, hll]; omega), ← HL.out] at hE
        have hb := numM_bd (base := 10) (most := 9) (l.drop (k + 1))
        obtain ⟨o, ho⟩ : ∃ o, o = numM 10 9 (l.drop (k + 1)) := ⟨_, rfl⟩
        have HN := hid (show refM l = o.map (fun n : Nat => (q, if t[k].toNat = 45 then negM n else n)) by rw [HR.out, Option.bind_some, if_neg hq, if_neg (by rw [hll]; exact hkt), ho, hfst])
        rw [← ho] at hE hb
        clear ho HR hq hkt hfst
        unfold rN at hE
        have fin : ∀ p : Nat, p = (if t[k].toNat = 45 then negM (o.getD 0) else o.getD 0) → PlR (refM l) (.tuple #[.int .i64 (q : Int), .int .u64 (p : Int), .bool o.isSome]) := by
          intro p hp
          have hpl : p < 18446744073709551616 := by rw [hp]; split <;> (try unfold negM) <;> omega
          refine ⟨q, p, hb3, hpl, by rw [HN.out]; simp, fun x hx => ?_⟩
          rw [HN.out] at hx
          cases o with
          | none => cases hx
          | some n => rw [hp]; simpa using hx.symm
        have FIN := hid fin
        clear fin HN
        generalize o.getD 0 = d at hE hb FIN
        generalize o.isSome = b at hE FIN
        by_cases h45 : t[k].toNat = 45
        · have h45' : (((t[k].toNat : Nat) : Int) == 45) = true := by rw [beq_iff_eq]; omega
          go_wp2_with fail
          refine hD.mono ?_
          rintro e w' ⟨rfl, rfl⟩
          clear hD
          go_wp2_with fail
          refine hE.mono ?_
          rintro e w' ⟨rfl, rfl⟩
          clear hE
          go_wp2
          go_ret3
          refine ⟨_, rfl, ?_, rfl⟩
          have hf := FIN.out (negM d) (by rw [if_pos h45])
          rw [← wrap_neg hb] at hf
          exact hf
        · have h45' : (((t[k].toNat : Nat) : Int) == 45) = false := by rw [beq_eq_false_iff_ne]; omega
          go_wp2_with fail
          refine hD.mono ?_
          rintro e w' ⟨rfl, rfl⟩
          clear hD
          go_wp2_with fail
          refine hE.mono ?_
          rintro e w' ⟨rfl, rfl⟩
          clear hE
          go_wp2
          go_ret3
          exact ⟨_, rfl, FIN.out d (by rw [if_neg h45]), rfl⟩
    · have hji : (((j + 1 : Nat) : Int) - 1) = (j : Int) := by omega
      rw [hji]
      have hc := hid (drop_cons t j (by omega))
      rw [← HL.out] at hc
      have hst := hid (cut_step hc.out)
      have hb := u8_lt t j (by omega)
      by_cases c1 : t[j].toNat = 43
      · have c1' : ((t[j].toNat : Nat) : Int) = 43 := by omega
        go_wp2
        go_roundw
        case rel => exact ⟨j, j, by omega, by go_num, rfl, hid (by rw [hst.out, if_pos (by simp [sgn, c1])]), trivial⟩
        case measure => simp [intOf]; try omega
      by_cases c2 : t[j].toNat = 45
      · have c1' : (((t[j].toNat : Nat) : Int) == 43) = false := by rw [beq_eq_false_iff_ne]; omega
        have c2' : ((t[j].toNat : Nat) : Int) = 45 := by omega
        go_wp2
        go_roundw
        case rel => exact ⟨j, j, by omega, by go_num, rfl, hid (by rw [hst.out, if_pos (by simp [sgn, c2])]), trivial⟩
        case measure => simp [intOf]; try omega
      have c1' : (((t[j].toNat : Nat) : Int) == 43) = false := by rw [beq_eq_false_iff_ne]; omega
      have c2' : (((t[j].toNat : Nat) : Int) == 45) = false := by rw [beq_eq_false_iff_ne]; omega
      go_wp2
      go_roundw
      case rel => exact ⟨j, k, by omega, by go_num, rfl, hid (by rw [hst.out, if_neg (by simp [sgn, c1, c2])]; exact hk.out), trivial⟩
      case measure => simp [intOf]; try omega
theorem sp_place (s : ByteArray) (w : World) (hs : s.size ≤ 1048576) :
    Calls Tryd.prog 27 #[.string s] w fun e w' => ∃ v, e = .returned v ∧ PlR (placeM s.data.toList) v ∧ w' = w := by
  by_cases h1 : fst s.data.toList = 36
  · exact sp_place_yes s w hs h1
  · exact sp_place_no s w hs h1
end Go.Proofs.YtcefihmnnndleaaDoor
