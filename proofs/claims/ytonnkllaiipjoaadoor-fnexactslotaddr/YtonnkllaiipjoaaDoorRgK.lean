import Derived.Test.YtonnkllaiipjoaaDoorRgJ
namespace Go.Proofs.YtonnkllaiipjoaaDoor
open Go.ChangeShapes Go.WideShapes Go.ChangeAt Go.RowKit
set_option linter.unusedVariables false

/-- a slot that there is -/
structure Slot (c s t : Int) : Prop where
  c0 : 0 ≤ c
  c1 : c < 12
  s0 : 0 ≤ s
  s1 : s < 6
  t0 : 0 ≤ t
  t1 : t < sl c

theorem Hit.off {a c s : Int} (h : Hit (a / 1024) c s) : 0 ≤ a - (rs c + s * (pg c + 1)) * 1024 ∧ a - (rs c + s * (pg c + 1)) * 1024 < (pg c + 1) * 1024 := by
  have h1 := h.lo
  have h2 := h.hi
  generalize s * (pg c + 1) = m at *
  omega

theorem Dec.slot {a c s t p o : Int} (h : Dec a (pl 3 c s t p o)) : Slot c s t ∧ p = 0 ∧ 0 ≤ o ∧ o < sz c ∧ a = (rs c + s * (pg c + 1)) * 1024 + t * sz c + o := by
  generalize hv : pl 3 c s t p o = v at h
  cases h with
  | out h => simp [pl] at hv
  | large h0 h1 => simp [pl] at hv
  | zero h0 h1 => simp [pl] at hv
  | slab c' s' h0 h1 h =>
    have hoff := h.off
    have hz := sz_in (c := c') ⟨h.c0, h.c1⟩
    unfold plO at hv
    split at hv
    · simp [pl] at hv
    · split at hv
      · simp [pl] at hv
      · rename_i t1 t2
        simp only [pl, Value.agg.injEq, Array.mk.injEq, List.cons.injEq, Value.int.injEq, true_and, and_true] at hv
        obtain ⟨rfl, rfl, e3, e4, e5⟩ := hv
        have hd := Int.emod_add_mul_ediv (a - (rs c + s * (pg c + 1)) * 1024) (sz c)
        have hm0 := Int.emod_nonneg (a - (rs c + s * (pg c + 1)) * 1024) (show sz c ≠ 0 by omega)
        have hm1 := Int.emod_lt_of_pos (a - (rs c + s * (pg c + 1)) * 1024) (show 0 < sz c by omega)
        rw [← e3, ← e5] at hd
        rw [← e5] at hm0 hm1
        have ht0 : 0 ≤ t := by rw [e3]; exact Int.ediv_nonneg hoff.1 (by omega)
        have ht1 : t < sl c := by
          apply Int.not_le.1
          intro hh
          rw [e3] at hh
          exact t2 ((Int.le_ediv_iff_mul_le (by omega)).1 hh)
        refine ⟨⟨h.c0, h.c1, h.s0, h.s1, ht0, ht1⟩, e4, hm0, hm1, ?_⟩
        rw [Int.mul_comm] at hd
        omega

theorem sl_mul {c : Int} (h : 0 ≤ c ∧ c < 12) {t : Int} (h0 : 0 ≤ t) (h1 : t < sl c) : 0 ≤ t * sz c ∧ t * sz c + sz c ≤ sl c * sz c := by
  have hz := sz_in h
  refine ⟨Int.mul_nonneg h0 (by omega), ?_⟩
  have := Int.mul_le_mul_of_nonneg_right (show t + 1 ≤ sl c by omega) (show 0 ≤ sz c by omega)
  rw [Int.add_mul] at this
  omega

theorem Slot.dec {c s t : Int} (h : Slot c s t) {o : Int} (ho0 : 0 ≤ o) (ho1 : o < sz c) : Dec ((rs c + s * (pg c + 1)) * 1024 + t * sz c + o) (pl 3 c s t 0 o) ∧
    1024 ≤ (rs c + s * (pg c + 1)) * 1024 + t * sz c ∧ (rs c + s * (pg c + 1)) * 1024 + t * sz c + o < 191488 := by
  have hc : 0 ≤ c ∧ c < 12 := ⟨h.c0, h.c1⟩
  have hz := sz_in hc
  have hl := sl_in hc
  have hp := pg_in hc
  have hm := sl_mul hc h.t0 h.t1
  have hs0 := h.s0
  have hs1 := h.s1
  have hr : 1 ≤ rs c ∧ rs c + 6 * (pg c + 1) ≤ 187 := by
    rcases isc_split hc with rfl | rfl | rfl | rfl | rfl | rfl | rfl | rfl | rfl | rfl | rfl | rfl <;> decide
  have hq : 0 ≤ s * (pg c + 1) ∧ s * (pg c + 1) + (pg c + 1) ≤ 6 * (pg c + 1) := by
    have : pg c = 1 ∨ pg c = 2 ∨ pg c = 3 ∨ pg c = 4 := by omega
    rcases this with e | e | e | e <;> rw [e] <;> omega
  have hlo : 1024 ≤ (rs c + s * (pg c + 1)) * 1024 + t * sz c := by omega
  have hhi : (rs c + s * (pg c + 1)) * 1024 + t * sz c + o < 191488 := by omega
  refine ⟨?_, hlo, hhi⟩
  have hhit : Hit (((rs c + s * (pg c + 1)) * 1024 + t * sz c + o) / 1024) c s := ⟨h.c0, h.c1, h.s0, h.s1, by omega, by omega⟩
  have key := Dec.slab _ c s (by omega) hhi hhit
  have e : (rs c + s * (pg c + 1)) * 1024 + t * sz c + o - (rs c + s * (pg c + 1)) * 1024 = t * sz c + o := by omega
  rw [e] at key
  unfold plO at key
  rw [if_neg (by omega), if_neg (by omega)] at key
  have e1 : (t * sz c + o) / sz c = t := by
    rw [Int.add_comm, Int.add_mul_ediv_right _ _ (by omega), Int.ediv_eq_zero_of_lt ho0 ho1]; omega
  have e2 : (t * sz c + o) % sz c = o := by
    rw [Int.add_comm, Int.add_mul_emod_self_right, Int.emod_eq_of_lt ho0 ho1]
  rw [e1, e2] at key
  exact key

set_option maxHeartbeats 1000000 in
theorem im_SlotAddr_no (c s t : Int) (hno : ¬ Slot c s t) (w : World) (ht : Tb w) :
    Calls Tryd.prog 11 #[.int .i64 c, .int .i64 s, .int .i64 t] w fun e w' => e = .returned (.tuple #[.int .u64 0, .bool false]) ∧ Below w.heap.size w w' := by
  have IR := hid (im_RegionStart c)
  have IX := hid (im_slabExtent c)
  have IZ := hid (im_SlotSize c)
  have ID := hid im_Decode
  have hr := rs_le c
  have hp := pg_le c
  have hz := sz_le c
  generalize rs c = r at *
  generalize pg c = p at *
  generalize sz c = z at *
  have hb : ∀ z : Int, 0 ≤ IntKind.u64.wrap z ∧ IntKind.u64.wrap z ≤ 18446744073709551615 := fun z => by rw [IntKind.wrap_u64]; omega
  have HB := hid hb
  have HN := hid hno
  clear hb hno
  go_enter Tryd.func11, Tryd.ntmps11
  go_wp2_with fail
  refine (IR.out _ ht).mono ?_
  rintro e w1 ⟨rfl, b1⟩
  have T1 := hid (ht.below b1)
  go_wp2_with fail
  refine (IX.out _ T1.out).mono ?_
  rintro e w2 ⟨rfl, rfl⟩
  go_wp2_with fail
  refine (IZ.out _ T1.out).mono ?_
  rintro e w3 ⟨rfl, rfl⟩
  go_wp2_with fail
  have hX := HB.out (wrap64 (wrap64 (wrap64 (r + wrap64 (s * (p + 1))) * 1024) + wrap64 (t * z)))
  generalize IntKind.u64.wrap (wrap64 (wrap64 (wrap64 (r + wrap64 (s * (p + 1))) * 1024) + wrap64 (t * z))) = X at hX ⊢
  refine (ID.out X hX.1 hX.2 _ T1.out).mono ?_
  rintro e w4 ⟨⟨v, hv, rfl⟩, b4⟩
  obtain ⟨k', c', s', t', p', o', rfl⟩ := hv.form
  have HV := hid hv
  have B4 := hid (bl_trans b1 b4)
  clear hv b1 b4 T1 IR IX IZ ID ht
  unfold pl
  go_wp2
  all_goals first
    | (go_ret2; exact ⟨rfl, B4.out⟩)
    | (exfalso
       have e : k' = 3 ∧ c' = c ∧ s' = s ∧ t' = t := by
         clear HV HN
         simp_all
       obtain ⟨rfl, rfl, rfl, rfl⟩ := e
       exact HN.out (HV.out.slot).1)

theorem wrap64_in {x : Int} (h0 : -9223372036854775808 ≤ x) (h1 : x ≤ 9223372036854775807) : wrap64 x = x := by
  simp only [wrap64]; omega

set_option maxHeartbeats 1000000 in
theorem im_SlotAddr_yes (c s t : Int) (h : Slot c s t) (w : World) (ht : Tb w) :
    Calls Tryd.prog 11 #[.int .i64 c, .int .i64 s, .int .i64 t] w fun e w' => e = .returned (.tuple #[.int .u64 ((rs c + s * (pg c + 1)) * 1024 + t * sz c), .bool true]) ∧ Below w.heap.size w w' := by
  have hc : 0 ≤ c ∧ c < 12 := ⟨h.c0, h.c1⟩
  have IR := hid (im_RegionStart c)
  have IX := hid (im_slabExtent c)
  have IZ := hid (im_SlotSize c)
  have hz := sz_in hc
  have hp := pg_in hc
  have hd := h.dec (o := 0) (by omega) (by omega)
  have hs0 := h.s0
  have hs1 := h.s1
  have hr : 1 ≤ rs c ∧ rs c ≤ 361 := by have := rs_le c; rw [rs_in hc] at this ⊢; have := rsN_le c.toNat; omega
  have hq : 0 ≤ s * (pg c + 1) ∧ s * (pg c + 1) ≤ 25 := by
    have : pg c = 1 ∨ pg c = 2 ∨ pg c = 3 ∨ pg c = 4 := by omega
    rcases this with e | e | e | e <;> rw [e] <;> omega
  have hm := sl_mul hc h.t0 h.t1
  have hm1 : t * sz c ≤ 4096 := by have := (sl_in hc).2.2.2; omega
  have HD := hid hd.1
  have hd2 := hd.2
  have ID := hid (fun W hW => im_Decode ((rs c + s * (pg c + 1)) * 1024 + t * sz c) (by omega) (by omega) W hW)
  rw [Int.add_zero] at HD hd2
  have hm2 : 0 ≤ t * sz c ∧ t * sz c ≤ 4096 := ⟨hm.1, hm1⟩
  clear hm hm1 hd h
  generalize rs c = r at *
  generalize pg c = p at *
  generalize sz c = z at *
  go_enter Tryd.func11, Tryd.ntmps11
  go_wp2_with fail
  refine (IR.out _ ht).mono ?_
  rintro e w1 ⟨rfl, b1⟩
  have T1 := hid (ht.below b1)
  go_wp2_with fail
  refine (IX.out _ T1.out).mono ?_
  rintro e w2 ⟨rfl, rfl⟩
  go_wp2_with fail
  refine (IZ.out _ T1.out).mono ?_
  rintro e w3 ⟨rfl, rfl⟩
  go_wp2_with fail
  refine (ID.out _ T1.out).mono ?_
  rintro e w4 ⟨⟨v, hv, rfl⟩, b4⟩
  have ev := HD.out.one hv
  subst ev
  have B4 := hid (bl_trans b1 b4)
  clear hv b1 b4 T1 IR IX IZ ID ht HD
  unfold pl
  go_wp2
  go_ret2
  exact ⟨rfl, B4.out⟩
end Go.Proofs.YtonnkllaiipjoaaDoor
