import Derived.Test.YtonnkllaiipjoaaDoorRgK
namespace Go.Proofs.YtonnkllaiipjoaaDoor
open Go.ChangeShapes Go.WideShapes Go.ChangeAt Go.RowKit
set_option linter.unusedVariables false

set_option maxHeartbeats 2000000 in
theorem sp_SlotAddr_no (c s t : Int) (hno : ¬ Slot c s t) (w : World) :
    Calls Tryd.prog 12 #[.int .i64 c, .int .i64 s, .int .i64 t] w fun e w' => e = .returned (.tuple #[.int .u64 0, .bool false]) ∧ Below w.heap.size w w' := by
  have IZ := hid (sp_SlotSize c)
  have IL := hid (sp_SlabSlots c)
  by_cases hc : 0 ≤ c ∧ c < 12
  · have hz := sz_in hc
    have hl := sl_in hc
    have hl' : 4 ≤ sl c ∧ sl c ≤ 64 := ⟨hl.1, hl.2.1⟩
    have hzb : (sz c == 0) = false := by simp; omega
    have hcase : s < 0 ∨ (0 ≤ s ∧ 6 ≤ s) ∨ (0 ≤ s ∧ s < 6 ∧ t < 0) ∨ (0 ≤ s ∧ s < 6 ∧ 0 ≤ t ∧ sl c ≤ t) := by
      by_cases h1 : s < 0
      · exact .inl h1
      · by_cases h2 : 6 ≤ s
        · exact .inr (.inl ⟨by omega, h2⟩)
        · by_cases h3 : t < 0
          · exact .inr (.inr (.inl ⟨by omega, by omega, h3⟩))
          · by_cases h4 : sl c ≤ t
            · exact .inr (.inr (.inr ⟨by omega, by omega, by omega, h4⟩))
            · exact (hno ⟨hc.1, hc.2, by omega, by omega, by omega, by omega⟩).elim
    clear hno hl hc
    generalize sz c = z at *
    generalize sl c = l at *
    rcases hcase with h | ⟨h, h'⟩ | ⟨h, h', h''⟩ | ⟨h, h', h'', h'''⟩
    · go_enter Tryd.func12, Tryd.ntmps12
      go_wp2_with fail
      refine (IZ.out _).mono ?_
      rintro e w1 ⟨rfl, b1⟩
      go_wp2
      go_ret2
      exact ⟨rfl, b1⟩
    · go_enter Tryd.func12, Tryd.ntmps12
      go_wp2_with fail
      refine (IZ.out _).mono ?_
      rintro e w1 ⟨rfl, b1⟩
      go_wp2
      go_ret2
      exact ⟨rfl, b1⟩
    · go_enter Tryd.func12, Tryd.ntmps12
      go_wp2_with fail
      refine (IZ.out _).mono ?_
      rintro e w1 ⟨rfl, b1⟩
      go_wp2
      go_ret2
      exact ⟨rfl, b1⟩
    · go_enter Tryd.func12, Tryd.ntmps12
      go_wp2_with fail
      refine (IZ.out _).mono ?_
      rintro e w1 ⟨rfl, b1⟩
      go_wp2_with fail
      refine (IL.out _).mono ?_
      rintro e w2 ⟨rfl, b2⟩
      go_wp2
      go_ret2
      exact ⟨rfl, bl_trans b1 b2⟩
  · rw [sz_out hc] at IZ
    clear hno hc
    go_enter Tryd.func12, Tryd.ntmps12
    go_wp2_with fail
    refine (IZ.out _).mono ?_
    rintro e w1 ⟨rfl, b1⟩
    go_wp2
    go_ret2
    exact ⟨rfl, b1⟩

set_option maxHeartbeats 1000000 in
theorem sp_SlotAddr_yes (c s t : Int) (h : Slot c s t) (w : World) :
    Calls Tryd.prog 12 #[.int .i64 c, .int .i64 s, .int .i64 t] w fun e w' => e = .returned (.tuple #[.int .u64 ((rs c + s * (pg c + 1)) * 1024 + t * sz c), .bool true]) ∧ Below w.heap.size w w' := by
  have hc : 0 ≤ c ∧ c < 12 := ⟨h.c0, h.c1⟩
  have hs0 := h.s0
  have hs1 := h.s1
  have ht0 := h.t0
  have ht1 := h.t1
  have IZ := hid (sp_SlotSize c)
  have IL := hid (sp_SlabSlots c)
  have I4 := hid (sp_l4Slab c s (by omega) (by omega))
  have hz := sz_in hc
  have hzb : (sz c == 0) = false := by simp; omega
  have hp := pg_in hc
  have hl := sl_in hc
  have hl' : 4 ≤ sl c ∧ sl c ≤ 64 := ⟨hl.1, hl.2.1⟩
  have hr : 1 ≤ rs c ∧ rs c ≤ 361 := by have := rs_le c; rw [rs_in hc] at this ⊢; have := rsN_le c.toNat; omega
  have hq : 0 ≤ s * (pg c + 1) ∧ s * (pg c + 1) ≤ 25 := by
    have : pg c = 1 ∨ pg c = 2 ∨ pg c = 3 ∨ pg c = 4 := by omega
    rcases this with e | e | e | e <;> rw [e] <;> omega
  have hm := sl_mul hc h.t0 h.t1
  have hm2 : 0 ≤ t * sz c ∧ t * sz c ≤ 4096 := ⟨hm.1, by have := (sl_in hc).2.2.2; omega⟩
  clear hm hl h
  generalize rs c = r at *
  generalize hP : pg c = p at *
  generalize sz c = z at *
  generalize sl c = l at *
  generalize s * (p + 1) = m at *
  go_enter Tryd.func12, Tryd.ntmps12
  go_wp2_with fail
  refine (IZ.out _).mono ?_
  rintro e w1 ⟨rfl, b1⟩
  go_wp2_with fail
  refine (IL.out _).mono ?_
  rintro e w2 ⟨rfl, b2⟩
  go_wp2_with fail
  refine (I4.out _).mono ?_
  rintro e w3 ⟨rfl, b3⟩
  go_wp2_with fail
  refine (IZ.out _).mono ?_
  rintro e w4 ⟨rfl, b4⟩
  go_wp2
  go_ret2
  exact ⟨rfl, bl_trans b1 (bl_trans b2 (bl_trans b3 b4))⟩

set_option maxHeartbeats 1000000 in
theorem walk_FnExactSlotAddr (a0 a1 a2 : Int) (w : World) (w0 : (Lit.int .i64 a0).wf = true) (w1 : (Lit.int .i64 a1).wf = true) (w2 : (Lit.int .i64 a2).wf = true) (ht : Tb w) :
    Calls Tryd.prog 9 #[.int .i64 a0, .int .i64 a1, .int .i64 a2] w fun e w' => e = .returned (.bool true) ∧ Below w.heap.size w w' := by
  clear w0 w1 w2
  by_cases h : Slot a0 a1 a2
  · have HS := hid (sp_SlotAddr_yes a0 a1 a2 h w)
    have HI : Hid (∀ w, Tb w → _) := fun w hw => im_SlotAddr_yes a0 a1 a2 h w hw
    clear h
    generalize (rs a0 + a1 * (pg a0 + 1)) * 1024 + a2 * sz a0 = x at HS HI
    have e1 : (x != x) = false := by simp
    go_enter Tryd.func9, Tryd.ntmps9
    go_wp2_with fail
    refine (HS.out).mono ?_
    rintro e w1 ⟨rfl, b1⟩
    go_wp2_with fail
    refine (HI.out _ (ht.below b1)).mono ?_
    rintro e w2 ⟨rfl, b2⟩
    go_wp2
    go_ret
    exact ⟨rfl, bl_trans b1 b2⟩
  · have HS := hid (sp_SlotAddr_no a0 a1 a2 h w)
    have HI : Hid (∀ w, Tb w → _) := fun w hw => im_SlotAddr_no a0 a1 a2 h w hw
    clear h
    go_enter Tryd.func9, Tryd.ntmps9
    go_wp2_with fail
    refine (HS.out).mono ?_
    rintro e w1 ⟨rfl, b1⟩
    go_wp2_with fail
    refine (HI.out _ (ht.below b1)).mono ?_
    rintro e w2 ⟨rfl, b2⟩
    go_wp2
    go_ret
    exact ⟨rfl, bl_trans b1 b2⟩
end Go.Proofs.YtonnkllaiipjoaaDoor
