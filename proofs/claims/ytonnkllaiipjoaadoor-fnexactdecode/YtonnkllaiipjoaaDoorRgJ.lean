import Derived.Test.YtonnkllaiipjoaaDoorRgI
namespace Go.Proofs.YtonnkllaiipjoaaDoor
open Go.ChangeShapes Go.WideShapes Go.ChangeAt Go.RowKit
set_option linter.unusedVariables false

theorem Dec.form {a : Int} {v : Value} (h : Dec a v) : ∃ k c s t p o : Int, v = pl k c s t p o := by
  cases h
  · exact ⟨_, _, _, _, _, _, rfl⟩
  · exact ⟨_, _, _, _, _, _, rfl⟩
  · exact ⟨_, _, _, _, _, _, rfl⟩
  · unfold plO
    split
    · exact ⟨_, _, _, _, _, _, rfl⟩
    · split
      · exact ⟨_, _, _, _, _, _, rfl⟩
      · exact ⟨_, _, _, _, _, _, rfl⟩

set_option maxHeartbeats 1000000 in
theorem eqPlace_same (k c s t p o : Int) (w : World) :
    Calls Tryd.prog 28 #[pl k c s t p o, pl k c s t p o] w fun e w' => e = .returned (.bool true) ∧ Below w.heap.size w w' := by
  have e1 : (k != k) = false := by simp
  have e2 : (c != c) = false := by simp
  have e3 : (s != s) = false := by simp
  have e4 : (t != t) = false := by simp
  have e5 : (p != p) = false := by simp
  have e6 : (o != o) = false := by simp
  unfold pl
  go_enter Tryd.func28, Tryd.ntmps28
  go_wp2
  go_ret
  exact ⟨rfl, ((Below.refl _ _).alloc (Nat.le_refl _) _).alloc (by rw [al_size]; omega) _⟩

set_option maxHeartbeats 1000000 in
theorem walk_FnExactDecode (a0 : Int) (w : World) (w0 : (Lit.int .u64 a0).wf = true) (ht : Tb w) :
    Calls Tryd.prog 8 #[.int .u64 a0] w fun e w' => e = .returned (.bool true) ∧ Below w.heap.size w w' := by
  have b := bounds_u64 w0
  have HS := hid (sp_Decode a0 b.1 b.2 w)
  have HI : Hid (∀ w, Tb w → _) := fun w h => im_Decode a0 b.1 b.2 w h
  have HE := hid eqPlace_same
  clear w0
  go_enter Tryd.func8, Tryd.ntmps8
  go_wp2_with fail
  refine (HS.out).mono ?_
  rintro e w1 ⟨⟨v, hv, rfl⟩, b1⟩
  obtain ⟨k, c, s, t, p, o, rfl⟩ := hv.form
  have B1 := hid b1
  have T1 := hid (ht.below b1)
  have HV := hid hv
  clear b1 ht hv
  have A1 := hid (al_last w1 (.cells #[.int .i64 k, .int .i64 c, .int .i64 s, .int .i64 t, .int .i64 p, .int .i64 o] 30))
  have BA := hid (show Below w1.heap.size w1 (w1.alloc (.cells #[.int .i64 k, .int .i64 c, .int .i64 s, .int .i64 t, .int .i64 p, .int .i64 o] 30)) from (Below.refl _ _).alloc (Nat.le_refl _) _)
  have L1 := hid (show w1.heap.size < (w1.alloc (.cells #[.int .i64 k, .int .i64 c, .int .i64 s, .int .i64 t, .int .i64 p, .int .i64 o] 30)).heap.size by rw [al_size]; omega)
  have T2 := hid (T1.out.below BA.out)
  unfold pl
  go_wp2_with fail
  refine (HI.out _ T2.out).mono ?_
  rintro e w2 ⟨⟨v', hv', rfl⟩, b2⟩
  have ev := HV.out.one hv'
  subst ev
  have r1 := hid (show w2.heap[w1.heap.size]? = some (.cells #[.int .i64 k, .int .i64 c, .int .i64 s, .int .i64 t, .int .i64 p, .int .i64 o] 30 (0, 0)) by rw [b2.block _ L1.out]; exact A1.out)
  have hne : w1.heap.size < w2.heap.size := Nat.lt_of_lt_of_le L1.out b2.size
  have B2 := hid (bl_trans B1.out (bl_trans BA.out b2))
  clear A1 BA L1 T2 T1 b2 hv' HV B1
  generalize w1.heap.size = G at r1 hne ⊢
  have r1' := hid (show (w2.alloc (.cells #[.int .i64 k, .int .i64 c, .int .i64 s, .int .i64 t, .int .i64 p, .int .i64 o] 30)).heap[G]? = _ from (al_old w2 _ G hne).trans r1.out)
  have r2' := hid (al_last w2 (.cells #[.int .i64 k, .int .i64 c, .int .i64 s, .int .i64 t, .int .i64 p, .int .i64 o] 30))
  have B3 := hid (show Below w.heap.size w (w2.alloc (.cells #[.int .i64 k, .int .i64 c, .int .i64 s, .int .i64 t, .int .i64 p, .int .i64 o] 30)) from bl_trans B2.out ((Below.refl _ _).alloc (Nat.le_refl _) _))
  unfold pl
  go_wp2_with (first | (refine wpList_load_row rfl 30 _ rfl _ rfl _ _ _ _ r2'.out Tryd.underlying30 rfl (by kernel_rfl) ?_) | (refine wpList_load_row rfl 30 _ rfl _ rfl _ _ _ _ r1'.out Tryd.underlying30 rfl (by kernel_rfl) ?_))
  refine (HE.out k c s t p o _).mono ?_
  rintro e w4 ⟨rfl, b4⟩
  go_wp2
  go_ret
  exact ⟨rfl, bl_trans B3.out b4⟩
end Go.Proofs.YtonnkllaiipjoaaDoor
