import Derived.Test.YtonnkllaiipjoaaDoorRgD
namespace Go.Proofs.YtonnkllaiipjoaaDoor
open Go.ChangeShapes Go.WideShapes Go.ChangeAt Go.RowKit
set_option linter.unusedVariables false

/-- a place as the program has it -/
def pl (k c s t p o : Int) : Value := .agg #[.int .i64 k, .int .i64 c, .int .i64 s, .int .i64 t, .int .i64 p, .int .i64 o]

def z6 : Array Value := #[.int .i64 0, .int .i64 0, .int .i64 0, .int .i64 0, .int .i64 0, .int .i64 0]
/-- where a place is given back -/
structure Rt (w : World) (g : Nat) (v : World) : Prop where
  blk : v.heap[g]? = some (.cells z6 30 (0, 0))
  bel : Below w.heap.size w v
  new : w.heap.size ≤ g
theorem Rt.first (w : World) : Rt w w.heap.size (w.alloc (.cells z6 30)) := ⟨al_last _ _, (Below.refl _ _).alloc (Nat.le_refl _) _, Nat.le_refl _⟩
theorem Rt.below {w v v' : World} {g : Nat} (h : Rt w g v) (hb : Below v.heap.size v v') : Rt w g v' := by
  have hl : g < v.heap.size := by
    by_cases hl : g < v.heap.size
    · exact hl
    · have : v.heap[g]? = none := Array.getElem?_eq_none (by omega)
      have h1 := h.blk
      rw [this] at h1; cases h1
  exact ⟨by rw [hb.block g hl]; exact h.blk, bl_trans h.bel hb, h.new⟩
theorem Rt.drew {w v : World} {g : Nat} (h : Rt w g v) : Rt w g v.drew := h.below (Below.refl _ _).drew
theorem Tb.drew {w : World} (h : Tb w) : Tb w.drew := ⟨h.row⟩
theorem Rt.row {w v : World} {g : Nat} (h : Rt w g v) (cs : Array Value) : (v.setRow g cs).heap[g]? = some (.cells cs 30 (0, 0)) := by
  simp [World.setRow, Array.getElem?_modify, h.blk]
theorem Rt.done {w v : World} {g : Nat} (h : Rt w g v) (cs : Array Value) : Below w.heap.size w (v.setRow g cs) := Below.setRow h.bel h.new cs

theorem Rt.six {w v : World} {g : Nat} (h : Rt w g v) (x0 x1 x2 x3 x4 x5 : Value) :
    ((((((v.setCell ⟨g, 0, none⟩ x0).setCell ⟨g, 1, none⟩ x1).setCell ⟨g, 2, none⟩ x2).setCell ⟨g, 3, none⟩ x3).setCell ⟨g, 4, none⟩ x4).setCell ⟨g, 5, none⟩ x5).drew.heap[g]? = some (.cells #[x0, x1, x2, x3, x4, x5] 30 (0, 0)) ∧
    Below w.heap.size w ((((((v.setCell ⟨g, 0, none⟩ x0).setCell ⟨g, 1, none⟩ x1).setCell ⟨g, 2, none⟩ x2).setCell ⟨g, 3, none⟩ x3).setCell ⟨g, 4, none⟩ x4).setCell ⟨g, 5, none⟩ x5).drew := by
  refine ⟨?_, ((((((h.bel.setCell h.new _).setCell h.new _).setCell h.new _).setCell h.new _).setCell h.new _).setCell h.new _).drew⟩
  simp [World.drew, World.setCell, Array.getElem?_modify, h.blk, z6]

/-- the place that lies o bytes behind the first address of slab s of class c -/
def plO (c s o : Int) : Value :=
  if pg c * 1024 ≤ o then pl 1 c s 0 0 0
  else if sl c * sz c ≤ o then pl 2 c s 0 0 (o - sl c * sz c)
  else pl 3 c s (o / sz c) 0 (o % sz c)

set_option maxHeartbeats 1000000 in
theorem im_placeInRegion (c b : Int) (w : World) (ht : Tb w) (h : 0 ≤ c ∧ c < 12) (h0 : 0 ≤ b) (h1 : b < 6 * ((pg c + 1) * 1024)) :
    Calls Tryd.prog 35 #[.int .i64 c, .int .i64 b] w fun e w' => e = .returned (plO c (b / ((pg c + 1) * 1024)) (b % ((pg c + 1) * 1024))) ∧ Below w.heap.size w w' := by
  have R1 := hid (Rt.first w)
  have T1 := hid (ht.below R1.out.bel)
  have HX := hid (im_slabExtent c)
  have HG := hid (im_SlabPages c)
  have HZ := hid (im_SlotSize c)
  have HL := hid (im_SlabSlots c)
  have hs := sz_in h
  have hp := pg_in h
  have hl := sl_in h
  have hq : 0 ≤ b / ((pg c + 1) * 1024) ∧ b / ((pg c + 1) * 1024) ≤ 6 := by
    have : pg c = 1 ∨ pg c = 2 ∨ pg c = 3 ∨ pg c = 4 := by omega
    rcases this with e | e | e | e <;> rw [e] at h1 ⊢ <;> omega
  have hr : 0 ≤ b % ((pg c + 1) * 1024) ∧ b % ((pg c + 1) * 1024) < (pg c + 1) * 1024 := by
    have : pg c = 1 ∨ pg c = 2 ∨ pg c = 3 ∨ pg c = 4 := by omega
    rcases this with e | e | e | e <;> rw [e] <;> omega
  have hb : b < 30720 := by omega
  unfold plO
  clear ht
  have hm : 0 ≤ sl c * sz c ∧ sl c * sz c ≤ pg c * 1024 := ⟨Int.mul_nonneg (by omega) (by omega), hl.2.2.2⟩
  have hl' : 4 ≤ sl c ∧ sl c ≤ 64 := ⟨hl.1, hl.2.1⟩
  clear hl h1
  generalize sz c = s at *
  generalize sl c = l at *
  generalize pg c = p at *
  unfold z6 at *
  go_enter Tryd.func35, Tryd.ntmps35
  go_wp2_with fail
  generalize w.alloc (Obj.cells #[Value.int IntKind.i64 0, Value.int IntKind.i64 0, Value.int IntKind.i64 0, Value.int IntKind.i64 0, Value.int IntKind.i64 0, Value.int IntKind.i64 0] 30) = v at R1 T1 ⊢
  generalize w.heap.size = g at R1 ⊢
  refine (HX.out _ T1.out).mono ?_
  rintro e w' ⟨rfl, rfl⟩
  go_wp2_with fail
  go_region
  have R2 := hid R1.out.drew
  have T2 := hid T1.out.drew
  clear R1 T1
  generalize w'.drew = v2 at R2 T2 ⊢
  go_wp2_with fail
  refine (HG.out _ T2.out).mono ?_
  rintro e w' ⟨rfl, rfl⟩
  have RD := hid R2.out.done
  have RR := hid R2.out.row
  have RB := hid R2.out.blk
  have R6 := hid R2.out.six
  clear R2
  by_cases t1 : p * 1024 ≤ b % ((p + 1) * 1024)
  · go_wp2_with (refine wpList_store_row rfl 30 _ _ rfl g _ rfl rfl 30 z6 RB.out (by kernel_rfl) rfl (by simp [Value.oneCell']) ?_)
    refine bodyPost_ret (results_cell_row (by rfl) _ _ g 30 _ (0, 0) _ (by rfl) (RR.out _) Tryd.underlying30 rfl (by kernel_rfl)) (by rfl) ?_
    exact ⟨rfl, RD.out _⟩
  · have t1' : b % ((p + 1) * 1024) < p * 1024 := by omega
    go_wp2_with fail
    refine (HZ.out _ T2.out).mono ?_
    rintro e w' ⟨rfl, rfl⟩
    go_wp2_with fail
    refine (HL.out _ T2.out).mono ?_
    rintro e w' ⟨rfl, rfl⟩
    by_cases t2 : l * s ≤ b % ((p + 1) * 1024)
    · go_wp2_with (refine wpList_store_row rfl 30 _ _ rfl g _ rfl rfl 30 z6 RB.out (by kernel_rfl) rfl (by simp [Value.oneCell']) ?_)
      refine bodyPost_ret (results_cell_row (by rfl) _ _ g 30 _ (0, 0) _ (by rfl) (RR.out _) Tryd.underlying30 rfl (by kernel_rfl)) (by rfl) ?_
      exact ⟨rfl, RD.out _⟩
    · have t2' : b % ((p + 1) * 1024) < l * s := by omega
      have hd : 0 ≤ b % ((p + 1) * 1024) / s ∧ b % ((p + 1) * 1024) / s ≤ 4096 := ⟨Int.ediv_nonneg hr.1 (by omega), Int.le_trans (Int.ediv_le_self _ hr.1) (by omega)⟩
      have he : 0 ≤ b % ((p + 1) * 1024) % s ∧ b % ((p + 1) * 1024) % s < s := ⟨Int.emod_nonneg _ (by omega), Int.emod_lt_of_pos _ (by omega)⟩
      have cc : ∀ i, i < 6 → w'.cell? ⟨g, i, none⟩ = some (.int .i64 0) := fun i hi => by
        have : i = 0 ∨ i = 1 ∨ i = 2 ∨ i = 3 ∨ i = 4 ∨ i = 5 := by omega
        rcases this with rfl | rfl | rfl | rfl | rfl | rfl <;> simp [World.cell?, RB.out, z6]
      have ff : ∀ i, w'.frozen? ⟨g, i, none⟩ = false := fun i => by simp [World.frozen?, RB.out]
      have c0 := cc 0 (by omega)
      have c1 := cc 1 (by omega)
      have c2 := cc 2 (by omega)
      have c3 := cc 3 (by omega)
      have c4 := cc 4 (by omega)
      have c5 := cc 5 (by omega)
      have f0 := ff 0
      have f1 := ff 1
      have f2 := ff 2
      have f3 := ff 3
      have f4 := ff 4
      have f5 := ff 5
      clear cc ff
      go_wp2
      go_region
      go_wp2
      refine bodyPost_ret (results_cell_row (by rfl) _ _ g 30 _ (0, 0) _ (by rfl) (R6.out _ _ _ _ _ _).1 Tryd.underlying30 rfl (by kernel_rfl)) (by rfl) ?_
      exact ⟨rfl, (R6.out _ _ _ _ _ _).2⟩
end Go.Proofs.YtonnkllaiipjoaaDoor
