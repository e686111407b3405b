import Derived.Test.YtonnkllaiipjoaaDoorRgB
import Derived.Laws.Tables
import Derived.Laws.Rows
import Derived.Deep.RegionWith
namespace Go.Proofs.YtonnkllaiipjoaaDoor
open Go.ChangeShapes Go.WideShapes Go.ChangeAt Go.RowKit
set_option linter.unusedVariables false

/-- the first pages as far as class k -/
def stA (k : Nat) : Array Value := ((List.range 13).map fun j => Value.int .i64 (if j ≤ k then rsN j else 0)).toArray
theorem stA_size (k : Nat) : (stA k).size = 13 := by simp [stA]
theorem stA_get (k j : Nat) (h : j < 13) : (stA k)[j]? = some (.int .i64 (if j ≤ k then rsN j else 0)) := by
  simp [stA, h]
theorem stA_set (k : Nat) : (stA k).setIfInBounds (k + 1) (.int .i64 (rsN (k + 1))) = stA (k + 1) := by
  apply Array.ext
  · simp [stA]
  · intro i h1 h2
    have hi : i < 13 := by simpa [stA] using h2
    rw [Array.getElem_setIfInBounds (by simpa [stA] using h2)]
    simp only [stA, List.getElem_toArray, List.getElem_map, List.getElem_range]
    by_cases hne : k + 1 = i
    · subst hne; simp
    · have e : (i ≤ k) ↔ (i ≤ k + 1) := by omega
      simp [e, hne]
theorem stA_0 : stA 0 = #[Value.int IntKind.i64 1, Value.int IntKind.i64 0, Value.int IntKind.i64 0, Value.int IntKind.i64 0, Value.int IntKind.i64 0, Value.int IntKind.i64 0, Value.int IntKind.i64 0, Value.int IntKind.i64 0, Value.int IntKind.i64 0, Value.int IntKind.i64 0, Value.int IntKind.i64 0, Value.int IntKind.i64 0, Value.int IntKind.i64 0] := by kernel_rfl
def zeroA : Array Value := #[Value.int IntKind.i64 0, Value.int IntKind.i64 0, Value.int IntKind.i64 0, Value.int IntKind.i64 0, Value.int IntKind.i64 0, Value.int IntKind.i64 0, Value.int IntKind.i64 0, Value.int IntKind.i64 0, Value.int IntKind.i64 0, Value.int IntKind.i64 0, Value.int IntKind.i64 0, Value.int IntKind.i64 0, Value.int IntKind.i64 0]

theorem al_last (w : World) (o : Obj) : (w.alloc o).heap[w.heap.size]? = some o := (MapKept.heap_alloc w o).1
theorem al_old (w : World) (o : Obj) (k : Nat) (h : k < w.heap.size) : (w.alloc o).heap[k]? = w.heap[k]? := (MapKept.heap_alloc w o).2 k h
theorem al_size (w : World) (o : Obj) : (w.alloc o).heap.size = w.heap.size + 1 := by
  have e : (w.alloc o).heap = w.heap.push o := rfl
  rw [e, Array.size_push]

theorem Below.setRow {B : Nat} {a w : World} (h : Below B a w) {g : Nat} (hg : B ≤ g) (cs : Array Value) : Below B a (w.setRow g cs) := by
  refine h.trans ⟨rfl, rfl, rfl, by simp [World.setRow], fun k hk => ?_⟩
  have : g ≠ k := by omega
  simp [World.setRow, Array.getElem?_modify, this]

set_option maxHeartbeats 1000000 in
theorem im_regionStarts (w : World) (ht : Tb w) :
    Calls Tryd.prog 34 #[] w fun e w' => e = .returned (.agg (stA 12)) ∧ Below w.heap.size w w' := by
  have HP : Hid (∀ (c : Int) w, Tb w → _) := fun c w h => im_RegionPages c w h
  have HT := hid ht
  clear ht
  go_enter Tryd.func34, Tryd.ntmps34
  go_wp2
  go_loopw [4] (fun i wr => ∃ k : Nat, k ≤ 12 ∧ i = .int .i64 k ∧ Hid (wr.heap[w.heap.size]? = some (.cells zeroA 46 (0, 0)) ∧ wr.heap[w.heap.size + 1]? = some (.cells (stA k) 46 (0, 0)) ∧ Below w.heap.size w wr)) (fun i _ => 12 - (intOf i).toNat)
  case atStart =>
    refine ⟨0, by omega, rfl, ?_, ?_, ?_⟩
    · rw [al_old _ _ _ (by rw [al_size]; omega)]; exact al_last _ _
    · rw [stA_0, ← al_size w]; exact al_last _ _
    · exact ((Below.refl _ _).alloc (Nat.le_refl _) _).alloc (by rw [al_size]; omega) _
  case round =>
    obtain ⟨k, hk, rfl, HH⟩ := hrel
    by_cases hlt : k < 12
    · have hn := rsN_le k
      have hr := rp_le (k : Int)
      have c1 : wr.cell? ⟨w.heap.size + 1, k, none⟩ = some (.int .i64 (rsN k)) := by
        simp [World.cell?, HH.out.2.1, stA_get k k (by omega)]
      have c2 : wr.cell? ⟨w.heap.size + 1, k + 1, none⟩ = some (.int .i64 0) := by
        simp [World.cell?, HH.out.2.1, stA_get k (k + 1) (by omega)]
        intro h; omega
      have f2 : wr.frozen? ⟨w.heap.size + 1, k + 1, none⟩ = false := by
        simp [World.frozen?, HH.out.2.1]
      have HC : Hid (∀ W : World, W.heap = wr.heap → Calls Tryd.prog 24 #[.int .i64 (k : Int)] W fun e w' => e = .returned (.int .i64 (rp (k : Int))) ∧ w' = W) := fun W hW => HP.out _ W (by
        obtain ⟨t, fr, h⟩ := (HT.out.below HH.out.2.2).row
        exact ⟨t, fr, by rw [hW]; exact h⟩)
      have HN := hid (show rsN (k + 1) = rsN k + rp (k : Int) from rfl)
      generalize rsN k = a at hn c1 HN
      generalize rp (k : Int) = b at hr HC HN
      go_wp2
      go_region_with (go_at_call 24; refine (HC.out _ ?_).mono ?_; exact rfl; rintro e w' ⟨rfl, rfl⟩)
      all_goals
        go_wp2
        go_roundw
        case rel =>
          refine ⟨k + 1, by omega, by go_num, ?_, ?_, ?_⟩
          · have h1 := HH.out.1
            simp [World.setCell, Array.getElem?_modify, World.drew, h1]
          · have h2 := HH.out.2.1
            rw [← stA_set, HN.out]
            simp [World.setCell, Array.getElem?_modify, World.drew, h2]
          · exact HH.out.2.2.drew.setCell (p := ⟨w.heap.size + 1, k + 1, none⟩) (by simp) _
        case measure => simp [intOf]; omega
    · obtain rfl : k = 12 := by omega
      have h1 := hid HH.out.1
      have h2 := hid HH.out.2.1
      have HB := hid (Below.setRow HH.out.2.2 (Nat.le_refl _) (stA 12))
      have HR : Hid ((wr.setRow w.heap.size (stA 12)).heap[w.heap.size]? = some (.cells (stA 12) 46 (0, 0))) := by
        have := h1.out
        exact hid (by simp [World.setRow, Array.getElem?_modify, this])
      have hall := hid (show (stA 12).all (·.oneCell') = true by kernel_rfl)
      go_wp2_with (first | refine wpList_load_row rfl 46 _ rfl _ rfl _ _ _ _ h2.out Tryd.underlying46 rfl (by kernel_rfl) ?_ | refine wpList_store_row rfl 46 _ _ rfl _ _ rfl rfl _ _ h1.out (by kernel_rfl) (by rw [stA_size]; rfl) hall.out ?_)
      refine bodyPost_ret (results_cell_row (by rfl) _ _ w.heap.size 46 (stA 12) (0, 0) _ (by rfl) HR.out Tryd.underlying46 rfl (by kernel_rfl)) (by rfl) ?_
      exact ⟨rfl, HB.out⟩
end Go.Proofs.YtonnkllaiipjoaaDoor
