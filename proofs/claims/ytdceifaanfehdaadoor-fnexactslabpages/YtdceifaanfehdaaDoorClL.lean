import Derived.Test.YtdceifaanfehdaaDoorCards
import Derived.Test.YtdceifaanfehdaaDoorTie
import Derived.Test.YtdceifaanfehdaaDoorClA
import Derived.WalkKit
import Derived.ProofKit
import Derived.OpenShut
import Derived.ShutString
import Derived.ChangeOld
import Derived.ChangeVars
import Derived.Deep.DeepHandedRow
import Derived.Lib.LaidTab
namespace Go.Proofs.YtdceifaanfehdaaDoor
open Go.ChangeShapes Go.WideShapes Go.ChangeAt Go.RowKit
set_option linter.unusedVariables false

theorem own : ownKnob Tryd.prog.godebug = none := by kernel_rfl
theorem laidOut : laidOutB Tryd.prog = true := by kernel_rfl
theorem gTab : Tryd.prog.globalNamed "loop.example/s01868/impl.slotSizes" = some 0 := by kernel_rfl
theorem gTabType : (Tryd.prog.globals[0]?).map (·.type) = some 38 := by kernel_rfl
theorem cellsTab : Tryd.prog.cellsOf 38 = 12 := by kernel_rfl
theorem cellsInt : Tryd.prog.cellsOf 3 = 1 := by kernel_rfl

def szA : Array Value := (szs.map fun z => Value.int .i64 z).toArray
abbrev szD {H : Type} : DataW H := Rows.laid_loop_example_s01868_impl_slotSizes

/-- what the row's list gives: the table's cells -/
theorem table {W : World} (h : laidMetH Tryd.prog [("loop.example/s01868/impl.slotSizes", Rows.laid_loop_example_s01868_impl_slotSizes)] W) : Lib.TabIs Tryd.prog W "loop.example/s01868/impl.slotSizes" .i64 szs :=
  Lib.tabIs_of_head (rest := []) gTab gTabType Tryd.underlying38 Tryd.underlying3 cellsInt cellsTab h

theorem tb_of {W : World} (h : W.var? Tryd.prog "loop.example/s01868/impl.slotSizes" = some szA) : Tb W := by
  simp only [World.var?, gTab, Option.bind_some] at h
  split at h
  · rename_i c t fr hb
    simp only [Option.some.injEq] at h
    subst h
    exact ⟨t, fr, hb⟩
  · cases h

theorem reads_table {H : Type} (enc : TypeId × Value → H) (W : World) (sp : Nat → Bool) : DataW.trod enc Tryd.prog W 0 sp true 3 38 szA.toList = some (szD, []) := by kernel_rfl

theorem zero_lt {W : World} (h : Tb W) : 0 < W.heap.size := by
  obtain ⟨t, fr, h⟩ := h.row
  by_cases hl : 0 < W.heap.size
  · exact hl
  · have : W.heap[0]? = none := Array.getElem?_eq_none (by omega)
    rw [this] at h; cases h

/-- the variable reads behind the call as before -/
theorem vars_again {H : Type} (enc : TypeId × Value → H) {W W' : World} (hv : W.var? Tryd.prog "loop.example/s01868/impl.slotSizes" = some szA) (bel : Below W.heap.size W W') (sp : Nat → Bool) :
    DataW.TrodVars enc Tryd.prog W' sp ["loop.example/s01868/impl.slotSizes"] [szD] (MemPlace.row ⟨0, 0, none⟩ szA.size ++ [] ++ []) :=
  ⟨0, 38, szA, 3, [], [], gTab, gTabType, var?_below bel gTab (zero_lt (tb_of hv)) hv, reads_table enc W' sp, rfl, rfl⟩

/-- a world for the witness: the settled one, the table holding what its initialiser lays -/
noncomputable def laidWorld (os : Os) : World :=
  { World.holding Tryd.prog os ⟨#[], #[], []⟩ with heap := (World.holding Tryd.prog os ⟨#[], #[], []⟩).heap.modify 0 fun
      | .cells _ t frozen => .cells #[.int .i64 16, .int .i64 32, .int .i64 48, .int .i64 64, .int .i64 96, .int .i64 128, .int .i64 192, .int .i64 256, .int .i64 384, .int .i64 512, .int .i64 768, .int .i64 1024] t frozen
      | o => o }
end Go.Proofs.YtdceifaanfehdaaDoor
