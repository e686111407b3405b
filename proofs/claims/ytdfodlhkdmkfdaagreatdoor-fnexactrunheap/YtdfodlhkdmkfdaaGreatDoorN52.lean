import Derived.Test.YtdfodlhkdmkfdaaGreatDoorCards
import Derived.Test.YtdfodlhkdmkfdaaGreatDoorTie
import Derived.Test.YtdfodlhkdmkfdaaGreatDoorN00
import Derived.WalkKit
import Derived.ProofKit
import Derived.OpenShut
import Derived.ShutString
import Derived.ChangeOld
import Derived.ChangeVars
import Derived.Deep.DeepHandedRow
import Derived.Lib.LaidTab
namespace Go.Proofs.YtdfodlhkdmkfdaaGreatDoor
open Go.ChangeShapes Go.WideShapes Go.ChangeAt Go.RowKit
set_option linter.unusedVariables false
theorem own : ownKnob Tryz.prog.godebug = none := by kernel_rfl
theorem laidOut : laidOutB Tryz.prog = true := by kernel_rfl
theorem fu : Tryz.prog.globalNamed "loop.example/s01868/impl.slotSizes" = some 0 := by kernel_rfl
theorem ej : (Tryz.prog.globals[0]?).map (·.type) = some 259 := by kernel_rfl
theorem hC : Tryz.prog.cellsOf 259 = 12 := by kernel_rfl
theorem gS : Tryz.prog.cellsOf 3 = 1 := by kernel_rfl
def sw : Array Value := (zI.map fun z => Value.int .i64 z).toArray
abbrev nR {H : Type} : DataW H := Rows.laid_loop_example_s01868_impl_slotSizes
theorem table {W : World} (h : laidMetH Tryz.prog [("loop.example/s01868/impl.slotSizes", Rows.laid_loop_example_s01868_impl_slotSizes)] W) : Lib.TabIs Tryz.prog W "loop.example/s01868/impl.slotSizes" .i64 zI :=
  Lib.tabIs_of_head (rest := []) fu ej Tryz.underlying259 Tryz.underlying3 gS hC h
theorem ko {W : World} (h : W.var? Tryz.prog "loop.example/s01868/impl.slotSizes" = some sw) : Tb W := by
  simp only [World.var?, fu, Option.bind_some] at h
  split at h
  · rename_i c t fr hb
    simp only [FK] at h
    subst h
    exact ⟨t, fr, hb⟩
  · cases h
theorem eg {H : Type} (enc : TypeId × Value → H) (W : World) (sp : Nat → Bool) : DataW.trod enc Tryz.prog W 0 sp true 3 259 sw.toList = some (nR, []) := by kernel_rfl
theorem r7 {W : World} (h : Tb W) : 0 < W.heap.size := by
  obtain ⟨t, fr, h⟩ := h.row
  by_cases hl : 0 < W.heap.size
  · exact hl
  · have : W.heap[0]? = none := BC (by omega)
    rw [this] at h; cases h
theorem em {H : Type} (enc : TypeId × Value → H) {W W' : World} (hv : W.var? Tryz.prog "loop.example/s01868/impl.slotSizes" = some sw) (bel : Below W.heap.size W W') (sp : Nat → Bool) :
    DataW.TrodVars enc Tryz.prog W' sp ["loop.example/s01868/impl.slotSizes"] [nR] (MemPlace.row ⟨0, 0, none⟩ sw.size ++ [] ++ []) :=
  ⟨0, 259, sw, 3, [], [], fu, ej, var?_below bel fu (r7 (ko hv)) hv, eg enc W' sp, rfl, rfl⟩
noncomputable def laidWorld (os : Os) : World :=
  { World.holding Tryz.prog os ⟨#[], #[], []⟩ with heap := (World.holding Tryz.prog os ⟨#[], #[], []⟩).heap.modify 0 fun
      | .cells _ t frozen => .cells #[.int .i64 16, .int .i64 32, .int .i64 48, .int .i64 64, .int .i64 96, .int .i64 128, .int .i64 192, .int .i64 256, .int .i64 384, .int .i64 512, .int .i64 768, .int .i64 1024] t frozen
      | o => o }
end Go.Proofs.YtdfodlhkdmkfdaaGreatDoor
