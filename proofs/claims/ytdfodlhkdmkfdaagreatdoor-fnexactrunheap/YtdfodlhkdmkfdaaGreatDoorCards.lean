/-
  DERIVED. GIVEN WITH THE SEED: THE CARDS: each row of YtdfodlhkdmkfdaaGreatDoorRows.lean that lists a variable, with what it lists TIED to the program's text (the seventh form; the later family's looks); each row that meets fmt, with fmt's text TOLD by the authors' own Lean function (tested against real Go, not proved from fmt's source: count such statements apart). THE CARD IS WHAT COUNTS. Prove the row's statement (the work); the ties are given (YtdfodlhkdmkfdaaGreatDoorTie.lean); close each card by the builder's one call (the guide's Derived/Test/ToyasCard.lean, 'card_holds'). Laid BY PROGRAM, IN A SANDBOX (cutbox-door.mjs). By AI agents, Wed Nov 11 2026. No macro, syntax, notation, axiom, sorry.
-/
import Derived.Test.YtdfodlhkdmkfdaaGreatDoorRows
import GoSem.ClaimSeven
namespace Go.Proofs.YtdfodlhkdmkfdaaGreatDoor
namespace Rows

/-- THE TIED CARD OF 'laws.FnExactRunHeap'. -/
def fnExactRunHeapCard : Claim7 := { stood := { row := fnExactRunHeapRow, standIns := [], harness := (true, "985b6289e272765979f3c56f41875eae6476613d91b7ad58f74f6f380e034571"), looks := true }, kinds := [], alts := [], laidByText := true, laidKinds := [.data], laidTests := true, laidLooks := .later }
def FnExactRunHeapCardSaid : Prop := Claim7.holds Tryz.pinned (.plain (OpenSpec.ofChange fnExactRunHeapSpec)) fnExactRunHeapCard

/-- THE SECOND FORM's CARD OF 'laws.FnExactRunHeap'. -/
def fnExactRunHeapUptoCard : Claim7 := { stood := { row := fnExactRunHeapUptoRow, standIns := [], harness := (true, "985b6289e272765979f3c56f41875eae6476613d91b7ad58f74f6f380e034571"), looks := true }, kinds := [], alts := [], laidByText := true, laidKinds := [.data], laidTests := true, laidLooks := .later }
def FnExactRunHeapUptoCardSaid : Prop := Claim7.holds Tryz.pinned (.plain (OpenSpec.upto fnExactRunHeapSpec)) fnExactRunHeapUptoCard
end Rows
end Go.Proofs.YtdfodlhkdmkfdaaGreatDoor
