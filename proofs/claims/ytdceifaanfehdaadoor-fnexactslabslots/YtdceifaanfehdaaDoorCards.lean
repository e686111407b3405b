/-
  DERIVED. GIVEN WITH THE SEED: THE CARDS: each row of YtdceifaanfehdaaDoorRows.lean that lists a variable, with what it lists TIED to the program's text (the seventh form; the later family's looks); each row that meets fmt, with fmt's text TOLD by the authors' own Lean function (tested against real Go, not proved from fmt's source: count such statements apart). THE CARD IS WHAT COUNTS. Prove the row's statement (the work); the ties are given (YtdceifaanfehdaaDoorTie.lean); close each card by the builder's one call (the guide's Derived/Test/ToyasCard.lean, 'card_holds'). Laid BY PROGRAM, IN A SANDBOX (cutbox-door.mjs). By AI agents, Wed Nov 11 2026. No macro, syntax, notation, axiom, sorry.
-/
import Derived.Test.YtdceifaanfehdaaDoorRows
import GoSem.ClaimSeven
namespace Go.Proofs.YtdceifaanfehdaaDoor
namespace Rows

/-- THE TIED CARD OF 'laws.FnClasses'. -/
def fnClassesCard : Claim7 := { stood := { row := fnClassesRow, standIns := [], harness := (true, "b2e4bfd2275a0983d35c1cea12e3e07308b3c3d63de32cd1df014ca0669c15e6"), looks := false }, kinds := [], alts := [], laidByText := true, laidKinds := [.data], laidTests := true, laidLooks := .later }
def FnClassesCardSaid : Prop := Claim7.holds Tryd.pinned (.plain (OpenSpec.ofChange fnClassesSpec)) fnClassesCard

/-- THE TIED CARD OF 'laws.FnExactClassOf'. -/
def fnExactClassOfCard : Claim7 := { stood := { row := fnExactClassOfRow, standIns := [], harness := (true, "b2e4bfd2275a0983d35c1cea12e3e07308b3c3d63de32cd1df014ca0669c15e6"), looks := false }, kinds := [], alts := [], laidByText := true, laidKinds := [.data], laidTests := true, laidLooks := .later }
def FnExactClassOfCardSaid : Prop := Claim7.holds Tryd.pinned (.plain (OpenSpec.ofChange fnExactClassOfSpec)) fnExactClassOfCard

/-- THE TIED CARD OF 'laws.FnExactSlotSize'. -/
def fnExactSlotSizeCard : Claim7 := { stood := { row := fnExactSlotSizeRow, standIns := [], harness := (true, "b2e4bfd2275a0983d35c1cea12e3e07308b3c3d63de32cd1df014ca0669c15e6"), looks := false }, kinds := [], alts := [], laidByText := true, laidKinds := [.data], laidTests := true, laidLooks := .later }
def FnExactSlotSizeCardSaid : Prop := Claim7.holds Tryd.pinned (.plain (OpenSpec.ofChange fnExactSlotSizeSpec)) fnExactSlotSizeCard

/-- THE TIED CARD OF 'laws.FnExactSlabPages'. -/
def fnExactSlabPagesCard : Claim7 := { stood := { row := fnExactSlabPagesRow, standIns := [], harness := (true, "b2e4bfd2275a0983d35c1cea12e3e07308b3c3d63de32cd1df014ca0669c15e6"), looks := false }, kinds := [], alts := [], laidByText := true, laidKinds := [.data], laidTests := true, laidLooks := .later }
def FnExactSlabPagesCardSaid : Prop := Claim7.holds Tryd.pinned (.plain (OpenSpec.ofChange fnExactSlabPagesSpec)) fnExactSlabPagesCard

/-- THE TIED CARD OF 'laws.FnExactSlabSlots'. -/
def fnExactSlabSlotsCard : Claim7 := { stood := { row := fnExactSlabSlotsRow, standIns := [], harness := (true, "b2e4bfd2275a0983d35c1cea12e3e07308b3c3d63de32cd1df014ca0669c15e6"), looks := false }, kinds := [], alts := [], laidByText := true, laidKinds := [.data], laidTests := true, laidLooks := .later }
def FnExactSlabSlotsCardSaid : Prop := Claim7.holds Tryd.pinned (.plain (OpenSpec.ofChange fnExactSlabSlotsSpec)) fnExactSlabSlotsCard

/-- THE TIED CARD OF 'laws.FnExactUsable'. -/
def fnExactUsableCard : Claim7 := { stood := { row := fnExactUsableRow, standIns := [], harness := (true, "b2e4bfd2275a0983d35c1cea12e3e07308b3c3d63de32cd1df014ca0669c15e6"), looks := false }, kinds := [], alts := [], laidByText := true, laidKinds := [.data], laidTests := true, laidLooks := .later }
def FnExactUsableCardSaid : Prop := Claim7.holds Tryd.pinned (.plain (OpenSpec.ofChange fnExactUsableSpec)) fnExactUsableCard

/-- THE SECOND FORM's CARD OF 'laws.FnClasses'. -/
def fnClassesUptoCard : Claim7 := { stood := { row := fnClassesUptoRow, standIns := [], harness := (true, "b2e4bfd2275a0983d35c1cea12e3e07308b3c3d63de32cd1df014ca0669c15e6"), looks := false }, kinds := [], alts := [], laidByText := true, laidKinds := [.data], laidTests := true, laidLooks := .later }
def FnClassesUptoCardSaid : Prop := Claim7.holds Tryd.pinned (.plain (OpenSpec.upto fnClassesSpec)) fnClassesUptoCard

/-- THE SECOND FORM's CARD OF 'laws.FnExactClassOf'. -/
def fnExactClassOfUptoCard : Claim7 := { stood := { row := fnExactClassOfUptoRow, standIns := [], harness := (true, "b2e4bfd2275a0983d35c1cea12e3e07308b3c3d63de32cd1df014ca0669c15e6"), looks := false }, kinds := [], alts := [], laidByText := true, laidKinds := [.data], laidTests := true, laidLooks := .later }
def FnExactClassOfUptoCardSaid : Prop := Claim7.holds Tryd.pinned (.plain (OpenSpec.upto fnExactClassOfSpec)) fnExactClassOfUptoCard

/-- THE SECOND FORM's CARD OF 'laws.FnExactSlotSize'. -/
def fnExactSlotSizeUptoCard : Claim7 := { stood := { row := fnExactSlotSizeUptoRow, standIns := [], harness := (true, "b2e4bfd2275a0983d35c1cea12e3e07308b3c3d63de32cd1df014ca0669c15e6"), looks := false }, kinds := [], alts := [], laidByText := true, laidKinds := [.data], laidTests := true, laidLooks := .later }
def FnExactSlotSizeUptoCardSaid : Prop := Claim7.holds Tryd.pinned (.plain (OpenSpec.upto fnExactSlotSizeSpec)) fnExactSlotSizeUptoCard

/-- THE SECOND FORM's CARD OF 'laws.FnExactSlabPages'. -/
def fnExactSlabPagesUptoCard : Claim7 := { stood := { row := fnExactSlabPagesUptoRow, standIns := [], harness := (true, "b2e4bfd2275a0983d35c1cea12e3e07308b3c3d63de32cd1df014ca0669c15e6"), looks := false }, kinds := [], alts := [], laidByText := true, laidKinds := [.data], laidTests := true, laidLooks := .later }
def FnExactSlabPagesUptoCardSaid : Prop := Claim7.holds Tryd.pinned (.plain (OpenSpec.upto fnExactSlabPagesSpec)) fnExactSlabPagesUptoCard

/-- THE SECOND FORM's CARD OF 'laws.FnExactSlabSlots'. -/
def fnExactSlabSlotsUptoCard : Claim7 := { stood := { row := fnExactSlabSlotsUptoRow, standIns := [], harness := (true, "b2e4bfd2275a0983d35c1cea12e3e07308b3c3d63de32cd1df014ca0669c15e6"), looks := false }, kinds := [], alts := [], laidByText := true, laidKinds := [.data], laidTests := true, laidLooks := .later }
def FnExactSlabSlotsUptoCardSaid : Prop := Claim7.holds Tryd.pinned (.plain (OpenSpec.upto fnExactSlabSlotsSpec)) fnExactSlabSlotsUptoCard

/-- THE SECOND FORM's CARD OF 'laws.FnExactUsable'. -/
def fnExactUsableUptoCard : Claim7 := { stood := { row := fnExactUsableUptoRow, standIns := [], harness := (true, "b2e4bfd2275a0983d35c1cea12e3e07308b3c3d63de32cd1df014ca0669c15e6"), looks := false }, kinds := [], alts := [], laidByText := true, laidKinds := [.data], laidTests := true, laidLooks := .later }
def FnExactUsableUptoCardSaid : Prop := Claim7.holds Tryd.pinned (.plain (OpenSpec.upto fnExactUsableSpec)) fnExactUsableUptoCard
end Rows
end Go.Proofs.YtdceifaanfehdaaDoor
