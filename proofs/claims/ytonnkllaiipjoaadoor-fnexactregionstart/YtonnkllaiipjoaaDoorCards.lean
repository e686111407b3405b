/-
  DERIVED. GIVEN WITH THE SEED: THE CARDS: each row of YtonnkllaiipjoaaDoorRows.lean that lists a variable, with what it lists TIED to the program's text (the seventh form; the later family's looks); each row that meets fmt, with fmt's text TOLD by the authors' own Lean function (tested against real Go, not proved from fmt's source: count such statements apart). THE CARD IS WHAT COUNTS. Prove the row's statement (the work); the ties are given (YtonnkllaiipjoaaDoorTie.lean); close each card by the builder's one call (the guide's Derived/Test/ToyasCard.lean, 'card_holds'). Laid BY PROGRAM, IN A SANDBOX (cutbox-door.mjs). By AI agents, Wed Nov 11 2026. No macro, syntax, notation, axiom, sorry.
-/
import Derived.Test.YtonnkllaiipjoaaDoorRows
import GoSem.ClaimSeven
namespace Go.Proofs.YtonnkllaiipjoaaDoor
namespace Rows

/-- THE TIED CARD OF 'laws.FnPlaces'. -/
def fnPlacesCard : Claim7 := { stood := { row := fnPlacesRow, standIns := [], harness := (true, "5658d3b10528154206242d70cf04ea5d9352f983baec51ee690671b18efe78a9"), looks := false }, kinds := [], alts := [], laidByText := true, laidKinds := [.data], laidTests := true, laidLooks := .later }
def FnPlacesCardSaid : Prop := Claim7.holds Tryd.pinned (.plain (OpenSpec.ofChange fnPlacesSpec)) fnPlacesCard

/-- THE TIED CARD OF 'laws.FnExactRegionStart'. -/
def fnExactRegionStartCard : Claim7 := { stood := { row := fnExactRegionStartRow, standIns := [], harness := (true, "5658d3b10528154206242d70cf04ea5d9352f983baec51ee690671b18efe78a9"), looks := false }, kinds := [], alts := [], laidByText := true, laidKinds := [.data], laidTests := true, laidLooks := .later }
def FnExactRegionStartCardSaid : Prop := Claim7.holds Tryd.pinned (.plain (OpenSpec.ofChange fnExactRegionStartSpec)) fnExactRegionStartCard

/-- THE TIED CARD OF 'laws.FnExactRegionPages'. -/
def fnExactRegionPagesCard : Claim7 := { stood := { row := fnExactRegionPagesRow, standIns := [], harness := (true, "5658d3b10528154206242d70cf04ea5d9352f983baec51ee690671b18efe78a9"), looks := false }, kinds := [], alts := [], laidByText := true, laidKinds := [.data], laidTests := true, laidLooks := .later }
def FnExactRegionPagesCardSaid : Prop := Claim7.holds Tryd.pinned (.plain (OpenSpec.ofChange fnExactRegionPagesSpec)) fnExactRegionPagesCard

/-- THE TIED CARD OF 'laws.FnExactLargeStart'. -/
def fnExactLargeStartCard : Claim7 := { stood := { row := fnExactLargeStartRow, standIns := [], harness := (true, "5658d3b10528154206242d70cf04ea5d9352f983baec51ee690671b18efe78a9"), looks := false }, kinds := [], alts := [], laidByText := true, laidKinds := [.data], laidTests := true, laidLooks := .later }
def FnExactLargeStartCardSaid : Prop := Claim7.holds Tryd.pinned (.plain (OpenSpec.ofChange fnExactLargeStartSpec)) fnExactLargeStartCard

/-- THE TIED CARD OF 'laws.FnExactArenaPages'. -/
def fnExactArenaPagesCard : Claim7 := { stood := { row := fnExactArenaPagesRow, standIns := [], harness := (true, "5658d3b10528154206242d70cf04ea5d9352f983baec51ee690671b18efe78a9"), looks := false }, kinds := [], alts := [], laidByText := true, laidKinds := [.data], laidTests := true, laidLooks := .later }
def FnExactArenaPagesCardSaid : Prop := Claim7.holds Tryd.pinned (.plain (OpenSpec.ofChange fnExactArenaPagesSpec)) fnExactArenaPagesCard

/-- THE TIED CARD OF 'laws.FnExactDecode'. -/
def fnExactDecodeCard : Claim7 := { stood := { row := fnExactDecodeRow, standIns := [], harness := (true, "5658d3b10528154206242d70cf04ea5d9352f983baec51ee690671b18efe78a9"), looks := false }, kinds := [], alts := [], laidByText := true, laidKinds := [.data], laidTests := true, laidLooks := .later }
def FnExactDecodeCardSaid : Prop := Claim7.holds Tryd.pinned (.plain (OpenSpec.ofChange fnExactDecodeSpec)) fnExactDecodeCard

/-- THE TIED CARD OF 'laws.FnExactSlotAddr'. -/
def fnExactSlotAddrCard : Claim7 := { stood := { row := fnExactSlotAddrRow, standIns := [], harness := (true, "5658d3b10528154206242d70cf04ea5d9352f983baec51ee690671b18efe78a9"), looks := false }, kinds := [], alts := [], laidByText := true, laidKinds := [.data], laidTests := true, laidLooks := .later }
def FnExactSlotAddrCardSaid : Prop := Claim7.holds Tryd.pinned (.plain (OpenSpec.ofChange fnExactSlotAddrSpec)) fnExactSlotAddrCard

/-- THE SECOND FORM's CARD OF 'laws.FnPlaces'. -/
def fnPlacesUptoCard : Claim7 := { stood := { row := fnPlacesUptoRow, standIns := [], harness := (true, "5658d3b10528154206242d70cf04ea5d9352f983baec51ee690671b18efe78a9"), looks := false }, kinds := [], alts := [], laidByText := true, laidKinds := [.data], laidTests := true, laidLooks := .later }
def FnPlacesUptoCardSaid : Prop := Claim7.holds Tryd.pinned (.plain (OpenSpec.upto fnPlacesSpec)) fnPlacesUptoCard

/-- THE SECOND FORM's CARD OF 'laws.FnExactRegionStart'. -/
def fnExactRegionStartUptoCard : Claim7 := { stood := { row := fnExactRegionStartUptoRow, standIns := [], harness := (true, "5658d3b10528154206242d70cf04ea5d9352f983baec51ee690671b18efe78a9"), looks := false }, kinds := [], alts := [], laidByText := true, laidKinds := [.data], laidTests := true, laidLooks := .later }
def FnExactRegionStartUptoCardSaid : Prop := Claim7.holds Tryd.pinned (.plain (OpenSpec.upto fnExactRegionStartSpec)) fnExactRegionStartUptoCard

/-- THE SECOND FORM's CARD OF 'laws.FnExactRegionPages'. -/
def fnExactRegionPagesUptoCard : Claim7 := { stood := { row := fnExactRegionPagesUptoRow, standIns := [], harness := (true, "5658d3b10528154206242d70cf04ea5d9352f983baec51ee690671b18efe78a9"), looks := false }, kinds := [], alts := [], laidByText := true, laidKinds := [.data], laidTests := true, laidLooks := .later }
def FnExactRegionPagesUptoCardSaid : Prop := Claim7.holds Tryd.pinned (.plain (OpenSpec.upto fnExactRegionPagesSpec)) fnExactRegionPagesUptoCard

/-- THE SECOND FORM's CARD OF 'laws.FnExactLargeStart'. -/
def fnExactLargeStartUptoCard : Claim7 := { stood := { row := fnExactLargeStartUptoRow, standIns := [], harness := (true, "5658d3b10528154206242d70cf04ea5d9352f983baec51ee690671b18efe78a9"), looks := false }, kinds := [], alts := [], laidByText := true, laidKinds := [.data], laidTests := true, laidLooks := .later }
def FnExactLargeStartUptoCardSaid : Prop := Claim7.holds Tryd.pinned (.plain (OpenSpec.upto fnExactLargeStartSpec)) fnExactLargeStartUptoCard

/-- THE SECOND FORM's CARD OF 'laws.FnExactArenaPages'. -/
def fnExactArenaPagesUptoCard : Claim7 := { stood := { row := fnExactArenaPagesUptoRow, standIns := [], harness := (true, "5658d3b10528154206242d70cf04ea5d9352f983baec51ee690671b18efe78a9"), looks := false }, kinds := [], alts := [], laidByText := true, laidKinds := [.data], laidTests := true, laidLooks := .later }
def FnExactArenaPagesUptoCardSaid : Prop := Claim7.holds Tryd.pinned (.plain (OpenSpec.upto fnExactArenaPagesSpec)) fnExactArenaPagesUptoCard

/-- THE SECOND FORM's CARD OF 'laws.FnExactDecode'. -/
def fnExactDecodeUptoCard : Claim7 := { stood := { row := fnExactDecodeUptoRow, standIns := [], harness := (true, "5658d3b10528154206242d70cf04ea5d9352f983baec51ee690671b18efe78a9"), looks := false }, kinds := [], alts := [], laidByText := true, laidKinds := [.data], laidTests := true, laidLooks := .later }
def FnExactDecodeUptoCardSaid : Prop := Claim7.holds Tryd.pinned (.plain (OpenSpec.upto fnExactDecodeSpec)) fnExactDecodeUptoCard

/-- THE SECOND FORM's CARD OF 'laws.FnExactSlotAddr'. -/
def fnExactSlotAddrUptoCard : Claim7 := { stood := { row := fnExactSlotAddrUptoRow, standIns := [], harness := (true, "5658d3b10528154206242d70cf04ea5d9352f983baec51ee690671b18efe78a9"), looks := false }, kinds := [], alts := [], laidByText := true, laidKinds := [.data], laidTests := true, laidLooks := .later }
def FnExactSlotAddrUptoCardSaid : Prop := Claim7.holds Tryd.pinned (.plain (OpenSpec.upto fnExactSlotAddrSpec)) fnExactSlotAddrUptoCard
end Rows
end Go.Proofs.YtonnkllaiipjoaaDoor
