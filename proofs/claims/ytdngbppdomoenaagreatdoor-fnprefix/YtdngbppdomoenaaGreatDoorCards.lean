/-
  DERIVED. GIVEN WITH THE SEED: THE CARDS: each row of YtdngbppdomoenaaGreatDoorRows.lean that lists a variable, with what it lists TIED to the program's text (the seventh form; the later family's looks); each row that meets fmt, with fmt's text TOLD by the authors' own Lean function (tested against real Go, not proved from fmt's source: count such statements apart). THE CARD IS WHAT COUNTS. Prove the row's statement (the work); the ties are given (YtdngbppdomoenaaGreatDoorTie.lean); close each card by the builder's one call (the guide's Derived/Test/ToyasCard.lean, 'card_holds'). Laid BY PROGRAM, IN A SANDBOX (cutbox-door.mjs). By AI agents, Wed Nov 11 2026. No macro, syntax, notation, axiom, sorry.
-/
import Derived.Test.YtdngbppdomoenaaGreatDoorRows
import GoSem.ClaimSeven
namespace Go.Proofs.YtdngbppdomoenaaGreatDoor
namespace Rows

/-- THE TIED CARD OF 'laws.FnTop'. -/
def fnTopCard : Claim7 := { stood := { row := fnTopRow, standIns := [], harness := (true, "9d651f943c3f86c2a9fb0a39890239b572bb0b5631935d5ca89089263a15b521"), looks := true }, kinds := [], alts := [], laidByText := true, laidKinds := [.data], laidTests := true, laidLooks := .later }
def FnTopCardSaid : Prop := Claim7.holds Tryz.pinned (.plain (OpenSpec.ofChange fnTopSpec)) fnTopCard

/-- THE TIED CARD OF 'laws.FnOutOfLine'. -/
def fnOutOfLineCard : Claim7 := { stood := { row := fnOutOfLineRow, standIns := [], harness := (true, "9d651f943c3f86c2a9fb0a39890239b572bb0b5631935d5ca89089263a15b521"), looks := true }, kinds := [], alts := [], laidByText := true, laidKinds := [.data], laidTests := true, laidLooks := .later }
def FnOutOfLineCardSaid : Prop := Claim7.holds Tryz.pinned (.plain (OpenSpec.ofChange fnOutOfLineSpec)) fnOutOfLineCard

/-- THE TIED CARD OF 'laws.FnDouble'. -/
def fnDoubleCard : Claim7 := { stood := { row := fnDoubleRow, standIns := [], harness := (true, "9d651f943c3f86c2a9fb0a39890239b572bb0b5631935d5ca89089263a15b521"), looks := true }, kinds := [], alts := [], laidByText := true, laidKinds := [.data], laidTests := true, laidLooks := .later }
def FnDoubleCardSaid : Prop := Claim7.holds Tryz.pinned (.plain (OpenSpec.ofChange fnDoubleSpec)) fnDoubleCard

/-- THE TIED CARD OF 'laws.FnWithheld'. -/
def fnWithheldCard : Claim7 := { stood := { row := fnWithheldRow, standIns := [], harness := (true, "9d651f943c3f86c2a9fb0a39890239b572bb0b5631935d5ca89089263a15b521"), looks := true }, kinds := [], alts := [], laidByText := true, laidKinds := [.data], laidTests := true, laidLooks := .later }
def FnWithheldCardSaid : Prop := Claim7.holds Tryz.pinned (.plain (OpenSpec.ofChange fnWithheldSpec)) fnWithheldCard

/-- THE TIED CARD OF 'laws.FnZero'. -/
def fnZeroCard : Claim7 := { stood := { row := fnZeroRow, standIns := [], harness := (true, "9d651f943c3f86c2a9fb0a39890239b572bb0b5631935d5ca89089263a15b521"), looks := true }, kinds := [], alts := [], laidByText := true, laidKinds := [.data], laidTests := true, laidLooks := .later }
def FnZeroCardSaid : Prop := Claim7.holds Tryz.pinned (.plain (OpenSpec.ofChange fnZeroSpec)) fnZeroCard

/-- THE TIED CARD OF 'laws.FnPrefix'. -/
def fnPrefixCard : Claim7 := { stood := { row := fnPrefixRow, standIns := [], harness := (true, "9d651f943c3f86c2a9fb0a39890239b572bb0b5631935d5ca89089263a15b521"), looks := true }, kinds := [], alts := [], laidByText := true, laidKinds := [.data], laidTests := true, laidLooks := .later }
def FnPrefixCardSaid : Prop := Claim7.holds Tryz.pinned (.plain (OpenSpec.ofChange fnPrefixSpec)) fnPrefixCard

/-- THE TIED CARD OF 'laws.FnGuards'. -/
def fnGuardsCard : Claim7 := { stood := { row := fnGuardsRow, standIns := [], harness := (true, "9d651f943c3f86c2a9fb0a39890239b572bb0b5631935d5ca89089263a15b521"), looks := true }, kinds := [], alts := [], laidByText := true, laidKinds := [.data], laidTests := true, laidLooks := .later }
def FnGuardsCardSaid : Prop := Claim7.holds Tryz.pinned (.plain (OpenSpec.ofChange fnGuardsSpec)) fnGuardsCard

/-- THE SECOND FORM's CARD OF 'laws.FnTop'. -/
def fnTopUptoCard : Claim7 := { stood := { row := fnTopUptoRow, standIns := [], harness := (true, "9d651f943c3f86c2a9fb0a39890239b572bb0b5631935d5ca89089263a15b521"), looks := true }, kinds := [], alts := [], laidByText := true, laidKinds := [.data], laidTests := true, laidLooks := .later }
def FnTopUptoCardSaid : Prop := Claim7.holds Tryz.pinned (.plain (OpenSpec.upto fnTopSpec)) fnTopUptoCard

/-- THE SECOND FORM's CARD OF 'laws.FnOutOfLine'. -/
def fnOutOfLineUptoCard : Claim7 := { stood := { row := fnOutOfLineUptoRow, standIns := [], harness := (true, "9d651f943c3f86c2a9fb0a39890239b572bb0b5631935d5ca89089263a15b521"), looks := true }, kinds := [], alts := [], laidByText := true, laidKinds := [.data], laidTests := true, laidLooks := .later }
def FnOutOfLineUptoCardSaid : Prop := Claim7.holds Tryz.pinned (.plain (OpenSpec.upto fnOutOfLineSpec)) fnOutOfLineUptoCard

/-- THE SECOND FORM's CARD OF 'laws.FnDouble'. -/
def fnDoubleUptoCard : Claim7 := { stood := { row := fnDoubleUptoRow, standIns := [], harness := (true, "9d651f943c3f86c2a9fb0a39890239b572bb0b5631935d5ca89089263a15b521"), looks := true }, kinds := [], alts := [], laidByText := true, laidKinds := [.data], laidTests := true, laidLooks := .later }
def FnDoubleUptoCardSaid : Prop := Claim7.holds Tryz.pinned (.plain (OpenSpec.upto fnDoubleSpec)) fnDoubleUptoCard

/-- THE SECOND FORM's CARD OF 'laws.FnWithheld'. -/
def fnWithheldUptoCard : Claim7 := { stood := { row := fnWithheldUptoRow, standIns := [], harness := (true, "9d651f943c3f86c2a9fb0a39890239b572bb0b5631935d5ca89089263a15b521"), looks := true }, kinds := [], alts := [], laidByText := true, laidKinds := [.data], laidTests := true, laidLooks := .later }
def FnWithheldUptoCardSaid : Prop := Claim7.holds Tryz.pinned (.plain (OpenSpec.upto fnWithheldSpec)) fnWithheldUptoCard

/-- THE SECOND FORM's CARD OF 'laws.FnZero'. -/
def fnZeroUptoCard : Claim7 := { stood := { row := fnZeroUptoRow, standIns := [], harness := (true, "9d651f943c3f86c2a9fb0a39890239b572bb0b5631935d5ca89089263a15b521"), looks := true }, kinds := [], alts := [], laidByText := true, laidKinds := [.data], laidTests := true, laidLooks := .later }
def FnZeroUptoCardSaid : Prop := Claim7.holds Tryz.pinned (.plain (OpenSpec.upto fnZeroSpec)) fnZeroUptoCard

/-- THE SECOND FORM's CARD OF 'laws.FnPrefix'. -/
def fnPrefixUptoCard : Claim7 := { stood := { row := fnPrefixUptoRow, standIns := [], harness := (true, "9d651f943c3f86c2a9fb0a39890239b572bb0b5631935d5ca89089263a15b521"), looks := true }, kinds := [], alts := [], laidByText := true, laidKinds := [.data], laidTests := true, laidLooks := .later }
def FnPrefixUptoCardSaid : Prop := Claim7.holds Tryz.pinned (.plain (OpenSpec.upto fnPrefixSpec)) fnPrefixUptoCard

/-- THE SECOND FORM's CARD OF 'laws.FnGuards'. -/
def fnGuardsUptoCard : Claim7 := { stood := { row := fnGuardsUptoRow, standIns := [], harness := (true, "9d651f943c3f86c2a9fb0a39890239b572bb0b5631935d5ca89089263a15b521"), looks := true }, kinds := [], alts := [], laidByText := true, laidKinds := [.data], laidTests := true, laidLooks := .later }
def FnGuardsUptoCardSaid : Prop := Claim7.holds Tryz.pinned (.plain (OpenSpec.upto fnGuardsSpec)) fnGuardsUptoCard
end Rows
end Go.Proofs.YtdngbppdomoenaaGreatDoor
