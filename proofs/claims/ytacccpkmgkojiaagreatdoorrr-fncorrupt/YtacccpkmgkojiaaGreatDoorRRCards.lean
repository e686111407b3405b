/-
  DERIVED. GIVEN WITH THE SEED: THE CARDS: each row of YtacccpkmgkojiaaGreatDoorRRRows.lean that lists a variable, with what it lists TIED to the program's text (the seventh form; the later family's looks); each row that meets fmt, with fmt's text TOLD by the authors' own Lean function (tested against real Go, not proved from fmt's source: count such statements apart). THE CARD IS WHAT COUNTS. Prove the row's statement (the work); the ties are given (YtacccpkmgkojiaaGreatDoorRRTie.lean); close each card by the builder's one call (the guide's Derived/Test/ToyasCard.lean, 'card_holds'). Laid BY PROGRAM, IN A SANDBOX (cutbox-door.mjs). By AI agents, Wed Nov 11 2026. No macro, syntax, notation, axiom, sorry.
-/
import Derived.Test.YtacccpkmgkojiaaGreatDoorRRRows
import GoSem.ClaimSeven
namespace Go.Proofs.YtacccpkmgkojiaaGreatDoorRR
namespace Rows

/-- THE TIED CARD OF 'laws.FnOutOfLine'. -/
def fnOutOfLineCard : Claim7 := { stood := { row := fnOutOfLineRow, standIns := [], harness := (true, "53aaae13cad947207508d2e7bc1b247b5e268883cb3994cd180556122c353d0a"), looks := true }, kinds := [], alts := [], laidByText := true, laidKinds := [.data], laidTests := true, laidLooks := .later }
def FnOutOfLineCardSaid : Prop := Claim7.holds Tryz.pinned (.plain (OpenSpec.ofChange fnOutOfLineSpec)) fnOutOfLineCard

/-- THE TIED CARD OF 'laws.FnDouble'. -/
def fnDoubleCard : Claim7 := { stood := { row := fnDoubleRow, standIns := [], harness := (true, "53aaae13cad947207508d2e7bc1b247b5e268883cb3994cd180556122c353d0a"), looks := true }, kinds := [], alts := [], laidByText := true, laidKinds := [.data], laidTests := true, laidLooks := .later }
def FnDoubleCardSaid : Prop := Claim7.holds Tryz.pinned (.plain (OpenSpec.ofChange fnDoubleSpec)) fnDoubleCard

/-- THE TIED CARD OF 'laws.FnWithheld'. -/
def fnWithheldCard : Claim7 := { stood := { row := fnWithheldRow, standIns := [], harness := (true, "53aaae13cad947207508d2e7bc1b247b5e268883cb3994cd180556122c353d0a"), looks := true }, kinds := [], alts := [], laidByText := true, laidKinds := [.data], laidTests := true, laidLooks := .later }
def FnWithheldCardSaid : Prop := Claim7.holds Tryz.pinned (.plain (OpenSpec.ofChange fnWithheldSpec)) fnWithheldCard

/-- THE TIED CARD OF 'laws.FnCorrupt'. -/
def fnCorruptCard : Claim7 := { stood := { row := fnCorruptRow, standIns := [], harness := (true, "53aaae13cad947207508d2e7bc1b247b5e268883cb3994cd180556122c353d0a"), looks := true }, kinds := [], alts := [], laidByText := true, laidKinds := [.data], laidTests := true, laidLooks := .later }
def FnCorruptCardSaid : Prop := Claim7.holds Tryz.pinned (.plain (OpenSpec.ofChange fnCorruptSpec)) fnCorruptCard

/-- THE TIED CARD OF 'laws.FnRetired'. -/
def fnRetiredCard : Claim7 := { stood := { row := fnRetiredRow, standIns := [], harness := (true, "53aaae13cad947207508d2e7bc1b247b5e268883cb3994cd180556122c353d0a"), looks := true }, kinds := [], alts := [], laidByText := true, laidKinds := [.data], laidTests := true, laidLooks := .later }
def FnRetiredCardSaid : Prop := Claim7.holds Tryz.pinned (.plain (OpenSpec.ofChange fnRetiredSpec)) fnRetiredCard

/-- THE TIED CARD OF 'laws.FnZero'. -/
def fnZeroCard : Claim7 := { stood := { row := fnZeroRow, standIns := [], harness := (true, "53aaae13cad947207508d2e7bc1b247b5e268883cb3994cd180556122c353d0a"), looks := true }, kinds := [], alts := [], laidByText := true, laidKinds := [.data], laidTests := true, laidLooks := .later }
def FnZeroCardSaid : Prop := Claim7.holds Tryz.pinned (.plain (OpenSpec.ofChange fnZeroSpec)) fnZeroCard

/-- THE TIED CARD OF 'laws.FnPrefix'. -/
def fnPrefixCard : Claim7 := { stood := { row := fnPrefixRow, standIns := [], harness := (true, "53aaae13cad947207508d2e7bc1b247b5e268883cb3994cd180556122c353d0a"), looks := true }, kinds := [], alts := [], laidByText := true, laidKinds := [.data], laidTests := true, laidLooks := .later }
def FnPrefixCardSaid : Prop := Claim7.holds Tryz.pinned (.plain (OpenSpec.ofChange fnPrefixSpec)) fnPrefixCard

/-- THE TIED CARD OF 'laws.FnGuards'. -/
def fnGuardsCard : Claim7 := { stood := { row := fnGuardsRow, standIns := [], harness := (true, "53aaae13cad947207508d2e7bc1b247b5e268883cb3994cd180556122c353d0a"), looks := true }, kinds := [], alts := [], laidByText := true, laidKinds := [.data], laidTests := true, laidLooks := .later }
def FnGuardsCardSaid : Prop := Claim7.holds Tryz.pinned (.plain (OpenSpec.ofChange fnGuardsSpec)) fnGuardsCard

/-- THE SECOND FORM's CARD OF 'laws.FnOutOfLine'. -/
def fnOutOfLineUptoCard : Claim7 := { stood := { row := fnOutOfLineUptoRow, standIns := [], harness := (true, "53aaae13cad947207508d2e7bc1b247b5e268883cb3994cd180556122c353d0a"), looks := true }, kinds := [], alts := [], laidByText := true, laidKinds := [.data], laidTests := true, laidLooks := .later }
def FnOutOfLineUptoCardSaid : Prop := Claim7.holds Tryz.pinned (.plain (OpenSpec.upto fnOutOfLineSpec)) fnOutOfLineUptoCard

/-- THE SECOND FORM's CARD OF 'laws.FnDouble'. -/
def fnDoubleUptoCard : Claim7 := { stood := { row := fnDoubleUptoRow, standIns := [], harness := (true, "53aaae13cad947207508d2e7bc1b247b5e268883cb3994cd180556122c353d0a"), looks := true }, kinds := [], alts := [], laidByText := true, laidKinds := [.data], laidTests := true, laidLooks := .later }
def FnDoubleUptoCardSaid : Prop := Claim7.holds Tryz.pinned (.plain (OpenSpec.upto fnDoubleSpec)) fnDoubleUptoCard

/-- THE SECOND FORM's CARD OF 'laws.FnWithheld'. -/
def fnWithheldUptoCard : Claim7 := { stood := { row := fnWithheldUptoRow, standIns := [], harness := (true, "53aaae13cad947207508d2e7bc1b247b5e268883cb3994cd180556122c353d0a"), looks := true }, kinds := [], alts := [], laidByText := true, laidKinds := [.data], laidTests := true, laidLooks := .later }
def FnWithheldUptoCardSaid : Prop := Claim7.holds Tryz.pinned (.plain (OpenSpec.upto fnWithheldSpec)) fnWithheldUptoCard

/-- THE SECOND FORM's CARD OF 'laws.FnCorrupt'. -/
def fnCorruptUptoCard : Claim7 := { stood := { row := fnCorruptUptoRow, standIns := [], harness := (true, "53aaae13cad947207508d2e7bc1b247b5e268883cb3994cd180556122c353d0a"), looks := true }, kinds := [], alts := [], laidByText := true, laidKinds := [.data], laidTests := true, laidLooks := .later }
def FnCorruptUptoCardSaid : Prop := Claim7.holds Tryz.pinned (.plain (OpenSpec.upto fnCorruptSpec)) fnCorruptUptoCard

/-- THE SECOND FORM's CARD OF 'laws.FnRetired'. -/
def fnRetiredUptoCard : Claim7 := { stood := { row := fnRetiredUptoRow, standIns := [], harness := (true, "53aaae13cad947207508d2e7bc1b247b5e268883cb3994cd180556122c353d0a"), looks := true }, kinds := [], alts := [], laidByText := true, laidKinds := [.data], laidTests := true, laidLooks := .later }
def FnRetiredUptoCardSaid : Prop := Claim7.holds Tryz.pinned (.plain (OpenSpec.upto fnRetiredSpec)) fnRetiredUptoCard

/-- THE SECOND FORM's CARD OF 'laws.FnZero'. -/
def fnZeroUptoCard : Claim7 := { stood := { row := fnZeroUptoRow, standIns := [], harness := (true, "53aaae13cad947207508d2e7bc1b247b5e268883cb3994cd180556122c353d0a"), looks := true }, kinds := [], alts := [], laidByText := true, laidKinds := [.data], laidTests := true, laidLooks := .later }
def FnZeroUptoCardSaid : Prop := Claim7.holds Tryz.pinned (.plain (OpenSpec.upto fnZeroSpec)) fnZeroUptoCard

/-- THE SECOND FORM's CARD OF 'laws.FnPrefix'. -/
def fnPrefixUptoCard : Claim7 := { stood := { row := fnPrefixUptoRow, standIns := [], harness := (true, "53aaae13cad947207508d2e7bc1b247b5e268883cb3994cd180556122c353d0a"), looks := true }, kinds := [], alts := [], laidByText := true, laidKinds := [.data], laidTests := true, laidLooks := .later }
def FnPrefixUptoCardSaid : Prop := Claim7.holds Tryz.pinned (.plain (OpenSpec.upto fnPrefixSpec)) fnPrefixUptoCard

/-- THE SECOND FORM's CARD OF 'laws.FnGuards'. -/
def fnGuardsUptoCard : Claim7 := { stood := { row := fnGuardsUptoRow, standIns := [], harness := (true, "53aaae13cad947207508d2e7bc1b247b5e268883cb3994cd180556122c353d0a"), looks := true }, kinds := [], alts := [], laidByText := true, laidKinds := [.data], laidTests := true, laidLooks := .later }
def FnGuardsUptoCardSaid : Prop := Claim7.holds Tryz.pinned (.plain (OpenSpec.upto fnGuardsSpec)) fnGuardsUptoCard
end Rows
end Go.Proofs.YtacccpkmgkojiaaGreatDoorRR
