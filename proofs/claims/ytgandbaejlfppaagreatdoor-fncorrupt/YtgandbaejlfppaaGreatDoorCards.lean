/-
  DERIVED. GIVEN WITH THE SEED: THE CARDS: each row of YtgandbaejlfppaaGreatDoorRows.lean that lists a variable, with what it lists TIED to the program's text (the seventh form; the later family's looks); each row that meets fmt, with fmt's text TOLD by the authors' own Lean function (tested against real Go, not proved from fmt's source: count such statements apart). THE CARD IS WHAT COUNTS. Prove the row's statement (the work); the ties are given (YtgandbaejlfppaaGreatDoorTie.lean); close each card by the builder's one call (the guide's Derived/Test/ToyasCard.lean, 'card_holds'). Laid BY PROGRAM, IN A SANDBOX (cutbox-door.mjs). By AI agents, Wed Nov 11 2026. No macro, syntax, notation, axiom, sorry.
-/
import Derived.Test.YtgandbaejlfppaaGreatDoorRows
import GoSem.ClaimSeven
namespace Go.Proofs.YtgandbaejlfppaaGreatDoor
namespace Rows

/-- THE TIED CARD OF 'laws.FnCorrupt'. -/
def fnCorruptCard : Claim7 := { stood := { row := fnCorruptRow, standIns := [], harness := (true, "073ac8fa6e94cb34bf79ca037880cc091a5a5ae834563bb2ba259ca156ac8a1b"), looks := true }, kinds := [], alts := [], laidByText := true, laidKinds := [.data], laidTests := true, laidLooks := .later }
def FnCorruptCardSaid : Prop := Claim7.holds Tryz.pinned (.plain (OpenSpec.ofChange fnCorruptSpec)) fnCorruptCard

/-- THE TIED CARD OF 'laws.FnRetired'. -/
def fnRetiredCard : Claim7 := { stood := { row := fnRetiredRow, standIns := [], harness := (true, "073ac8fa6e94cb34bf79ca037880cc091a5a5ae834563bb2ba259ca156ac8a1b"), looks := true }, kinds := [], alts := [], laidByText := true, laidKinds := [.data], laidTests := true, laidLooks := .later }
def FnRetiredCardSaid : Prop := Claim7.holds Tryz.pinned (.plain (OpenSpec.ofChange fnRetiredSpec)) fnRetiredCard

/-- THE SECOND FORM's CARD OF 'laws.FnCorrupt'. -/
def fnCorruptUptoCard : Claim7 := { stood := { row := fnCorruptUptoRow, standIns := [], harness := (true, "073ac8fa6e94cb34bf79ca037880cc091a5a5ae834563bb2ba259ca156ac8a1b"), looks := true }, kinds := [], alts := [], laidByText := true, laidKinds := [.data], laidTests := true, laidLooks := .later }
def FnCorruptUptoCardSaid : Prop := Claim7.holds Tryz.pinned (.plain (OpenSpec.upto fnCorruptSpec)) fnCorruptUptoCard

/-- THE SECOND FORM's CARD OF 'laws.FnRetired'. -/
def fnRetiredUptoCard : Claim7 := { stood := { row := fnRetiredUptoRow, standIns := [], harness := (true, "073ac8fa6e94cb34bf79ca037880cc091a5a5ae834563bb2ba259ca156ac8a1b"), looks := true }, kinds := [], alts := [], laidByText := true, laidKinds := [.data], laidTests := true, laidLooks := .later }
def FnRetiredUptoCardSaid : Prop := Claim7.holds Tryz.pinned (.plain (OpenSpec.upto fnRetiredSpec)) fnRetiredUptoCard
end Rows
end Go.Proofs.YtgandbaejlfppaaGreatDoor
