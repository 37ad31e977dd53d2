/-
  DERIVED. GIVEN WITH THE SEED: THE CARDS: each row of YtenafinbaanicaaGreatDoorRows.lean that lists a variable, with what it lists TIED to the program's text (the seventh form; the later family's looks); each row that meets fmt, with fmt's text TOLD by the authors' own Lean function (tested against real Go, not proved from fmt's source: count such statements apart). THE CARD IS WHAT COUNTS. Prove the row's statement (the work); the ties are given (YtenafinbaanicaaGreatDoorTie.lean); close each card by the builder's one call (the guide's Derived/Test/ToyasCard.lean, 'card_holds'). Laid BY PROGRAM, IN A SANDBOX (cutbox-door.mjs). By AI agents, Wed Nov 11 2026. No macro, syntax, notation, axiom, sorry.
-/
import Derived.Test.YtenafinbaanicaaGreatDoorRows
import GoSem.ClaimSeven
namespace Go.Proofs.YtenafinbaanicaaGreatDoor
namespace Rows

/-- THE TIED CARD OF 'isthmuslaw18.TunnelPlays'. -/
def tunnelPlaysCard : Claim7 := { stood := { row := tunnelPlaysRow, standIns := [], harness := (true, "10501d905cef4d6c9ca2b4095860dca5373f16b58e5ab5919e8b474d65ea116d"), looks := false }, kinds := [], alts := [], laidByText := true, laidKinds := [.data], laidTests := true, laidLooks := .later }
def TunnelPlaysCardSaid : Prop := Claim7.holds Tryz.pinned (.plain (OpenSpec.ofChange tunnelPlaysSpec)) tunnelPlaysCard

/-- THE TIED CARD OF 'isthmuslaw18.TunnelSlots'. -/
def tunnelSlotsCard : Claim7 := { stood := { row := tunnelSlotsRow, standIns := [], harness := (true, "10501d905cef4d6c9ca2b4095860dca5373f16b58e5ab5919e8b474d65ea116d"), looks := false }, kinds := [], alts := [], laidByText := true, laidKinds := [.data], laidTests := true, laidLooks := .later }
def TunnelSlotsCardSaid : Prop := Claim7.holds Tryz.pinned (.plain (OpenSpec.ofChange tunnelSlotsSpec)) tunnelSlotsCard

/-- THE SECOND FORM's CARD OF 'isthmuslaw18.TunnelPlays'. -/
def tunnelPlaysUptoCard : Claim7 := { stood := { row := tunnelPlaysUptoRow, standIns := [], harness := (true, "10501d905cef4d6c9ca2b4095860dca5373f16b58e5ab5919e8b474d65ea116d"), looks := false }, kinds := [], alts := [], laidByText := true, laidKinds := [.data], laidTests := true, laidLooks := .later }
def TunnelPlaysUptoCardSaid : Prop := Claim7.holds Tryz.pinned (.plain (OpenSpec.upto tunnelPlaysSpec)) tunnelPlaysUptoCard

/-- THE SECOND FORM's CARD OF 'isthmuslaw18.TunnelSlots'. -/
def tunnelSlotsUptoCard : Claim7 := { stood := { row := tunnelSlotsUptoRow, standIns := [], harness := (true, "10501d905cef4d6c9ca2b4095860dca5373f16b58e5ab5919e8b474d65ea116d"), looks := false }, kinds := [], alts := [], laidByText := true, laidKinds := [.data], laidTests := true, laidLooks := .later }
def TunnelSlotsUptoCardSaid : Prop := Claim7.holds Tryz.pinned (.plain (OpenSpec.upto tunnelSlotsSpec)) tunnelSlotsUptoCard
end Rows
end Go.Proofs.YtenafinbaanicaaGreatDoor
