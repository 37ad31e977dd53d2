/-
  DERIVED. GIVEN WITH THE SEED: THE CARDS: each row of YtenafinbaanicaaDoorRows.lean that lists a variable, with what it lists TIED to the program's text (the seventh form; the later family's looks); each row that meets fmt, with fmt's text TOLD by the authors' own Lean function (tested against real Go, not proved from fmt's source: count such statements apart). THE CARD IS WHAT COUNTS. Prove the row's statement (the work); the ties are given (YtenafinbaanicaaDoorTie.lean); close each card by the builder's one call (the guide's Derived/Test/ToyasCard.lean, 'card_holds'). Laid BY PROGRAM, IN A SANDBOX (cutbox-door.mjs). By AI agents, Wed Nov 11 2026. No macro, syntax, notation, axiom, sorry.
-/
import Derived.Test.YtenafinbaanicaaDoorRows
import GoSem.ClaimSeven
namespace Go.Proofs.YtenafinbaanicaaDoor
namespace Rows

/-- THE TIED CARD OF 'isthmuslaw18.TunnelOnce'. -/
def tunnelOnceCard : Claim7 := { stood := { row := tunnelOnceRow, standIns := [], harness := (true, "1a0ec49277e34bc4c5f99a823b2798f9a8b5c74dc6d3a18a8a22e839e461e06b"), looks := false }, kinds := [], alts := [], laidByText := true, laidKinds := [.data], laidTests := true, laidLooks := .later }
def TunnelOnceCardSaid : Prop := Claim7.holds Tryd.pinned (.plain (OpenSpec.ofChange tunnelOnceSpec)) tunnelOnceCard

/-- THE TIED CARD OF 'isthmuslaw18.TunnelNil'. -/
def tunnelNilCard : Claim7 := { stood := { row := tunnelNilRow, standIns := [], harness := (true, "1a0ec49277e34bc4c5f99a823b2798f9a8b5c74dc6d3a18a8a22e839e461e06b"), looks := false }, kinds := [], alts := [], laidByText := true, laidKinds := [.data], laidTests := true, laidLooks := .later }
def TunnelNilCardSaid : Prop := Claim7.holds Tryd.pinned (.plain (OpenSpec.ofChange tunnelNilSpec)) tunnelNilCard

/-- THE SECOND FORM's CARD OF 'isthmuslaw18.TunnelOnce'. -/
def tunnelOnceUptoCard : Claim7 := { stood := { row := tunnelOnceUptoRow, standIns := [], harness := (true, "1a0ec49277e34bc4c5f99a823b2798f9a8b5c74dc6d3a18a8a22e839e461e06b"), looks := false }, kinds := [], alts := [], laidByText := true, laidKinds := [.data], laidTests := true, laidLooks := .later }
def TunnelOnceUptoCardSaid : Prop := Claim7.holds Tryd.pinned (.plain (OpenSpec.upto tunnelOnceSpec)) tunnelOnceUptoCard

/-- THE SECOND FORM's CARD OF 'isthmuslaw18.TunnelNil'. -/
def tunnelNilUptoCard : Claim7 := { stood := { row := tunnelNilUptoRow, standIns := [], harness := (true, "1a0ec49277e34bc4c5f99a823b2798f9a8b5c74dc6d3a18a8a22e839e461e06b"), looks := false }, kinds := [], alts := [], laidByText := true, laidKinds := [.data], laidTests := true, laidLooks := .later }
def TunnelNilUptoCardSaid : Prop := Claim7.holds Tryd.pinned (.plain (OpenSpec.upto tunnelNilSpec)) tunnelNilUptoCard
end Rows
end Go.Proofs.YtenafinbaanicaaDoor
