/-
  DERIVED. GIVEN WITH THE SEED: THE CARDS: each row of YtenkabhnlidglaaDoorRows.lean that lists a variable, with what it lists TIED to the program's text (the seventh form; the later family's looks); each row that meets fmt, with fmt's text TOLD by the authors' own Lean function (tested against real Go, not proved from fmt's source: count such statements apart). THE CARD IS WHAT COUNTS. Prove the row's statement (the work); the ties are given (YtenkabhnlidglaaDoorTie.lean); close each card by the builder's one call (the guide's Derived/Test/ToyasCard.lean, 'card_holds'). Laid BY PROGRAM, IN A SANDBOX (cutbox-door.mjs). By AI agents, Wed Nov 11 2026. No macro, syntax, notation, axiom, sorry.
-/
import Derived.Test.YtenkabhnlidglaaDoorRows
import GoSem.ClaimSeven
namespace Go.Proofs.YtenkabhnlidglaaDoor
namespace Rows

/-- THE TIED CARD OF 'isthmuslaw08.ChachaBlocks'. -/
def chachaBlocksCard : Claim7 := { stood := { row := chachaBlocksRow, standIns := [], harness := (true, "ac9ff1fc610a2646fde9d805b0574060139572ff3bc06160b8381c3e82f845f7"), looks := false }, kinds := [], alts := [], laidByText := true, laidKinds := [.data], laidTests := true, laidLooks := .later }
def ChachaBlocksCardSaid : Prop := Claim7.holds Tryd.pinned (.plain (OpenSpec.ofChange chachaBlocksSpec)) chachaBlocksCard

/-- THE TIED CARD OF 'isthmuslaw08.ChachaTurns'. -/
def chachaTurnsCard : Claim7 := { stood := { row := chachaTurnsRow, standIns := [], harness := (true, "ac9ff1fc610a2646fde9d805b0574060139572ff3bc06160b8381c3e82f845f7"), looks := false }, kinds := [], alts := [], laidByText := true, laidKinds := [.data], laidTests := true, laidLooks := .later }
def ChachaTurnsCardSaid : Prop := Claim7.holds Tryd.pinned (.plain (OpenSpec.ofChange chachaTurnsSpec)) chachaTurnsCard

/-- THE TIED CARD OF 'isthmuslaw08.ChachaBack'. -/
def chachaBackCard : Claim7 := { stood := { row := chachaBackRow, standIns := [], harness := (true, "ac9ff1fc610a2646fde9d805b0574060139572ff3bc06160b8381c3e82f845f7"), looks := false }, kinds := [], alts := [], laidByText := true, laidKinds := [.data], laidTests := true, laidLooks := .later }
def ChachaBackCardSaid : Prop := Claim7.holds Tryd.pinned (.plain (OpenSpec.ofChange chachaBackSpec)) chachaBackCard

/-- THE SECOND FORM's CARD OF 'isthmuslaw08.ChachaBlocks'. -/
def chachaBlocksUptoCard : Claim7 := { stood := { row := chachaBlocksUptoRow, standIns := [], harness := (true, "ac9ff1fc610a2646fde9d805b0574060139572ff3bc06160b8381c3e82f845f7"), looks := false }, kinds := [], alts := [], laidByText := true, laidKinds := [.data], laidTests := true, laidLooks := .later }
def ChachaBlocksUptoCardSaid : Prop := Claim7.holds Tryd.pinned (.plain (OpenSpec.upto chachaBlocksSpec)) chachaBlocksUptoCard

/-- THE SECOND FORM's CARD OF 'isthmuslaw08.ChachaTurns'. -/
def chachaTurnsUptoCard : Claim7 := { stood := { row := chachaTurnsUptoRow, standIns := [], harness := (true, "ac9ff1fc610a2646fde9d805b0574060139572ff3bc06160b8381c3e82f845f7"), looks := false }, kinds := [], alts := [], laidByText := true, laidKinds := [.data], laidTests := true, laidLooks := .later }
def ChachaTurnsUptoCardSaid : Prop := Claim7.holds Tryd.pinned (.plain (OpenSpec.upto chachaTurnsSpec)) chachaTurnsUptoCard

/-- THE SECOND FORM's CARD OF 'isthmuslaw08.ChachaBack'. -/
def chachaBackUptoCard : Claim7 := { stood := { row := chachaBackUptoRow, standIns := [], harness := (true, "ac9ff1fc610a2646fde9d805b0574060139572ff3bc06160b8381c3e82f845f7"), looks := false }, kinds := [], alts := [], laidByText := true, laidKinds := [.data], laidTests := true, laidLooks := .later }
def ChachaBackUptoCardSaid : Prop := Claim7.holds Tryd.pinned (.plain (OpenSpec.upto chachaBackSpec)) chachaBackUptoCard
end Rows
end Go.Proofs.YtenkabhnlidglaaDoor
