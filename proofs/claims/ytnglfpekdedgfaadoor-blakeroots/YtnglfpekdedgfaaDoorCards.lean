/-
  DERIVED. GIVEN WITH THE SEED: THE CARDS: each row of YtnglfpekdedgfaaDoorRows.lean that lists a variable, with what it lists TIED to the program's text (the seventh form; the later family's looks); each row that meets fmt, with fmt's text TOLD by the authors' own Lean function (tested against real Go, not proved from fmt's source: count such statements apart). THE CARD IS WHAT COUNTS. Prove the row's statement (the work); the ties are given (YtnglfpekdedgfaaDoorTie.lean); close each card by the builder's one call (the guide's Derived/Test/ToyasCard.lean, 'card_holds'). Laid BY PROGRAM, IN A SANDBOX (cutbox-door.mjs). By AI agents, Wed Nov 11 2026. No macro, syntax, notation, axiom, sorry.
-/
import Derived.Test.YtnglfpekdedgfaaDoorRows
import GoSem.ClaimSeven
namespace Go.Proofs.YtnglfpekdedgfaaDoor
namespace Rows

/-- THE TIED CARD OF 'isthmuslaw06.BlakeSums'. -/
def blakeSumsCard : Claim7 := { stood := { row := blakeSumsRow, standIns := [], harness := (true, "f8bfc3a9c6b9b0c01349e0ad622a7a9541aecb36d2ea31a68c0314bbfeded6ed"), looks := false }, kinds := [], alts := [], laidByText := true, laidKinds := [.data], laidTests := true, laidLooks := .later }
def BlakeSumsCardSaid : Prop := Claim7.holds Tryd.pinned (.plain (OpenSpec.ofChange blakeSumsSpec)) blakeSumsCard

/-- THE TIED CARD OF 'isthmuslaw06.BlakePieces'. -/
def blakePiecesCard : Claim7 := { stood := { row := blakePiecesRow, standIns := [], harness := (true, "f8bfc3a9c6b9b0c01349e0ad622a7a9541aecb36d2ea31a68c0314bbfeded6ed"), looks := false }, kinds := [], alts := [], laidByText := true, laidKinds := [.data], laidTests := true, laidLooks := .later }
def BlakePiecesCardSaid : Prop := Claim7.holds Tryd.pinned (.plain (OpenSpec.ofChange blakePiecesSpec)) blakePiecesCard

/-- THE TIED CARD OF 'isthmuslaw06.BlakeRoots'. -/
def blakeRootsCard : Claim7 := { stood := { row := blakeRootsRow, standIns := [], harness := (true, "f8bfc3a9c6b9b0c01349e0ad622a7a9541aecb36d2ea31a68c0314bbfeded6ed"), looks := false }, kinds := [], alts := [], laidByText := true, laidKinds := [.data], laidTests := true, laidLooks := .later }
def BlakeRootsCardSaid : Prop := Claim7.holds Tryd.pinned (.plain (OpenSpec.ofChange blakeRootsSpec)) blakeRootsCard

/-- THE TIED CARD OF 'isthmuslaw06.BlakeNil'. -/
def blakeNilCard : Claim7 := { stood := { row := blakeNilRow, standIns := [], harness := (true, "f8bfc3a9c6b9b0c01349e0ad622a7a9541aecb36d2ea31a68c0314bbfeded6ed"), looks := false }, kinds := [], alts := [], laidByText := true, laidKinds := [.data], laidTests := true, laidLooks := .later }
def BlakeNilCardSaid : Prop := Claim7.holds Tryd.pinned (.plain (OpenSpec.ofChange blakeNilSpec)) blakeNilCard

/-- THE SECOND FORM's CARD OF 'isthmuslaw06.BlakeSums'. -/
def blakeSumsUptoCard : Claim7 := { stood := { row := blakeSumsUptoRow, standIns := [], harness := (true, "f8bfc3a9c6b9b0c01349e0ad622a7a9541aecb36d2ea31a68c0314bbfeded6ed"), looks := false }, kinds := [], alts := [], laidByText := true, laidKinds := [.data], laidTests := true, laidLooks := .later }
def BlakeSumsUptoCardSaid : Prop := Claim7.holds Tryd.pinned (.plain (OpenSpec.upto blakeSumsSpec)) blakeSumsUptoCard

/-- THE SECOND FORM's CARD OF 'isthmuslaw06.BlakePieces'. -/
def blakePiecesUptoCard : Claim7 := { stood := { row := blakePiecesUptoRow, standIns := [], harness := (true, "f8bfc3a9c6b9b0c01349e0ad622a7a9541aecb36d2ea31a68c0314bbfeded6ed"), looks := false }, kinds := [], alts := [], laidByText := true, laidKinds := [.data], laidTests := true, laidLooks := .later }
def BlakePiecesUptoCardSaid : Prop := Claim7.holds Tryd.pinned (.plain (OpenSpec.upto blakePiecesSpec)) blakePiecesUptoCard

/-- THE SECOND FORM's CARD OF 'isthmuslaw06.BlakeRoots'. -/
def blakeRootsUptoCard : Claim7 := { stood := { row := blakeRootsUptoRow, standIns := [], harness := (true, "f8bfc3a9c6b9b0c01349e0ad622a7a9541aecb36d2ea31a68c0314bbfeded6ed"), looks := false }, kinds := [], alts := [], laidByText := true, laidKinds := [.data], laidTests := true, laidLooks := .later }
def BlakeRootsUptoCardSaid : Prop := Claim7.holds Tryd.pinned (.plain (OpenSpec.upto blakeRootsSpec)) blakeRootsUptoCard

/-- THE SECOND FORM's CARD OF 'isthmuslaw06.BlakeNil'. -/
def blakeNilUptoCard : Claim7 := { stood := { row := blakeNilUptoRow, standIns := [], harness := (true, "f8bfc3a9c6b9b0c01349e0ad622a7a9541aecb36d2ea31a68c0314bbfeded6ed"), looks := false }, kinds := [], alts := [], laidByText := true, laidKinds := [.data], laidTests := true, laidLooks := .later }
def BlakeNilUptoCardSaid : Prop := Claim7.holds Tryd.pinned (.plain (OpenSpec.upto blakeNilSpec)) blakeNilUptoCard
end Rows
end Go.Proofs.YtnglfpekdedgfaaDoor
