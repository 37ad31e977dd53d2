/-
  DERIVED. GIVEN WITH THE SEED: THE CARDS: each row of YtpfneekmbednoaaDoorRows.lean that lists a variable, with what it lists TIED to the program's text (the seventh form; the later family's looks); each row that meets fmt, with fmt's text TOLD by the authors' own Lean function (tested against real Go, not proved from fmt's source: count such statements apart). THE CARD IS WHAT COUNTS. Prove the row's statement (the work); the ties are given (YtpfneekmbednoaaDoorTie.lean); close each card by the builder's one call (the guide's Derived/Test/ToyasCard.lean, 'card_holds'). Laid BY PROGRAM, IN A SANDBOX (cutbox-door.mjs). By AI agents, Wed Nov 11 2026. No macro, syntax, notation, axiom, sorry.
-/
import Derived.Test.YtpfneekmbednoaaDoorRows
import GoSem.ClaimSeven
namespace Go.Proofs.YtpfneekmbednoaaDoor
namespace Rows

/-- THE TIED CARD OF 'isthmuslaw07.KdfTags'. -/
def kdfTagsCard : Claim7 := { stood := { row := kdfTagsRow, standIns := [], harness := (true, "15a75d000738c3bd80f9340df492570391bbbae95a9a60c3910cff908176f433"), looks := false }, kinds := [], alts := [], laidByText := true, laidKinds := [.data], laidTests := true, laidLooks := .later }
def KdfTagsCardSaid : Prop := Claim7.holds Tryd.pinned (.plain (OpenSpec.ofChange kdfTagsSpec)) kdfTagsCard

/-- THE TIED CARD OF 'isthmuslaw07.KdfKeys'. -/
def kdfKeysCard : Claim7 := { stood := { row := kdfKeysRow, standIns := [], harness := (true, "15a75d000738c3bd80f9340df492570391bbbae95a9a60c3910cff908176f433"), looks := false }, kinds := [], alts := [], laidByText := true, laidKinds := [.data], laidTests := true, laidLooks := .later }
def KdfKeysCardSaid : Prop := Claim7.holds Tryd.pinned (.plain (OpenSpec.ofChange kdfKeysSpec)) kdfKeysCard

/-- THE TIED CARD OF 'isthmuslaw07.KdfBegins'. -/
def kdfBeginsCard : Claim7 := { stood := { row := kdfBeginsRow, standIns := [], harness := (true, "15a75d000738c3bd80f9340df492570391bbbae95a9a60c3910cff908176f433"), looks := false }, kinds := [], alts := [], laidByText := true, laidKinds := [.data], laidTests := true, laidLooks := .later }
def KdfBeginsCardSaid : Prop := Claim7.holds Tryd.pinned (.plain (OpenSpec.ofChange kdfBeginsSpec)) kdfBeginsCard

/-- THE SECOND FORM's CARD OF 'isthmuslaw07.KdfTags'. -/
def kdfTagsUptoCard : Claim7 := { stood := { row := kdfTagsUptoRow, standIns := [], harness := (true, "15a75d000738c3bd80f9340df492570391bbbae95a9a60c3910cff908176f433"), looks := false }, kinds := [], alts := [], laidByText := true, laidKinds := [.data], laidTests := true, laidLooks := .later }
def KdfTagsUptoCardSaid : Prop := Claim7.holds Tryd.pinned (.plain (OpenSpec.upto kdfTagsSpec)) kdfTagsUptoCard

/-- THE SECOND FORM's CARD OF 'isthmuslaw07.KdfKeys'. -/
def kdfKeysUptoCard : Claim7 := { stood := { row := kdfKeysUptoRow, standIns := [], harness := (true, "15a75d000738c3bd80f9340df492570391bbbae95a9a60c3910cff908176f433"), looks := false }, kinds := [], alts := [], laidByText := true, laidKinds := [.data], laidTests := true, laidLooks := .later }
def KdfKeysUptoCardSaid : Prop := Claim7.holds Tryd.pinned (.plain (OpenSpec.upto kdfKeysSpec)) kdfKeysUptoCard

/-- THE SECOND FORM's CARD OF 'isthmuslaw07.KdfBegins'. -/
def kdfBeginsUptoCard : Claim7 := { stood := { row := kdfBeginsUptoRow, standIns := [], harness := (true, "15a75d000738c3bd80f9340df492570391bbbae95a9a60c3910cff908176f433"), looks := false }, kinds := [], alts := [], laidByText := true, laidKinds := [.data], laidTests := true, laidLooks := .later }
def KdfBeginsUptoCardSaid : Prop := Claim7.holds Tryd.pinned (.plain (OpenSpec.upto kdfBeginsSpec)) kdfBeginsUptoCard
end Rows
end Go.Proofs.YtpfneekmbednoaaDoor
