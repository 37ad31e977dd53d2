/-
  DERIVED. GIVEN WITH THE SEED: THE CARDS: each row of YtffimigpbcilbaaGreatDoorRows.lean that lists a variable, with what it lists TIED to the program's text (the seventh form; the later family's looks); each row that meets fmt, with fmt's text TOLD by the authors' own Lean function (tested against real Go, not proved from fmt's source: count such statements apart). THE CARD IS WHAT COUNTS. Prove the row's statement (the work); the ties are given (YtffimigpbcilbaaGreatDoorTie.lean); close each card by the builder's one call (the guide's Derived/Test/ToyasCard.lean, 'card_holds'). Laid BY PROGRAM, IN A SANDBOX (cutbox-door.mjs). By AI agents, Wed Nov 11 2026. No macro, syntax, notation, axiom, sorry.
-/
import Derived.Test.YtffimigpbcilbaaGreatDoorRows
import GoSem.ClaimSeven
namespace Go.Proofs.YtffimigpbcilbaaGreatDoor
namespace Rows

/-- THE TIED CARD OF 'isthmuslaw16.NoisePlays'. -/
def noisePlaysCard : Claim7 := { stood := { row := noisePlaysRow, standIns := [], harness := (true, "31d0da8fe34800017b8e4acf06e151a03dc9ee6a04ad6c8b07e9f6ff3c640eb7"), looks := false }, kinds := [], alts := [], laidByText := true, laidKinds := [.data, .data], laidTests := true, laidLooks := .later }
def NoisePlaysCardSaid : Prop := Claim7.holds Tryz.pinned (.plain (OpenSpec.ofChange noisePlaysSpec)) noisePlaysCard

/-- THE TIED CARD OF 'isthmuslaw16.NoiseReads'. -/
def noiseReadsCard : Claim7 := { stood := { row := noiseReadsRow, standIns := [], harness := (true, "31d0da8fe34800017b8e4acf06e151a03dc9ee6a04ad6c8b07e9f6ff3c640eb7"), looks := false }, kinds := [], alts := [], laidByText := true, laidKinds := [.data, .data], laidTests := true, laidLooks := .later }
def NoiseReadsCardSaid : Prop := Claim7.holds Tryz.pinned (.plain (OpenSpec.ofChange noiseReadsSpec)) noiseReadsCard

/-- THE TIED CARD OF 'isthmuslaw16.NoiseBoth'. -/
def noiseBothCard : Claim7 := { stood := { row := noiseBothRow, standIns := [], harness := (true, "31d0da8fe34800017b8e4acf06e151a03dc9ee6a04ad6c8b07e9f6ff3c640eb7"), looks := false }, kinds := [], alts := [], laidByText := true, laidKinds := [.data, .data], laidTests := true, laidLooks := .later }
def NoiseBothCardSaid : Prop := Claim7.holds Tryz.pinned (.plain (OpenSpec.ofChange noiseBothSpec)) noiseBothCard

/-- THE TIED CARD OF 'isthmuslaw16.NoiseNil'. -/
def noiseNilCard : Claim7 := { stood := { row := noiseNilRow, standIns := [], harness := (true, "31d0da8fe34800017b8e4acf06e151a03dc9ee6a04ad6c8b07e9f6ff3c640eb7"), looks := false }, kinds := [], alts := [], laidByText := true, laidKinds := [.data, .data], laidTests := true, laidLooks := .later }
def NoiseNilCardSaid : Prop := Claim7.holds Tryz.pinned (.plain (OpenSpec.ofChange noiseNilSpec)) noiseNilCard

/-- THE SECOND FORM's CARD OF 'isthmuslaw16.NoisePlays'. -/
def noisePlaysUptoCard : Claim7 := { stood := { row := noisePlaysUptoRow, standIns := [], harness := (true, "31d0da8fe34800017b8e4acf06e151a03dc9ee6a04ad6c8b07e9f6ff3c640eb7"), looks := false }, kinds := [], alts := [], laidByText := true, laidKinds := [.data, .data], laidTests := true, laidLooks := .later }
def NoisePlaysUptoCardSaid : Prop := Claim7.holds Tryz.pinned (.plain (OpenSpec.upto noisePlaysSpec)) noisePlaysUptoCard

/-- THE SECOND FORM's CARD OF 'isthmuslaw16.NoiseReads'. -/
def noiseReadsUptoCard : Claim7 := { stood := { row := noiseReadsUptoRow, standIns := [], harness := (true, "31d0da8fe34800017b8e4acf06e151a03dc9ee6a04ad6c8b07e9f6ff3c640eb7"), looks := false }, kinds := [], alts := [], laidByText := true, laidKinds := [.data, .data], laidTests := true, laidLooks := .later }
def NoiseReadsUptoCardSaid : Prop := Claim7.holds Tryz.pinned (.plain (OpenSpec.upto noiseReadsSpec)) noiseReadsUptoCard

/-- THE SECOND FORM's CARD OF 'isthmuslaw16.NoiseBoth'. -/
def noiseBothUptoCard : Claim7 := { stood := { row := noiseBothUptoRow, standIns := [], harness := (true, "31d0da8fe34800017b8e4acf06e151a03dc9ee6a04ad6c8b07e9f6ff3c640eb7"), looks := false }, kinds := [], alts := [], laidByText := true, laidKinds := [.data, .data], laidTests := true, laidLooks := .later }
def NoiseBothUptoCardSaid : Prop := Claim7.holds Tryz.pinned (.plain (OpenSpec.upto noiseBothSpec)) noiseBothUptoCard

/-- THE SECOND FORM's CARD OF 'isthmuslaw16.NoiseNil'. -/
def noiseNilUptoCard : Claim7 := { stood := { row := noiseNilUptoRow, standIns := [], harness := (true, "31d0da8fe34800017b8e4acf06e151a03dc9ee6a04ad6c8b07e9f6ff3c640eb7"), looks := false }, kinds := [], alts := [], laidByText := true, laidKinds := [.data, .data], laidTests := true, laidLooks := .later }
def NoiseNilUptoCardSaid : Prop := Claim7.holds Tryz.pinned (.plain (OpenSpec.upto noiseNilSpec)) noiseNilUptoCard
end Rows
end Go.Proofs.YtffimigpbcilbaaGreatDoor
