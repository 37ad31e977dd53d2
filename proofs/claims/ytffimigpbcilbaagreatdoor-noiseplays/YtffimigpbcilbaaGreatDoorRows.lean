/-
  NARROWER THAN 'FOR EVERY INPUT', by the rows' own cells (each row's printed sentence says how): NoisePlays: laid · NoiseReads: laid · NoiseBoth: laid · NoiseNil: laid.
  DERIVED. THE GIVEN ROWS OF THIS SEAT. 4 by the template 'for every input the law returns true; each argument reads behind the call as it read before'; 0 by the template 'total and deterministic' (their statements: YtffimigpbcilbaaGreatDoorTotals.lean).
  GIVEN WITH THE SEED: the statements are not yours to turn. If you find one false, say at which input.
  Laid BY PROGRAM, IN A SANDBOX (cutbox-rows.mjs): the forced cells as the released guide's own fill.sh prints them over the translation 066d5029b4c1a542… (all of the seat's roots in one cut). By AI agents, Wed Nov 11 2026. No macro, syntax, notation, axiom, sorry.
-/
import Derived.Test.YtffimigpbcilbaaGreatDoorChecked
import GoSem.Claim
import GoSem.ClaimJoined
import GoSem.ClaimMapViews
import Derived.JoinedTies
import Derived.KernelRfl
namespace Go.Proofs.YtffimigpbcilbaaGreatDoor
/- THE CELL 'sum', in the pinned program and in every row, IS THE sha256 OF THE DUMP (.gsa) THAT YtffimigpbcilbaaGreatDoorProg.lean LOADS. Nothing in Lean hashes anything: it is a label: what it is worth is what the hold of that sum in a sandbox is worth. -/
noncomputable def Tryz.pinned : Pinned := { name := "ytffimigpbcilbaagreatdoor", sum := "066d5029b4c1a542d8d3eff845c39b405f2d20190628cee3e30a30155b62b178", checked := Tryz.checked }
namespace Rows
def none {H : Type} : Left H := { results := [], args := [] }

/- WHAT THE LISTED PACKAGE-LEVEL VARIABLES READ AS WHEN THE CALL BEGINS. Each datum BY PROGRAM (the guide's laid-datum.mjs) off the statement by which the dump's own 'gosem.cut.vars' lays the variable. In a bare row this is a premise. The card (YtffimigpbcilbaaGreatDoorCards.lean) ties it to the program's text. -/
def laid_isthmus_blake_orders {H : Type} : DataW H := .agg [.agg [.lit (.int .u8 0), .lit (.int .u8 1), .lit (.int .u8 2), .lit (.int .u8 3), .lit (.int .u8 4), .lit (.int .u8 5), .lit (.int .u8 6), .lit (.int .u8 7), .lit (.int .u8 8), .lit (.int .u8 9), .lit (.int .u8 10), .lit (.int .u8 11), .lit (.int .u8 12), .lit (.int .u8 13), .lit (.int .u8 14), .lit (.int .u8 15)], .agg [.lit (.int .u8 14), .lit (.int .u8 10), .lit (.int .u8 4), .lit (.int .u8 8), .lit (.int .u8 9), .lit (.int .u8 15), .lit (.int .u8 13), .lit (.int .u8 6), .lit (.int .u8 1), .lit (.int .u8 12), .lit (.int .u8 0), .lit (.int .u8 2), .lit (.int .u8 11), .lit (.int .u8 7), .lit (.int .u8 5), .lit (.int .u8 3)], .agg [.lit (.int .u8 11), .lit (.int .u8 8), .lit (.int .u8 12), .lit (.int .u8 0), .lit (.int .u8 5), .lit (.int .u8 2), .lit (.int .u8 15), .lit (.int .u8 13), .lit (.int .u8 10), .lit (.int .u8 14), .lit (.int .u8 3), .lit (.int .u8 6), .lit (.int .u8 7), .lit (.int .u8 1), .lit (.int .u8 9), .lit (.int .u8 4)], .agg [.lit (.int .u8 7), .lit (.int .u8 9), .lit (.int .u8 3), .lit (.int .u8 1), .lit (.int .u8 13), .lit (.int .u8 12), .lit (.int .u8 11), .lit (.int .u8 14), .lit (.int .u8 2), .lit (.int .u8 6), .lit (.int .u8 5), .lit (.int .u8 10), .lit (.int .u8 4), .lit (.int .u8 0), .lit (.int .u8 15), .lit (.int .u8 8)], .agg [.lit (.int .u8 9), .lit (.int .u8 0), .lit (.int .u8 5), .lit (.int .u8 7), .lit (.int .u8 2), .lit (.int .u8 4), .lit (.int .u8 10), .lit (.int .u8 15), .lit (.int .u8 14), .lit (.int .u8 1), .lit (.int .u8 11), .lit (.int .u8 12), .lit (.int .u8 6), .lit (.int .u8 8), .lit (.int .u8 3), .lit (.int .u8 13)], .agg [.lit (.int .u8 2), .lit (.int .u8 12), .lit (.int .u8 6), .lit (.int .u8 10), .lit (.int .u8 0), .lit (.int .u8 11), .lit (.int .u8 8), .lit (.int .u8 3), .lit (.int .u8 4), .lit (.int .u8 13), .lit (.int .u8 7), .lit (.int .u8 5), .lit (.int .u8 15), .lit (.int .u8 14), .lit (.int .u8 1), .lit (.int .u8 9)], .agg [.lit (.int .u8 12), .lit (.int .u8 5), .lit (.int .u8 1), .lit (.int .u8 15), .lit (.int .u8 14), .lit (.int .u8 13), .lit (.int .u8 4), .lit (.int .u8 10), .lit (.int .u8 0), .lit (.int .u8 7), .lit (.int .u8 6), .lit (.int .u8 3), .lit (.int .u8 9), .lit (.int .u8 2), .lit (.int .u8 8), .lit (.int .u8 11)], .agg [.lit (.int .u8 13), .lit (.int .u8 11), .lit (.int .u8 7), .lit (.int .u8 14), .lit (.int .u8 12), .lit (.int .u8 1), .lit (.int .u8 3), .lit (.int .u8 9), .lit (.int .u8 5), .lit (.int .u8 0), .lit (.int .u8 15), .lit (.int .u8 4), .lit (.int .u8 8), .lit (.int .u8 6), .lit (.int .u8 2), .lit (.int .u8 10)], .agg [.lit (.int .u8 6), .lit (.int .u8 15), .lit (.int .u8 14), .lit (.int .u8 9), .lit (.int .u8 11), .lit (.int .u8 3), .lit (.int .u8 0), .lit (.int .u8 8), .lit (.int .u8 12), .lit (.int .u8 2), .lit (.int .u8 13), .lit (.int .u8 7), .lit (.int .u8 1), .lit (.int .u8 4), .lit (.int .u8 10), .lit (.int .u8 5)], .agg [.lit (.int .u8 10), .lit (.int .u8 2), .lit (.int .u8 8), .lit (.int .u8 4), .lit (.int .u8 7), .lit (.int .u8 6), .lit (.int .u8 1), .lit (.int .u8 5), .lit (.int .u8 15), .lit (.int .u8 11), .lit (.int .u8 9), .lit (.int .u8 14), .lit (.int .u8 3), .lit (.int .u8 12), .lit (.int .u8 13), .lit (.int .u8 0)]]
def laid_isthmus_chacha_turns {H : Type} : DataW H := .agg [.agg [.lit (.int .i64 16), .lit (.int .i64 12)], .agg [.lit (.int .i64 8), .lit (.int .i64 7)]]

/-- 'isthmuslaw16.NoisePlays': WHATEVER THE INPUT: true; the input reads as it did. -/
def noisePlaysSpec : ChangeSpec := { name := "noisePlays", fn := fun _ => fun
  | [d1, d2, d3, d4] => { results := [.lit (.bool true)], args := [d1, d2, d3, d4] }
  | _ => none }
def noisePlaysRow : OpenClaim := { program := "ytffimigpbcilbaagreatdoor", sum := "066d5029b4c1a542d8d3eff845c39b405f2d20190628cee3e30a30155b62b178", func := "isthmus/isthmuslaw16.NoisePlays", spec := "noisePlays", inPlace := ["internal/abi.NoEscape", "internal/bytealg.MakeNoZero", "math/bits.Add64"], unfollowed := true, recurses := true, named := ["isthmus/blake.orders", "isthmus/chacha.turns"], apart := false, laid := [("isthmus/blake.orders", laid_isthmus_blake_orders), ("isthmus/chacha.turns", laid_isthmus_chacha_turns)] }
def NoisePlaysSaid : Prop := noisePlaysRow.holds Tryz.pinned (OpenSpec.ofChange noisePlaysSpec)

/-- ITS FALSE NEIGHBOUR: 'it returns false'. Refute it at one input. -/
def noisePlaysWrong : ChangeSpec := { name := "noisePlays", fn := fun _ => fun
  | [d1, d2, d3, d4] => { results := [.lit (.bool false)], args := [d1, d2, d3, d4] }
  | _ => none }
def NoisePlaysWrongFalsely : Prop := noisePlaysRow.holds Tryz.pinned (OpenSpec.ofChange noisePlaysWrong)

/-- 'isthmuslaw16.NoiseReads': WHATEVER THE INPUT: true; the input reads as it did. -/
def noiseReadsSpec : ChangeSpec := { name := "noiseReads", fn := fun _ => fun
  | [d1, d2, d3] => { results := [.lit (.bool true)], args := [d1, d2, d3] }
  | _ => none }
def noiseReadsRow : OpenClaim := { program := "ytffimigpbcilbaagreatdoor", sum := "066d5029b4c1a542d8d3eff845c39b405f2d20190628cee3e30a30155b62b178", func := "isthmus/isthmuslaw16.NoiseReads", spec := "noiseReads", inPlace := ["internal/abi.NoEscape", "internal/bytealg.MakeNoZero", "math/bits.Add64"], unfollowed := true, recurses := true, named := ["isthmus/blake.orders", "isthmus/chacha.turns"], apart := false, laid := [("isthmus/blake.orders", laid_isthmus_blake_orders), ("isthmus/chacha.turns", laid_isthmus_chacha_turns)] }
def NoiseReadsSaid : Prop := noiseReadsRow.holds Tryz.pinned (OpenSpec.ofChange noiseReadsSpec)

/-- ITS FALSE NEIGHBOUR: 'it returns false'. Refute it at one input. -/
def noiseReadsWrong : ChangeSpec := { name := "noiseReads", fn := fun _ => fun
  | [d1, d2, d3] => { results := [.lit (.bool false)], args := [d1, d2, d3] }
  | _ => none }
def NoiseReadsWrongFalsely : Prop := noiseReadsRow.holds Tryz.pinned (OpenSpec.ofChange noiseReadsWrong)

/-- 'isthmuslaw16.NoiseBoth': WHATEVER THE INPUT: true; the input reads as it did. -/
def noiseBothSpec : ChangeSpec := { name := "noiseBoth", fn := fun _ => fun
  | [d1, d2] => { results := [.lit (.bool true)], args := [d1, d2] }
  | _ => none }
def noiseBothRow : OpenClaim := { program := "ytffimigpbcilbaagreatdoor", sum := "066d5029b4c1a542d8d3eff845c39b405f2d20190628cee3e30a30155b62b178", func := "isthmus/isthmuslaw16.NoiseBoth", spec := "noiseBoth", inPlace := ["internal/abi.NoEscape", "internal/bytealg.MakeNoZero", "math/bits.Add64"], unfollowed := true, recurses := true, named := ["isthmus/blake.orders", "isthmus/chacha.turns"], apart := false, laid := [("isthmus/blake.orders", laid_isthmus_blake_orders), ("isthmus/chacha.turns", laid_isthmus_chacha_turns)] }
def NoiseBothSaid : Prop := noiseBothRow.holds Tryz.pinned (OpenSpec.ofChange noiseBothSpec)

/-- ITS FALSE NEIGHBOUR: 'it returns false'. Refute it at one input. -/
def noiseBothWrong : ChangeSpec := { name := "noiseBoth", fn := fun _ => fun
  | [d1, d2] => { results := [.lit (.bool false)], args := [d1, d2] }
  | _ => none }
def NoiseBothWrongFalsely : Prop := noiseBothRow.holds Tryz.pinned (OpenSpec.ofChange noiseBothWrong)

/-- 'isthmuslaw16.NoiseNil': WHATEVER THE INPUT: true; the input reads as it did. -/
def noiseNilSpec : ChangeSpec := { name := "noiseNil", fn := fun _ => fun
  | [d] => { results := [.lit (.bool true)], args := [d] }
  | _ => none }
def noiseNilRow : OpenClaim := { program := "ytffimigpbcilbaagreatdoor", sum := "066d5029b4c1a542d8d3eff845c39b405f2d20190628cee3e30a30155b62b178", func := "isthmus/isthmuslaw16.NoiseNil", spec := "noiseNil", inPlace := ["internal/abi.NoEscape", "internal/bytealg.MakeNoZero", "math/bits.Add64"], unfollowed := true, recurses := true, named := ["isthmus/blake.orders", "isthmus/chacha.turns"], apart := false, laid := [("isthmus/blake.orders", laid_isthmus_blake_orders), ("isthmus/chacha.turns", laid_isthmus_chacha_turns)] }
def NoiseNilSaid : Prop := noiseNilRow.holds Tryz.pinned (OpenSpec.ofChange noiseNilSpec)

/-- ITS FALSE NEIGHBOUR: 'it returns false'. Refute it at one input. -/
def noiseNilWrong : ChangeSpec := { name := "noiseNil", fn := fun _ => fun
  | [d] => { results := [.lit (.bool false)], args := [d] }
  | _ => none }
def NoiseNilWrongFalsely : Prop := noiseNilRow.holds Tryz.pinned (OpenSpec.ofChange noiseNilWrong)

/- THE SECOND FORM. 'bulk': how many values and letters a reading holds, each counted each time it is reached (what is shared counts as often as it is met; a slice's spare places count too). A statement '..UptoSaid' is the law's where the arguments, and the package variables that the reading takes, are together of bulk at most 1048576: NARROWER than '..Said'. Prove '..Said' where nothing that the law and all that it calls make is longer than what came in: it says more and counts as full. Else prove '..UptoSaid'. A law counts once. -/
mutual
def uptoBulk {H : Type} : DataW H → Nat
  | .lit (.string bytes) => bytes.length + 1
  | .lit _ => 1
  | .nil => 1
  | .ptr d => uptoBulk d + 1
  | .slice elems spare => uptoBulkAll elems + uptoBulkAll spare + 1
  | .agg parts => uptoBulkAll parts + 1
  | .iface _ d => uptoBulk d + 1
  | .map entries => uptoBulkEntries entries + 1
  | .held _ => 1
def uptoBulkAll {H : Type} : List (DataW H) → Nat
  | [] => 0
  | d :: r => uptoBulk d + uptoBulkAll r
def uptoBulkEntries {H : Type} : List (Lit × DataW H) → Nat
  | [] => 0
  | x :: r => uptoBulkEntry x + uptoBulkEntries r
def uptoBulkEntry {H : Type} : Lit × DataW H → Nat
  | (.string bytes, d) => bytes.length + uptoBulk d + 1
  | (_, d) => uptoBulk d + 1
 end
def uptoSmall : (H : Type) → List (DataW H) → Bool := fun _ ds => decide (uptoBulkAll ds ≤ 1048576)
def OpenSpec.upto (s : _root_.Go.ChangeSpec) : _root_.Go.OpenSpec := { _root_.Go.OpenSpec.ofChange s with cond := some uptoSmall }

/-- 'isthmuslaw16.NoisePlays', WHERE WHAT IT READS IS OF BULK AT MOST 1048576: true; the input reads as it did. -/
def noisePlaysUptoRow : OpenClaim := { program := "ytffimigpbcilbaagreatdoor", sum := "066d5029b4c1a542d8d3eff845c39b405f2d20190628cee3e30a30155b62b178", func := "isthmus/isthmuslaw16.NoisePlays", spec := "noisePlays", inPlace := ["internal/abi.NoEscape", "internal/bytealg.MakeNoZero", "math/bits.Add64"], unfollowed := true, recurses := true, named := ["isthmus/blake.orders", "isthmus/chacha.turns"], apart := false, laid := [("isthmus/blake.orders", laid_isthmus_blake_orders), ("isthmus/chacha.turns", laid_isthmus_chacha_turns)], narrowed := true }
def NoisePlaysUptoSaid : Prop := noisePlaysUptoRow.holds Tryz.pinned (OpenSpec.upto noisePlaysSpec)

/-- 'isthmuslaw16.NoiseReads', WHERE WHAT IT READS IS OF BULK AT MOST 1048576: true; the input reads as it did. -/
def noiseReadsUptoRow : OpenClaim := { program := "ytffimigpbcilbaagreatdoor", sum := "066d5029b4c1a542d8d3eff845c39b405f2d20190628cee3e30a30155b62b178", func := "isthmus/isthmuslaw16.NoiseReads", spec := "noiseReads", inPlace := ["internal/abi.NoEscape", "internal/bytealg.MakeNoZero", "math/bits.Add64"], unfollowed := true, recurses := true, named := ["isthmus/blake.orders", "isthmus/chacha.turns"], apart := false, laid := [("isthmus/blake.orders", laid_isthmus_blake_orders), ("isthmus/chacha.turns", laid_isthmus_chacha_turns)], narrowed := true }
def NoiseReadsUptoSaid : Prop := noiseReadsUptoRow.holds Tryz.pinned (OpenSpec.upto noiseReadsSpec)

/-- 'isthmuslaw16.NoiseBoth', WHERE WHAT IT READS IS OF BULK AT MOST 1048576: true; the input reads as it did. -/
def noiseBothUptoRow : OpenClaim := { program := "ytffimigpbcilbaagreatdoor", sum := "066d5029b4c1a542d8d3eff845c39b405f2d20190628cee3e30a30155b62b178", func := "isthmus/isthmuslaw16.NoiseBoth", spec := "noiseBoth", inPlace := ["internal/abi.NoEscape", "internal/bytealg.MakeNoZero", "math/bits.Add64"], unfollowed := true, recurses := true, named := ["isthmus/blake.orders", "isthmus/chacha.turns"], apart := false, laid := [("isthmus/blake.orders", laid_isthmus_blake_orders), ("isthmus/chacha.turns", laid_isthmus_chacha_turns)], narrowed := true }
def NoiseBothUptoSaid : Prop := noiseBothUptoRow.holds Tryz.pinned (OpenSpec.upto noiseBothSpec)

/-- 'isthmuslaw16.NoiseNil', WHERE WHAT IT READS IS OF BULK AT MOST 1048576: true; the input reads as it did. -/
def noiseNilUptoRow : OpenClaim := { program := "ytffimigpbcilbaagreatdoor", sum := "066d5029b4c1a542d8d3eff845c39b405f2d20190628cee3e30a30155b62b178", func := "isthmus/isthmuslaw16.NoiseNil", spec := "noiseNil", inPlace := ["internal/abi.NoEscape", "internal/bytealg.MakeNoZero", "math/bits.Add64"], unfollowed := true, recurses := true, named := ["isthmus/blake.orders", "isthmus/chacha.turns"], apart := false, laid := [("isthmus/blake.orders", laid_isthmus_blake_orders), ("isthmus/chacha.turns", laid_isthmus_chacha_turns)], narrowed := true }
def NoiseNilUptoSaid : Prop := noiseNilUptoRow.holds Tryz.pinned (OpenSpec.upto noiseNilSpec)

end Rows
end Go.Proofs.YtffimigpbcilbaaGreatDoor
