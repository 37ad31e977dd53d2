/-
  No cell of these rows narrows 'for every input' (looked for: loops, veiled, ifaces, maps, wideKeys, modest, calm, conditions, laid).
  DERIVED. THE GIVEN ROWS OF THIS SEAT. 3 by the template 'for every input the law returns true; each argument reads behind the call as it read before'; 0 by the template 'total and deterministic' (their statements: YtkeocdebfgcnnaaTotals.lean).
  GIVEN WITH THE SEED: the statements are not yours to turn. If you find one false, say at which input.
  Laid BY PROGRAM, IN A SANDBOX (cutbox-rows.mjs): the forced cells as the released guide's own fill.sh prints them over the translation b6cee084681ecf6f… (all of the seat's roots in one cut). By AI agents, Wed Nov 11 2026. No macro, syntax, notation, axiom, sorry.
-/
import Derived.Test.YtkeocdebfgcnnaaChecked
import GoSem.Claim
import GoSem.ClaimJoined
import GoSem.ClaimMapViews
import Derived.JoinedTies
import Derived.KernelRfl
namespace Go.Proofs.Ytkeocdebfgcnnaa
/- THE CELL 'sum', in the pinned program and in every row, IS THE sha256 OF THE DUMP (.gsa) THAT YtkeocdebfgcnnaaProg.lean LOADS. Nothing in Lean hashes anything: it is a label: what it is worth is what the hold of that sum in a sandbox is worth. -/
noncomputable def Try.pinned : Pinned := { name := "ytkeocdebfgcnnaa", sum := "b6cee084681ecf6f1450b1824244a05b088beed6af9712f57118a4863c90177e", checked := Try.checked }
namespace Rows
def none {H : Type} : Left H := { results := [], args := [] }

/-- 'isthmuslaw04.EdwReads': WHATEVER THE INPUT: true; the input reads as it did. -/
def edwReadsSpec : ChangeSpec := { name := "edwReads", fn := fun _ => fun
  | [d] => { results := [.lit (.bool true)], args := [d] }
  | _ => none }
def edwReadsRow : OpenClaim := { program := "ytkeocdebfgcnnaa", sum := "b6cee084681ecf6f1450b1824244a05b088beed6af9712f57118a4863c90177e", func := "isthmus/isthmuslaw04.EdwReads", spec := "edwReads", inPlace := ["internal/abi.NoEscape", "internal/bytealg.MakeNoZero", "math/bits.Add64"], recurses := true, apart := false }
def EdwReadsSaid : Prop := edwReadsRow.holds Try.pinned (OpenSpec.ofChange edwReadsSpec)

/-- ITS FALSE NEIGHBOUR: 'it returns false'. Refute it at one input. -/
def edwReadsWrong : ChangeSpec := { name := "edwReads", fn := fun _ => fun
  | [d] => { results := [.lit (.bool false)], args := [d] }
  | _ => none }
def EdwReadsWrongFalsely : Prop := edwReadsRow.holds Try.pinned (OpenSpec.ofChange edwReadsWrong)

/-- 'isthmuslaw04.EdwRows': WHATEVER THE INPUT: true; the input reads as it did. -/
def edwRowsSpec : ChangeSpec := { name := "edwRows", fn := fun _ => fun
  | [d1, d2] => { results := [.lit (.bool true)], args := [d1, d2] }
  | _ => none }
def edwRowsRow : OpenClaim := { program := "ytkeocdebfgcnnaa", sum := "b6cee084681ecf6f1450b1824244a05b088beed6af9712f57118a4863c90177e", func := "isthmus/isthmuslaw04.EdwRows", spec := "edwRows", inPlace := ["math/bits.Add64", "internal/abi.NoEscape", "internal/bytealg.MakeNoZero"], recurses := true, apart := false }
def EdwRowsSaid : Prop := edwRowsRow.holds Try.pinned (OpenSpec.ofChange edwRowsSpec)

/-- ITS FALSE NEIGHBOUR: 'it returns false'. Refute it at one input. -/
def edwRowsWrong : ChangeSpec := { name := "edwRows", fn := fun _ => fun
  | [d1, d2] => { results := [.lit (.bool false)], args := [d1, d2] }
  | _ => none }
def EdwRowsWrongFalsely : Prop := edwRowsRow.holds Try.pinned (OpenSpec.ofChange edwRowsWrong)

/-- 'isthmuslaw04.EdwNone': WHATEVER THE INPUT: true; the input reads as it did. -/
def edwNoneSpec : ChangeSpec := { name := "edwNone", fn := fun _ => fun
  | [d] => { results := [.lit (.bool true)], args := [d] }
  | _ => none }
def edwNoneRow : OpenClaim := { program := "ytkeocdebfgcnnaa", sum := "b6cee084681ecf6f1450b1824244a05b088beed6af9712f57118a4863c90177e", func := "isthmus/isthmuslaw04.EdwNone", spec := "edwNone", inPlace := ["math/bits.Add64", "math/bits.Sub64", "internal/abi.NoEscape", "internal/bytealg.MakeNoZero"], recurses := true, apart := false }
def EdwNoneSaid : Prop := edwNoneRow.holds Try.pinned (OpenSpec.ofChange edwNoneSpec)

/-- ITS FALSE NEIGHBOUR: 'it returns false'. Refute it at one input. -/
def edwNoneWrong : ChangeSpec := { name := "edwNone", fn := fun _ => fun
  | [d] => { results := [.lit (.bool false)], args := [d] }
  | _ => none }
def EdwNoneWrongFalsely : Prop := edwNoneRow.holds Try.pinned (OpenSpec.ofChange edwNoneWrong)

/- THE SECOND FORM. 'bulk': how many values and letters a reading holds, each counted each time it is reached (what is shared counts as often as it is met; a slice's spare places count too). A statement '..UptoSaid' is the law's where the arguments, and the package variables that the reading takes, are together of bulk at most 1048576: NARROWER than '..Said'. Prove '..Said' where nothing that the law and all that it calls make is longer than what came in: it says more and counts as full. Else prove '..UptoSaid'. A law counts once. -/
mutual
def uptoBulk {H : Type} : DataW H → Nat
  | .lit (.string bytes) => bytes.length + 1
  | .lit _ => 1
  | .nil => 1
  | .ptr d => uptoBulk d + 1
  | .slice elems spare => uptoBulkAll elems + uptoBulkAll spare + 1
  | .agg parts => uptoBulkAll parts + 1
  | .iface _ d => uptoBulk d + 1
  | .map entries => uptoBulkEntries entries + 1
  | .held _ => 1
def uptoBulkAll {H : Type} : List (DataW H) → Nat
  | [] => 0
  | d :: r => uptoBulk d + uptoBulkAll r
def uptoBulkEntries {H : Type} : List (Lit × DataW H) → Nat
  | [] => 0
  | x :: r => uptoBulkEntry x + uptoBulkEntries r
def uptoBulkEntry {H : Type} : Lit × DataW H → Nat
  | (.string bytes, d) => bytes.length + uptoBulk d + 1
  | (_, d) => uptoBulk d + 1
 end
def uptoSmall : (H : Type) → List (DataW H) → Bool := fun _ ds => decide (uptoBulkAll ds ≤ 1048576)
def OpenSpec.upto (s : _root_.Go.ChangeSpec) : _root_.Go.OpenSpec := { _root_.Go.OpenSpec.ofChange s with cond := some uptoSmall }

/-- 'isthmuslaw04.EdwReads', WHERE WHAT IT READS IS OF BULK AT MOST 1048576: true; the input reads as it did. -/
def edwReadsUptoRow : OpenClaim := { program := "ytkeocdebfgcnnaa", sum := "b6cee084681ecf6f1450b1824244a05b088beed6af9712f57118a4863c90177e", func := "isthmus/isthmuslaw04.EdwReads", spec := "edwReads", inPlace := ["internal/abi.NoEscape", "internal/bytealg.MakeNoZero", "math/bits.Add64"], recurses := true, apart := false, narrowed := true }
def EdwReadsUptoSaid : Prop := edwReadsUptoRow.holds Try.pinned (OpenSpec.upto edwReadsSpec)

/-- 'isthmuslaw04.EdwRows', WHERE WHAT IT READS IS OF BULK AT MOST 1048576: true; the input reads as it did. -/
def edwRowsUptoRow : OpenClaim := { program := "ytkeocdebfgcnnaa", sum := "b6cee084681ecf6f1450b1824244a05b088beed6af9712f57118a4863c90177e", func := "isthmus/isthmuslaw04.EdwRows", spec := "edwRows", inPlace := ["math/bits.Add64", "internal/abi.NoEscape", "internal/bytealg.MakeNoZero"], recurses := true, apart := false, narrowed := true }
def EdwRowsUptoSaid : Prop := edwRowsUptoRow.holds Try.pinned (OpenSpec.upto edwRowsSpec)

/-- 'isthmuslaw04.EdwNone', WHERE WHAT IT READS IS OF BULK AT MOST 1048576: true; the input reads as it did. -/
def edwNoneUptoRow : OpenClaim := { program := "ytkeocdebfgcnnaa", sum := "b6cee084681ecf6f1450b1824244a05b088beed6af9712f57118a4863c90177e", func := "isthmus/isthmuslaw04.EdwNone", spec := "edwNone", inPlace := ["math/bits.Add64", "math/bits.Sub64", "internal/abi.NoEscape", "internal/bytealg.MakeNoZero"], recurses := true, apart := false, narrowed := true }
def EdwNoneUptoSaid : Prop := edwNoneUptoRow.holds Try.pinned (OpenSpec.upto edwNoneSpec)

end Rows
end Go.Proofs.Ytkeocdebfgcnnaa
