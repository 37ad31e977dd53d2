/-
  No cell of these rows narrows 'for every input' (looked for: loops, veiled, ifaces, maps, wideKeys, modest, calm, conditions, laid).
  DERIVED. THE GIVEN ROWS OF THIS SEAT. 4 by the template 'for every input the law returns true; each argument reads behind the call as it read before'; 0 by the template 'total and deterministic' (their statements: YtlfekknonjlopaaTotals.lean).
  GIVEN WITH THE SEED: the statements are not yours to turn. If you find one false, say at which input.
  Laid BY PROGRAM, IN A SANDBOX (cutbox-rows.mjs): the forced cells as the released guide's own fill.sh prints them over the translation c1bdabd705a985ba… (all of the seat's roots in one cut). By AI agents, Wed Nov 11 2026. No macro, syntax, notation, axiom, sorry.
-/
import Derived.Test.YtlfekknonjlopaaChecked
import GoSem.Claim
import GoSem.ClaimJoined
import GoSem.ClaimMapViews
import Derived.JoinedTies
import Derived.KernelRfl
namespace Go.Proofs.Ytlfekknonjlopaa
/- THE CELL 'sum', in the pinned program and in every row, IS THE sha256 OF THE DUMP (.gsa) THAT YtlfekknonjlopaaProg.lean LOADS. Nothing in Lean hashes anything: it is a label: what it is worth is what the hold of that sum in a sandbox is worth. -/
noncomputable def Try.pinned : Pinned := { name := "ytlfekknonjlopaa", sum := "c1bdabd705a985bac5ff9fbf28b27e0f6be832732c218aadaf34a0119ad9bc69", checked := Try.checked }
namespace Rows
def none {H : Type} : Left H := { results := [], args := [] }

/-- 'isthmuslaw21.FilterPlays': WHATEVER THE INPUT: true; the input reads as it did. -/
def filterPlaysSpec : ChangeSpec := { name := "filterPlays", fn := fun _ => fun
  | [d1, d2, d3, d4] => { results := [.lit (.bool true)], args := [d1, d2, d3, d4] }
  | _ => none }
def filterPlaysRow : OpenClaim := { program := "ytlfekknonjlopaa", sum := "c1bdabd705a985bac5ff9fbf28b27e0f6be832732c218aadaf34a0119ad9bc69", func := "isthmus/isthmuslaw21.FilterPlays", spec := "filterPlays", unfollowed := true, recurses := true, plainKeys := false, apart := false }
def FilterPlaysSaid : Prop := filterPlaysRow.holds Try.pinned (OpenSpec.ofChange filterPlaysSpec)

/-- ITS FALSE NEIGHBOUR: 'it returns false'. Refute it at one input. -/
def filterPlaysWrong : ChangeSpec := { name := "filterPlays", fn := fun _ => fun
  | [d1, d2, d3, d4] => { results := [.lit (.bool false)], args := [d1, d2, d3, d4] }
  | _ => none }
def FilterPlaysWrongFalsely : Prop := filterPlaysRow.holds Try.pinned (OpenSpec.ofChange filterPlaysWrong)

/-- 'isthmuslaw21.FilterAnswers': WHATEVER THE INPUT: true; the input reads as it did. -/
def filterAnswersSpec : ChangeSpec := { name := "filterAnswers", fn := fun _ => fun
  | [d1, d2, d3, d4] => { results := [.lit (.bool true)], args := [d1, d2, d3, d4] }
  | _ => none }
def filterAnswersRow : OpenClaim := { program := "ytlfekknonjlopaa", sum := "c1bdabd705a985bac5ff9fbf28b27e0f6be832732c218aadaf34a0119ad9bc69", func := "isthmus/isthmuslaw21.FilterAnswers", spec := "filterAnswers", unfollowed := true, recurses := true, plainKeys := false, apart := false }
def FilterAnswersSaid : Prop := filterAnswersRow.holds Try.pinned (OpenSpec.ofChange filterAnswersSpec)

/-- ITS FALSE NEIGHBOUR: 'it returns false'. Refute it at one input. -/
def filterAnswersWrong : ChangeSpec := { name := "filterAnswers", fn := fun _ => fun
  | [d1, d2, d3, d4] => { results := [.lit (.bool false)], args := [d1, d2, d3, d4] }
  | _ => none }
def FilterAnswersWrongFalsely : Prop := filterAnswersRow.holds Try.pinned (OpenSpec.ofChange filterAnswersWrong)

/-- 'isthmuslaw21.FilterNone': WHATEVER THE INPUT: true; the input reads as it did. -/
def filterNoneSpec : ChangeSpec := { name := "filterNone", fn := fun _ => fun
  | [d1, d2] => { results := [.lit (.bool true)], args := [d1, d2] }
  | _ => none }
def filterNoneRow : OpenClaim := { program := "ytlfekknonjlopaa", sum := "c1bdabd705a985bac5ff9fbf28b27e0f6be832732c218aadaf34a0119ad9bc69", func := "isthmus/isthmuslaw21.FilterNone", spec := "filterNone", unfollowed := true, recurses := true, plainKeys := false, apart := false }
def FilterNoneSaid : Prop := filterNoneRow.holds Try.pinned (OpenSpec.ofChange filterNoneSpec)

/-- ITS FALSE NEIGHBOUR: 'it returns false'. Refute it at one input. -/
def filterNoneWrong : ChangeSpec := { name := "filterNone", fn := fun _ => fun
  | [d1, d2] => { results := [.lit (.bool false)], args := [d1, d2] }
  | _ => none }
def FilterNoneWrongFalsely : Prop := filterNoneRow.holds Try.pinned (OpenSpec.ofChange filterNoneWrong)

/-- 'isthmuslaw21.FilterApart': WHATEVER THE INPUT: true; the input reads as it did. -/
def filterApartSpec : ChangeSpec := { name := "filterApart", fn := fun _ => fun
  | [d1, d2, d3, d4] => { results := [.lit (.bool true)], args := [d1, d2, d3, d4] }
  | _ => none }
def filterApartRow : OpenClaim := { program := "ytlfekknonjlopaa", sum := "c1bdabd705a985bac5ff9fbf28b27e0f6be832732c218aadaf34a0119ad9bc69", func := "isthmus/isthmuslaw21.FilterApart", spec := "filterApart", unfollowed := true, recurses := true, plainKeys := false, apart := false }
def FilterApartSaid : Prop := filterApartRow.holds Try.pinned (OpenSpec.ofChange filterApartSpec)

/-- ITS FALSE NEIGHBOUR: 'it returns false'. Refute it at one input. -/
def filterApartWrong : ChangeSpec := { name := "filterApart", fn := fun _ => fun
  | [d1, d2, d3, d4] => { results := [.lit (.bool false)], args := [d1, d2, d3, d4] }
  | _ => none }
def FilterApartWrongFalsely : Prop := filterApartRow.holds Try.pinned (OpenSpec.ofChange filterApartWrong)

/- THE SECOND FORM. 'bulk': how many values and letters a reading holds, each counted each time it is reached (what is shared counts as often as it is met; a slice's spare places count too). A statement '..UptoSaid' is the law's where the arguments, and the package variables that the reading takes, are together of bulk at most 1048576: NARROWER than '..Said'. Prove '..Said' where nothing that the law and all that it calls make is longer than what came in: it says more and counts as full. Else prove '..UptoSaid'. A law counts once. -/
mutual
def uptoBulk {H : Type} : DataW H → Nat
  | .lit (.string bytes) => bytes.length + 1
  | .lit _ => 1
  | .nil => 1
  | .ptr d => uptoBulk d + 1
  | .slice elems spare => uptoBulkAll elems + uptoBulkAll spare + 1
  | .agg parts => uptoBulkAll parts + 1
  | .iface _ d => uptoBulk d + 1
  | .map entries => uptoBulkEntries entries + 1
  | .held _ => 1
def uptoBulkAll {H : Type} : List (DataW H) → Nat
  | [] => 0
  | d :: r => uptoBulk d + uptoBulkAll r
def uptoBulkEntries {H : Type} : List (Lit × DataW H) → Nat
  | [] => 0
  | x :: r => uptoBulkEntry x + uptoBulkEntries r
def uptoBulkEntry {H : Type} : Lit × DataW H → Nat
  | (.string bytes, d) => bytes.length + uptoBulk d + 1
  | (_, d) => uptoBulk d + 1
 end
def uptoSmall : (H : Type) → List (DataW H) → Bool := fun _ ds => decide (uptoBulkAll ds ≤ 1048576)
def OpenSpec.upto (s : _root_.Go.ChangeSpec) : _root_.Go.OpenSpec := { _root_.Go.OpenSpec.ofChange s with cond := some uptoSmall }

/-- 'isthmuslaw21.FilterPlays', WHERE WHAT IT READS IS OF BULK AT MOST 1048576: true; the input reads as it did. -/
def filterPlaysUptoRow : OpenClaim := { program := "ytlfekknonjlopaa", sum := "c1bdabd705a985bac5ff9fbf28b27e0f6be832732c218aadaf34a0119ad9bc69", func := "isthmus/isthmuslaw21.FilterPlays", spec := "filterPlays", unfollowed := true, recurses := true, plainKeys := false, apart := false, narrowed := true }
def FilterPlaysUptoSaid : Prop := filterPlaysUptoRow.holds Try.pinned (OpenSpec.upto filterPlaysSpec)

/-- 'isthmuslaw21.FilterAnswers', WHERE WHAT IT READS IS OF BULK AT MOST 1048576: true; the input reads as it did. -/
def filterAnswersUptoRow : OpenClaim := { program := "ytlfekknonjlopaa", sum := "c1bdabd705a985bac5ff9fbf28b27e0f6be832732c218aadaf34a0119ad9bc69", func := "isthmus/isthmuslaw21.FilterAnswers", spec := "filterAnswers", unfollowed := true, recurses := true, plainKeys := false, apart := false, narrowed := true }
def FilterAnswersUptoSaid : Prop := filterAnswersUptoRow.holds Try.pinned (OpenSpec.upto filterAnswersSpec)

/-- 'isthmuslaw21.FilterNone', WHERE WHAT IT READS IS OF BULK AT MOST 1048576: true; the input reads as it did. -/
def filterNoneUptoRow : OpenClaim := { program := "ytlfekknonjlopaa", sum := "c1bdabd705a985bac5ff9fbf28b27e0f6be832732c218aadaf34a0119ad9bc69", func := "isthmus/isthmuslaw21.FilterNone", spec := "filterNone", unfollowed := true, recurses := true, plainKeys := false, apart := false, narrowed := true }
def FilterNoneUptoSaid : Prop := filterNoneUptoRow.holds Try.pinned (OpenSpec.upto filterNoneSpec)

/-- 'isthmuslaw21.FilterApart', WHERE WHAT IT READS IS OF BULK AT MOST 1048576: true; the input reads as it did. -/
def filterApartUptoRow : OpenClaim := { program := "ytlfekknonjlopaa", sum := "c1bdabd705a985bac5ff9fbf28b27e0f6be832732c218aadaf34a0119ad9bc69", func := "isthmus/isthmuslaw21.FilterApart", spec := "filterApart", unfollowed := true, recurses := true, plainKeys := false, apart := false, narrowed := true }
def FilterApartUptoSaid : Prop := filterApartUptoRow.holds Try.pinned (OpenSpec.upto filterApartSpec)

end Rows
end Go.Proofs.Ytlfekknonjlopaa
