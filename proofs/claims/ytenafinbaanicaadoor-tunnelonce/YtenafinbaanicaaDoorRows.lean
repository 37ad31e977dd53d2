/-
  NARROWER THAN 'FOR EVERY INPUT', by the rows' own cells (each row's printed sentence says how): TunnelOnce: laid · TunnelNil: laid.
  DERIVED. THE GIVEN ROWS OF THIS SEAT. 2 by the template 'for every input the law returns true; each argument reads behind the call as it read before'; 0 by the template 'total and deterministic' (their statements: YtenafinbaanicaaDoorTotals.lean).
  GIVEN WITH THE SEED: the statements are not yours to turn. If you find one false, say at which input.
  Laid BY PROGRAM, IN A SANDBOX (cutbox-rows.mjs): the forced cells as the released guide's own fill.sh prints them over the translation a35a17addc2e7977… (all of the seat's roots in one cut). By AI agents, Wed Nov 11 2026. No macro, syntax, notation, axiom, sorry.
-/
import Derived.Test.YtenafinbaanicaaDoorChecked
import GoSem.Claim
import GoSem.ClaimJoined
import GoSem.ClaimMapViews
import Derived.JoinedTies
import Derived.KernelRfl
namespace Go.Proofs.YtenafinbaanicaaDoor
/- THE CELL 'sum', in the pinned program and in every row, IS THE sha256 OF THE DUMP (.gsa) THAT YtenafinbaanicaaDoorProg.lean LOADS. Nothing in Lean hashes anything: it is a label: what it is worth is what the hold of that sum in a sandbox is worth. -/
noncomputable def Tryd.pinned : Pinned := { name := "ytenafinbaanicaadoor", sum := "a35a17addc2e7977a860bc333252d597605b1831513f4572948ed7aa43183d8a", checked := Tryd.checked }
namespace Rows
def none {H : Type} : Left H := { results := [], args := [] }

/- WHAT THE LISTED PACKAGE-LEVEL VARIABLES READ AS WHEN THE CALL BEGINS. Each datum BY PROGRAM (the guide's laid-datum.mjs) off the statement by which the dump's own 'gosem.cut.vars' lays the variable. In a bare row this is a premise. The card (YtenafinbaanicaaDoorCards.lean) ties it to the program's text. -/
def laid_isthmus_chacha_turns {H : Type} : DataW H := .agg [.agg [.lit (.int .i64 16), .lit (.int .i64 12)], .agg [.lit (.int .i64 8), .lit (.int .i64 7)]]

/-- 'isthmuslaw18.TunnelOnce': WHATEVER THE INPUT: true; the input reads as it did. -/
def tunnelOnceSpec : ChangeSpec := { name := "tunnelOnce", fn := fun _ => fun
  | [d1, d2, d3, d4] => { results := [.lit (.bool true)], args := [d1, d2, d3, d4] }
  | _ => none }
def tunnelOnceRow : OpenClaim := { program := "ytenafinbaanicaadoor", sum := "a35a17addc2e7977a860bc333252d597605b1831513f4572948ed7aa43183d8a", func := "isthmus/isthmuslaw18.TunnelOnce", spec := "tunnelOnce", inPlace := ["internal/abi.NoEscape", "internal/bytealg.MakeNoZero"], unfollowed := true, recurses := true, named := ["isthmus/chacha.turns"], apart := false, laid := [("isthmus/chacha.turns", laid_isthmus_chacha_turns)] }
def TunnelOnceSaid : Prop := tunnelOnceRow.holds Tryd.pinned (OpenSpec.ofChange tunnelOnceSpec)

/-- ITS FALSE NEIGHBOUR: 'it returns false'. Refute it at one input. -/
def tunnelOnceWrong : ChangeSpec := { name := "tunnelOnce", fn := fun _ => fun
  | [d1, d2, d3, d4] => { results := [.lit (.bool false)], args := [d1, d2, d3, d4] }
  | _ => none }
def TunnelOnceWrongFalsely : Prop := tunnelOnceRow.holds Tryd.pinned (OpenSpec.ofChange tunnelOnceWrong)

/-- 'isthmuslaw18.TunnelNil': WHATEVER THE INPUT: true; the input reads as it did. -/
def tunnelNilSpec : ChangeSpec := { name := "tunnelNil", fn := fun _ => fun
  | [d1, d2] => { results := [.lit (.bool true)], args := [d1, d2] }
  | _ => none }
def tunnelNilRow : OpenClaim := { program := "ytenafinbaanicaadoor", sum := "a35a17addc2e7977a860bc333252d597605b1831513f4572948ed7aa43183d8a", func := "isthmus/isthmuslaw18.TunnelNil", spec := "tunnelNil", inPlace := ["internal/abi.NoEscape", "internal/bytealg.MakeNoZero"], unfollowed := true, recurses := true, named := ["isthmus/chacha.turns"], apart := false, laid := [("isthmus/chacha.turns", laid_isthmus_chacha_turns)] }
def TunnelNilSaid : Prop := tunnelNilRow.holds Tryd.pinned (OpenSpec.ofChange tunnelNilSpec)

/-- ITS FALSE NEIGHBOUR: 'it returns false'. Refute it at one input. -/
def tunnelNilWrong : ChangeSpec := { name := "tunnelNil", fn := fun _ => fun
  | [d1, d2] => { results := [.lit (.bool false)], args := [d1, d2] }
  | _ => none }
def TunnelNilWrongFalsely : Prop := tunnelNilRow.holds Tryd.pinned (OpenSpec.ofChange tunnelNilWrong)

/- THE SECOND FORM. 'bulk': how many values and letters a reading holds, each counted each time it is reached (what is shared counts as often as it is met; a slice's spare places count too). A statement '..UptoSaid' is the law's where the arguments, and the package variables that the reading takes, are together of bulk at most 1048576: NARROWER than '..Said'. Prove '..Said' where nothing that the law and all that it calls make is longer than what came in: it says more and counts as full. Else prove '..UptoSaid'. A law counts once. -/
mutual
def uptoBulk {H : Type} : DataW H → Nat
  | .lit (.string bytes) => bytes.length + 1
  | .lit _ => 1
  | .nil => 1
  | .ptr d => uptoBulk d + 1
  | .slice elems spare => uptoBulkAll elems + uptoBulkAll spare + 1
  | .agg parts => uptoBulkAll parts + 1
  | .iface _ d => uptoBulk d + 1
  | .map entries => uptoBulkEntries entries + 1
  | .held _ => 1
def uptoBulkAll {H : Type} : List (DataW H) → Nat
  | [] => 0
  | d :: r => uptoBulk d + uptoBulkAll r
def uptoBulkEntries {H : Type} : List (Lit × DataW H) → Nat
  | [] => 0
  | x :: r => uptoBulkEntry x + uptoBulkEntries r
def uptoBulkEntry {H : Type} : Lit × DataW H → Nat
  | (.string bytes, d) => bytes.length + uptoBulk d + 1
  | (_, d) => uptoBulk d + 1
 end
def uptoSmall : (H : Type) → List (DataW H) → Bool := fun _ ds => decide (uptoBulkAll ds ≤ 1048576)
def OpenSpec.upto (s : _root_.Go.ChangeSpec) : _root_.Go.OpenSpec := { _root_.Go.OpenSpec.ofChange s with cond := some uptoSmall }

/-- 'isthmuslaw18.TunnelOnce', WHERE WHAT IT READS IS OF BULK AT MOST 1048576: true; the input reads as it did. -/
def tunnelOnceUptoRow : OpenClaim := { program := "ytenafinbaanicaadoor", sum := "a35a17addc2e7977a860bc333252d597605b1831513f4572948ed7aa43183d8a", func := "isthmus/isthmuslaw18.TunnelOnce", spec := "tunnelOnce", inPlace := ["internal/abi.NoEscape", "internal/bytealg.MakeNoZero"], unfollowed := true, recurses := true, named := ["isthmus/chacha.turns"], apart := false, laid := [("isthmus/chacha.turns", laid_isthmus_chacha_turns)], narrowed := true }
def TunnelOnceUptoSaid : Prop := tunnelOnceUptoRow.holds Tryd.pinned (OpenSpec.upto tunnelOnceSpec)

/-- 'isthmuslaw18.TunnelNil', WHERE WHAT IT READS IS OF BULK AT MOST 1048576: true; the input reads as it did. -/
def tunnelNilUptoRow : OpenClaim := { program := "ytenafinbaanicaadoor", sum := "a35a17addc2e7977a860bc333252d597605b1831513f4572948ed7aa43183d8a", func := "isthmus/isthmuslaw18.TunnelNil", spec := "tunnelNil", inPlace := ["internal/abi.NoEscape", "internal/bytealg.MakeNoZero"], unfollowed := true, recurses := true, named := ["isthmus/chacha.turns"], apart := false, laid := [("isthmus/chacha.turns", laid_isthmus_chacha_turns)], narrowed := true }
def TunnelNilUptoSaid : Prop := tunnelNilUptoRow.holds Tryd.pinned (OpenSpec.upto tunnelNilSpec)

end Rows
end Go.Proofs.YtenafinbaanicaaDoor
