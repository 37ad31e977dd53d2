/- What a call answers that changes nothing that was there. -/
import Derived.WalkKit
import Derived.WalkSpells
import Derived.WalkLawsBesides
import Derived.StillTail
import Derived.BigQuiet
import Derived.Laws.Rows
import Derived.Test.YtiahdbibeleakaaGreatDoorRows
namespace Go.Proofs.YtiahdbibeleakaaGreatDoor
open Go.RowKit
abbrev NI := Nat → Int
abbrev NV := Nat → Value
abbrev Yb := ByteArray
abbrev Cs (f : FuncId) (xs : Array Value) (w : World) (v : Value) : Prop := Calls Tryz.prog f xs w fun r w' => r = .returned v ∧ Below w.heap.size w w'
section
variable {P : Program} {Q : Exit → Act → World → Prop} {a : Act} {w : World}
theorem cT {c : Operand} {x y : Code} (h : x.wp P Q a w) (hc : a.eval c = .bool true := by kernel_rfl) : (Code.cond c x y).wp P Q a w := wp_cond_true hc h
theorem cF {c : Operand} {x y : Code} (h : y.wp P Q a w) (hc : a.eval c = .bool false := by kernel_rfl) : (Code.cond c x y).wp P Q a w := wp_cond_false hc h
end
end Go.Proofs.YtiahdbibeleakaaGreatDoor
