/- What a call answers that changes nothing that was there. -/
import Derived.WalkKit
import Derived.WalkSpells
import Derived.WalkLawsBesides
import Derived.StillTail
import Derived.BigQuiet
import Derived.Laws.Rows
import Derived.Test.YtmhfmhmpoobmlaaGreatDoorRows
namespace Go.Proofs.YtmhfmhmpoobmlaaGreatDoor
open Go.RowKit
abbrev Cs (f : FuncId) (xs : Array Value) (w : World) (v : Value) : Prop := Calls Tryz.prog f xs w fun r w' => r = .returned v ∧ Below w.heap.size w w'
end Go.Proofs.YtmhfmhmpoobmlaaGreatDoor
