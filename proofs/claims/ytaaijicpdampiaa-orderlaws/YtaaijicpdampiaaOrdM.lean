/- The contract of low. -/
import Derived.Test.YtaaijicpdampiaaOrdL
namespace Go.Proofs.Ytaaijicpdampiaa
open Go.RowKit
set_option maxRecDepth 100000 in
set_option maxHeartbeats 1000000 in
theorem low_any (f : Nat → Int) (w : World) :
    Calls Try.prog 27 #[.agg (arr 8 f)] w fun x w' => x = .returned (.agg (arr 4 f)) ∧ Below w.heap.size w w' := by
  have R1 : Row ((w.alloc (.cells (arr 8 f) 52)).alloc (.cells #[Value.int IntKind.u64 0, Value.int IntKind.u64 0, Value.int IntKind.u64 0, Value.int IntKind.u64 0] 25)) w.heap.size 52 8 f := (Row.new w 52 8 f).alloc _
  have c0 := R1.cell (i := 0) (by omega)
  have c1 := R1.cell (i := 1) (by omega)
  have c2 := R1.cell (i := 2) (by omega)
  have c3 := R1.cell (i := 3) (by omega)
  clear R1
  have har : ∀ w', (Instr.arrayAt 25 (.slice (some ⟨w.heap.size, 0, none⟩) 4 8)).run Try.prog w' = .ok (.pointer (some ⟨w.heap.size, 0, none⟩)) w' := fun _ => by kernel_rfl
  go_enter Try.func27, Try.ntmps27
  go_wp2
  exact bodyPost_ret (v := .agg (arr 4 f)) (by simp [results, Try.results27, go_sem]; rfl) rfl ⟨rfl, ((Below.refl _ _).alloc (Nat.le_refl _) _).alloc (by simp) _⟩
end Go.Proofs.Ytaaijicpdampiaa
