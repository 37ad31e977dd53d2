/- Loads and stores of the program's numbers in a region that is walked in every order. -/
import Derived.Test.YtamokcoobfmogaaSteps
import Derived.Test.YtamokcoobfmogaaLie
namespace Go.Proofs.Ytamokcoobfmogaa
open Go.RowKit

section
variable {P : Program} {ops : Array Oper} {md : Region.Mode} {Q : Exit → Act → World → Prop}

theorem ready_value {fuel : Nat} {listed : Array Bool} {a : Act} {w : World} {i : Nat} {o : Oper} {rs : List Nat} (v : Value) (ho : ops[i]? = some o) (hgd : o.guard = none) (hrun : (execOp a.eval o).run P w = .ok (.value v) w)
    (h : wpAny P md ops Q fuel (listed.setIfInBounds i true) (a.put o.dst v) w) (hs : AllReady P md ops Q fuel listed a w rs) : AllReady P md ops Q fuel listed a w (i :: rs) :=
  ready_step ho hgd (by unfold Oper.wp; rw [hrun]; exact h) hs

theorem ready_skip {fuel : Nat} {listed : Array Bool} {a : Act} {w : World} {i : Nat} {o : Oper} {rs : List Nat} (w' : World) (ho : ops[i]? = some o) (hgd : o.guard = none) (hrun : (execOp a.eval o).run P w = .ok .skip w')
    (h : wpAny P md ops Q fuel (listed.setIfInBounds i true) (a.put o.dst undef) w') (hs : AllReady P md ops Q fuel listed a w rs) : AllReady P md ops Q fuel listed a w (i :: rs) :=
  ready_step ho hgd (by unfold Oper.wp; rw [hrun]; exact h) hs
end

theorem run_load5 {a : Act} {o : Oper} {W : World} {g : Nat} {x : E5} (t : Operand) (ho : o.op = .load 27 t) (hx : a.eval t = .pointer (some ⟨g, 0, none⟩)) (A : EAt W g x) : (execOp a.eval o).run Try.prog W = .ok (.value x.v) W := by
  obtain ⟨sz, fz, c0, c1, c2, c3, c4⟩ := A
  unfold execOp
  generalize a.eval = ρ at hx ⊢
  simp [ho, hx, go_sem, c0, c1, c2, c3, c4]

theorem run_store5 {a : Act} {o : Oper} {W : World} {g : Nat} {x : E5} (q : E5) (t u : Operand) (ho : o.op = .store 27 t u) (hx : a.eval t = .pointer (some ⟨g, 0, none⟩)) (hu : a.eval u = q.v) (A : EAt W g x) : (execOp a.eval o).run Try.prog W = .ok .skip (put5 W g q) := by
  obtain ⟨sz, fz, c0, c1, c2, c3, c4⟩ := A
  unfold execOp
  generalize a.eval = ρ at hx hu ⊢
  simp [ho, hx, hu, go_sem, c0, c1, c2, c3, c4, fz]

end Go.Proofs.Ytamokcoobfmogaa
