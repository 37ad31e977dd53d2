/- More steps of a region that is walked in every order: what is made, and what is stored, told by a world of its own. -/
import Derived.Test.YtiiniodidkfbiaaPt
import Derived.Test.YtiiniodidkfbiaaSteps
namespace Go.Proofs.Ytiiniodidkfbiaa
open Go.RowKit

section
variable {P : Program} {ops : Array Oper} {md : Region.Mode} {Q : Exit → Act → World → Prop}
theorem ready_to {fuel : Nat} {listed : Array Bool} {a : Act} {w : World} {i : Nat} {o : Oper} {rs : List Nat} (v : Value) (w' : World) (ho : ops[i]? = some o) (hgd : o.guard = none) (hrun : (execOp a.eval o).run P w = .ok (.value v) w')
    (h : wpAny P md ops Q fuel (listed.setIfInBounds i true) (a.put o.dst v) w') (hs : AllReady P md ops Q fuel listed a w rs) : AllReady P md ops Q fuel listed a w (i :: rs) :=
  ready_step ho hgd (by unfold Oper.wp; rw [hrun]; exact h) hs

theorem ready_new {fuel : Nat} {listed : Array Bool} {a : Act} {w : World} {i : Nat} {o : Oper} {rs : List Nat} (v : Nat → Value) (Z : Obj) (ho : ops[i]? = some o) (hgd : o.guard = none) (hrun : (execOp a.eval o).run P w = .ok (.value (v w.heap.size)) (w.alloc Z))
    (h : ∀ g w', w'.heap[g]? = some Z → w.heap.size ≤ g → Below w.heap.size w w' → wpAny P md ops Q fuel (listed.setIfInBounds i true) (a.put o.dst (v g)) w') (hs : AllReady P md ops Q fuel listed a w rs) : AllReady P md ops Q fuel listed a w (i :: rs) :=
  ready_to _ _ ho hgd hrun (h w.heap.size (w.alloc Z) (heap_alloc_new w Z) (Nat.le_refl _) (new_below w Z)) hs

theorem ready_put {fuel : Nat} {listed : Array Bool} {a : Act} {w : World} {i : Nat} {o : Oper} {rs : List Nat} {b T n : Nat} {f f' : Nat → Int} (R : Row w b T n f) (ho : ops[i]? = some o) (hgd : o.guard = none) (ty : TypeId) (x y : Operand) (hop : o.op = .store ty x y)
    (hx : a.eval x = .pointer (some ⟨b, 0, none⟩)) (hy : a.eval y = .agg (arr n f')) (hi : (P.info? ty).map (·.size) = some (arr n f').size)
    (h : ∀ w', Row w' b T n f' → (∀ k, k ≠ b → w'.heap[k]? = w.heap[k]?) → (∀ B u, B ≤ b → Below B u w → Below B u w') → wpAny P md ops Q fuel (listed.setIfInBounds i true) (a.put o.dst undef) w') (hs : AllReady P md ops Q fuel listed a w rs) : AllReady P md ops Q fuel listed a w (i :: rs) :=
  ready_store ho hgd ty x y hop b 0 (arr n f') hx hy (by rw [arr_size]; exact R.there) hi (arr_one _ _) (h _ (R.setAll f') (fun k hk => heap_setCells_other b k hk _ _ _) (fun B u hB hu => below_setCells hB _ 0 hu)) hs
end

theorem Row.at_ {W W' : World} {g : Nat} {T : TypeId} {n : Nat} {f : Nat → Int} (h : Row W g T n f) (e : W'.heap[g]? = W.heap[g]?) : Row W' g T n f := by
  unfold Row
  rw [e]
  exact h

end Go.Proofs.Ytiiniodidkfbiaa
