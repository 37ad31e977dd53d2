/- The operations of a plain region one by one, each told by a world of its own. -/
import Derived.Test.YtiiniodidkfbiaaMore
namespace Go.Proofs.Ytiiniodidkfbiaa
open Go.RowKit

section
variable {P : Program} {ops : Array Oper} {rest : List Oper} {o : Oper} {a : Act} {w : World} {Q : Exit → Act → World → Prop}

theorem wpList_to (hg : o.guard = none) (v : Value) (w' : World) (hrun : (execOp a.eval o).run P w = .ok (.value v) w')
    (h : wpList P ops Q rest (a.put o.dst v) w') : wpList P ops Q (o :: rest) a w :=
  wpList_plain hg fun _ hK => by
    unfold Oper.wp
    rw [hrun]
    exact hK _ _ h

theorem wpList_value (hg : o.guard = none) (v : Value) (hrun : ∀ w, (execOp a.eval o).run P w = .ok (.value v) w)
    (h : wpList P ops Q rest (a.put o.dst v) w) : wpList P ops Q (o :: rest) a w := wpList_to hg v w (hrun w) h

theorem wpList_new (hg : o.guard = none) (v : Nat → Value) (Z : Obj) (hrun : ∀ w, (execOp a.eval o).run P w = .ok (.value (v w.heap.size)) (w.alloc Z))
    (h : ∀ g w', w'.heap[g]? = some Z → w.heap.size ≤ g → Below w.heap.size w w' → wpList P ops Q rest (a.put o.dst (v g)) w') : wpList P ops Q (o :: rest) a w :=
  wpList_to hg _ _ (hrun w) (h w.heap.size (w.alloc Z) (heap_alloc_new w Z) (Nat.le_refl _) (new_below w Z))

theorem wpList_call (hg : o.guard = none) (f : FuncId) (args : Array Value) (v : Value) (hrun : ∀ w, (execOp a.eval o).run P w = .ok (.enter f args) w)
    (hc : ∀ w, Calls P f args w fun e w' => e = .returned v ∧ Below w.heap.size w w') (h : ∀ w', Below w.heap.size w w' → wpList P ops Q rest (a.put o.dst v) w') : wpList P ops Q (o :: rest) a w :=
  wpList_plain hg fun _ hK => by
    unfold Oper.wp
    rw [hrun]
    exact (hc w).mono fun e w' ⟨he, hb⟩ => by subst he; exact hK _ _ (h w' hb)

theorem wpList_part (hg : o.guard = none) (ty : TypeId) (x : Operand) (ho : o.op = .load ty x) (g off : Nat) (hx : a.eval x = .pointer (some ⟨g, off, none⟩)) (k : Nat) (f : Nat → Int)
    (hr : w.rangeAt g off (arr k f).toList) (d : TypeDesc) (hu : P.underlying ty = some d) (hd : d.isRow = true) (hi : (P.info? ty).map (·.size) = some k)
    (h : wpList P ops Q rest (a.put o.dst (.agg (arr k f))) w) : wpList P ops Q (o :: rest) a w :=
  wpList_load_mid hg ty x ho g off hx (arr k f).toList d hr hu hd (by rw [hi]; simp [arr_size]) (by simpa using h)

theorem wpList_put (hg : o.guard = none) {b T n : Nat} {f : Nat → Int} (R : Row w b T n f) (f' : Nat → Int) (ty : TypeId) (x y : Operand) (hop : o.op = .store ty x y)
    (hx : a.eval x = .pointer (some ⟨b, 0, none⟩)) (hy : a.eval y = .agg (arr n f')) (hi : (P.info? ty).map (·.size) = some n)
    (h : ∀ w', Row w' b T n f' → (∀ k, k ≠ b → w'.heap[k]? = w.heap[k]?) → (∀ B u, B ≤ b → Below B u w → Below B u w') → wpList P ops Q rest (a.put o.dst undef) w') : wpList P ops Q (o :: rest) a w :=
  wpList_store_mid hg ty x y hop b 0 (arr n f') hx hy (by rw [arr_size]; exact R.there) (by rw [hi, arr_size]) (arr_one _ _) (h _ (R.setAll f') (fun k hk => heap_setCells_other b k hk _ _ _) (fun B u hB hu => below_setCells hB _ 0 hu))
end

theorem put_none (a : Act) (v : Value) : a.put none v = a := rfl

end Go.Proofs.Ytiiniodidkfbiaa
