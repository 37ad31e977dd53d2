/- Cells that are stored one behind the other. -/
import Derived.Test.YtenafinbaanicaaDoorKeep
import Derived.Test.YtenafinbaanicaaDoorRows
import Derived.Deep.MidRow
namespace Go.Proofs.YtenafinbaanicaaDoor
open Go.RowKit

def setAll (cs : Array Value) : Nat → List Value → Array Value
  | _, [] => cs
  | o, v :: vs => setAll (cs.setIfInBounds o v) (o + 1) vs

theorem setAll_get (vs : List Value) : ∀ (cs : Array Value) (o i : Nat), o + vs.length ≤ cs.size → (setAll cs o vs)[i]? = if o ≤ i ∧ i < o + vs.length then vs[i - o]? else cs[i]? := by
  induction vs with
  | nil =>
    intro cs o i _
    simp only [setAll, List.length_nil]
    rw [if_neg (by omega)]
  | cons v vs ih =>
    intro cs o i h
    simp only [List.length_cons] at h
    simp only [setAll, List.length_cons]
    rw [ih _ _ _ (by simp; omega)]
    by_cases h1 : o + 1 ≤ i ∧ i < o + 1 + vs.length
    · rw [if_pos h1, if_pos (by omega), show i - o = (i - (o + 1)) + 1 by omega, List.getElem?_cons_succ]
    · rw [if_neg h1]
      by_cases h2 : i = o
      · subst h2
        rw [if_pos (by omega), Nat.sub_self, Array.getElem?_setIfInBounds]
        simp
        omega
      · rw [if_neg (by omega), Array.getElem?_setIfInBounds_ne (by omega)]

theorem heap_setCells (g : Nat) (T : TypeId) (vs : List Value) : ∀ (W : World) (cs : Array Value) (o : Nat), W.heap[g]? = some (.cells cs T (0, 0)) → (W.setCells g o vs).heap[g]? = some (.cells (setAll cs o vs) T (0, 0)) := by
  induction vs with
  | nil => intro W cs o h; exact h
  | cons v vs ih =>
    intro W cs o h
    exact ih _ _ _ (heap_setCell_same W g o cs T v h)

theorem heap_setCells_other (g k : Nat) (hk : k ≠ g) (vs : List Value) : ∀ (W : World) (o : Nat), (W.setCells g o vs).heap[k]? = W.heap[k]? := by
  induction vs with
  | nil => intro W o; rfl
  | cons v vs ih =>
    intro W o
    exact (ih _ _).trans (heap_setCell_other W ⟨g, o, none⟩ k v hk)

theorem below_setCells {B g : Nat} (hg : B ≤ g) (vs : List Value) : ∀ {w W : World} (o : Nat), Below B w W → Below B w (W.setCells g o vs) := by
  induction vs with
  | nil => intro w W o h; exact h
  | cons v vs ih =>
    intro w W o h
    exact ih (o + 1) (h.setCell (p := ⟨g, o, none⟩) hg v)


end Go.Proofs.YtenafinbaanicaaDoor
