/- Arrays of words in memory, told by a function of the place. -/
import Derived.Test.YtiiniodidkfbiaaKeep
import Derived.Test.YtiiniodidkfbiaaArith
namespace Go.Proofs.Ytiiniodidkfbiaa
open Go.RowKit

/-- The n words f 0, f 1, .. as a value's cells. -/
def arr (n : Nat) (f : Nat → Int) : Array Value := ((List.range n).map fun i => Value.int .u64 (f i)).toArray

theorem arr_size (n : Nat) (f : Nat → Int) : (arr n f).size = n := by simp [arr]
theorem arr_get (n : Nat) (f : Nat → Int) (i : Nat) (h : i < n) : (arr n f)[i]? = some (.int .u64 (f i)) := by simp [arr, h]
theorem arr_congr {n : Nat} {f g : Nat → Int} (h : ∀ i, i < n → f i = g i) : arr n f = arr n g := by
  unfold arr
  congr 1
  exact List.map_congr_left fun i hi => by rw [h i (List.mem_range.1 hi)]
def upd (f : Nat → Int) (k : Nat) (v : Int) : Nat → Int := fun i => if i = k then v else f i
theorem arr_set (n : Nat) (f : Nat → Int) (k : Nat) (v : Int) : (arr n f).setIfInBounds k (.int .u64 v) = arr n (upd f k v) := by
  apply Array.ext_getElem?
  intro i
  by_cases hi : i < n
  · rw [Array.getElem?_setIfInBounds, arr_get n (upd f k v) i hi]
    by_cases hk : k = i
    · subst hk
      rw [if_pos rfl, if_pos (by rw [arr_size]; exact hi)]
      simp [upd]
    · have : ¬ i = k := fun h => hk h.symm
      rw [if_neg hk, arr_get n f i hi]
      simp [upd, this]
  · rw [Array.getElem?_eq_none (by simp [arr_size]; omega), Array.getElem?_eq_none (by simp [arr_size]; omega)]

/-- Block g holds the words f 0 .. f (n - 1). -/
def Row (w : World) (g : Nat) (T : TypeId) (n : Nat) (f : Nat → Int) : Prop := w.heap[g]? = some (.cells (arr n f) T (0, 0))

theorem Row.lt {w : World} {g : Nat} {T : TypeId} {n : Nat} {f : Nat → Int} (h : Row w g T n f) : g < w.heap.size := by
  by_cases hlt : g < w.heap.size
  · exact hlt
  · have hn : w.heap[g]? = none := by simp; omega
    rw [Row, hn] at h
    cases h
theorem Row.cell {w : World} {g : Nat} {T : TypeId} {n : Nat} {f : Nat → Int} (h : Row w g T n f) {i : Nat} (hi : i < n) : w.cell? ⟨g, i, none⟩ = some (.int .u64 (f i)) := by
  rw [cell_of_row w g i (arr n f) T (0, 0) h, arr_get n f i hi]
theorem Row.free {w : World} {g : Nat} {T : TypeId} {n : Nat} {f : Nat → Int} (h : Row w g T n f) (i : Nat) : w.frozen? ⟨g, i, none⟩ = false := frozen_of_row w g i (arr n f) T h
theorem Row.set {w : World} {g : Nat} {T : TypeId} {n : Nat} {f : Nat → Int} (h : Row w g T n f) (k : Nat) (v : Int) : Row (w.setCell ⟨g, k, none⟩ (.int .u64 v)) g T n (upd f k v) := by
  unfold Row
  rw [heap_setCell_same w g k (arr n f) T _ h, arr_set]
theorem Row.other {w : World} {g : Nat} {T : TypeId} {n : Nat} {f : Nat → Int} (h : Row w g T n f) {a : Addr} (ha : g ≠ a.block) (v : Value) : Row (w.setCell a v) g T n f := by
  unfold Row
  rw [heap_setCell_other w a g v ha]
  exact h
theorem Row.keep {w w' : World} {g : Nat} {T : TypeId} {n : Nat} {f : Nat → Int} (h : Row w g T n f) (hb : Below w.heap.size w w') : Row w' g T n f := by
  unfold Row
  rw [hb.block g h.lt]
  exact h
theorem Row.alloc {w : World} {g : Nat} {T : TypeId} {n : Nat} {f : Nat → Int} (h : Row w g T n f) (o : Obj) : Row (w.alloc o) g T n f := h.keep ((Below.refl _ _).alloc (Nat.le_refl _) _)
theorem Row.drewN {w : World} {g : Nat} {T : TypeId} {n : Nat} {f : Nat → Int} (h : Row w g T n f) (k : Nat) : Row (w.drewN k) g T n f := h
theorem Row.congr {w : World} {g : Nat} {T : TypeId} {n : Nat} {f f' : Nat → Int} (h : Row w g T n f) (e : ∀ i, i < n → f i = f' i) : Row w g T n f' := by
  unfold Row
  rw [← arr_congr e]
  exact h
theorem Row.new (w : World) (T : TypeId) (n : Nat) (f : Nat → Int) : Row (w.alloc (.cells (arr n f) T)) w.heap.size T n f := heap_alloc_new w _
theorem Row.new' (w : World) (T : TypeId) (n : Nat) (f : Nat → Int) {g : Nat} (hg : g = w.heap.size) : Row (w.alloc (.cells (arr n f) T)) g T n f := by
  subst hg
  exact heap_alloc_new w _

end Go.Proofs.Ytiiniodidkfbiaa
