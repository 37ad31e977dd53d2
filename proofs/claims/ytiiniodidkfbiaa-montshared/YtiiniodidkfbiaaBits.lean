/- The contract of the document's bits: the bits of 2^n - k, the highest first, in a slice of its own. -/
import Derived.Test.YtiiniodidkfbiaaOfL
import Derived.Test.YtiiniodidkfbiaaRed
namespace Go.Proofs.Ytiiniodidkfbiaa
open Go.RowKit

/-- n Booleans as a value's cells. -/
def barr (n : Nat) (f : Nat → Bool) : Array Value := ((List.range n).map fun i => Value.bool (f i)).toArray
theorem barr_size (n : Nat) (f : Nat → Bool) : (barr n f).size = n := by simp [barr]
theorem barr_get (n : Nat) (f : Nat → Bool) (i : Nat) (h : i < n) : (barr n f)[i]? = some (.bool (f i)) := by simp [barr, h]
theorem barr_congr {n : Nat} {f g : Nat → Bool} (h : ∀ i, i < n → f i = g i) : barr n f = barr n g := by
  unfold barr
  congr 1
  exact List.map_congr_left fun i hi => by rw [h i (List.mem_range.1 hi)]
def bupd (f : Nat → Bool) (k : Nat) (v : Bool) : Nat → Bool := fun i => if i = k then v else f i
theorem barr_set (n : Nat) (f : Nat → Bool) (k : Nat) (v : Bool) : (barr n f).setIfInBounds k (.bool v) = barr n (bupd f k v) := by
  apply Array.ext_getElem?
  intro i
  by_cases hi : i < n
  · rw [Array.getElem?_setIfInBounds, barr_get n (bupd f k v) i hi]
    by_cases hk : k = i
    · subst hk
      rw [if_pos rfl, if_pos (by rw [barr_size]; exact hi)]
      simp [bupd]
    · have : ¬ i = k := fun h => hk h.symm
      rw [if_neg hk, barr_get n f i hi]
      simp [bupd, this]
  · rw [Array.getElem?_eq_none (by simp [barr_size]; omega), Array.getElem?_eq_none (by simp [barr_size]; omega)]

/-- Block g holds the Booleans f 0 .. f (n - 1). -/
def Brow (w : World) (g : Nat) (n : Nat) (f : Nat → Bool) : Prop := w.heap[g]? = some (.cells (barr n f) 4 (0, 0))
theorem Brow.lt {w : World} {g n : Nat} {f : Nat → Bool} (h : Brow w g n f) : g < w.heap.size := by
  by_cases hlt : g < w.heap.size
  · exact hlt
  · have hn : w.heap[g]? = none := by simp; omega
    rw [Brow, hn] at h
    cases h
theorem Brow.cell {w : World} {g n : Nat} {f : Nat → Bool} (h : Brow w g n f) {i : Nat} (hi : i < n) : w.cell? ⟨g, i, none⟩ = some (.bool (f i)) := by
  rw [cell_of_row w g i (barr n f) 4 (0, 0) h, barr_get n f i hi]
theorem Brow.free {w : World} {g n : Nat} {f : Nat → Bool} (h : Brow w g n f) (i : Nat) : w.frozen? ⟨g, i, none⟩ = false := frozen_of_row w g i (barr n f) 4 h
theorem Brow.set {w : World} {g n : Nat} {f : Nat → Bool} (h : Brow w g n f) (k : Nat) (v : Bool) : Brow (w.setCell ⟨g, k, none⟩ (.bool v)) g n (bupd f k v) := by
  unfold Brow
  rw [heap_setCell_same w g k (barr n f) 4 _ h, barr_set]
theorem Brow.keep {w w' : World} {g n : Nat} {f : Nat → Bool} (h : Brow w g n f) (hb : Below w.heap.size w w') : Brow w' g n f := by
  unfold Brow
  rw [hb.block g h.lt]
  exact h
theorem Brow.congr {w : World} {g n : Nat} {f f' : Nat → Bool} (h : Brow w g n f) (e : ∀ i, i < n → f i = f' i) : Brow w g n f' := by
  unfold Brow
  rw [← barr_congr e]
  exact h
theorem Brow.new (w : World) (n : Nat) (f : Nat → Bool) : Brow (w.alloc (.cells (barr n f) 4)) w.heap.size n f := heap_alloc_new w _

/-- Bit i of 2^n - k, the highest first. -/
def xbit (n k i : Nat) : Bool := decide (8 ≤ n - 1 - i) || Nat.testBit (256 - k) (n - 1 - i)
/-- The first j of them have been written. -/
def xbw (n k j : Nat) : Nat → Bool := fun i => decide (i < j) && xbit n k i

theorem xbw_next (n k j i : Nat) {v : Bool} (hv : v = xbit n k j) : bupd (xbw n k j) j v i = xbw n k (j + 1) i := by
  unfold bupd xbw
  by_cases h : i = j
  · subst h
    simp [hv]
  · rw [if_neg h]
    by_cases h2 : i < j
    · simp [h2, show i < j + 1 by omega]
    · simp [h2, show ¬ i < j + 1 by omega]


set_option maxRecDepth 100000 in
set_option maxHeartbeats 2000000 in
theorem bits_255 (w : World) : Calls Try.prog 54 #[.int .i64 255, .int .i64 21] w fun r w' => ∃ b, r = .returned (.slice (some ⟨b, 0, none⟩) 255 255) ∧ w.heap.size ≤ b ∧ Brow w' b 255 (xbit 255 21) ∧ Below w.heap.size w w' := by
  have hmk : ∀ w, (Instr.makeSlice 81 (.int .i64 255) (.int .i64 255)).run Try.prog w = .ok (.slice (some ⟨w.heap.size, 0, none⟩) 255 255) (w.alloc (.cells (barr 255 fun _ => false) 4)) := fun _ => by kernel_rfl
  go_enter Try.func54, Try.ntmps54
  go_wp2
  clear hmk
  have R := Brow.new w 255 fun _ => false
  have O := new_below w (.cells (barr 255 fun _ => false) 4)
  generalize w.alloc (.cells (barr 255 fun _ => false) 4) = W at R O ⊢
  go_loopw [7] (fun i wr => ∃ j : Nat, j ≤ 255 ∧ i = .int .i64 j ∧ Brow wr w.heap.size 255 (xbw 255 21 j) ∧ Below w.heap.size w wr) (fun i _ => 255 - (intOf i).toNat)
  case atStart => exact ⟨0, by omega, rfl, R.congr (fun i _ => by simp [xbw]), O⟩
  case round =>
    clear R O
    obtain ⟨j, hj, rfl, R, O⟩ := hrel
    by_cases h1 : j < 247
    · have c := R.cell (i := j) (by omega)
      have e := R.free j
      have i1 : (0 : Int) ≤ (j : Int) := by omega
      have i2 : (j : Int) < 247 := by omega
      have RR := hide ((R.set j true).congr (f' := xbw 255 21 (j + 1)) (fun i _ => xbw_next 255 21 j i (by unfold xbit; rw [decide_eq_true (by omega)]; rfl)))
      have O' := hide (O.setCell (p := ⟨w.heap.size, j, none⟩) (Nat.le_refl _) (.bool true))
      clear R O
      go_wp2
      go_roundw
      case rel => exact ⟨j + 1, by omega, by go_num, RR.out, O'.out⟩
      case measure => simp [intOf]; omega
    · by_cases h2 : j < 255
      · rcases (show j = 247 ∨ j = 248 ∨ j = 249 ∨ j = 250 ∨ j = 251 ∨ j = 252 ∨ j = 253 ∨ j = 254 by omega) with rfl | rfl | rfl | rfl | rfl | rfl | rfl | rfl
        · have c := R.cell (i := 247) (by omega)
          have e := R.free 247
          have RR := hide ((R.set 247 true).congr (f' := xbw 255 21 (247 + 1)) (fun i _ => xbw_next 255 21 247 i (by decide)))
          have O' := hide (O.setCell (p := ⟨w.heap.size, 247, none⟩) (Nat.le_refl _) (.bool true))
          clear R O
          go_wp2
          go_roundw
          case rel => exact ⟨248, by omega, rfl, RR.out, O'.out⟩
          case measure => simp [intOf]
        · have c := R.cell (i := 248) (by omega)
          have e := R.free 248
          have RR := hide ((R.set 248 true).congr (f' := xbw 255 21 (248 + 1)) (fun i _ => xbw_next 255 21 248 i (by decide)))
          have O' := hide (O.setCell (p := ⟨w.heap.size, 248, none⟩) (Nat.le_refl _) (.bool true))
          clear R O
          go_wp2
          go_roundw
          case rel => exact ⟨249, by omega, rfl, RR.out, O'.out⟩
          case measure => simp [intOf]
        · have c := R.cell (i := 249) (by omega)
          have e := R.free 249
          have RR := hide ((R.set 249 true).congr (f' := xbw 255 21 (249 + 1)) (fun i _ => xbw_next 255 21 249 i (by decide)))
          have O' := hide (O.setCell (p := ⟨w.heap.size, 249, none⟩) (Nat.le_refl _) (.bool true))
          clear R O
          go_wp2
          go_roundw
          case rel => exact ⟨250, by omega, rfl, RR.out, O'.out⟩
          case measure => simp [intOf]
        · have c := R.cell (i := 250) (by omega)
          have e := R.free 250
          have RR := hide ((R.set 250 false).congr (f' := xbw 255 21 (250 + 1)) (fun i _ => xbw_next 255 21 250 i (by decide)))
          have O' := hide (O.setCell (p := ⟨w.heap.size, 250, none⟩) (Nat.le_refl _) (.bool false))
          clear R O
          go_wp2
          go_roundw
          case rel => exact ⟨251, by omega, rfl, RR.out, O'.out⟩
          case measure => simp [intOf]
        · have c := R.cell (i := 251) (by omega)
          have e := R.free 251
          have RR := hide ((R.set 251 true).congr (f' := xbw 255 21 (251 + 1)) (fun i _ => xbw_next 255 21 251 i (by decide)))
          have O' := hide (O.setCell (p := ⟨w.heap.size, 251, none⟩) (Nat.le_refl _) (.bool true))
          clear R O
          go_wp2
          go_roundw
          case rel => exact ⟨252, by omega, rfl, RR.out, O'.out⟩
          case measure => simp [intOf]
        · have c := R.cell (i := 252) (by omega)
          have e := R.free 252
          have RR := hide ((R.set 252 false).congr (f' := xbw 255 21 (252 + 1)) (fun i _ => xbw_next 255 21 252 i (by decide)))
          have O' := hide (O.setCell (p := ⟨w.heap.size, 252, none⟩) (Nat.le_refl _) (.bool false))
          clear R O
          go_wp2
          go_roundw
          case rel => exact ⟨253, by omega, rfl, RR.out, O'.out⟩
          case measure => simp [intOf]
        · have c := R.cell (i := 253) (by omega)
          have e := R.free 253
          have RR := hide ((R.set 253 true).congr (f' := xbw 255 21 (253 + 1)) (fun i _ => xbw_next 255 21 253 i (by decide)))
          have O' := hide (O.setCell (p := ⟨w.heap.size, 253, none⟩) (Nat.le_refl _) (.bool true))
          clear R O
          go_wp2
          go_roundw
          case rel => exact ⟨254, by omega, rfl, RR.out, O'.out⟩
          case measure => simp [intOf]
        · have c := R.cell (i := 254) (by omega)
          have e := R.free 254
          have RR := hide ((R.set 254 true).congr (f' := xbw 255 21 (254 + 1)) (fun i _ => xbw_next 255 21 254 i (by decide)))
          have O' := hide (O.setCell (p := ⟨w.heap.size, 254, none⟩) (Nat.le_refl _) (.bool true))
          clear R O
          go_wp2
          go_roundw
          case rel => exact ⟨255, by omega, rfl, RR.out, O'.out⟩
          case measure => simp [intOf]
      · have hj' : j = 255 := by omega
        subst hj'
        have RR := hide (R.congr (f' := xbit 255 21) (fun i hi => by unfold xbw; rw [decide_eq_true hi]; rfl))
        clear R
        go_wp2
        go_ret
        exact ⟨w.heap.size, rfl, Nat.le_refl _, RR.out, O⟩

set_option maxRecDepth 100000 in
set_option maxHeartbeats 2000000 in
theorem bits_252 (w : World) : Calls Try.prog 54 #[.int .i64 252, .int .i64 2] w fun r w' => ∃ b, r = .returned (.slice (some ⟨b, 0, none⟩) 252 252) ∧ w.heap.size ≤ b ∧ Brow w' b 252 (xbit 252 2) ∧ Below w.heap.size w w' := by
  have hmk : ∀ w, (Instr.makeSlice 81 (.int .i64 252) (.int .i64 252)).run Try.prog w = .ok (.slice (some ⟨w.heap.size, 0, none⟩) 252 252) (w.alloc (.cells (barr 252 fun _ => false) 4)) := fun _ => by kernel_rfl
  go_enter Try.func54, Try.ntmps54
  go_wp2
  clear hmk
  have R := Brow.new w 252 fun _ => false
  have O := new_below w (.cells (barr 252 fun _ => false) 4)
  generalize w.alloc (.cells (barr 252 fun _ => false) 4) = W at R O ⊢
  go_loopw [7] (fun i wr => ∃ j : Nat, j ≤ 252 ∧ i = .int .i64 j ∧ Brow wr w.heap.size 252 (xbw 252 2 j) ∧ Below w.heap.size w wr) (fun i _ => 252 - (intOf i).toNat)
  case atStart => exact ⟨0, by omega, rfl, R.congr (fun i _ => by simp [xbw]), O⟩
  case round =>
    clear R O
    obtain ⟨j, hj, rfl, R, O⟩ := hrel
    by_cases h1 : j < 244
    · have c := R.cell (i := j) (by omega)
      have e := R.free j
      have i1 : (0 : Int) ≤ (j : Int) := by omega
      have i2 : (j : Int) < 244 := by omega
      have RR := hide ((R.set j true).congr (f' := xbw 252 2 (j + 1)) (fun i _ => xbw_next 252 2 j i (by unfold xbit; rw [decide_eq_true (by omega)]; rfl)))
      have O' := hide (O.setCell (p := ⟨w.heap.size, j, none⟩) (Nat.le_refl _) (.bool true))
      clear R O
      go_wp2
      go_roundw
      case rel => exact ⟨j + 1, by omega, by go_num, RR.out, O'.out⟩
      case measure => simp [intOf]; omega
    · by_cases h2 : j < 252
      · rcases (show j = 244 ∨ j = 245 ∨ j = 246 ∨ j = 247 ∨ j = 248 ∨ j = 249 ∨ j = 250 ∨ j = 251 by omega) with rfl | rfl | rfl | rfl | rfl | rfl | rfl | rfl
        · have c := R.cell (i := 244) (by omega)
          have e := R.free 244
          have RR := hide ((R.set 244 true).congr (f' := xbw 252 2 (244 + 1)) (fun i _ => xbw_next 252 2 244 i (by decide)))
          have O' := hide (O.setCell (p := ⟨w.heap.size, 244, none⟩) (Nat.le_refl _) (.bool true))
          clear R O
          go_wp2
          go_roundw
          case rel => exact ⟨245, by omega, rfl, RR.out, O'.out⟩
          case measure => simp [intOf]
        · have c := R.cell (i := 245) (by omega)
          have e := R.free 245
          have RR := hide ((R.set 245 true).congr (f' := xbw 252 2 (245 + 1)) (fun i _ => xbw_next 252 2 245 i (by decide)))
          have O' := hide (O.setCell (p := ⟨w.heap.size, 245, none⟩) (Nat.le_refl _) (.bool true))
          clear R O
          go_wp2
          go_roundw
          case rel => exact ⟨246, by omega, rfl, RR.out, O'.out⟩
          case measure => simp [intOf]
        · have c := R.cell (i := 246) (by omega)
          have e := R.free 246
          have RR := hide ((R.set 246 true).congr (f' := xbw 252 2 (246 + 1)) (fun i _ => xbw_next 252 2 246 i (by decide)))
          have O' := hide (O.setCell (p := ⟨w.heap.size, 246, none⟩) (Nat.le_refl _) (.bool true))
          clear R O
          go_wp2
          go_roundw
          case rel => exact ⟨247, by omega, rfl, RR.out, O'.out⟩
          case measure => simp [intOf]
        · have c := R.cell (i := 247) (by omega)
          have e := R.free 247
          have RR := hide ((R.set 247 true).congr (f' := xbw 252 2 (247 + 1)) (fun i _ => xbw_next 252 2 247 i (by decide)))
          have O' := hide (O.setCell (p := ⟨w.heap.size, 247, none⟩) (Nat.le_refl _) (.bool true))
          clear R O
          go_wp2
          go_roundw
          case rel => exact ⟨248, by omega, rfl, RR.out, O'.out⟩
          case measure => simp [intOf]
        · have c := R.cell (i := 248) (by omega)
          have e := R.free 248
          have RR := hide ((R.set 248 true).congr (f' := xbw 252 2 (248 + 1)) (fun i _ => xbw_next 252 2 248 i (by decide)))
          have O' := hide (O.setCell (p := ⟨w.heap.size, 248, none⟩) (Nat.le_refl _) (.bool true))
          clear R O
          go_wp2
          go_roundw
          case rel => exact ⟨249, by omega, rfl, RR.out, O'.out⟩
          case measure => simp [intOf]
        · have c := R.cell (i := 249) (by omega)
          have e := R.free 249
          have RR := hide ((R.set 249 true).congr (f' := xbw 252 2 (249 + 1)) (fun i _ => xbw_next 252 2 249 i (by decide)))
          have O' := hide (O.setCell (p := ⟨w.heap.size, 249, none⟩) (Nat.le_refl _) (.bool true))
          clear R O
          go_wp2
          go_roundw
          case rel => exact ⟨250, by omega, rfl, RR.out, O'.out⟩
          case measure => simp [intOf]
        · have c := R.cell (i := 250) (by omega)
          have e := R.free 250
          have RR := hide ((R.set 250 true).congr (f' := xbw 252 2 (250 + 1)) (fun i _ => xbw_next 252 2 250 i (by decide)))
          have O' := hide (O.setCell (p := ⟨w.heap.size, 250, none⟩) (Nat.le_refl _) (.bool true))
          clear R O
          go_wp2
          go_roundw
          case rel => exact ⟨251, by omega, rfl, RR.out, O'.out⟩
          case measure => simp [intOf]
        · have c := R.cell (i := 251) (by omega)
          have e := R.free 251
          have RR := hide ((R.set 251 false).congr (f' := xbw 252 2 (251 + 1)) (fun i _ => xbw_next 252 2 251 i (by decide)))
          have O' := hide (O.setCell (p := ⟨w.heap.size, 251, none⟩) (Nat.le_refl _) (.bool false))
          clear R O
          go_wp2
          go_roundw
          case rel => exact ⟨252, by omega, rfl, RR.out, O'.out⟩
          case measure => simp [intOf]
      · have hj' : j = 252 := by omega
        subst hj'
        have RR := hide (R.congr (f' := xbit 252 2) (fun i hi => by unfold xbw; rw [decide_eq_true hi]; rfl))
        clear R
        go_wp2
        go_ret
        exact ⟨w.heap.size, rfl, Nat.le_refl _, RR.out, O⟩

set_option maxRecDepth 100000 in
set_option maxHeartbeats 2000000 in
theorem bits_253 (w : World) : Calls Try.prog 54 #[.int .i64 253, .int .i64 5] w fun r w' => ∃ b, r = .returned (.slice (some ⟨b, 0, none⟩) 253 253) ∧ w.heap.size ≤ b ∧ Brow w' b 253 (xbit 253 5) ∧ Below w.heap.size w w' := by
  have hmk : ∀ w, (Instr.makeSlice 81 (.int .i64 253) (.int .i64 253)).run Try.prog w = .ok (.slice (some ⟨w.heap.size, 0, none⟩) 253 253) (w.alloc (.cells (barr 253 fun _ => false) 4)) := fun _ => by kernel_rfl
  go_enter Try.func54, Try.ntmps54
  go_wp2
  clear hmk
  have R := Brow.new w 253 fun _ => false
  have O := new_below w (.cells (barr 253 fun _ => false) 4)
  generalize w.alloc (.cells (barr 253 fun _ => false) 4) = W at R O ⊢
  go_loopw [7] (fun i wr => ∃ j : Nat, j ≤ 253 ∧ i = .int .i64 j ∧ Brow wr w.heap.size 253 (xbw 253 5 j) ∧ Below w.heap.size w wr) (fun i _ => 253 - (intOf i).toNat)
  case atStart => exact ⟨0, by omega, rfl, R.congr (fun i _ => by simp [xbw]), O⟩
  case round =>
    clear R O
    obtain ⟨j, hj, rfl, R, O⟩ := hrel
    by_cases h1 : j < 245
    · have c := R.cell (i := j) (by omega)
      have e := R.free j
      have i1 : (0 : Int) ≤ (j : Int) := by omega
      have i2 : (j : Int) < 245 := by omega
      have RR := hide ((R.set j true).congr (f' := xbw 253 5 (j + 1)) (fun i _ => xbw_next 253 5 j i (by unfold xbit; rw [decide_eq_true (by omega)]; rfl)))
      have O' := hide (O.setCell (p := ⟨w.heap.size, j, none⟩) (Nat.le_refl _) (.bool true))
      clear R O
      go_wp2
      go_roundw
      case rel => exact ⟨j + 1, by omega, by go_num, RR.out, O'.out⟩
      case measure => simp [intOf]; omega
    · by_cases h2 : j < 253
      · rcases (show j = 245 ∨ j = 246 ∨ j = 247 ∨ j = 248 ∨ j = 249 ∨ j = 250 ∨ j = 251 ∨ j = 252 by omega) with rfl | rfl | rfl | rfl | rfl | rfl | rfl | rfl
        · have c := R.cell (i := 245) (by omega)
          have e := R.free 245
          have RR := hide ((R.set 245 true).congr (f' := xbw 253 5 (245 + 1)) (fun i _ => xbw_next 253 5 245 i (by decide)))
          have O' := hide (O.setCell (p := ⟨w.heap.size, 245, none⟩) (Nat.le_refl _) (.bool true))
          clear R O
          go_wp2
          go_roundw
          case rel => exact ⟨246, by omega, rfl, RR.out, O'.out⟩
          case measure => simp [intOf]
        · have c := R.cell (i := 246) (by omega)
          have e := R.free 246
          have RR := hide ((R.set 246 true).congr (f' := xbw 253 5 (246 + 1)) (fun i _ => xbw_next 253 5 246 i (by decide)))
          have O' := hide (O.setCell (p := ⟨w.heap.size, 246, none⟩) (Nat.le_refl _) (.bool true))
          clear R O
          go_wp2
          go_roundw
          case rel => exact ⟨247, by omega, rfl, RR.out, O'.out⟩
          case measure => simp [intOf]
        · have c := R.cell (i := 247) (by omega)
          have e := R.free 247
          have RR := hide ((R.set 247 true).congr (f' := xbw 253 5 (247 + 1)) (fun i _ => xbw_next 253 5 247 i (by decide)))
          have O' := hide (O.setCell (p := ⟨w.heap.size, 247, none⟩) (Nat.le_refl _) (.bool true))
          clear R O
          go_wp2
          go_roundw
          case rel => exact ⟨248, by omega, rfl, RR.out, O'.out⟩
          case measure => simp [intOf]
        · have c := R.cell (i := 248) (by omega)
          have e := R.free 248
          have RR := hide ((R.set 248 true).congr (f' := xbw 253 5 (248 + 1)) (fun i _ => xbw_next 253 5 248 i (by decide)))
          have O' := hide (O.setCell (p := ⟨w.heap.size, 248, none⟩) (Nat.le_refl _) (.bool true))
          clear R O
          go_wp2
          go_roundw
          case rel => exact ⟨249, by omega, rfl, RR.out, O'.out⟩
          case measure => simp [intOf]
        · have c := R.cell (i := 249) (by omega)
          have e := R.free 249
          have RR := hide ((R.set 249 true).congr (f' := xbw 253 5 (249 + 1)) (fun i _ => xbw_next 253 5 249 i (by decide)))
          have O' := hide (O.setCell (p := ⟨w.heap.size, 249, none⟩) (Nat.le_refl _) (.bool true))
          clear R O
          go_wp2
          go_roundw
          case rel => exact ⟨250, by omega, rfl, RR.out, O'.out⟩
          case measure => simp [intOf]
        · have c := R.cell (i := 250) (by omega)
          have e := R.free 250
          have RR := hide ((R.set 250 false).congr (f' := xbw 253 5 (250 + 1)) (fun i _ => xbw_next 253 5 250 i (by decide)))
          have O' := hide (O.setCell (p := ⟨w.heap.size, 250, none⟩) (Nat.le_refl _) (.bool false))
          clear R O
          go_wp2
          go_roundw
          case rel => exact ⟨251, by omega, rfl, RR.out, O'.out⟩
          case measure => simp [intOf]
        · have c := R.cell (i := 251) (by omega)
          have e := R.free 251
          have RR := hide ((R.set 251 true).congr (f' := xbw 253 5 (251 + 1)) (fun i _ => xbw_next 253 5 251 i (by decide)))
          have O' := hide (O.setCell (p := ⟨w.heap.size, 251, none⟩) (Nat.le_refl _) (.bool true))
          clear R O
          go_wp2
          go_roundw
          case rel => exact ⟨252, by omega, rfl, RR.out, O'.out⟩
          case measure => simp [intOf]
        · have c := R.cell (i := 252) (by omega)
          have e := R.free 252
          have RR := hide ((R.set 252 true).congr (f' := xbw 253 5 (252 + 1)) (fun i _ => xbw_next 253 5 252 i (by decide)))
          have O' := hide (O.setCell (p := ⟨w.heap.size, 252, none⟩) (Nat.le_refl _) (.bool true))
          clear R O
          go_wp2
          go_roundw
          case rel => exact ⟨253, by omega, rfl, RR.out, O'.out⟩
          case measure => simp [intOf]
      · have hj' : j = 253 := by omega
        subst hj'
        have RR := hide (R.congr (f' := xbit 253 5) (fun i hi => by unfold xbw; rw [decide_eq_true hi]; rfl))
        clear R
        go_wp2
        go_ret
        exact ⟨w.heap.size, rfl, Nat.le_refl _, RR.out, O⟩

end Go.Proofs.Ytiiniodidkfbiaa
