/- Part 6 of the walks and facts. -/
import Derived.Test.YtffimigpbcilbaaGreatDoorCnDef
import Derived.Test.YtffimigpbcilbaaGreatDoorCn5
import Derived.Deep.Cut
set_option maxHeartbeats 16000000
set_option maxRecDepth 100000
namespace Go.Proofs.YtffimigpbcilbaaGreatDoor.Mon
open Go.RowKit
def barr (n : Nat) (f : Nat → Bool) : Array Value := ((List.range n).map fun i => Value.bool (f i)).toArray
theorem barr_size (n : Nat) (f : Nat → Bool) : (barr n f).size = n := by simp [barr]
theorem barr_get (n : Nat) (f : Nat → Bool) (i : Nat) (h : i < n) : (barr n f)[i]? = some (.bool (f i)) := by simp [barr, h]
theorem barr_congr {n : Nat} {f g : Nat → Bool} (h : ∀ i, i < n → f i = g i) : barr n f = barr n g := by
 unfold barr
 congr 1
 exact List.map_congr_left fun i hi => by rw [h i (List.mem_range.1 hi)]
def bupd (f : Nat → Bool) (k : Nat) (v : Bool) : Nat → Bool := fun i => if i = k then v else f i
theorem barr_set (n : Nat) (f : Nat → Bool) (k : Nat) (v : Bool) : (barr n f).setIfInBounds k (.bool v) = barr n (bupd f k v) := by
 apply Array.ext_getElem?
 intro i
 by_cases hi : i < n
 ·rw [Array.getElem?_setIfInBounds, barr_get n (bupd f k v) i hi]
  by_cases hk : k = i
  ·subst hk
   rw [if_pos rfl, if_pos (by rw [barr_size]; exact hi)]
   simp [bupd]
  ·have : ¬ i = k := fun h => hk h.symm
   rw [if_neg hk, barr_get n f i hi]
   simp [bupd, this]
 ·rw [Array.getElem?_eq_none (by simp [barr_size]; omega), Array.getElem?_eq_none (by simp [barr_size]; omega)]
def Brow (w : World) (g : Nat) (n : Nat) (f : Nat → Bool) : Prop := w.heap[g]? = some (.cells (barr n f) 4 (0, 0))
theorem Brow.lt {w : World} {g n : Nat} {f : Nat → Bool} (h : Brow w g n f) : g < w.heap.size := by
 by_cases hlt : g < w.heap.size
 ·exact hlt
 ·have hn : w.heap[g]? = none := by simp; omega
  rw [Brow, hn] at h
  cases h
theorem Brow.cell {w : World} {g n : Nat} {f : Nat → Bool} (h : Brow w g n f) {i : Nat} (hi : i < n) : w.cell? ⟨g, i, none⟩ = some (.bool (f i)) := by
 rw [cell_of_row w g i (barr n f) 4 (0, 0) h, barr_get n f i hi]
theorem Brow.free {w : World} {g n : Nat} {f : Nat → Bool} (h : Brow w g n f) (i : Nat) : w.frozen? ⟨g, i, none⟩ = false := frozen_of_row w g i (barr n f) 4 h
theorem Brow.set {w : World} {g n : Nat} {f : Nat → Bool} (h : Brow w g n f) (k : Nat) (v : Bool) : Brow (w.setCell ⟨g, k, none⟩ (.bool v)) g n (bupd f k v) := by
 unfold Brow
 rw [heap_setCell_same w g k (barr n f) 4 _ h, barr_set]
theorem Brow.keep {w w' : World} {g n : Nat} {f : Nat → Bool} (h : Brow w g n f) (hb : Below w.heap.size w w') : Brow w' g n f := by
 unfold Brow
 rw [hb.block g h.lt]
 exact h
theorem Brow.congr {w : World} {g n : Nat} {f f' : Nat → Bool} (h : Brow w g n f) (e : ∀ i, i < n → f i = f' i) : Brow w g n f' := by
 unfold Brow
 rw [← barr_congr e]
 exact h
theorem Brow.new (w : World) (n : Nat) (f : Nat → Bool) : Brow (w.alloc (.cells (barr n f) 4)) w.heap.size n f := heap_alloc_new w _
def xbit (n k i : Nat) : Bool := decide (8 ≤ n - 1 - i) || Nat.testBit (256 - k) (n - 1 - i)
def xbw (n k j : Nat) : Nat → Bool := fun i => decide (i < j) && xbit n k i
theorem xbw_next (n k j i : Nat) {v : Bool} (hv : v = xbit n k j) : bupd (xbw n k j) j v i = xbw n k (j + 1) i := by
 unfold bupd xbw
 by_cases h : i = j
 ·subst h
  simp [hv]
 ·rw [if_neg h]
  by_cases h2 : i < j
  ·simp [h2, show i < j + 1 by omega]
  ·simp [h2, show ¬ i < j + 1 by omega]
theorem bits_255 (w : World) : Calls Tryz.prog 64 #[.int .i64 255, .int .i64 21] w fun r w' => ∃ b, r = .returned (.slice (some ⟨b, 0, none⟩) 255 255) ∧ w.heap.size ≤ b ∧ Brow w' b 255 (xbit 255 21) ∧ Below w.heap.size w w' := by
 have hmk : ∀ w, (Instr.makeSlice 111 (.int .i64 255) (.int .i64 255)).run Tryz.prog w = .ok (.slice (some ⟨w.heap.size, 0, none⟩) 255 255) (w.alloc (.cells (barr 255 fun _ => false) 4)) := fun _ => by kernel_rfl
 go_enter Tryz.func64, Tryz.ntmps64
 go_wp2
 clear hmk
 have R := Brow.new w 255 fun _ => false
 have O := new_below w (.cells (barr 255 fun _ => false) 4)
 generalize w.alloc (.cells (barr 255 fun _ => false) 4) = W at R O ⊢
 go_loopw [7] (fun i wr => ∃ j : Nat, j ≤ 255 ∧ i = .int .i64 j ∧ Brow wr w.heap.size 255 (xbw 255 21 j) ∧ Below w.heap.size w wr) (fun i _ => 255 - (intOf i).toNat)
 case atStart => exact ⟨0, by omega, rfl, R.congr (fun i _ => by simp [xbw]), O⟩
 case round =>
  clear R O
  obtain ⟨j, hj, rfl, R, O⟩ := hrel
  by_cases h1 : j < 247
  ·have c := R.cell (i := j) (by omega)
   have e := R.free j
   have i1 : (0 : Int) ≤ (j : Int) := by omega
   have i2 : (j : Int) < 247 := by omega
   have RR := hide ((R.set j true).congr (f' := xbw 255 21 (j + 1)) (fun i _ => xbw_next 255 21 j i (by unfold xbit; rw [decide_eq_true (by omega)]; rfl)))
   have O' := hide (O.setCell (p := ⟨w.heap.size, j, none⟩) (Nat.le_refl _) (.bool true))
   clear R O
   go_wp2
   go_roundw
   case rel => exact ⟨j + 1, by omega, by go_num, RR.out, O'.out⟩
   case measure => simp [intOf]; omega
  ·by_cases h2 : j < 255
   ·rcases (show j = 247 ∨ j = 248 ∨ j = 249 ∨ j = 250 ∨ j = 251 ∨ j = 252 ∨ j = 253 ∨ j = 254 by omega) with rfl | rfl | rfl | rfl | rfl | rfl | rfl | rfl
    ·have c := R.cell (i := 247) (by omega)
     have e := R.free 247
     have RR := hide ((R.set 247 true).congr (f' := xbw 255 21 (247 + 1)) (fun i _ => xbw_next 255 21 247 i (by decide)))
     have O' := hide (O.setCell (p := ⟨w.heap.size, 247, none⟩) (Nat.le_refl _) (.bool true))
     clear R O
     go_wp2
     go_roundw
     case rel => exact ⟨248, by omega, rfl, RR.out, O'.out⟩
     case measure => simp [intOf]
    ·have c := R.cell (i := 248) (by omega)
     have e := R.free 248
     have RR := hide ((R.set 248 true).congr (f' := xbw 255 21 (248 + 1)) (fun i _ => xbw_next 255 21 248 i (by decide)))
     have O' := hide (O.setCell (p := ⟨w.heap.size, 248, none⟩) (Nat.le_refl _) (.bool true))
     clear R O
     go_wp2
     go_roundw
     case rel => exact ⟨249, by omega, rfl, RR.out, O'.out⟩
     case measure => simp [intOf]
    ·have c := R.cell (i := 249) (by omega)
     have e := R.free 249
     have RR := hide ((R.set 249 true).congr (f' := xbw 255 21 (249 + 1)) (fun i _ => xbw_next 255 21 249 i (by decide)))
     have O' := hide (O.setCell (p := ⟨w.heap.size, 249, none⟩) (Nat.le_refl _) (.bool true))
     clear R O
     go_wp2
     go_roundw
     case rel => exact ⟨250, by omega, rfl, RR.out, O'.out⟩
     case measure => simp [intOf]
    ·have c := R.cell (i := 250) (by omega)
     have e := R.free 250
     have RR := hide ((R.set 250 false).congr (f' := xbw 255 21 (250 + 1)) (fun i _ => xbw_next 255 21 250 i (by decide)))
     have O' := hide (O.setCell (p := ⟨w.heap.size, 250, none⟩) (Nat.le_refl _) (.bool false))
     clear R O
     go_wp2
     go_roundw
     case rel => exact ⟨251, by omega, rfl, RR.out, O'.out⟩
     case measure => simp [intOf]
    ·have c := R.cell (i := 251) (by omega)
     have e := R.free 251
     have RR := hide ((R.set 251 true).congr (f' := xbw 255 21 (251 + 1)) (fun i _ => xbw_next 255 21 251 i (by decide)))
     have O' := hide (O.setCell (p := ⟨w.heap.size, 251, none⟩) (Nat.le_refl _) (.bool true))
     clear R O
     go_wp2
     go_roundw
     case rel => exact ⟨252, by omega, rfl, RR.out, O'.out⟩
     case measure => simp [intOf]
    ·have c := R.cell (i := 252) (by omega)
     have e := R.free 252
     have RR := hide ((R.set 252 false).congr (f' := xbw 255 21 (252 + 1)) (fun i _ => xbw_next 255 21 252 i (by decide)))
     have O' := hide (O.setCell (p := ⟨w.heap.size, 252, none⟩) (Nat.le_refl _) (.bool false))
     clear R O
     go_wp2
     go_roundw
     case rel => exact ⟨253, by omega, rfl, RR.out, O'.out⟩
     case measure => simp [intOf]
    ·have c := R.cell (i := 253) (by omega)
     have e := R.free 253
     have RR := hide ((R.set 253 true).congr (f' := xbw 255 21 (253 + 1)) (fun i _ => xbw_next 255 21 253 i (by decide)))
     have O' := hide (O.setCell (p := ⟨w.heap.size, 253, none⟩) (Nat.le_refl _) (.bool true))
     clear R O
     go_wp2
     go_roundw
     case rel => exact ⟨254, by omega, rfl, RR.out, O'.out⟩
     case measure => simp [intOf]
    ·have c := R.cell (i := 254) (by omega)
     have e := R.free 254
     have RR := hide ((R.set 254 true).congr (f' := xbw 255 21 (254 + 1)) (fun i _ => xbw_next 255 21 254 i (by decide)))
     have O' := hide (O.setCell (p := ⟨w.heap.size, 254, none⟩) (Nat.le_refl _) (.bool true))
     clear R O
     go_wp2
     go_roundw
     case rel => exact ⟨255, by omega, rfl, RR.out, O'.out⟩
     case measure => simp [intOf]
   ·have hj' : j = 255 := by omega
    subst hj'
    have RR := hide (R.congr (f' := xbit 255 21) (fun i hi => by unfold xbw; rw [decide_eq_true hi]; rfl))
    clear R
    go_wp2
    go_ret
    exact ⟨w.heap.size, rfl, Nat.le_refl _, RR.out, O⟩
open Go.RowKit
def rw1 (a b : NI) (i k : Nat) : Nat → Int := fun j => if i ≤ j ∧ j < i + k then a i * b (j - i) else 0
def mp (a b : NI) : Nat → Nat → Int
 | 0, _ => 0
 | i + 1, j => mp a b i j + rw1 a b i 16 j
def mq (a b : NI) (i k : Nat) : Nat → Int := fun j => mp a b i j + rw1 a b i k j
theorem S_add' (f g : NI) : ∀ n, S (fun i => f i + g i) n = S f n + S g n
 | 0 => rfl
 | n + 1 => by
  have ih := S_add' f g n
  simp only [S]
  rw [ih, Int.add_mul]
  omega
theorem S_one (m : Nat) (v : Int) : ∀ n, S (fun j => if j = m then v else 0) n = if m < n then v * 65536 ^ m else 0
 | 0 => by simp [S]
 | n + 1 => by
  have ih := S_one m v n
  simp only [S]
  rw [ih]
  by_cases h1 : m < n
  ·rw [if_pos h1, if_neg (show ¬ n = m by omega), if_pos (show m < n + 1 by omega)]
   simp
  ·rw [if_neg h1]
   by_cases h2 : n = m
   ·subst h2
    rw [if_pos rfl, if_pos (by omega)]
    simp
   ·rw [if_neg h2, if_neg (show ¬ m < n + 1 by omega)]
    simp
theorem rw1_next (a b : NI) (i k j : Nat) : rw1 a b i (k + 1) j = rw1 a b i k j + if j = i + k then a i * b k else 0 := by
 unfold rw1
 by_cases h1 : j = i + k
 ·subst h1
  rw [if_pos (by omega), if_neg (by omega), if_pos rfl, show i + k - i = k by omega]
  omega
 ·rw [if_neg h1]
  by_cases h2 : i ≤ j ∧ j < i + k
  ·rw [if_pos h2, if_pos (by omega)]
   omega
  ·rw [if_neg h2, if_neg (by omega)]
   omega
theorem rw1_S (a b : NI) (i : Nat) : ∀ k, i + k ≤ 32 → S (rw1 a b i k) 32 = a i * 65536 ^ i * S b k
 | 0, _ => by
  rw [S_congr (g := fun _ => 0) fun j _ => by unfold rw1; rw [if_neg (by omega)], S_zero]
  simp [S]
 | k + 1, h => by
  have ih := rw1_S a b i k (by omega)
  rw [S_congr fun j _ => rw1_next a b i k j, S_add', ih, S_one, if_pos (by omega)]
  simp only [S]
  rw [Int.pow_add, Int.mul_add]
  congr 1
  rw [Int.mul_assoc, Int.mul_assoc, Int.mul_left_comm (65536 ^ i)]
theorem mp_S (a b : NI) : ∀ i, i ≤ 16 → S (mp a b i) 32 = S a i * S b 16
 | 0, _ => by
  show S (fun _ => 0) 32 = _
  rw [S_zero]
  simp [S]
 | i + 1, h => by
  have ih := mp_S a b i (by omega)
  have e : S (mp a b (i + 1)) 32 = S (fun j => mp a b i j + rw1 a b i 16 j) 32 := rfl
  rw [e, S_add', ih, rw1_S a b i 16 (by omega)]
  simp only [S]
  rw [Int.add_mul]
theorem dmul {x y : Int} (hx : 0 ≤ x ∧ x < 65536) (hy : 0 ≤ y ∧ y < 65536) : 0 ≤ x * y ∧ x * y ≤ 4294836225 := by
 refine ⟨Int.mul_nonneg hx.1 hy.1, ?_⟩
 have h1 : x * y ≤ 65535 * y := Int.mul_le_mul_of_nonneg_right (by omega) hy.1
 omega
theorem rw1_bd {a b : NI} (ha : Dig a 16) (hb : Dig b 16) {i k : Nat} (hi : i < 16) (hk : k ≤ 16) (j : Nat) : 0 ≤ rw1 a b i k j ∧ rw1 a b i k j ≤ 4294836225 := by
 unfold rw1
 by_cases h : i ≤ j ∧ j < i + k
 ·rw [if_pos h]
  exact dmul (ha i hi) (hb (j - i) (by omega))
 ·rw [if_neg h]
  omega
theorem mp_bd {a b : NI} (ha : Dig a 16) (hb : Dig b 16) (j : Nat) : ∀ i, i ≤ 16 → 0 ≤ mp a b i j ∧ mp a b i j ≤ 4294836225 * i
 | 0, _ => by simp [mp]
 | i + 1, h => by
  have ih := mp_bd ha hb j i (by omega)
  have h2 := rw1_bd ha hb (i := i) (k := 16) (by omega) (by omega) j
  simp only [mp]
  omega
theorem mp_48 {a b : NI} (ha : Dig a 16) (hb : Dig b 16) : B48 (mp a b 16) := ⟨fun j _ => by
 have := mp_bd ha hb j 16 (by omega)
 omega⟩
theorem mq_zero (a b : NI) (i j : Nat) : mq a b i 0 j = mp a b i j := by
 unfold mq rw1
 rw [if_neg (by omega)]
 omega
theorem mq_at (a b : NI) (i k : Nat) : mq a b i k (i + k) = mp a b i (i + k) := by
 unfold mq rw1
 rw [if_neg (by omega)]
 omega
theorem mq_next (a b : NI) (i k j : Nat) : upd (mq a b i k) (i + k) (mp a b i (i + k) + a i * b k) j = mq a b i (k + 1) j := by
 unfold upd
 by_cases h : j = i + k
 ·subst h
  rw [if_pos rfl]
  unfold mq
  rw [rw1_next, if_pos rfl]
  unfold rw1
  rw [if_neg (by omega)]
  omega
 ·rw [if_neg h]
  unfold mq
  rw [rw1_next, if_neg h]
  omega
open Go.RowKit
theorem rmul_any (a b : NI) (w : World) (ha : Dig a 16) (hb : Dig b 16) : Cs 41 #[.agg (arr 16 a), .agg (arr 16 b)] w (.agg (arr 16 (d16 ((S a 16 * S b 16) % Pm)))) := by
 go_enter Tryz.func41, Tryz.ntmps41
 go_wp2
 rw [show #[Value.int .u64 0, Value.int .u64 0, Value.int .u64 0, Value.int .u64 0, Value.int .u64 0, Value.int .u64 0, Value.int .u64 0, Value.int .u64 0, Value.int .u64 0, Value.int .u64 0, Value.int .u64 0, Value.int .u64 0, Value.int .u64 0, Value.int .u64 0, Value.int .u64 0, Value.int .u64 0] = arr 16 (fun _ => 0) from rfl, show #[Value.int .u64 0, Value.int .u64 0, Value.int .u64 0, Value.int .u64 0, Value.int .u64 0, Value.int .u64 0, Value.int .u64 0, Value.int .u64 0, Value.int .u64 0, Value.int .u64 0, Value.int .u64 0, Value.int .u64 0, Value.int .u64 0, Value.int .u64 0, Value.int .u64 0, Value.int .u64 0, Value.int .u64 0, Value.int .u64 0, Value.int .u64 0, Value.int .u64 0, Value.int .u64 0, Value.int .u64 0, Value.int .u64 0, Value.int .u64 0, Value.int .u64 0, Value.int .u64 0, Value.int .u64 0, Value.int .u64 0, Value.int .u64 0, Value.int .u64 0, Value.int .u64 0, Value.int .u64 0] = arr 32 (fun _ => 0) from rfl]
 have R1 : Row ((((w.alloc (.cells (arr 16 a) 88)).alloc (.cells (arr 16 b) 88)).alloc (.cells (arr 16 fun _ => 0) 88)).alloc (.cells (arr 32 fun _ => 0) 108)) w.heap.size 88 16 a := (((Row.new w 88 16 a).alloc _).alloc _).alloc _
 have R2 : Row ((((w.alloc (.cells (arr 16 a) 88)).alloc (.cells (arr 16 b) 88)).alloc (.cells (arr 16 fun _ => 0) 88)).alloc (.cells (arr 32 fun _ => 0) 108)) (w.heap.size + 1) 88 16 b := ((Row.new' _ 88 16 _ (by simp)).alloc _).alloc _
 have R3 : Row ((((w.alloc (.cells (arr 16 a) 88)).alloc (.cells (arr 16 b) 88)).alloc (.cells (arr 16 fun _ => 0) 88)).alloc (.cells (arr 32 fun _ => 0) 108)) (w.heap.size + 1 + 1) 88 16 (fun _ => 0) := (Row.new' _ 88 16 _ (by simp)).alloc _
 have R4 : Row ((((w.alloc (.cells (arr 16 a) 88)).alloc (.cells (arr 16 b) 88)).alloc (.cells (arr 16 fun _ => 0) 88)).alloc (.cells (arr 32 fun _ => 0) 108)) (w.heap.size + 1 + 1 + 1) 108 32 (fun _ => 0) := Row.new' _ 108 32 _ (by simp)
 have O : Below w.heap.size w ((((w.alloc (.cells (arr 16 a) 88)).alloc (.cells (arr 16 b) 88)).alloc (.cells (arr 16 fun _ => 0) 88)).alloc (.cells (arr 32 fun _ => 0) 108)) := ((((Below.refl _ _).alloc (Nat.le_refl _) _).alloc (by simp) _).alloc (by simp; omega) _).alloc (by simp; omega) _
 generalize ((((w.alloc (.cells (arr 16 a) 88)).alloc (.cells (arr 16 b) 88)).alloc (.cells (arr 16 fun _ => 0) 88)).alloc (.cells (arr 32 fun _ => 0) 108)) = W at R1 R2 R3 R4 O ⊢
 go_loopw [6] (fun x wr => ∃ i : Nat, i ≤ 16 ∧ x = .int .i64 i ∧ Row wr w.heap.size 88 16 a ∧ Row wr (w.heap.size + 1) 88 16 b ∧ Row wr (w.heap.size + 1 + 1) 88 16 (fun _ => 0) ∧ Row wr (w.heap.size + 1 + 1 + 1) 108 32 (mp a b i) ∧ Below w.heap.size w wr) (fun x _ => 16 - (intOf x).toNat)
 case atStart => exact ⟨0, by omega, rfl, R1, R2, R3, R4, O⟩
 case round =>
  clear R1 R2 R3 R4 O
  obtain ⟨i, hi, rfl, R1, R2, R3, R4, O⟩ := hrel
  by_cases hlt : i < 16
  ·go_wp2
   go_loopw [7] (fun y wq => ∃ k : Nat, k ≤ 16 ∧ y = .int .i64 k ∧ Row wq w.heap.size 88 16 a ∧ Row wq (w.heap.size + 1) 88 16 b ∧ Row wq (w.heap.size + 1 + 1) 88 16 (fun _ => 0) ∧ Row wq (w.heap.size + 1 + 1 + 1) 108 32 (mq a b i k) ∧ Below w.heap.size w wq) (fun y _ => 16 - (intOf y).toNat)
   case atStart => exact ⟨0, by omega, rfl, R1, R2, R3, R4.congr (fun j _ => (mq_zero a b i j).symm), O⟩
   case round =>
    clear R1 R2 R3 R4 O
    obtain ⟨k, hk, rfl, R1, R2, R3, R4, O⟩ := hrel
    by_cases hkl : k < 16
    ·have c := R1.cell hlt
     have d := R2.cell hkl
     have e := R4.cell (i := i + k) (by omega)
     rw [mq_at] at e
     have f := R4.free
     have hp := dmul (ha i hlt) (hb k hkl)
     have hm := mp_bd ha hb (i + k) i hi
     have i1 : (0 : Int) ≤ (i : Int) := by omega
     have i2 : (i : Int) < 16 := by omega
     have k1 : (0 : Int) ≤ (k : Int) := by omega
     have k2 : (k : Int) < 16 := by omega
     obtain ⟨p0, p1⟩ := hp
     obtain ⟨m0, m1⟩ := hm
     have m2 : mp a b i (i + k) < 100000000000 := by omega
     clear m1
     go_wp2_with fail
     go_region
     go_wp2
     exact ⟨⟨k + 1, by omega, by go_num, rowD (R1.other (a := ⟨w.heap.size + 1 + 1 + 1, i + k, none⟩) (by simp <;> omega) _), rowD (R2.other (a := ⟨w.heap.size + 1 + 1 + 1, i + k, none⟩) (by simp <;> omega) _), rowD (R3.other (a := ⟨w.heap.size + 1 + 1 + 1, i + k, none⟩) (by simp) _), rowD ((R4.set (i + k) (mp a b i (i + k) + a i * b k)).congr (fun j _ => mq_next a b i k j)), (O.setCell (p := ⟨w.heap.size + 1 + 1 + 1, i + k, none⟩) (by simp <;> omega) _).drew⟩, by simp [intOf]; omega⟩
    ·have hk' : k = 16 := by omega
     subst hk'
     go_wp2
     exact ⟨⟨i + 1, by omega, by go_num, R1, R2, R3, R4, O⟩, by simp [intOf]; omega⟩
  ·have hi' : i = 16 := by omega
   subst hi'
   have HR := hide R4
   clear R4 R1 R2
   go_wp2_with (refine wpList_load_row rfl 108 _ rfl (w.heap.size + 1 + 1 + 1) rfl 108 (arr 32 (mp a b 16)) (0, 0) _ HR.out Tryz.underlying108 rfl (info108 _) ?_)
   try rw [show ∀ (a : Act) (v : Value), a.put none v = a from fun _ _ => rfl]
   refine (reduce_any (mp a b 16) _ (mp_48 ha hb)).mono ?_
   rintro _ w3 ⟨rfl, hb3⟩
   replace R3 := R3.keep hb3
   replace O := O.trans (hb3.mono O.size)
   clear hb3 HR
   rw [mp_S a b 16 (by omega)]
   have RR := hide (R3.setAll (d16 ((S a 16 * S b 16) % Pm)))
   have OO := hide (below_setCells (g := w.heap.size + 1 + 1) (by omega) (arr 16 (d16 ((S a 16 * S b 16) % Pm))).toList 0 O)
   go_wp2_with (refine wpList_store_mid rfl 88 _ _ rfl (w.heap.size + 1 + 1) 0 (arr 16 (d16 ((S a 16 * S b 16) % Pm))) rfl rfl (by rw [arr_size]; exact R3.there) (info88 _) (arr_one _ _) ?_)
   exact bodyPost_ret (v := .agg (arr 16 (d16 ((S a 16 * S b 16) % Pm)))) (results_cell_row Tryz.results41 _ _ (w.heap.size + 1 + 1) 88 (arr 16 (d16 ((S a 16 * S b 16) % Pm))) (0, 0) _ rfl RR.out Tryz.underlying88 rfl (info88 _)) rfl ⟨rfl, OO.out⟩
open Go.RowKit
def pwm (x : Int) (f : Nat → Bool) : Nat → Int
 | 0 => 1
 | i + 1 => if f i = true then (pwm x f i * pwm x f i % Pm) * x % Pm else pwm x f i * pwm x f i % Pm
theorem pwm_bd (x : Int) (f : Nat → Bool) : ∀ i, 0 ≤ pwm x f i ∧ pwm x f i < Pm
 | 0 => by unfold pwm; exact ⟨by decide, by decide⟩
 | i + 1 => by
  unfold pwm
  have h : ∀ y : Int, 0 ≤ y % Pm ∧ y % Pm < Pm := fun y => ⟨Int.emod_nonneg y (by decide), Int.emod_lt_of_pos y Pm_pos⟩
  split
  ·exact h _
  ·exact h _
theorem bS {y : Int} (h : 0 ≤ y ∧ y < Pm) : S (d16 y) 16 = y := by
 have h2 := Pm_16
 rw [d16_S _ h.1, Int.emod_eq_of_lt h.1 (by omega)]
theorem power_any (a : NI) (n : Nat) (f : Nat → Bool) (b : Nat) (w : World) (ha : Dig a 16) (hB : Brow w b n f) (hn : n ≤ 300) : Cs 63 #[.agg (arr 16 a), .slice (some ⟨b, 0, none⟩) n n] w (.agg (arr 16 (d16 (pwm (S a 16) f n)))) := by
 have hb1 := hB.lt
 go_enter Tryz.func63, Tryz.ntmps63
 go_wp2_with fail
 rw [show #[Value.int .u64 0, Value.int .u64 0, Value.int .u64 0, Value.int .u64 0, Value.int .u64 0, Value.int .u64 0, Value.int .u64 0, Value.int .u64 0, Value.int .u64 0, Value.int .u64 0, Value.int .u64 0, Value.int .u64 0, Value.int .u64 0, Value.int .u64 0, Value.int .u64 0, Value.int .u64 0] = arr 16 (fun _ => 0) from rfl]
 have R1 : Row ((w.alloc (.cells (arr 16 a) 88)).alloc (.cells (arr 16 fun _ => 0) 88)) w.heap.size 88 16 a := (Row.new w 88 16 a).alloc _
 have R2 : Row ((w.alloc (.cells (arr 16 a) 88)).alloc (.cells (arr 16 fun _ => 0) 88)) (w.heap.size + 1) 88 16 (fun _ => 0) := Row.new' _ 88 16 _ (by simp)
 have O : Below w.heap.size w ((w.alloc (.cells (arr 16 a) 88)).alloc (.cells (arr 16 fun _ => 0) 88)) := ((Below.refl _ _).alloc (Nat.le_refl _) _).alloc (by simp) _
 have B := hB.keep O
 generalize (w.alloc (.cells (arr 16 a) 88)).alloc (.cells (arr 16 fun _ => 0) 88) = W at R1 R2 O B ⊢
 clear hB
 refine (rsmall_any 1 _ (by decide) (by decide)).mono ?_
 rintro _ w1 ⟨rfl, hb⟩
 replace R1 := R1.keep hb
 replace R2 := R2.keep hb
 replace B := B.keep hb
 replace O := O.trans (hb.mono O.size)
 clear hb
 have RX : Row (w1.alloc (.cells #[Value.int .u64 0, Value.int .u64 0, Value.int .u64 0, Value.int .u64 0, Value.int .u64 0, Value.int .u64 0, Value.int .u64 0, Value.int .u64 0, Value.int .u64 0, Value.int .u64 0, Value.int .u64 0, Value.int .u64 0, Value.int .u64 0, Value.int .u64 0, Value.int .u64 0, Value.int .u64 0] 88)) w1.heap.size 88 16 (fun _ => 0) := Row.new w1 88 16 (fun _ => 0)
 have RR := hide (RX.setAll (d16 1))
 have BB := below_setCells (g := w1.heap.size) (Nat.le_refl _) (arr 16 (d16 1)).toList 0 (new_below w1 (.cells #[Value.int .u64 0, Value.int .u64 0, Value.int .u64 0, Value.int .u64 0, Value.int .u64 0, Value.int .u64 0, Value.int .u64 0, Value.int .u64 0, Value.int .u64 0, Value.int .u64 0, Value.int .u64 0, Value.int .u64 0, Value.int .u64 0, Value.int .u64 0, Value.int .u64 0, Value.int .u64 0] 88))
 have gx := R2.lt
 have R1' := hide (R1.keep BB)
 have R2' := hide (R2.keep BB)
 have B' := hide (B.keep BB)
 have O' := hide (O.trans (BB.mono O.size))
 clear R1 R2 B O BB
 go_wp2_with (refine wpList_store_mid rfl 88 _ _ rfl w1.heap.size 0 (arr 16 (d16 1)) rfl rfl ?there (info88 _) (arr_one _ _) ?_)
 case there => rw [arr_size]; exact RX.there
 try rw [show ∀ (a : Act) (v : Value), a.put none v = a from fun _ _ => rfl]
 have R1 := R1'.out
 have R2 := R2'.out
 have B := B'.out
 have O := O'.out
 replace RX := RR.out
 clear R1' R2' B' O' RR
 generalize w1.heap.size = gX at *
 generalize (w1.alloc (.cells #[Value.int .u64 0, Value.int .u64 0, Value.int .u64 0, Value.int .u64 0, Value.int .u64 0, Value.int .u64 0, Value.int .u64 0, Value.int .u64 0, Value.int .u64 0, Value.int .u64 0, Value.int .u64 0, Value.int .u64 0, Value.int .u64 0, Value.int .u64 0, Value.int .u64 0, Value.int .u64 0] 88)).setCells gX 0 (arr 16 (d16 1)).toList = W2 at *
 go_loopw [6] (fun x wr => ∃ i : Nat, i ≤ n ∧ x = .int .i64 i ∧ Row wr w.heap.size 88 16 a ∧ Row wr (w.heap.size + 1) 88 16 (fun _ => 0) ∧ Row wr gX 88 16 (d16 (pwm (S a 16) f i)) ∧ Brow wr b n f ∧ Below w.heap.size w wr) (fun x _ => n - (intOf x).toNat)
 case atStart => exact ⟨0, by omega, rfl, R1, R2, RX, B, O⟩
 case round =>
  clear R1 R2 RX B O
  obtain ⟨i, hi, rfl, R1, R2, RX, B, O⟩ := hrel
  have hp := pwm_bd (S a 16) f i
  by_cases hlt : i < n
  ·have h1 : (i : Int) < (n : Int) := by omega
   have HP := hide hp
   have HX := hide RX
   clear hp RX
   go_wp2_with (refine wpList_load_row rfl 88 _ rfl gX rfl 88 (arr 16 (d16 (pwm (S a 16) f i))) (0, 0) _ HX.out Tryz.underlying88 rfl (info88 _) ?_)
   refine (rmul_any _ _ _ (d16_dig _ 16) (d16_dig _ 16)).mono ?_
   rintro _ w3 ⟨rfl, hb3⟩
   rw [bS HP.out]
   replace R1 := R1.keep hb3
   replace R2 := R2.keep hb3
   replace B := B.keep hb3
   have RX := HX.out.keep hb3
   replace O := O.trans (hb3.mono O.size)
   clear hb3 HX
   have hE : pwm (S a 16) f (i + 1) = if f i = true then (pwm (S a 16) f i * pwm (S a 16) f i % Pm) * S a 16 % Pm else pwm (S a 16) f i * pwm (S a 16) f i % Pm := rfl
   have HE := hide hE
   clear hE HP
   generalize pwm (S a 16) f i * pwm (S a 16) f i = Y at *
   have RR := hide (RX.setAll (d16 (Y % Pm)))
   have R1' := hide (R1.setOther (k := gX) (by omega) 0 (arr 16 (d16 (Y % Pm))).toList)
   have R2' := hide (R2.setOther (k := gX) (by omega) 0 (arr 16 (d16 (Y % Pm))).toList)
   have B' : Hid (Brow (w3.setCells gX 0 (arr 16 (d16 (Y % Pm))).toList) b n f) := hide (by
    unfold Brow
    rw [heap_setCells_other gX b (by omega)]
    exact B)
   have O' := hide (below_setCells (g := gX) (by omega) (arr 16 (d16 (Y % Pm))).toList 0 O)
   clear R1 R2 B O
   have BC := B'.out.cell hlt
   cases hf : f i
   ·rw [hf] at BC HE
    go_wp2_with (refine wpList_store_mid rfl 88 _ _ rfl gX 0 (arr 16 (d16 (Y % Pm))) rfl rfl ?there (info88 _) (arr_one _ _) ?_)
    case there => rw [arr_size]; exact RX.there
    go_roundw
    case rel => exact ⟨i + 1, by omega, by go_num, R1'.out, R2'.out, by rw [HE.out]; exact RR.out, B'.out, O'.out⟩
    case measure => simp [intOf]; omega
   ·rw [hf] at BC HE
    go_wp2_with (first | (refine wpList_store_mid rfl 88 _ _ rfl gX 0 (arr 16 (d16 (Y % Pm))) rfl rfl ?there (info88 _) (arr_one _ _) ?_) | (refine wpList_load_row rfl 88 _ rfl gX rfl 88 (arr 16 (d16 (Y % Pm))) (0, 0) _ RR.out Tryz.underlying88 rfl (info88 _) ?_) | (refine wpList_load_row rfl 88 _ rfl w.heap.size rfl 88 (arr 16 a) (0, 0) _ R1'.out Tryz.underlying88 rfl (info88 _) ?_))
    case there => rw [arr_size]; exact RX.there
    refine (rmul_any _ _ _ (d16_dig _ 16) ha).mono ?_
    rintro _ w5 ⟨rfl, hb5⟩
    rw [dS]
    rw [if_pos trivial] at HE
    have R1 := R1'.out.keep hb5
    have R2 := R2'.out.keep hb5
    have B := B'.out.keep hb5
    have RY := RR.out.keep hb5
    have O := O'.out.trans (hb5.mono O'.out.size)
    clear hb5 R1' R2' B' RR O' BC RX
    generalize Y % Pm * S a 16 = Y2 at *
    have RR := hide (RY.setAll (d16 (Y2 % Pm)))
    have R1' := hide (R1.setOther (k := gX) (by omega) 0 (arr 16 (d16 (Y2 % Pm))).toList)
    have R2' := hide (R2.setOther (k := gX) (by omega) 0 (arr 16 (d16 (Y2 % Pm))).toList)
    have B' : Hid (Brow (w5.setCells gX 0 (arr 16 (d16 (Y2 % Pm))).toList) b n f) := hide (by
     unfold Brow
     rw [heap_setCells_other gX b (by omega)]
     exact B)
    have O' := hide (below_setCells (g := gX) (by omega) (arr 16 (d16 (Y2 % Pm))).toList 0 O)
    clear R1 R2 B O
    go_wp2_with (refine wpList_store_mid rfl 88 _ _ rfl gX 0 (arr 16 (d16 (Y2 % Pm))) rfl rfl ?there (info88 _) (arr_one _ _) ?_)
    case there => rw [arr_size]; exact RY.there
    go_roundw
    case rel => exact ⟨i + 1, by omega, by go_num, R1'.out, R2'.out, by rw [HE.out]; exact RR.out, B'.out, O'.out⟩
    case measure => simp [intOf]; omega
  ·have hi' : i = n := by omega
   subst hi'
   have RR := hide (R2.setAll (d16 (pwm (S a 16) f i)))
   have OO := hide (below_setCells (g := w.heap.size + 1) (by omega) (arr 16 (d16 (pwm (S a 16) f i))).toList 0 O)
   clear hp R1 B O
   go_wp2_with (first | (refine wpList_load_row rfl 88 _ rfl gX rfl 88 (arr 16 (d16 (pwm (S a 16) f i))) (0, 0) _ RX Tryz.underlying88 rfl (info88 _) ?_) | (refine wpList_store_mid rfl 88 _ _ rfl (w.heap.size + 1) 0 (arr 16 (d16 (pwm (S a 16) f i))) rfl rfl ?there (info88 _) (arr_one _ _) ?_))
   case there => rw [arr_size]; exact R2.there
   exact bodyPost_ret (v := .agg (arr 16 (d16 (pwm (S a 16) f i)))) (results_cell_row Tryz.results63 _ _ (w.heap.size + 1) 88 (arr 16 (d16 (pwm (S a 16) f i))) (0, 0) _ rfl RR.out Tryz.underlying88 rfl (info88 _)) rfl ⟨rfl, OO.out⟩
open Go.RowKit
theorem rinv_any (a : NI) (w : World) (ha : Dig a 16) : Cs 43 #[.agg (arr 16 a)] w (.agg (arr 16 (d16 (pwm (S a 16) (xbit 255 21) 255)))) := by
 go_enter Tryz.func43, Tryz.ntmps43
 go_wp2_with fail
 rw [show #[Value.int .u64 0, Value.int .u64 0, Value.int .u64 0, Value.int .u64 0, Value.int .u64 0, Value.int .u64 0, Value.int .u64 0, Value.int .u64 0, Value.int .u64 0, Value.int .u64 0, Value.int .u64 0, Value.int .u64 0, Value.int .u64 0, Value.int .u64 0, Value.int .u64 0, Value.int .u64 0] = arr 16 (fun _ => 0) from rfl]
 have R1 : Row ((w.alloc (.cells (arr 16 a) 88)).alloc (.cells (arr 16 fun _ => 0) 88)) w.heap.size 88 16 a := (Row.new w 88 16 a).alloc _
 have R2 : Row ((w.alloc (.cells (arr 16 a) 88)).alloc (.cells (arr 16 fun _ => 0) 88)) (w.heap.size + 1) 88 16 (fun _ => 0) := Row.new' _ 88 16 _ (by simp)
 have O : Below w.heap.size w ((w.alloc (.cells (arr 16 a) 88)).alloc (.cells (arr 16 fun _ => 0) 88)) := ((Below.refl _ _).alloc (Nat.le_refl _) _).alloc (by simp) _
 generalize ((w.alloc (.cells (arr 16 a) 88)).alloc (.cells (arr 16 fun _ => 0) 88)) = W at R1 R2 O ⊢
 refine region_cut (fun a0 a' w' => ∃ b : Nat, a' = ((a0.put (some 3) (.agg (arr 16 a))).put (some 4) (.slice (some ⟨b, 0, none⟩) 255 255)).put (some 5) (.agg (arr 16 (d16 (pwm (S a 16) (xbit 255 21) 255)))) ∧ Row w' (w.heap.size + 1) 88 16 (d16 (pwm (S a 16) (xbit 255 21) 255)) ∧ Below w.heap.size w w') (by kernel_rfl) ?_ ?_
 ·clear R1 R2 O
  rintro _ w' ⟨b, rfl, R, O⟩
  go_wp2
  exact bodyPost_ret (v := .agg (arr 16 (d16 (pwm (S a 16) (xbit 255 21) 255)))) (results_cell_row Tryz.results43 _ _ (w.heap.size + 1) 88 (arr 16 (d16 (pwm (S a 16) (xbit 255 21) 255))) (0, 0) _ rfl R Tryz.underlying88 rfl (info88 _)) rfl ⟨rfl, O⟩
 ·intro hrest
  replace R1 := rowD R1
  replace R2 := rowD R2
  replace O := O.drew
  refine wpAny_ready (rs := [0, 1]) (by kernel_rfl) (by simp) ?_
  refine ready_load rfl rfl 88 _ rfl w.heap.size (by kernel_rfl) 88 (arr 16 a) (0, 0) _ R1 Tryz.underlying88 rfl (info88 _) ?_ ?_
  ·skip
   refine wpAny_ready (rs := [1]) (by kernel_rfl) (by simp) ?_
   refine ready_call 64 #[.int .i64 255, .int .i64 21] rfl rfl (by kernel_rfl) ?_ ?_
   ·refine (bits_255 _).mono ?_
    rintro _ w2 ⟨b, rfl, _, HB, hb2⟩
    refine ⟨_, rfl, ?_⟩
    replace R1 := R1.keep hb2
    replace R2 := R2.keep hb2
    replace O := O.trans (hb2.mono O.size)
    clear hb2
    refine wpAny_ready (rs := [2]) (by kernel_rfl) (by simp) ?_
    refine ready_call 63 #[.agg (arr 16 a), .slice (some ⟨b, 0, none⟩) 255 255] rfl rfl (by kernel_rfl) ?_ ?_
    ·refine (power_any a 255 _ b _ ha HB (by decide)).mono ?_
     rintro _ w3 ⟨rfl, hb3⟩
     refine ⟨_, rfl, ?_⟩
     replace R1 := R1.keep hb3
     replace R2 := R2.keep hb3
     replace HB := HB.keep hb3
     replace O := O.trans (hb3.mono O.size)
     clear hb3
     refine wpAny_ready (rs := [3]) (by kernel_rfl) (by simp) ?_
     refine ready_store rfl rfl 88 _ _ rfl (w.heap.size + 1) 0 (arr 16 (d16 (pwm (S a 16) (xbit 255 21) 255))) (by kernel_rfl) (by kernel_rfl) (by rw [arr_size]; exact R2.there) (info88 _) (arr_one _ _) ?_ ?_
     ·skip
      exact wpAny_done (by kernel_rfl) (hrest _ _ ⟨b, by kernel_rfl, R2.setAll _, below_setCells (by omega) _ _ O⟩) _
     exact AllReady.nil
    exact AllReady.nil
   exact AllReady.nil
  refine ready_call 64 #[.int .i64 255, .int .i64 21] rfl rfl (by kernel_rfl) ?_ ?_
  ·refine (bits_255 _).mono ?_
   rintro _ w5 ⟨b, rfl, _, HB, hb5⟩
   refine ⟨_, rfl, ?_⟩
   replace R1 := R1.keep hb5
   replace R2 := R2.keep hb5
   replace O := O.trans (hb5.mono O.size)
   clear hb5
   refine wpAny_ready (rs := [0]) (by kernel_rfl) (by simp) ?_
   refine ready_load rfl rfl 88 _ rfl w.heap.size (by kernel_rfl) 88 (arr 16 a) (0, 0) _ R1 Tryz.underlying88 rfl (info88 _) ?_ ?_
   ·skip
    refine wpAny_ready (rs := [2]) (by kernel_rfl) (by simp) ?_
    refine ready_call 63 #[.agg (arr 16 a), .slice (some ⟨b, 0, none⟩) 255 255] rfl rfl (by kernel_rfl) ?_ ?_
    ·refine (power_any a 255 _ b _ ha HB (by decide)).mono ?_
     rintro _ w7 ⟨rfl, hb7⟩
     refine ⟨_, rfl, ?_⟩
     replace R1 := R1.keep hb7
     replace R2 := R2.keep hb7
     replace HB := HB.keep hb7
     replace O := O.trans (hb7.mono O.size)
     clear hb7
     refine wpAny_ready (rs := [3]) (by kernel_rfl) (by simp) ?_
     refine ready_store rfl rfl 88 _ _ rfl (w.heap.size + 1) 0 (arr 16 (d16 (pwm (S a 16) (xbit 255 21) 255))) (by kernel_rfl) (by kernel_rfl) (by rw [arr_size]; exact R2.there) (info88 _) (arr_one _ _) ?_ ?_
     ·skip
      exact wpAny_done (by kernel_rfl) (hrest _ _ ⟨b, by kernel_rfl, R2.setAll _, below_setCells (by omega) _ _ O⟩) _
     exact AllReady.nil
    exact AllReady.nil
   exact AllReady.nil
  exact AllReady.nil
open Go.RowKit
theorem Cg.pow {x y : Int} (h : Cg x y) : ∀ n : Nat, Cg (x ^ n) (y ^ n)
 | 0 => by rw [Int.pow_zero, Int.pow_zero]; exact Cg.refl _
 | n + 1 => by
  rw [Int.pow_succ, Int.pow_succ]
  exact (Cg.pow h n).mul h
theorem sqz_pow : ∀ (n : Nat) (y : Int), sqz y n = y ^ (2 ^ n)
 | 0, y => by simp [sqz, Int.pow_succ]
 | n + 1, y => by
  unfold sqz
  rw [sqz_pow n, Nat.pow_succ, Nat.mul_comm, Int.pow_mul, Int.pow_succ, Int.pow_succ, Int.pow_zero, Int.one_mul]
theorem onz_pow (x : Int) : ∀ n : Nat, onz x n = x ^ (2 ^ n - 1)
 | 0 => by simp [onz]
 | n + 1 => by
  have hp : 0 < 2 ^ n := Nat.two_pow_pos n
  unfold onz
  rw [onz_pow x n, ← Int.pow_add, ← Int.pow_succ]
  congr 1
  rw [Nat.pow_succ]
  omega
def exf (f : Nat → Bool) : Nat → Nat
 | 0 => 0
 | i + 1 => 2 * exf f i + (f i).toNat
theorem pwm_pow (x : Int) (f : Nat → Bool) : ∀ i, Cg (pwm x f i) (x ^ exf f i)
 | 0 => by simp [pwm, exf]; exact Cg.refl _
 | i + 1 => by
  have ih := pwm_pow x f i
  have h2 : Cg (pwm x f i * pwm x f i % Pm) (x ^ (2 * exf f i)) := by
   refine (cg_emod _).trans ?_
   rw [Nat.two_mul, Int.pow_add]
   exact ih.mul ih
  unfold pwm exf
  cases hf : f i
  ·rw [if_neg (by simp)]
   exact h2
  ·rw [if_pos rfl]
   refine (cg_emod _).trans ?_
   rw [Bool.toNat_true, Int.pow_succ]
   exact h2.mul (Cg.refl x)
theorem ex255 : exf (xbit 255 21) 255 = 2 ^ 255 - 21 := by decide +kernel
theorem invF_pow (x : E5) : Cg (invF x).n (x.n ^ (2 ^ 255 - 21)) := by
 refine (invF_n x).trans (Cg.of_eq ?_)
 rw [sqz_pow, sqz_pow, onz_pow, onz_pow, ← Int.pow_mul, ← Int.pow_add, ← Int.pow_add]
theorem rinv_val {x : E5} {A : Int} (h : Cg x.n A) : Cg (invF x).n (pwm A (xbit 255 21) 255) := by
 refine (invF_pow x).trans ((h.pow _).trans ?_)
 rw [← ex255]
 exact (pwm_pow A _ 255).symm
open Go.RowKit
def ad (a b : NI) (k : Nat) : Nat → Int := fun i => wid a 16 i + if i < k then b i else 0
theorem ad_48 {a b : NI} (ha : Dig a 16) (hb : Dig b 16) : B48 (ad a b 16) := ⟨fun i _ => by
 unfold ad wid
 by_cases hi : i < 16
 ·rw [if_pos hi, if_pos hi]
  have := ha i hi
  have := hb i hi
  omega
 ·rw [if_neg hi, if_neg hi]
  omega⟩
theorem S_add (f g : NI) : ∀ n, S (fun i => f i + g i) n = S f n + S g n
 | 0 => rfl
 | n + 1 => by
  have ih := S_add f g n
  simp only [S]
  rw [ih, Int.add_mul]
  omega
theorem ad_S (a b : NI) : S (ad a b 16) 32 = S a 16 + S b 16 := by
 have e : S (ad a b 16) 32 = S (wid a 16) 32 + S (wid b 16) 32 := by
  rw [← S_add]
  exact S_congr fun i _ => rfl
 rw [e, wid_S, wid_S]
theorem radd_any (a b : NI) (w : World) (ha : Dig a 16) (hb : Dig b 16) : Cs 40 #[.agg (arr 16 a), .agg (arr 16 b)] w (.agg (arr 16 (d16 ((S a 16 + S b 16) % Pm)))) := by
 go_enter Tryz.func40, Tryz.ntmps40
 have R1 : Row (((w.alloc (.cells (arr 16 a) 88)).alloc (.cells (arr 16 b) 88)).alloc (.cells (arr 16 fun _ => 0) 88)) w.heap.size 88 16 a := ((Row.new w 88 16 a).alloc _).alloc _
 have R2 : Row (((w.alloc (.cells (arr 16 a) 88)).alloc (.cells (arr 16 b) 88)).alloc (.cells (arr 16 fun _ => 0) 88)) (w.heap.size + 1) 88 16 b := (Row.new' _ 88 16 _ (by simp)).alloc _
 have R3 : Row (((w.alloc (.cells (arr 16 a) 88)).alloc (.cells (arr 16 b) 88)).alloc (.cells (arr 16 fun _ => 0) 88)) (w.heap.size + 1 + 1) 88 16 (fun _ => 0) := Row.new' _ 88 16 _ (by simp)
 have O : Below w.heap.size w (((w.alloc (.cells (arr 16 a) 88)).alloc (.cells (arr 16 b) 88)).alloc (.cells (arr 16 fun _ => 0) 88)) := (((Below.refl _ _).alloc (Nat.le_refl _) _).alloc (by simp) _).alloc (by simp; omega) _
 have HR := hide R1
 go_wp2_with (refine wpList_load_row rfl 88 _ rfl w.heap.size rfl 88 (arr 16 a) (0, 0) _ HR.out Tryz.underlying88 rfl (info88 _) ?_)
 clear HR R1
 rw [show #[Value.int .u64 0, Value.int .u64 0, Value.int .u64 0, Value.int .u64 0, Value.int .u64 0, Value.int .u64 0, Value.int .u64 0, Value.int .u64 0, Value.int .u64 0, Value.int .u64 0, Value.int .u64 0, Value.int .u64 0, Value.int .u64 0, Value.int .u64 0, Value.int .u64 0, Value.int .u64 0] = arr 16 (fun _ => 0) from rfl]
 refine (wide_any a _).mono ?_
 rintro _ w1 ⟨rfl, hb1⟩
 replace R2 := R2.keep hb1
 replace R3 := R3.keep hb1
 replace O := O.trans (hb1.mono O.size)
 clear hb1
 have gt1 := R3.lt
 have R : Row (w1.alloc (.cells #[Value.int .u64 0, Value.int .u64 0, Value.int .u64 0, Value.int .u64 0, Value.int .u64 0, Value.int .u64 0, Value.int .u64 0, Value.int .u64 0, Value.int .u64 0, Value.int .u64 0, Value.int .u64 0, Value.int .u64 0, Value.int .u64 0, Value.int .u64 0, Value.int .u64 0, Value.int .u64 0, Value.int .u64 0, Value.int .u64 0, Value.int .u64 0, Value.int .u64 0, Value.int .u64 0, Value.int .u64 0, Value.int .u64 0, Value.int .u64 0, Value.int .u64 0, Value.int .u64 0, Value.int .u64 0, Value.int .u64 0, Value.int .u64 0, Value.int .u64 0, Value.int .u64 0, Value.int .u64 0] 108)) w1.heap.size 108 32 (fun _ => 0) := Row.new w1 108 32 (fun _ => 0)
 have BB := below_setCells (g := w1.heap.size) (Nat.le_refl _) (arr 32 (wid a 16)).toList 0 (new_below w1 (.cells #[Value.int .u64 0, Value.int .u64 0, Value.int .u64 0, Value.int .u64 0, Value.int .u64 0, Value.int .u64 0, Value.int .u64 0, Value.int .u64 0, Value.int .u64 0, Value.int .u64 0, Value.int .u64 0, Value.int .u64 0, Value.int .u64 0, Value.int .u64 0, Value.int .u64 0, Value.int .u64 0, Value.int .u64 0, Value.int .u64 0, Value.int .u64 0, Value.int .u64 0, Value.int .u64 0, Value.int .u64 0, Value.int .u64 0, Value.int .u64 0, Value.int .u64 0, Value.int .u64 0, Value.int .u64 0, Value.int .u64 0, Value.int .u64 0, Value.int .u64 0, Value.int .u64 0, Value.int .u64 0] 108))
 have RR := hide (R.setAll (wid a 16))
 have R2' := hide (R2.keep BB)
 have R3' := hide (R3.keep BB)
 have O' := hide (O.trans (BB.mono O.size))
 clear R2 R3 O BB
 go_wp2_with (refine wpList_store_mid rfl 108 _ _ rfl w1.heap.size 0 (arr 32 (wid a 16)) rfl rfl (by rw [arr_size]; exact R.there) (info108 _) (arr_one _ _) ?_)
 try rw [show ∀ (a : Act) (v : Value), a.put none v = a from fun _ _ => rfl]
 replace R := RR.out
 have R2 := R2'.out
 have R3 := R3'.out
 have O := O'.out
 clear RR R2' R3' O'
 generalize w1.heap.size = gt at *
 generalize (w1.alloc (.cells #[Value.int .u64 0, Value.int .u64 0, Value.int .u64 0, Value.int .u64 0, Value.int .u64 0, Value.int .u64 0, Value.int .u64 0, Value.int .u64 0, Value.int .u64 0, Value.int .u64 0, Value.int .u64 0, Value.int .u64 0, Value.int .u64 0, Value.int .u64 0, Value.int .u64 0, Value.int .u64 0, Value.int .u64 0, Value.int .u64 0, Value.int .u64 0, Value.int .u64 0, Value.int .u64 0, Value.int .u64 0, Value.int .u64 0, Value.int .u64 0, Value.int .u64 0, Value.int .u64 0, Value.int .u64 0, Value.int .u64 0, Value.int .u64 0, Value.int .u64 0, Value.int .u64 0, Value.int .u64 0] 108)).setCells gt 0 (arr 32 (wid a 16)).toList = W2 at *
 go_loopw [6] (fun i wr => ∃ k : Nat, k ≤ 16 ∧ i = .int .i64 k ∧ Row wr gt 108 32 (ad a b k) ∧ Row wr (w.heap.size + 1) 88 16 b ∧ Row wr (w.heap.size + 1 + 1) 88 16 (fun _ => 0) ∧ Below w.heap.size w wr) (fun i _ => 16 - (intOf i).toNat)
 case atStart => exact ⟨0, by omega, rfl, R.congr (fun i _ => by unfold ad; rw [if_neg (by omega)]; omega), R2, R3, O⟩
 case round =>
  clear R R2 R3 O
  obtain ⟨k, hk, rfl, R, R2, R3, O⟩ := hrel
  by_cases hlt : k < 16
  ·have c := R.cell (i := k) (by omega)
   rw [show ad a b k k = a k by unfold ad wid; rw [if_pos hlt, if_neg (by omega)]; omega] at c
   have d := R2.cell hlt
   have e := R.free
   obtain ⟨a0, a1⟩ := ha k hlt
   obtain ⟨b0, b1⟩ := hb k hlt
   have i1 : (0 : Int) ≤ (k : Int) := by omega
   have i2 : (k : Int) < 16 := by omega
   go_wp2_with fail
   go_region
   go_wp2
   exact ⟨⟨k + 1, by omega, by go_num, rowD ((R.set k (a k + b k)).congr (fun i _ => by
    unfold upd ad
    by_cases h : i = k
    ·subst h
     rw [if_pos rfl, if_pos (by omega)]
     unfold wid
     rw [if_pos hlt]
    ·rw [if_neg h]
     by_cases h2 : i < k
     ·rw [if_pos h2, if_pos (by omega)]
     ·rw [if_neg h2, if_neg (by omega)])), rowD (R2.other (a := ⟨gt, k, none⟩) (by simp; omega) _), rowD (R3.other (a := ⟨gt, k, none⟩) (by simp; omega) _), (O.setCell (p := ⟨gt, k, none⟩) (by simp; omega) _).drew⟩, by simp [intOf]; omega⟩
  ·have hk' : k = 16 := by omega
   subst hk'
   have HR := hide R
   clear R R2
   go_wp2_with (refine wpList_load_row rfl 108 _ rfl gt rfl 108 (arr 32 (ad a b 16)) (0, 0) _ HR.out Tryz.underlying108 rfl (info108 _) ?_)
   try rw [show ∀ (a : Act) (v : Value), a.put none v = a from fun _ _ => rfl]
   refine (reduce_any (ad a b 16) _ (ad_48 ha hb)).mono ?_
   rintro _ w3 ⟨rfl, hb3⟩
   replace R3 := R3.keep hb3
   replace O := O.trans (hb3.mono O.size)
   clear hb3 HR
   rw [ad_S]
   have RR := hide (R3.setAll (d16 ((S a 16 + S b 16) % Pm)))
   have OO := hide (below_setCells (g := w.heap.size + 1 + 1) (by omega) (arr 16 (d16 ((S a 16 + S b 16) % Pm))).toList 0 O)
   go_wp2_with (refine wpList_store_mid rfl 88 _ _ rfl (w.heap.size + 1 + 1) 0 (arr 16 (d16 ((S a 16 + S b 16) % Pm))) rfl rfl (by rw [arr_size]; exact R3.there) (info88 _) (arr_one _ _) ?_)
   exact bodyPost_ret (v := .agg (arr 16 (d16 ((S a 16 + S b 16) % Pm)))) (results_cell_row Tryz.results40 _ _ (w.heap.size + 1 + 1) 88 (arr 16 (d16 ((S a 16 + S b 16) % Pm))) (0, 0) _ rfl RR.out Tryz.underlying88 rfl (info88 _)) rfl ⟨rfl, OO.out⟩
open Go.RowKit
theorem neg_zero {a : NI} (h : eqw a (fun _ => 0) 0 16 = true) : arr 16 (d16 ((- S a 16) % Pm)) = arr 16 a := by
 have hz := (eqw_iff a (fun _ => 0) 16 0).1 h
 have e : S a 16 = 0 := by rw [S_congr (g := fun _ => 0) fun i hi => hz i (by omega) (by omega), S_zero]
 rw [e]
 refine arr_congr fun i hi => ?_
 rw [hz i (by omega) (by omega)]
 simp [d16]
theorem neg_some {a : NI} (ha : Dig a 16) (hlt : S a 16 < Pm) (h : eqw a (fun _ => 0) 0 16 = false) : arr 16 (d16 ((- S a 16) % Pm)) = arr 16 (minusF pF a) := by
 have hm : S (minusF pF a) 16 = Pm - S a 16 := by rw [minus_le pF_dig ha (by rw [pF_S]; omega), pF_S]
 have h0 := (S_bd ha).1
 have hne : S a 16 ≠ 0 := by
  intro e
  have hz : ∀ i, i < 16 → a i = 0 := fun i hi => S_inj (f := a) (g := fun _ => 0) ha (fun _ _ => ⟨Int.le_refl 0, (by decide : (0 : Int) < 65536)⟩) (by rw [e, S_zero]) i hi
  have := (eqw_iff a (fun _ => 0) 16 0).2 fun i _ hi => hz i (by omega)
  rw [this] at h
  cases h
 exact fin_eq (minusF_dig pF a 16) (by rw [hm]; exact ⟨1, by omega⟩) (by rw [hm]; omega)
theorem rneg_any (a : NI) (w : World) (ha : Dig a 16) (hlt : S a 16 < Pm) : Cs 62 #[.agg (arr 16 a)] w (.agg (arr 16 (d16 ((- S a 16) % Pm)))) := by
 have hgu : Tryz.prog.eqGuardType Tryz.prog.depth 88 = false := by kernel_rfl
 have he : ∀ w, (binOp .eql 88 (.agg (arr 16 a)) (.agg #[Value.int .u64 0, Value.int .u64 0, Value.int .u64 0, Value.int .u64 0, Value.int .u64 0, Value.int .u64 0, Value.int .u64 0, Value.int .u64 0, Value.int .u64 0, Value.int .u64 0, Value.int .u64 0, Value.int .u64 0, Value.int .u64 0, Value.int .u64 0, Value.int .u64 0, Value.int .u64 0])).run Tryz.prog w = .ok (.bool (eqw a (fun _ => 0) 0 16)) w := fun w => run_eql_words 88 16 a (fun _ => 0) w Tryz.underlying88
 have R1 : Row ((w.alloc (.cells (arr 16 a) 88)).alloc (.cells #[Value.int .u64 0, Value.int .u64 0, Value.int .u64 0, Value.int .u64 0, Value.int .u64 0, Value.int .u64 0, Value.int .u64 0, Value.int .u64 0, Value.int .u64 0, Value.int .u64 0, Value.int .u64 0, Value.int .u64 0, Value.int .u64 0, Value.int .u64 0, Value.int .u64 0, Value.int .u64 0] 88)) w.heap.size 88 16 a := (Row.new w 88 16 a).alloc _
 have R3 : Row ((w.alloc (.cells (arr 16 a) 88)).alloc (.cells #[Value.int .u64 0, Value.int .u64 0, Value.int .u64 0, Value.int .u64 0, Value.int .u64 0, Value.int .u64 0, Value.int .u64 0, Value.int .u64 0, Value.int .u64 0, Value.int .u64 0, Value.int .u64 0, Value.int .u64 0, Value.int .u64 0, Value.int .u64 0, Value.int .u64 0, Value.int .u64 0] 88)) (w.heap.size + 1) 88 16 (fun _ => 0) := Row.new' _ 88 16 (fun _ => 0) (by simp)
 have O : Below w.heap.size w ((w.alloc (.cells (arr 16 a) 88)).alloc (.cells #[Value.int .u64 0, Value.int .u64 0, Value.int .u64 0, Value.int .u64 0, Value.int .u64 0, Value.int .u64 0, Value.int .u64 0, Value.int .u64 0, Value.int .u64 0, Value.int .u64 0, Value.int .u64 0, Value.int .u64 0, Value.int .u64 0, Value.int .u64 0, Value.int .u64 0, Value.int .u64 0] 88)) := ((Below.refl _ _).alloc (Nat.le_refl _) _).alloc (by simp) _
 have H1 := hide R1
 have H3 := hide R3
 have H4 := hide O
 clear R1 R3 O
 cases hz : eqw a (fun _ => 0) 0 16
 ·rw [hz] at he
  have HE := hide (neg_some ha hlt hz)
  clear hz
  go_enter Tryz.func62, Tryz.ntmps62
  go_wp2_with (refine wpList_load_row rfl 88 _ rfl w.heap.size rfl 88 (arr 16 a) (0, 0) _ H1.out Tryz.underlying88 rfl (info88 _) ?_)
  try rw [show ∀ (a : Act) (v : Value), a.put none v = a from fun _ _ => rfl]
  have R1 := H1.out
  have R3 := H3.out
  have O := H4.out
  clear H1 H3 H4
  generalize (w.alloc (.cells (arr 16 a) 88)).alloc (.cells #[Value.int .u64 0, Value.int .u64 0, Value.int .u64 0, Value.int .u64 0, Value.int .u64 0, Value.int .u64 0, Value.int .u64 0, Value.int .u64 0, Value.int .u64 0, Value.int .u64 0, Value.int .u64 0, Value.int .u64 0, Value.int .u64 0, Value.int .u64 0, Value.int .u64 0, Value.int .u64 0] 88) = W at *
  have hne := KW.some W
  have hg3 : ∀ w', (∃ s : KW W, w' = s.w) → w'.heap[w.heap.size]? = some (.cells (arr 16 a) 88 (0, 0)) := by
   rintro _ ⟨s, rfl⟩
   exact R1.keep s.keep
  have HG := hide hg3
  clear hg3 R1 he hgu
  refine wp_region_keep_tail 3 (by kernel_rfl) (by kernel_rfl) ?_
  simp only [List.take_succ_cons, List.take_zero, List.drop_succ_cons, List.drop_zero]
  go_big_quiet_step ((exact keep_of (prime_any _)))
  go_big_quiet_want
  refine quiet_load_row 88 _ rfl w.heap.size rfl 88 (arr 16 a) (0, 0) _ HG.out Tryz.underlying88 rfl (info88 _) ?_
  go_simp
  go_big_quiet_on
  go_big_quiet_step ((exact keep_of (minus_any pF a _ pF_dig ha)))
  refine wpQuiet_nil ?_
  intro s
  replace R3 := R3.keep s.keep
  replace O := O.trans (s.keep.mono O.size)
  generalize s.w = W8 at R3 O ⊢
  have RR := hide (R3.setAll (minusF pF a))
  have OO := hide (below_setCells (g := w.heap.size + 1) (by omega) (arr 16 (minusF pF a)).toList 0 O)
  clear HG hne
  go_wp2_with (refine wpList_store_mid rfl 88 _ _ rfl (w.heap.size + 1) 0 (arr 16 (minusF pF a)) rfl rfl (by rw [arr_size]; exact R3.there) (info88 _) (arr_one _ _) ?_)
  exact bodyPost_ret (v := .agg (arr 16 (minusF pF a))) (results_cell_row Tryz.results62 _ _ (w.heap.size + 1) 88 (arr 16 (minusF pF a)) (0, 0) _ rfl RR.out Tryz.underlying88 rfl (info88 _)) rfl ⟨by rw [HE.out], OO.out⟩
 ·rw [hz] at he
  have HE := hide (neg_zero hz)
  clear hz
  have RR := hide (H3.out.setAll a)
  have OO := hide (below_setCells (g := w.heap.size + 1) (by omega) (arr 16 a).toList 0 H4.out)
  go_enter Tryz.func62, Tryz.ntmps62
  go_wp2_with (first | (refine wpList_load_row rfl 88 _ rfl w.heap.size rfl 88 (arr 16 a) (0, 0) _ H1.out Tryz.underlying88 rfl (info88 _) ?_) | (refine wpList_store_mid rfl 88 _ _ rfl (w.heap.size + 1) 0 (arr 16 a) rfl rfl (by rw [arr_size]; exact H3.out.there) (info88 _) (arr_one _ _) ?_))
  exact bodyPost_ret (v := .agg (arr 16 a)) (results_cell_row Tryz.results62 _ _ (w.heap.size + 1) 88 (arr 16 a) (0, 0) _ rfl RR.out Tryz.underlying88 rfl (info88 _)) rfl ⟨by rw [HE.out], OO.out⟩
theorem sub_val {a b : NI} : (S a 16 + S (d16 ((- S b 16) % Pm)) 16) % Pm = (S a 16 - S b 16) % Pm := by
 have h0 : 0 ≤ (- S b 16) % Pm := Int.emod_nonneg _ (by decide)
 have h1 : (- S b 16) % Pm < Pm := Int.emod_lt_of_pos _ (by decide)
 have hP : Pm < 65536 ^ 16 := by decide
 rw [d16_S _ h0, Int.emod_eq_of_lt h0 (by omega)]
 exact ((Cg.refl (S a 16)).add (cg_emod (- S b 16))).emod
theorem rsub_any (a b : NI) (w : World) (ha : Dig a 16) (hb : Dig b 16) (hlt : S b 16 < Pm) : Cs 42 #[.agg (arr 16 a), .agg (arr 16 b)] w (.agg (arr 16 (d16 ((S a 16 - S b 16) % Pm)))) := by
 have hcall : ∀ w, Cs 40 #[.agg (arr 16 a), .agg (arr 16 (d16 ((- S b 16) % Pm)))] w (.agg (arr 16 (d16 ((S a 16 - S b 16) % Pm)))) := fun w => by
  have := radd_any a (d16 ((- S b 16) % Pm)) w ha (d16_dig _ 16)
  rwa [sub_val] at this
 have HC := hide hcall
 clear hcall
 have R1 : Row (((w.alloc (.cells (arr 16 a) 88)).alloc (.cells (arr 16 b) 88)).alloc (.cells #[Value.int .u64 0, Value.int .u64 0, Value.int .u64 0, Value.int .u64 0, Value.int .u64 0, Value.int .u64 0, Value.int .u64 0, Value.int .u64 0, Value.int .u64 0, Value.int .u64 0, Value.int .u64 0, Value.int .u64 0, Value.int .u64 0, Value.int .u64 0, Value.int .u64 0, Value.int .u64 0] 88)) w.heap.size 88 16 a := ((Row.new w 88 16 a).alloc _).alloc _
 have R2 : Row (((w.alloc (.cells (arr 16 a) 88)).alloc (.cells (arr 16 b) 88)).alloc (.cells #[Value.int .u64 0, Value.int .u64 0, Value.int .u64 0, Value.int .u64 0, Value.int .u64 0, Value.int .u64 0, Value.int .u64 0, Value.int .u64 0, Value.int .u64 0, Value.int .u64 0, Value.int .u64 0, Value.int .u64 0, Value.int .u64 0, Value.int .u64 0, Value.int .u64 0, Value.int .u64 0] 88)) (w.heap.size + 1) 88 16 b := (Row.new' _ 88 16 _ (by simp)).alloc _
 have R3 : Row (((w.alloc (.cells (arr 16 a) 88)).alloc (.cells (arr 16 b) 88)).alloc (.cells #[Value.int .u64 0, Value.int .u64 0, Value.int .u64 0, Value.int .u64 0, Value.int .u64 0, Value.int .u64 0, Value.int .u64 0, Value.int .u64 0, Value.int .u64 0, Value.int .u64 0, Value.int .u64 0, Value.int .u64 0, Value.int .u64 0, Value.int .u64 0, Value.int .u64 0, Value.int .u64 0] 88)) (w.heap.size + 1 + 1) 88 16 (fun _ => 0) := Row.new' _ 88 16 (fun _ => 0) (by simp)
 have O : Below w.heap.size w (((w.alloc (.cells (arr 16 a) 88)).alloc (.cells (arr 16 b) 88)).alloc (.cells #[Value.int .u64 0, Value.int .u64 0, Value.int .u64 0, Value.int .u64 0, Value.int .u64 0, Value.int .u64 0, Value.int .u64 0, Value.int .u64 0, Value.int .u64 0, Value.int .u64 0, Value.int .u64 0, Value.int .u64 0, Value.int .u64 0, Value.int .u64 0, Value.int .u64 0, Value.int .u64 0] 88)) := (((Below.refl _ _).alloc (Nat.le_refl _) _).alloc (by simp) _).alloc (by simp; omega) _
 go_enter Tryz.func42, Tryz.ntmps42
 go_wp2_with fail
 generalize ((w.alloc (.cells (arr 16 a) 88)).alloc (.cells (arr 16 b) 88)).alloc (.cells #[Value.int .u64 0, Value.int .u64 0, Value.int .u64 0, Value.int .u64 0, Value.int .u64 0, Value.int .u64 0, Value.int .u64 0, Value.int .u64 0, Value.int .u64 0, Value.int .u64 0, Value.int .u64 0, Value.int .u64 0, Value.int .u64 0, Value.int .u64 0, Value.int .u64 0, Value.int .u64 0] 88) = W at *
 have hne := KW.some W
 have hg1 : ∀ w', (∃ s : KW W, w' = s.w) → w'.heap[w.heap.size]? = some (.cells (arr 16 a) 88 (0, 0)) := by
  rintro _ ⟨s, rfl⟩
  exact R1.keep s.keep
 have hg2 : ∀ w', (∃ s : KW W, w' = s.w) → w'.heap[w.heap.size + 1]? = some (.cells (arr 16 b) 88 (0, 0)) := by
  rintro _ ⟨s, rfl⟩
  exact R2.keep s.keep
 have HG1 := hide hg1
 have HG2 := hide hg2
 clear hg1 hg2 R1 R2
 refine wp_region_keep_tail 4 (by kernel_rfl) (by kernel_rfl) ?_
 simp only [List.take_succ_cons, List.take_zero, List.drop_succ_cons, List.drop_zero]
 go_big_quiet_want
 refine quiet_load_row 88 _ rfl w.heap.size rfl 88 (arr 16 a) (0, 0) _ HG1.out Tryz.underlying88 rfl (info88 _) ?_
 go_simp
 go_big_quiet_on
 go_big_quiet_want
 refine quiet_load_row 88 _ rfl (w.heap.size + 1) rfl 88 (arr 16 b) (0, 0) _ HG2.out Tryz.underlying88 rfl (info88 _) ?_
 go_simp
 go_big_quiet_on
 go_big_quiet_step ((exact keep_of (rneg_any b _ hb hlt)))
 go_big_quiet_step ((exact keep_of (HC.out _)))
 refine wpQuiet_nil ?_
 intro s
 replace R3 := R3.keep s.keep
 replace O := O.trans (s.keep.mono O.size)
 generalize s.w = W8 at R3 O ⊢
 have RR := hide (R3.setAll (d16 ((S a 16 - S b 16) % Pm)))
 have OO := hide (below_setCells (g := w.heap.size + 1 + 1) (by omega) (arr 16 (d16 ((S a 16 - S b 16) % Pm))).toList 0 O)
 clear HG1 HG2 hne HC
 go_wp2_with (refine wpList_store_mid rfl 88 _ _ rfl (w.heap.size + 1 + 1) 0 (arr 16 (d16 ((S a 16 - S b 16) % Pm))) rfl rfl (by rw [arr_size]; exact R3.there) (info88 _) (arr_one _ _) ?_)
 exact bodyPost_ret (v := .agg (arr 16 (d16 ((S a 16 - S b 16) % Pm)))) (results_cell_row Tryz.results42 _ _ (w.heap.size + 1 + 1) 88 (arr 16 (d16 ((S a 16 - S b 16) % Pm))) (0, 0) _ rfl RR.out Tryz.underlying88 rfl (info88 _)) rfl ⟨rfl, OO.out⟩
open Go.RowKit
def E5.f (x : E5) : Nat → Int := fun i => [x.a, x.b, x.c, x.d, x.e].getD i 0
def pj (x z : NI) : Nat → Int := fun i => if i < 5 then x i else z (i - 5)
theorem inf41 (f : NI) : (Tryz.prog.info? 116).map (·.size) = some (arr 5 f).size := by rw [arr_size]; kernel_rfl
section
variable {P : Program} {ops : Array Oper} {W : World} {Q : Act → Prop}
end
theorem results_two {P : Program} {fn : Func} {p q : Tmp} {ty tz : TypeId} (h : fn.results = #[.cell p ty, .cell q tz]) (tmps : Array Value) (w : World) (g k : Nat) (t t' : TypeId) (cs cs' : Array Value) (fr fr' : Nat × Nat) (d d' : TypeDesc)
  (hp : tmps.getD p undef = .pointer (some ⟨g, 0, none⟩)) (hq : tmps.getD q undef = .pointer (some ⟨k, 0, none⟩)) (hg : w.heap[g]? = some (.cells cs t fr)) (hk : w.heap[k]? = some (.cells cs' t' fr'))
  (hu : P.underlying ty = some d) (hd : (match d with | .struct _ | .array _ _ => true | _ => false) = true) (hi : (P.info? ty).map (·.size) = some cs.size)
  (hu' : P.underlying tz = some d') (hd' : (match d' with | .struct _ | .array _ _ => true | _ => false) = true) (hi' : (P.info? tz).map (·.size) = some cs'.size) :
  (results fn tmps).run P w = .ok (.tuple #[.agg cs, .agg cs']) w := by
 have hp' : tmps[p]?.getD undef = .pointer (some ⟨g, 0, none⟩) := by simpa using hp
 have hq' : tmps[q]?.getD undef = .pointer (some ⟨k, 0, none⟩) := by simpa using hq
 simp [results, h, hp', hq', asAddr, run_loadVar_row w g t ty cs fr d hg hu hd hi, run_loadVar_row w k t' tz cs' fr' d' hk hu' hd' hi']
open Go.RowKit
structure St where
 dx : E5
 dz : E5
 px : E5
 pz : E5
def stepF (ax az bx bz x : E5) : St :=
 let sm := addF ax az
 let df := subF ax az
 let aa := mulF sm sm
 let bb := mulF df df
 let ee := subF aa bb
 let da := mulF (subF bx bz) sm
 let cb := mulF (addF bx bz) df
 let ps := addF da cb
 let ms := subF da cb
 ⟨mulF aa bb, mulF ee (addF aa (mulF (smallF 121665) ee)), mulF ps ps, mulF x (mulF ms ms)⟩
structure St.Ok (s : St) : Prop where
 dx : s.dx.Ok
 dz : s.dz.Ok
 px : s.px.Ok
 pz : s.pz.Ok
theorem stepF_ok {ax az bx bz x : E5} (h1 : ax.Ok) (h2 : az.Ok) (h3 : bx.Ok) (h4 : bz.Ok) (h5 : x.Ok) : (stepF ax az bx bz x).Ok := by
 have k1 := addF_ok h1 h2
 have k2 := subF_ok h1 h2
 have k3 := mulF_ok k1 k1
 have k4 := mulF_ok k2 k2
 have k5 := subF_ok k3 k4
 have k6 := mulF_ok (subF_ok h3 h4) k1
 have k7 := mulF_ok (addF_ok h3 h4) k2
 have k8 := addF_ok k6 k7
 have k9 := subF_ok k6 k7
 have k0 := smallF_ok (n := 121665) (by decide) (by decide)
 exact ⟨mulF_ok k3 k4, mulF_ok k5 (addF_ok k3 (mulF_ok k0 k5)), mulF_ok k8 k8, mulF_ok h5 (mulF_ok k9 k9)⟩
theorem and1u {x : Int} (h0 : 0 ≤ x) (h1 : x < 256) : bits .and .u8 x 1 = x % 2 := by
 obtain ⟨X, rfl⟩ := Int.eq_ofNat_of_zero_le h0
 have hX : X < 256 := by omega
 have h : ∀ n : Fin 256, bits .and .u8 ((n.val : Nat) : Int) 1 = ((n.val : Nat) : Int) % 2 := by decide +kernel
 exact h ⟨X, hX⟩
def bit (s : Yb) (i : Nat) : Int := bt s (i / 8) / 2 ^ (i % 8) % 2
theorem bit_two (s : Yb) (i : Nat) : bit s i = 0 ∨ bit s i = 1 := by unfold bit; omega
theorem bitAt_any (s : Yb) (p : Nat) (w : World) (hs : p < 8 * s.size) (hp : p < 255) : Cs 91 #[.string s, .int .i64 (p : Int)] w (.int .i64 (bit s p)) := by
 have a1 : (0 : Int) ≤ (p : Int) / 8 := by omega
 have a2 : (p : Int) / 8 < (s.size : Int) := by omega
 have a4 : p / 8 < s.size := by omega
 have a5 := bt_at s (p / 8) a4
 have a6 := bt_bd s (p / 8)
 have HB := hide (show bit s p = bt s (p / 8) / 2 ^ (p % 8) % 2 from rfl)
 rcases (show p % 8 = 0 ∨ p % 8 = 1 ∨ p % 8 = 2 ∨ p % 8 = 3 ∨ p % 8 = 4 ∨ p % 8 = 5 ∨ p % 8 = 6 ∨ p % 8 = 7 by omega) with h8 | h8 | h8 | h8 | h8 | h8 | h8 | h8
 ·have a3 : (p : Int) % 8 = 0 := by omega
  have eb : bits BinOp.and IntKind.u8 (bt s (p / 8)) 1 = bt s (p / 8) % 2 := and1u (by omega) (by omega)
  have HV := hide (show bit s p = bt s (p / 8) % 2 by rw [HB.out, h8]; simp)
  clear h8 HB
  go_enter Tryz.func91, Tryz.ntmps91
  go_wp2
  go_ret
  exact ⟨by rw [HV.out]; rfl, Below.refl _ _⟩
 ·have a3 : (p : Int) % 8 = 1 := by omega
  have eb : bits BinOp.and IntKind.u8 (bt s (p / 8) / 2) 1 = bt s (p / 8) / 2 % 2 := and1u (by omega) (by omega)
  have HV := hide (show bit s p = bt s (p / 8) / 2 % 2 by rw [HB.out, h8]; simp)
  clear h8 HB
  go_enter Tryz.func91, Tryz.ntmps91
  go_wp2
  go_ret
  exact ⟨by rw [HV.out]; rfl, Below.refl _ _⟩
 ·have a3 : (p : Int) % 8 = 2 := by omega
  have eb : bits BinOp.and IntKind.u8 (bt s (p / 8) / 4) 1 = bt s (p / 8) / 4 % 2 := and1u (by omega) (by omega)
  have HV := hide (show bit s p = bt s (p / 8) / 4 % 2 by rw [HB.out, h8]; simp)
  clear h8 HB
  go_enter Tryz.func91, Tryz.ntmps91
  go_wp2
  go_ret
  exact ⟨by rw [HV.out]; rfl, Below.refl _ _⟩
 ·have a3 : (p : Int) % 8 = 3 := by omega
  have eb : bits BinOp.and IntKind.u8 (bt s (p / 8) / 8) 1 = bt s (p / 8) / 8 % 2 := and1u (by omega) (by omega)
  have HV := hide (show bit s p = bt s (p / 8) / 8 % 2 by rw [HB.out, h8]; simp)
  clear h8 HB
  go_enter Tryz.func91, Tryz.ntmps91
  go_wp2
  go_ret
  exact ⟨by rw [HV.out]; rfl, Below.refl _ _⟩
 ·have a3 : (p : Int) % 8 = 4 := by omega
  have eb : bits BinOp.and IntKind.u8 (bt s (p / 8) / 16) 1 = bt s (p / 8) / 16 % 2 := and1u (by omega) (by omega)
  have HV := hide (show bit s p = bt s (p / 8) / 16 % 2 by rw [HB.out, h8]; simp)
  clear h8 HB
  go_enter Tryz.func91, Tryz.ntmps91
  go_wp2
  go_ret
  exact ⟨by rw [HV.out]; rfl, Below.refl _ _⟩
 ·have a3 : (p : Int) % 8 = 5 := by omega
  have eb : bits BinOp.and IntKind.u8 (bt s (p / 8) / 32) 1 = bt s (p / 8) / 32 % 2 := and1u (by omega) (by omega)
  have HV := hide (show bit s p = bt s (p / 8) / 32 % 2 by rw [HB.out, h8]; simp)
  clear h8 HB
  go_enter Tryz.func91, Tryz.ntmps91
  go_wp2
  go_ret
  exact ⟨by rw [HV.out]; rfl, Below.refl _ _⟩
 ·have a3 : (p : Int) % 8 = 6 := by omega
  have eb : bits BinOp.and IntKind.u8 (bt s (p / 8) / 64) 1 = bt s (p / 8) / 64 % 2 := and1u (by omega) (by omega)
  have HV := hide (show bit s p = bt s (p / 8) / 64 % 2 by rw [HB.out, h8]; simp)
  clear h8 HB
  go_enter Tryz.func91, Tryz.ntmps91
  go_wp2
  go_ret
  exact ⟨by rw [HV.out]; rfl, Below.refl _ _⟩
 ·have a3 : (p : Int) % 8 = 7 := by omega
  have eb : bits BinOp.and IntKind.u8 (bt s (p / 8) / 128) 1 = bt s (p / 8) / 128 % 2 := and1u (by omega) (by omega)
  have HV := hide (show bit s p = bt s (p / 8) / 128 % 2 by rw [HB.out, h8]; simp)
  clear h8 HB
  go_enter Tryz.func91, Tryz.ntmps91
  go_wp2
  go_ret
  exact ⟨by rw [HV.out]; rfl, Below.refl _ _⟩
open Go.RowKit
section
variable {P : Program} {ops : Array Oper} {md : Region.Mode} {Q : Exit → Act → World → Prop}
end
def ladF (s : Yb) (x : E5) : Nat → St
 | 0 => ⟨smallF 1, zeroE, x, smallF 1⟩
 | k + 1 => if bit s (254 - k) = 0 then stepF (ladF s x k).dx (ladF s x k).dz (ladF s x k).px (ladF s x k).pz x
  else ⟨(stepF (ladF s x k).px (ladF s x k).pz (ladF s x k).dx (ladF s x k).dz x).px, (stepF (ladF s x k).px (ladF s x k).pz (ladF s x k).dx (ladF s x k).dz x).pz, (stepF (ladF s x k).px (ladF s x k).pz (ladF s x k).dx (ladF s x k).dz x).dx, (stepF (ladF s x k).px (ladF s x k).pz (ladF s x k).dx (ladF s x k).dz x).dz⟩
theorem ladF_ok (s : Yb) {x : E5} (hx : x.Ok) : ∀ k, (ladF s x k).Ok
 | 0 => ⟨smallF_ok (by decide) (by decide), zeroE_ok, hx, smallF_ok (by decide) (by decide)⟩
 | k + 1 => by
  have ih := ladF_ok s hx k
  unfold ladF
  by_cases h : bit s (254 - k) = 0
  ·rw [if_pos h]
   exact stepF_ok ih.dx ih.dz ih.px ih.pz hx
  ·rw [if_neg h]
   have := stepF_ok ih.px ih.pz ih.dx ih.dz hx
   exact ⟨this.px, this.pz, this.dx, this.dz⟩
def qj (p q : NI) : Nat → Int := fun i => if i < 10 then p i else q (i - 10)
open Go.RowKit
theorem bt_bs (l : List Int) (i : Nat) (x : Int) (hl : l[i]? = some x) (h0 : 0 ≤ x) (h1 : x < 256) : bt (bs l) i = x := by
 unfold bt bs
 simp only [List.getElem?_toArray, List.getElem?_map, hl, Option.map_some, Option.getD_some]
 simp only [UInt8.toNat_ofNat']
 omega
structure BC (W : World) (g : Nat) (f : NI) (n : Nat) : Prop where
 lt : g < W.heap.size
 c : ∀ i, i < n → W.cell? ⟨g, i, none⟩ = some (.int .u8 (f i))
 fz : ∀ i, i < n → W.frozen? ⟨g, i, none⟩ = false
theorem heap_setCell_size (W : World) (a : Addr) (v : Value) : (W.setCell a v).heap.size = W.heap.size := by
 simp
theorem BC.set {W : World} {g n : Nat} {f : NI} (h : BC W g f n) {k : Nat} (hk : k < n) (v : Int) : BC (W.setCell ⟨g, k, none⟩ (.int .u8 v)) g (upd f k v) n where
 lt := by rw [heap_setCell_size]; exact h.lt
 c := fun i hi => by
  by_cases e : i = k
  ·subst e
   rw [World.cell?_setCell_same _ _ _ (h.c i hk)]
   simp [upd]
  ·rw [World.cell?_setCell_other _ _ _ _ (by simp <;> omega), h.c i hi]
   simp [upd, e]
 fz := fun i hi => by
  rw [World.frozen?_setCell]
  exact h.fz i hi
theorem row_frozen (w : World) (g j : Nat) (cs : Array Value) (t : TypeId) (hg : w.heap[g]? = some (.cells cs t (cs.size, cs.size + 1))) (hj : j < cs.size) : w.frozen? ⟨g, j, none⟩ = false := by
 unfold World.frozen?
 rw [hg]
 simp
 omega
theorem conv_str (W : World) (s : Yb) : ∃ (cap : Nat) (W1 : World), (convert 9 61 (.string s)).run Tryz.prog W = .ok (.slice (some ⟨W.heap.size, 0, none⟩) s.size cap) W1 ∧ BC W1 W.heap.size (bt s) s.size ∧ Below W.heap.size W W1 := by
 have h := run_bytes_of_string (P := Tryz.prog) W 9 61 5 s Tryz.underlying9 Tryz.underlying61 Tryz.underlying5
 generalize grownCap W s.size 0 5 = cap at h
 refine ⟨cap, _, h, ?_, ((Below.refl _ _).drew).alloc (Nat.le_refl _) _⟩
 have hg : (W.drew.alloc (.cells (bytesRow s cap) 5 ((bytesRow s cap).size, (bytesRow s cap).size + 1))).heap[W.heap.size]? = some (.cells (bytesRow s cap) 5 ((bytesRow s cap).size, (bytesRow s cap).size + 1)) := heap_alloc_new W.drew _
 have hsz : s.size ≤ (bytesRow s cap).size := by
  simp [bytesRow]
 refine ⟨by simp, fun i hi => ?_, fun i hi => row_frozen _ _ _ _ _ hg (by omega)⟩
 rw [cell_of_row _ _ _ _ _ _ hg]
 have hi' : i < s.data.size := hi
 unfold bytesRow bt
 rw [Array.getElem?_append_left (by simpa using hi'), Array.getElem?_map, Array.getElem?_eq_getElem hi']
 rfl
theorem conv_back {W : World} {g n : Nat} {f : NI} (h : BC W g f n) (cap : Nat) (hf : ∀ i, i < n → 0 ≤ f i ∧ f i < 256) :
  (convert 61 9 (.slice (some ⟨g, 0, none⟩) n cap)).run Tryz.prog W = .ok (.string (bs ((List.range n).map f))) W := by
 have hl : ((List.range n).map fun i => UInt8.ofNat (f i).toNat).length = n := by simp
 have h2 := run_convert_bytes_back (P := Tryz.prog) W 61 9 5 ⟨g, 0, none⟩ cap ((List.range n).map fun i => UInt8.ofNat (f i).toNat) Tryz.underlying61 Tryz.underlying5 Tryz.underlying9 (fun j hj => by
  rw [hl] at hj
  have hadd : (⟨g, 0, none⟩ : Addr).add j = ⟨g, j, none⟩ := by unfold Addr.add; split <;> simp_all
  rw [hadd, h.c j hj]
  have := hf j hj
  simp
  omega)
 rw [hl] at h2
 rw [h2]
 unfold bs
 congr 3
 simp [List.map_map]
theorem and_bd {x : Int} (h0 : 0 ≤ x) (h1 : x < 256) : 0 ≤ bits .and .u8 x 248 ∧ bits .and .u8 x 248 < 256 := by
 obtain ⟨X, rfl⟩ := Int.eq_ofNat_of_zero_le h0
 have hX : X < 256 := by omega
 have h : ∀ n : Fin 256, 0 ≤ bits .and .u8 ((n.val : Nat) : Int) 248 ∧ bits .and .u8 ((n.val : Nat) : Int) 248 < 256 := by decide +kernel
 exact h ⟨X, hX⟩
theorem or_bd {x : Int} (h0 : 0 ≤ x) (h1 : x < 256) : 0 ≤ bits .or .u8 (bits .and .u8 x 127) 64 ∧ bits .or .u8 (bits .and .u8 x 127) 64 < 256 := by
 obtain ⟨X, rfl⟩ := Int.eq_ofNat_of_zero_le h0
 have hX : X < 256 := by omega
 have h : ∀ n : Fin 256, 0 ≤ bits .or .u8 (bits .and .u8 ((n.val : Nat) : Int) 127) 64 ∧ bits .or .u8 (bits .and .u8 ((n.val : Nat) : Int) 127) 64 < 256 := by decide +kernel
 exact h ⟨X, hX⟩
def clF (s : Yb) : Nat → Int := upd (upd (bt s) 0 (bits .and .u8 (bt s 0) 248)) 31 (bits .or .u8 (bits .and .u8 (bt s 31) 127) 64)
def clS (s : Yb) : ByteArray := bs ((List.range 32).map (clF s))
theorem clF_bd (s : Yb) (i : Nat) : 0 ≤ clF s i ∧ clF s i < 256 := by
 unfold clF upd
 by_cases h1 : i = 31
 ·rw [if_pos h1]
  exact or_bd (bt_bd s 31).1 (bt_bd s 31).2
 ·rw [if_neg h1]
  by_cases h2 : i = 0
  ·rw [if_pos h2]
   exact and_bd (bt_bd s 0).1 (bt_bd s 0).2
  ·rw [if_neg h2]
   exact bt_bd s i
theorem clS_size (s : Yb) : (clS s).size = 32 := by unfold clS; rw [bs_size]; simp
theorem clamp_yes (s : Yb) (w : World) (hs : s.size = 32) : Cs 66 #[.string s] w (.tuple #[.string (clS s), .int .i64 0]) := by
 have n0 : ((s.size : Int) != 32) = false := by simp [hs]
 obtain ⟨cap, W1, hcv, B, hb⟩ := conv_str w s
 rw [hs] at B
 have c0 := B.c 0 (by omega)
 have c31 := B.c 31 (by omega)
 have f0 := B.fz 0 (by omega)
 have f31 := B.fz 31 (by omega)
 have gl := B.lt
 have B2 := (B.set (k := 0) (by omega) (bits .and .u8 (bt s 0) 248)).set (k := 31) (by omega) (bits .or .u8 (bits .and .u8 (bt s 31) 127) 64)
 have hbk := conv_back (f := clF s) B2 cap (fun i _ => clF_bd s i)
 rw [show bs ((List.range 32).map (clF s)) = clS s from rfl] at hbk
 have OO := hide ((hb.setCell (p := ⟨w.heap.size, 0, none⟩) (Nat.le_refl _) (.int .u8 (bits .and .u8 (bt s 0) 248))).setCell (p := ⟨w.heap.size, 31, none⟩) (Nat.le_refl _) (.int .u8 (bits .or .u8 (bits .and .u8 (bt s 31) 127) 64)))
 clear B2 B hb
 generalize clS s = C at *
 go_enter Tryz.func66, Tryz.ntmps66
 go_wp2
 exact bodyPost_ret (v := .tuple #[.string C, .int .i64 0]) (by simp [results, Tryz.results66, go_sem]) rfl ⟨rfl, OO.out⟩
theorem rclamp_yes (s : Yb) (w : World) (hs : s.size = 32) : Cs 37 #[.string s] w (.string (clS s)) := by
 obtain ⟨cap, W1, hcv, B, hb⟩ := conv_str w s
 rw [hs] at B
 have c0 := B.c 0 (by omega)
 have c31 := B.c 31 (by omega)
 have f0 := B.fz 0 (by omega)
 have f31 := B.fz 31 (by omega)
 have gl := B.lt
 have B2 := (B.set (k := 0) (by omega) (bits .and .u8 (bt s 0) 248)).set (k := 31) (by omega) (bits .or .u8 (bits .and .u8 (bt s 31) 127) 64)
 have hbk := conv_back (f := clF s) B2 cap (fun i _ => clF_bd s i)
 rw [show bs ((List.range 32).map (clF s)) = clS s from rfl] at hbk
 have OO := hide ((hb.setCell (p := ⟨w.heap.size, 0, none⟩) (Nat.le_refl _) (.int .u8 (bits .and .u8 (bt s 0) 248))).setCell (p := ⟨w.heap.size, 31, none⟩) (Nat.le_refl _) (.int .u8 (bits .or .u8 (bits .and .u8 (bt s 31) 127) 64)))
 clear B2 B hb
 generalize clS s = C at *
 go_enter Tryz.func37, Tryz.ntmps37
 go_wp2
 go_ret
 exact ⟨rfl, OO.out⟩
open Go.RowKit
theorem and127_bd {x : Int} (h0 : 0 ≤ x) (h1 : x < 256) : 0 ≤ bits .and .u8 x 127 ∧ bits .and .u8 x 127 < 256 := by
 obtain ⟨X, rfl⟩ := Int.eq_ofNat_of_zero_le h0
 have hX : X < 256 := by omega
 have h : ∀ n : Fin 256, 0 ≤ bits .and .u8 ((n.val : Nat) : Int) 127 ∧ bits .and .u8 ((n.val : Nat) : Int) 127 < 256 := by decide +kernel
 exact h ⟨X, hX⟩
def mkF (s : Yb) : Nat → Int := upd (bt s) 31 (bits .and .u8 (bt s 31) 127)
def mkS (s : Yb) : ByteArray := bs ((List.range 32).map (mkF s))
theorem mkF_bd (s : Yb) (i : Nat) : 0 ≤ mkF s i ∧ mkF s i < 256 := by
 unfold mkF upd
 by_cases h1 : i = 31
 ·rw [if_pos h1]
  exact and127_bd (bt_bd s 31).1 (bt_bd s 31).2
 ·rw [if_neg h1]
  exact bt_bd s i
theorem mkS_size (s : Yb) : (mkS s).size = 32 := by unfold mkS; rw [bs_size]; simp
theorem results_ct {P : Program} {fn : Func} {p s : Tmp} {ty : TypeId} (h : fn.results = #[.cell p ty, .tmp s]) (tmps : Array Value) (w : World) (g : Nat) (t : TypeId) (cs : Array Value) (fr : Nat × Nat) (d : TypeDesc) (v : Value)
  (hp : tmps.getD p undef = .pointer (some ⟨g, 0, none⟩)) (hs : tmps.getD s undef = v) (hg : w.heap[g]? = some (.cells cs t fr))
  (hu : P.underlying ty = some d) (hd : (match d with | .struct _ | .array _ _ => true | _ => false) = true) (hi : (P.info? ty).map (·.size) = some cs.size) :
  (results fn tmps).run P w = .ok (.tuple #[.agg cs, v]) w := results_cell_tmp h tmps w g t cs fr d v hp hs hg hu hd hi
theorem coord_yes (s : Yb) (w : World) (hs : s.size = 32) : Cs 67 #[.string s] w (.tuple #[.agg (arr 5 (ofF (mkS s)).f), .int .i64 0]) := by
 have HO : Hid (∀ w, Cs 90 #[.string (mkS s)] w (.tuple #[.agg (arr 5 (ofF (mkS s)).f), .int .i64 0])) := hide fun w => of_yes (mkS s) w (mkS_size s)
 have n0 : ((s.size : Int) != 32) = false := by simp [hs]
 have R : Row (w.alloc (.cells #[Value.int .u64 0, Value.int .u64 0, Value.int .u64 0, Value.int .u64 0, Value.int .u64 0] 116)) w.heap.size 116 5 (fun _ => 0) := Row.new w 116 5 (fun _ => 0)
 have O : Below w.heap.size w (w.alloc (.cells #[Value.int .u64 0, Value.int .u64 0, Value.int .u64 0, Value.int .u64 0, Value.int .u64 0] 116)) := new_below w _
 obtain ⟨cap, W1, hcv, B, hb⟩ := conv_str (w.alloc (.cells #[Value.int .u64 0, Value.int .u64 0, Value.int .u64 0, Value.int .u64 0, Value.int .u64 0] 116)) s
 rw [show (w.alloc (.cells #[Value.int .u64 0, Value.int .u64 0, Value.int .u64 0, Value.int .u64 0, Value.int .u64 0] 116)).heap.size = w.heap.size + 1 by simp] at hcv B
 rw [hs] at B
 have c31 := B.c 31 (by omega)
 have f31 := B.fz 31 (by omega)
 have gl := B.lt
 have B2 := B.set (k := 31) (by omega) (bits .and .u8 (bt s 31) 127)
 have hbk := conv_back (f := mkF s) B2 cap (fun i _ => mkF_bd s i)
 rw [show bs ((List.range 32).map (mkF s)) = mkS s from rfl] at hbk
 replace R := (R.keep hb).other (a := ⟨w.heap.size + 1, 31, none⟩) (by simp) (.int .u8 (bits .and .u8 (bt s 31) 127))
 replace O := (O.trans (hb.mono O.size)).setCell (p := ⟨w.heap.size + 1, 31, none⟩) (by simp) (.int .u8 (bits .and .u8 (bt s 31) 127))
 have HR := hide (And.intro R O)
 clear B2 B hb R O
 generalize mkS s = C at *
 generalize (ofF C).f = x at *
 go_enter Tryz.func67, Tryz.ntmps67
 go_wp2_with fail
 refine (HO.out _).mono ?_
 rintro _ w1 ⟨rfl, hb⟩
 obtain ⟨R, O⟩ := HR.out
 replace R := R.keep hb
 replace O := O.trans (hb.mono O.size)
 clear hb HO HR hcv hbk c31 f31 gl n0
 have RR := hide (R.setAll x)
 have OO := hide (below_setCells (g := w.heap.size) (Nat.le_refl _) (arr 5 x).toList 0 O)
 clear O
 go_wp2_with (refine wpList_store_mid rfl 116 _ _ rfl w.heap.size 0 (arr 5 x) rfl rfl ?thc (inf41 _) (arr_one _ _) ?_)
 case thc => rw [arr_size]; exact R.there
 exact bodyPost_ret (v := .tuple #[.agg (arr 5 x), .int .i64 0]) (results_ct Tryz.results67 _ _ w.heap.size 116 (arr 5 x) (0, 0) _ _ rfl rfl RR.out Tryz.underlying116 rfl (inf41 _)) rfl ⟨rfl, OO.out⟩
def shE (s p : Yb) : E5 := mulF (ladF (clS s) (ofF (mkS p)) 255).dx (invF (ladF (clS s) (ofF (mkS p)) 255).dz)
theorem shE_ok (s p : Yb) : (shE s p).Ok := by
 have h := ladF_ok (clS s) (ofF_ok (mkS p)) 255
 exact mulF_ok h.dx (invF_ok h.dz)
def shS (s p : Yb) : ByteArray := if (shE s p).n % Pm = 0 then ⟨#[]⟩ else lebytes ((shE s p).n % Pm)
def shC (s p : Yb) : Int := if (shE s p).n % Pm = 0 then 30 else 0
def nineS : ByteArray := lebytes ((smallF 9).n % Pm)
theorem nineS_size : nineS.size = 32 := by decide +kernel
open Go.RowKit
structure RS where
 x2 : Int
 z2 : Int
 x3 : Int
 z3 : Int
def rstep (x1 : Int) (q : RS) : RS :=
 let a := (q.x2 + q.z2) % Pm
 let aa := a * a % Pm
 let d := (q.x2 - q.z2) % Pm
 let dd := d * d % Pm
 let e := (aa - dd) % Pm
 let da := (q.x3 - q.z3) % Pm * a % Pm
 let cb := (q.x3 + q.z3) % Pm * d % Pm
 let s := (da + cb) % Pm
 let t := (da - cb) % Pm
 ⟨aa * dd % Pm, e * ((aa + 121665 * e % Pm) % Pm) % Pm, s * s % Pm, x1 * (t * t % Pm) % Pm⟩
def RS.swap (q : RS) : RS := ⟨q.x3, q.z3, q.x2, q.z2⟩
def rladF (s : Yb) (x1 : Int) : Nat → RS
 | 0 => ⟨1, 0, x1, 1⟩
 | k + 1 => if bit s (254 - k) = 0 then rstep x1 (rladF s x1 k) else (rstep x1 (rladF s x1 k).swap).swap
structure RS.Ok (q : RS) : Prop where
 x2 : 0 ≤ q.x2 ∧ q.x2 < Pm
 z2 : 0 ≤ q.z2 ∧ q.z2 < Pm
 x3 : 0 ≤ q.x3 ∧ q.x3 < Pm
 z3 : 0 ≤ q.z3 ∧ q.z3 < Pm
theorem pmod (X : Int) : 0 ≤ X % Pm ∧ X % Pm < Pm := ⟨Int.emod_nonneg _ (by decide), Int.emod_lt_of_pos _ (by decide)⟩
theorem RS.Ok.swap {q : RS} (h : q.Ok) : q.swap.Ok := ⟨h.x3, h.z3, h.x2, h.z2⟩
theorem rstep_ok (x1 : Int) (q : RS) : (rstep x1 q).Ok := ⟨pmod _, pmod _, pmod _, pmod _⟩
theorem rladF_ok (s : Yb) {x1 : Int} (h : 0 ≤ x1 ∧ x1 < Pm) : ∀ k, (rladF s x1 k).Ok
 | 0 => ⟨⟨show (0 : Int) ≤ 1 by decide, show (1 : Int) < Pm by decide⟩, ⟨show (0 : Int) ≤ 0 by decide, show (0 : Int) < Pm by decide⟩, h, ⟨show (0 : Int) ≤ 1 by decide, show (1 : Int) < Pm by decide⟩⟩
 | k + 1 => by
  unfold rladF
  by_cases hb : bit s (254 - k) = 0
  ·rw [if_pos hb]
   exact rstep_ok _ _
  ·rw [if_neg hb]
   exact (rstep_ok _ _).swap
theorem dSP {X : Int} (h : 0 ≤ X ∧ X < Pm) : S (d16 X) 16 = X := by
 have := dS X
 rwa [Int.emod_eq_of_lt h.1 h.2] at this
open Go.RowKit
def shV (K : Yb) (X : Int) : Int := (rladF K X 255).x2 * pwm (rladF K X 255).z2 (xbit 255 21) 255 % Pm
structure Lc (l : St) (q : RS) : Prop where
 x2 : Cg l.dx.n q.x2
 z2 : Cg l.dz.n q.z2
 x3 : Cg l.px.n q.x3
 z3 : Cg l.pz.n q.z3
theorem em (X : Int) : Cg X (X % Pm) := (cg_emod X).symm
theorem step_cg {ax az bx bz x : E5} {q : RS} {X : Int} (h1 : Cg ax.n q.x2) (h2 : Cg az.n q.z2) (h3 : Cg bx.n q.x3) (h4 : Cg bz.n q.z3) (h5 : Cg x.n X) : Lc (stepF ax az bx bz x) (rstep X q) := by
 have a := ((addF_n ax az).trans (h1.add h2)).trans (em _)
 have d := ((subF_n ax az).trans (h1.sub h2)).trans (em _)
 have aa := ((mulF_n _ _).trans (a.mul a)).trans (em _)
 have dd := ((mulF_n _ _).trans (d.mul d)).trans (em _)
 have e := ((subF_n _ _).trans (aa.sub dd)).trans (em _)
 have u1 := ((subF_n bx bz).trans (h3.sub h4)).trans (em _)
 have da := ((mulF_n _ _).trans (u1.mul a)).trans (em _)
 have u2 := ((addF_n bx bz).trans (h3.add h4)).trans (em _)
 have cb := ((mulF_n _ _).trans (u2.mul d)).trans (em _)
 have s := ((addF_n _ _).trans (da.add cb)).trans (em _)
 have t := ((subF_n _ _).trans (da.sub cb)).trans (em _)
 have k := ((mulF_n _ _).trans ((smallF_n 121665).mul e)).trans (em _)
 have f := ((addF_n _ _).trans (aa.add k)).trans (em _)
 exact ⟨((mulF_n _ _).trans (aa.mul dd)).trans (em _), ((mulF_n _ _).trans (e.mul f)).trans (em _), ((mulF_n _ _).trans (s.mul s)).trans (em _), ((mulF_n _ _).trans (h5.mul (((mulF_n _ _).trans (t.mul t)).trans (em _)))).trans (em _)⟩
theorem lad_cg (K : Yb) {x : E5} {X : Int} (h : Cg x.n X) : ∀ k, Lc (ladF K x k) (rladF K X k)
 | 0 => ⟨smallF_n 1, Cg.of_eq zeroE_n, h, smallF_n 1⟩
 | k + 1 => by
  have ih := lad_cg K h k
  unfold ladF rladF
  by_cases hb : bit K (254 - k) = 0
  ·rw [if_pos hb, if_pos hb]
   exact step_cg ih.x2 ih.z2 ih.x3 ih.z3 h
  ·rw [if_neg hb, if_neg hb]
   have := step_cg (q := (rladF K X k).swap) ih.x3 ih.z3 ih.x2 ih.z2 h
   exact ⟨this.x3, this.z3, this.x2, this.z2⟩
theorem shE_V (s p : Yb) : (shE s p).n % Pm = shV (clS s) (val (mkS p) % Pm) := by
 have h := lad_cg (clS s) ((ofF_n (mkS p)).trans (em _)) 255
 exact ((mulF_n _ _).trans (h.x2.mul (rinv_val h.z2))).emod
def sS (V : Int) : ByteArray := if V = 0 then ⟨#[]⟩ else lebytes V
def sC (V : Int) : Int := if V = 0 then 30 else 0
theorem shS_V (s p : Yb) : shS s p = sS (shV (clS s) (val (mkS p) % Pm)) := by
 unfold shS sS
 rw [shE_V]
theorem shC_V (s p : Yb) : shC s p = sC (shV (clS s) (val (mkS p) % Pm)) := by
 unfold shC sC
 rw [shE_V]
theorem rb_bt (f : NI) {i : Nat} (h : i < 32) : bt (bs (rb f 32)) i = by16 f i := by
 refine bt_bs _ _ _ ?_ (by unfold by16; omega) (by unfold by16; omega)
 simp only [rb, List.getElem?_map, List.getElem?_range h, Option.map_some]
 rw [if_pos h]
theorem rb_pt {f : NI} (hf : Dig f 16) : val (bs (rb f 32)) = S f 16 := by
 rw [← pt_S]
 refine S_congr fun i hi => ?_
 have h := hf i hi
 unfold pt
 rw [if_pos (by omega), if_pos (by omega), rb_bt f (by omega), rb_bt f (by omega)]
 unfold by16
 rw [show 2 * i / 2 = i by omega, show 2 * i % 2 = 0 by omega, show (2 * i + 1) / 2 = i by omega, show (2 * i + 1) % 2 = 1 by omega]
 simp
 omega
theorem and127 {x : Int} (h0 : 0 ≤ x) (h1 : x < 128) : bits .and .u8 x 127 = x := by
 obtain ⟨X, rfl⟩ := Int.eq_ofNat_of_zero_le h0
 have hX : X < 128 := by omega
 have h : ∀ n : Fin 128, bits .and .u8 ((n.val : Nat) : Int) 127 = ((n.val : Nat) : Int) := by decide +kernel
 exact h ⟨X, hX⟩
theorem bs_bt (s : Yb) (hs : s.size = 32) : bs ((List.range 32).map (bt s)) = s := by
 have hd : (bs ((List.range 32).map (bt s))).data = s.data := by
  apply Array.ext_getElem?
  intro i
  have hs' : s.data.size = 32 := hs
  by_cases hi : i < 32
  ·simp only [bs, List.getElem?_toArray, List.getElem?_map, List.getElem?_range hi, Option.map_some, bt]
   rw [Array.getElem?_eq_getElem (by omega)]
   simp
  ·simp only [bs, List.getElem?_toArray]
   rw [List.getElem?_eq_none (by simp; omega), Array.getElem?_eq_none (by omega)]
 cases s
 unfold bs at *
 simp only at hd
 rw [hd]
theorem mk_leb {W : Int} (hW : 0 ≤ W ∧ W < Pm) : val (mkS (bs (rb (d16 W) 32))) % Pm = W := by
 have hsz : (bs (rb (d16 W) 32)).size = 32 := by rw [bs_size, rb_len]
 have hb : bt (bs (rb (d16 W) 32)) 31 < 128 := by
  rw [rb_bt _ (by omega)]
  have hP : Pm < 2 ^ 255 := by decide
  have e : d16 W 15 = W / 65536 ^ 15 % 65536 := rfl
  show d16 W (31 / 2) / 256 ^ (31 % 2) % 256 < 128
  rw [show 31 / 2 = 15 from rfl, show 31 % 2 = 1 from rfl, e]
  have h1 : W / 65536 ^ 15 < 32768 := Int.ediv_lt_of_lt_mul (by decide) (by have : (32768 : Int) * 65536 ^ 15 = 2 ^ 255 := by decide
                                                                            omega)
  have h0 : 0 ≤ W / 65536 ^ 15 := Int.ediv_nonneg hW.1 (by decide)
  generalize W / 65536 ^ 15 = Y at *
  rw [show (256 : Int) ^ 1 = 256 by decide]
  omega
 have e : mkS (bs (rb (d16 W) 32)) = bs (rb (d16 W) 32) := by
  unfold mkS
  rw [show (List.range 32).map (mkF (bs (rb (d16 W) 32))) = (List.range 32).map (bt (bs (rb (d16 W) 32))) from List.map_congr_left fun i _ => by
   unfold mkF upd
   by_cases h : i = 31
   ·rw [if_pos h, h, and127 (bt_bd _ _).1 hb]
   ·rw [if_neg h]]
  exact bs_bt _ hsz
 rw [e, rb_pt (d16_dig W 16), dSP hW, Int.emod_eq_of_lt hW.1 hW.2]
theorem leb_rb {W : Int} (hW : 0 ≤ W ∧ W < Pm) : lebytes W = bs (rb (d16 W) 32) := by
 have h := lebytes_S (f := d16 W) (d16_dig W 16)
 rwa [dSP hW] at h
theorem shV_bd (K : Yb) (X : Int) : 0 ≤ shV K X ∧ shV K X < Pm := pmod _
def aS : ByteArray := bs (List.replicate 31 0 ++ [97])
def bbS : ByteArray := bs (List.replicate 31 0 ++ [98])
theorem v9 : val (mkS nineS) % Pm = 9 := by decide +kernel
theorem aS_size : aS.size = 32 := by decide +kernel
theorem bbS_size : bbS.size = 32 := by decide +kernel
end Go.Proofs.YtffimigpbcilbaaGreatDoor.Mon
/- Numbers modulo a prime are the powers of one of them: shown by the factors of the prime without 1.
   2^255 - 19 is a prime, and each number modulo it but 0 is a power of 2. The order of the base point is a prime. -/
namespace Go.Proofs.YtffimigpbcilbaaGreatDoor.Mon
def IsP (p : Nat) : Prop := 1 < p ∧ ∀ d, d ∣ p → d = 1 ∨ d = p
def pmf (m : Nat) : Nat → Nat → Nat → Nat
 | 0, _, _ => 1 % m
 | f + 1, a, e => pmf m f (a * a % m) (e / 2) * a ^ (e % 2) % m
theorem pmf_eq (m : Nat) : ∀ (f a e : Nat), e < 2 ^ f → pmf m f a e = a ^ e % m
 | 0, a, e, h => by
  have : e = 0 := by simp at h; exact h
  subst this
  rfl
 | f + 1, a, e, h => by
  have h2 : e / 2 < 2 ^ f := by rw [Nat.pow_succ] at h; omega
  unfold pmf
  rw [pmf_eq m f _ _ h2, ← Nat.pow_mod, Nat.mod_mul_mod, ← Nat.pow_two, ← Nat.pow_mul, ← Nat.pow_add, show 2 * (e / 2) + e % 2 = e by omega]
theorem one_pow_mod {n x : Nat} (hn : 1 < n) (h : x % n = 1) (k : Nat) : x ^ k % n = 1 := by
 rw [Nat.pow_mod, h, Nat.one_pow, Nat.mod_eq_of_lt hn]
theorem mul_one_mod {n x y : Nat} (h : x % n = 1) : x * y % n = y % n := by
 rw [Nat.mul_mod, h, Nat.one_mul, Nat.mod_mod]
theorem pow_gcd {n g : Nat} (hn : 1 < n) (d e : Nat) : g ^ d % n = 1 → g ^ e % n = 1 → g ^ Nat.gcd d e % n = 1 := by
 induction d, e using Nat.gcd.induction with
 | H0 e => intro _ h; rwa [Nat.gcd_zero_left]
 | H1 d e _ ih =>
  intro h1 h2
  rw [Nat.gcd_rec]
  refine ih ?_ h1
  have e1 : g ^ e = (g ^ d) ^ (e / d) * g ^ (e % d) := by rw [← Nat.pow_mul, ← Nat.pow_add, Nat.div_add_mod]
  rw [e1, mul_one_mod (one_pow_mod hn h1 _)] at h2
  exact h2
def prod : List Nat → Nat
 | [] => 1
 | x :: l => x * prod l
theorem prod_coprime {m : Nat} : ∀ (l : List Nat), (∀ x ∈ l, Nat.Coprime x m) → Nat.Coprime (prod l) m
 | [], _ => Nat.coprime_one_left m
 | x :: l, h => Nat.Coprime.mul_left (h x (List.mem_cons_self)) (prod_coprime l fun y hy => h y (List.mem_cons_of_mem _ hy))
theorem divides_part {d N : Nat} (l : List Nat) (hl : ∀ x ∈ l, IsP x) (hN : prod l = N) (hd : d ∣ N) (hne : d ≠ N) : ∃ x ∈ l, d ∣ N / x := by
 obtain ⟨m, hm⟩ := hd
 by_cases h : ∃ x ∈ l, x ∣ m
 ·obtain ⟨x, hx, y, hy⟩ := h
  refine ⟨x, hx, y, ?_⟩
  have hx0 : 0 < x := by have := (hl x hx).1; omega
  rw [hm, hy, Nat.mul_left_comm, Nat.mul_div_cancel_left _ hx0]
 ·exfalso
  have hc : ∀ x ∈ l, Nat.Coprime x m := fun x hx => by
   rcases (hl x hx).2 _ (Nat.gcd_dvd_left x m) with h1 | h1
   ·exact h1
   ·exact absurd ⟨x, hx, h1 ▸ Nat.gcd_dvd_right x m⟩ h
  have hp := prod_coprime l hc
  rw [hN] at hp
  have : m ∣ Nat.gcd N m := Nat.dvd_gcd ⟨d, by rw [hm, Nat.mul_comm]⟩ (Nat.dvd_refl m)
  rw [hp] at this
  have m1 : m = 1 := Nat.dvd_one.1 this
  rw [m1, Nat.mul_one] at hm
  exact hne hm.symm
theorem pigeon : ∀ (n : Nat) (f : Nat → Nat), (∀ i, i < n → f i < n) → (∀ i j, i < n → j < n → f i = f j → i = j) → ∀ y, y < n → ∃ i, i < n ∧ f i = y
 | 0, _, _, _, y, hy => by omega
 | n + 1, f, hf, hi, y, hy => by
  by_cases hl : ∃ i, i < n ∧ f i = n
  ·obtain ⟨i0, hi0, he0⟩ := hl
   have hfn : f n < n := by
    have h1 := hf n (by omega)
    have h2 : f n ≠ n := fun h => by
     have := hi n i0 (by omega) (by omega) (h.trans he0.symm)
     omega
    omega
   have ih := pigeon n (fun i => if i = i0 then f n else f i) (fun i h => by
    by_cases e : i = i0
    ·simp only [e, if_true]; exact hfn
    ·simp only [e, if_false]
     have h1 := hf i (by omega)
     have h2 : f i ≠ n := fun h3 => e (hi i i0 (by omega) (by omega) (h3.trans he0.symm))
     omega) (fun i j h1 h2 h3 => by
    by_cases e1 : i = i0
    ·by_cases e2 : j = i0
     ·omega
     ·simp only [e1, e2, if_true, if_false] at h3
      have := hi n j (by omega) (by omega) h3
      omega
    ·by_cases e2 : j = i0
     ·simp only [e1, e2, if_true, if_false] at h3
      have := hi i n (by omega) (by omega) h3
      omega
     ·simp only [e1, e2, if_false] at h3
      exact hi i j (by omega) (by omega) h3)
   by_cases hyn : y = n
   ·exact ⟨i0, by omega, by omega⟩
   ·obtain ⟨i, h1, h2⟩ := ih y (by omega)
    by_cases e : i = i0
    ·simp only [e, if_true] at h2
     exact ⟨n, by omega, h2⟩
    ·simp only [e, if_false] at h2
     exact ⟨i, by omega, h2⟩
  ·have ih := pigeon n f (fun i h => by
    have h1 := hf i (by omega)
    have h2 : f i ≠ n := fun h3 => hl ⟨i, h, h3⟩
    omega) (fun i j h1 h2 h3 => hi i j (by omega) (by omega) h3)
   by_cases hfn : f n = n
   ·by_cases hyn : y = n
    ·exact ⟨n, by omega, by omega⟩
    ·obtain ⟨i, h1, h2⟩ := ih y (by omega)
     exact ⟨i, by omega, h2⟩
   ·obtain ⟨i, h1, h2⟩ := ih (f n) (by have := hf n (by omega); omega)
    have := hi i n (by omega) (by omega) h2
    omega
structure Gen (n g : Nat) : Prop where
 gt : 1 < n
 per : g ^ (n - 1) % n = 1
 all : ∀ a, 0 < a → a < n → ∃ i, g ^ i % n = a
theorem gen_of {n g : Nat} (hn : 1 < n) (l : List Nat) (hl : ∀ x ∈ l, IsP x) (hN : prod l = n - 1) (hg : g ^ (n - 1) % n = 1) (ho : ∀ x ∈ l, g ^ ((n - 1) / x) % n ≠ 1) : Gen n g := by
 have hord : ∀ k, 0 < k → k < n - 1 → g ^ k % n ≠ 1 := by
  intro k h0 hk he
  have h1 := pow_gcd hn k (n - 1) he hg
  have h2 : Nat.gcd k (n - 1) ∣ n - 1 := Nat.gcd_dvd_right _ _
  have h3 : Nat.gcd k (n - 1) ≤ k := Nat.le_of_dvd h0 (Nat.gcd_dvd_left _ _)
  obtain ⟨x, hx, y, hy⟩ := divides_part l hl hN h2 (by omega)
  refine ho x hx ?_
  rw [hy, Nat.pow_mul]
  exact one_pow_mod hn h1 y
 have hinj : ∀ i j, i < j → j < n - 1 → g ^ i % n ≠ g ^ j % n := by
  intro i j hij hj he
  refine hord (j - i) (by omega) (by omega) ?_
  have e1 : g ^ i * g ^ (n - 1 - i) % n = 1 := by rw [← Nat.pow_add, show i + (n - 1 - i) = n - 1 by omega, hg]
  have e2 : g ^ j * g ^ (n - 1 - i) % n = g ^ (j - i) % n := by
   rw [← Nat.pow_add, show j + (n - 1 - i) = (n - 1) + (j - i) by omega, Nat.pow_add, mul_one_mod hg]
  rw [← e2, Nat.mul_mod, ← he, ← Nat.mul_mod, e1]
 have hpos : ∀ i, i < n - 1 → 0 < g ^ i % n := by
  intro i hi
  apply Nat.pos_of_ne_zero
  intro h0
  have e1 : g ^ i * g ^ (n - 1 - i) % n = 1 := by rw [← Nat.pow_add, show i + (n - 1 - i) = n - 1 by omega, hg]
  rw [Nat.mul_mod, h0, Nat.zero_mul, Nat.zero_mod] at e1
  cases e1
 refine ⟨hn, hg, fun a h0 ha => ?_⟩
 obtain ⟨i, h1, h2⟩ := pigeon (n - 1) (fun i => g ^ i % n - 1) (fun i hi => by
  have := hpos i hi
  have := Nat.mod_lt (g ^ i) (show 0 < n by omega)
  show g ^ i % n - 1 < n - 1
  omega) (fun i j hi hj he => by
  have h1 := hpos i hi
  have h2 := hpos j hj
  have he2 : g ^ i % n - 1 = g ^ j % n - 1 := he
  have he' : g ^ i % n = g ^ j % n := by omega
  by_cases e : i = j
  ·exact e
  ·exfalso
   by_cases hlt : i < j
   ·exact hinj i j hlt hj he'
   ·exact hinj j i (by omega) hi he'.symm) (a - 1) (by omega)
 refine ⟨i, ?_⟩
 have := hpos i h1
 have h3 : g ^ i % n - 1 = a - 1 := h2
 omega
theorem Gen.isP {n g : Nat} (h : Gen n g) : IsP n := by
 obtain ⟨hn, hg, ha⟩ := h
 refine ⟨hn, fun d hd => ?_⟩
 by_cases e : d = n
 ·exact .inr e
 ·left
  have hle := Nat.le_of_dvd (by omega) hd
  have h0 : 0 < d := Nat.pos_of_ne_zero fun h => by
   subst h
   have := Nat.eq_zero_of_zero_dvd hd
   omega
  obtain ⟨i, hi⟩ := ha d h0 (by omega)
  have e1 : g ^ i * g ^ ((n - 1) * (i + 1) - i) % n = 1 := by
   have h2 : i ≤ (n - 1) * (i + 1) := by
    have : 1 * (i + 1) ≤ (n - 1) * (i + 1) := Nat.mul_le_mul_right _ (by omega)
    omega
   rw [← Nat.pow_add, show i + ((n - 1) * (i + 1) - i) = (n - 1) * (i + 1) by omega, Nat.pow_mul]
   exact one_pow_mod hn hg _
  have e2 : d ∣ g ^ i * g ^ ((n - 1) * (i + 1) - i) := by
   refine Nat.dvd_trans ?_ (Nat.dvd_mul_right _ _)
   rw [← Nat.div_add_mod (g ^ i) n, hi]
   exact (Nat.dvd_add_right (Nat.dvd_trans hd (Nat.dvd_mul_right _ _))).2 (Nat.dvd_refl d)
  have e3 : d ∣ 1 := by
   rw [← e1]
   exact (Nat.dvd_mod_iff hd).2 e2
  exact Nat.dvd_one.1 e3
theorem gen_by {n g : Nat} (f : Nat) (l : List Nat) (hn : 1 < n) (hl : ∀ x ∈ l, IsP x) (hN : prod l = n - 1) (hf : n - 1 < 2 ^ f) (hg : pmf n f g (n - 1) = 1) (ho : (l.all fun x => !Nat.beq (pmf n f g ((n - 1) / x)) 1) = true) : Gen n g := by
 refine gen_of hn l hl hN (by rw [← pmf_eq n f g _ hf]; exact hg) fun x hx he => ?_
 have h := List.all_eq_true.1 ho x hx
 rw [pmf_eq n f g _ (Nat.lt_of_le_of_lt (Nat.div_le_self _ _) hf), he] at h
 cases h
theorem isP2 : IsP 2 := ⟨by decide, fun d h => by
 have := Nat.le_of_dvd (by decide) h
 have : d ≠ 0 := fun e => by subst e; have := Nat.eq_zero_of_zero_dvd h; omega
 omega⟩
theorem all_nil {Q : Nat → Prop} : ∀ x ∈ ([] : List Nat), Q x := fun _ h => by cases h
theorem all_cons {Q : Nat → Prop} {a : Nat} {l : List Nat} (h : Q a) (hl : ∀ x ∈ l, Q x) : ∀ x ∈ a :: l, Q x := fun x hx => by
 rcases List.mem_cons.1 hx with e | e
 ·rw [e]; exact h
 ·exact hl x e
theorem pr {n : Nat} (g f : Nat) (l : List Nat) (hl : ∀ x ∈ l, IsP x) (hn : 1 < n := by decide +kernel) (hN : prod l = n - 1 := by decide +kernel) (hf : n - 1 < 2 ^ f := by decide +kernel) (hg : pmf n f g (n - 1) = 1 := by decide +kernel) (ho : (l.all fun x => !Nat.beq (pmf n f g ((n - 1) / x)) 1) = true := by decide +kernel) : Gen n g := gen_by f l hn hl hN hf hg ho
theorem k_ {x : Nat} {l : List Nat} (h : IsP x) (t : ∀ y ∈ l, IsP y) : ∀ y ∈ x :: l, IsP y := all_cons h t
theorem pq1 : IsP 3 := (pr 2 2 [2] (k_ isP2 all_nil)).isP
theorem pq2 : IsP 17 := (pr 3 5 [2, 2, 2, 2] (k_ isP2 (k_ isP2 (k_ isP2 (k_ isP2 all_nil))))).isP
theorem pq3 : IsP 7 := (pr 3 3 [2, 3] (k_ isP2 (k_ pq1 all_nil))).isP
theorem pq4 : IsP 239 := (pr 7 8 [2, 7, 17] (k_ isP2 (k_ pq3 (k_ pq2 all_nil)))).isP
theorem pq5 : IsP 479 := (pr 13 9 [2, 239] (k_ isP2 (k_ pq4 all_nil))).isP
theorem pq6 : IsP 32573 := (pr 2 15 [2, 2, 17, 479] (k_ isP2 (k_ isP2 (k_ pq2 (k_ pq5 all_nil))))).isP
theorem pq7 : IsP 65147 := (pr 2 16 [2, 32573] (k_ isP2 (k_ pq6 all_nil))).isP
theorem pq8 : IsP 5 := (pr 2 3 [2, 2] (k_ isP2 (k_ isP2 all_nil))).isP
theorem pq9 : IsP 11 := (pr 2 4 [2, 5] (k_ isP2 (k_ pq8 all_nil))).isP
theorem pq10 : IsP 353 := (pr 3 9 [2, 2, 2, 2, 2, 11] (k_ isP2 (k_ isP2 (k_ isP2 (k_ isP2 (k_ isP2 (k_ pq9 all_nil))))))).isP
theorem pq11 : IsP 29 := (pr 2 5 [2, 2, 7] (k_ isP2 (k_ isP2 (k_ pq3 all_nil)))).isP
theorem pq12 : IsP 59 := (pr 2 6 [2, 29] (k_ isP2 (k_ pq11 all_nil))).isP
theorem pq13 : IsP 487 := (pr 3 9 [2, 3, 3, 3, 3, 3] (k_ isP2 (k_ pq1 (k_ pq1 (k_ pq1 (k_ pq1 (k_ pq1 all_nil))))))).isP
theorem pq14 : IsP 57467 := (pr 2 16 [2, 59, 487] (k_ isP2 (k_ pq12 (k_ pq13 all_nil)))).isP
theorem pq15 : IsP 13 := (pr 2 4 [2, 2, 3] (k_ isP2 (k_ isP2 (k_ pq1 all_nil)))).isP
theorem pq16 : IsP 131 := (pr 2 8 [2, 5, 13] (k_ isP2 (k_ pq8 (k_ pq15 all_nil)))).isP
theorem pq17 : IsP 132049 := (pr 26 18 [2, 2, 2, 2, 3, 3, 7, 131] (k_ isP2 (k_ isP2 (k_ isP2 (k_ isP2 (k_ pq1 (k_ pq1 (k_ pq3 (k_ pq16 all_nil))))))))).isP
theorem pq18 : IsP 43 := (pr 3 6 [2, 3, 7] (k_ isP2 (k_ pq1 (k_ pq3 all_nil)))).isP
theorem pq19 : IsP 23 := (pr 5 5 [2, 11] (k_ isP2 (k_ pq9 all_nil))).isP
theorem pq20 : IsP 3727 := (pr 3 12 [2, 3, 3, 3, 3, 23] (k_ isP2 (k_ pq1 (k_ pq1 (k_ pq1 (k_ pq1 (k_ pq19 all_nil))))))).isP
theorem pq21 : IsP 1923133 := (pr 2 21 [2, 2, 3, 43, 3727] (k_ isP2 (k_ isP2 (k_ pq1 (k_ pq18 (k_ pq20 all_nil)))))).isP
theorem pq22 : IsP 31 := (pr 3 5 [2, 3, 5] (k_ isP2 (k_ pq1 (k_ pq8 all_nil)))).isP
theorem pq23 : IsP 53 := (pr 2 6 [2, 2, 13] (k_ isP2 (k_ isP2 (k_ pq15 all_nil)))).isP
theorem pq24 : IsP 107 := (pr 2 7 [2, 53] (k_ isP2 (k_ pq23 all_nil))).isP
theorem pq25 : IsP 37 := (pr 2 6 [2, 2, 3, 3] (k_ isP2 (k_ isP2 (k_ pq1 (k_ pq1 all_nil))))).isP
theorem pq26 : IsP 223 := (pr 3 8 [2, 3, 37] (k_ isP2 (k_ pq1 (k_ pq25 all_nil)))).isP
theorem pq27 : IsP 173 := (pr 2 8 [2, 2, 43] (k_ isP2 (k_ isP2 (k_ pq18 all_nil)))).isP
theorem pq28 : IsP 4153 := (pr 5 13 [2, 2, 2, 3, 173] (k_ isP2 (k_ isP2 (k_ isP2 (k_ pq1 (k_ pq27 all_nil)))))).isP
theorem pq29 : IsP 41 := (pr 6 6 [2, 2, 2, 5] (k_ isP2 (k_ isP2 (k_ isP2 (k_ pq8 all_nil))))).isP
theorem pq30 : IsP 1723 := (pr 3 11 [2, 3, 7, 41] (k_ isP2 (k_ pq1 (k_ pq3 (k_ pq29 all_nil))))).isP
theorem pq31 : IsP 430751 := (pr 17 19 [2, 5, 5, 5, 1723] (k_ isP2 (k_ pq8 (k_ pq8 (k_ pq8 (k_ pq30 all_nil)))))).isP
theorem pq32 : IsP 31757755568855353 := (pr 10 55 [2, 2, 2, 3, 31, 107, 223, 4153, 430751] (k_ isP2 (k_ isP2 (k_ isP2 (k_ pq1 (k_ pq22 (k_ pq24 (k_ pq26 (k_ pq28 (k_ pq31 all_nil)))))))))).isP
theorem pq33 : IsP 19 := (pr 2 5 [2, 3, 3] (k_ isP2 (k_ pq1 (k_ pq1 all_nil)))).isP
theorem pq34 : IsP 83 := (pr 2 7 [2, 41] (k_ isP2 (k_ pq29 all_nil))).isP
theorem pq35 : IsP 9463 := (pr 3 14 [2, 3, 19, 83] (k_ isP2 (k_ pq1 (k_ pq33 (k_ pq34 all_nil))))).isP
theorem pq36 : IsP 37853 := (pr 2 16 [2, 2, 9463] (k_ isP2 (k_ isP2 (k_ pq35 all_nil)))).isP
theorem pq37 : IsP 75707 := (pr 2 17 [2, 37853] (k_ isP2 (k_ pq36 all_nil))).isP
theorem pq38 : IsP 47 := (pr 5 6 [2, 23] (k_ isP2 (k_ pq19 all_nil))).isP
theorem pq39 : IsP 127 := (pr 3 7 [2, 3, 3, 7] (k_ isP2 (k_ pq1 (k_ pq1 (k_ pq3 all_nil))))).isP
theorem pq40 : IsP 103 := (pr 5 7 [2, 3, 17] (k_ isP2 (k_ pq1 (k_ pq2 all_nil)))).isP
theorem pq41 : IsP 991 := (pr 6 10 [2, 3, 3, 5, 11] (k_ isP2 (k_ pq1 (k_ pq1 (k_ pq8 (k_ pq9 all_nil)))))).isP
theorem pq42 : IsP 8574133 := (pr 2 24 [2, 2, 3, 7, 103, 991] (k_ isP2 (k_ isP2 (k_ pq1 (k_ pq3 (k_ pq40 (k_ pq41 all_nil))))))).isP
theorem pq43 : IsP 1919519569386763 := (pr 2 51 [2, 3, 7, 19, 47, 47, 127, 8574133] (k_ isP2 (k_ pq1 (k_ pq3 (k_ pq33 (k_ pq38 (k_ pq38 (k_ pq39 (k_ pq42 all_nil))))))))).isP
theorem pq44 : IsP 2437 := (pr 2 12 [2, 2, 3, 7, 29] (k_ isP2 (k_ isP2 (k_ pq1 (k_ pq3 (k_ pq11 all_nil)))))).isP
theorem pq45 : IsP 97 := (pr 5 7 [2, 2, 2, 2, 2, 3] (k_ isP2 (k_ isP2 (k_ isP2 (k_ isP2 (k_ isP2 (k_ pq1 all_nil))))))).isP
theorem pq46 : IsP 419 := (pr 2 9 [2, 11, 19] (k_ isP2 (k_ pq9 (k_ pq33 all_nil)))).isP
theorem pq47 : IsP 569003 := (pr 2 20 [2, 7, 97, 419] (k_ isP2 (k_ pq3 (k_ pq45 (k_ pq46 all_nil))))).isP
theorem pq48 : IsP 2773320623 := (pr 5 32 [2, 2437, 569003] (k_ isP2 (k_ pq44 (k_ pq47 all_nil)))).isP
theorem pq49 : IsP 72106336199 := (pr 7 37 [2, 13, 2773320623] (k_ isP2 (k_ pq15 (k_ pq48 all_nil)))).isP
theorem pq50 : IsP 75445702479781427272750846543864801 := (pr 7 116 [2, 2, 2, 2, 2, 3, 3, 5, 5, 75707, 1919519569386763, 72106336199] (k_ isP2 (k_ isP2 (k_ isP2 (k_ isP2 (k_ isP2 (k_ pq1 (k_ pq1 (k_ pq8 (k_ pq8 (k_ pq37 (k_ pq43 (k_ pq49 all_nil))))))))))))).isP
theorem pq51 : IsP 74058212732561358302231226437062788676166966415465897661863160754340907 := (pr 2 236 [2, 3, 353, 57467, 132049, 1923133, 31757755568855353, 75445702479781427272750846543864801] (k_ isP2 (k_ pq1 (k_ pq10 (k_ pq14 (k_ pq17 (k_ pq21 (k_ pq32 (k_ pq50 all_nil))))))))).isP
theorem pq52 : IsP 34123 := (pr 2 16 [2, 3, 11, 11, 47] (k_ isP2 (k_ pq1 (k_ pq9 (k_ pq9 (k_ pq38 all_nil)))))).isP
theorem pq53 : IsP 409477 := (pr 2 19 [2, 2, 3, 34123] (k_ isP2 (k_ isP2 (k_ pq1 (k_ pq52 all_nil))))).isP
theorem pq54 : IsP 14741173 := (pr 2 24 [2, 2, 3, 3, 409477] (k_ isP2 (k_ isP2 (k_ pq1 (k_ pq1 (k_ pq53 all_nil)))))).isP
theorem pq55 : IsP 58964693 := (pr 2 26 [2, 2, 14741173] (k_ isP2 (k_ isP2 (k_ pq54 all_nil)))).isP
theorem pq56 : IsP 30703 := (pr 3 15 [2, 3, 7, 17, 43] (k_ isP2 (k_ pq1 (k_ pq3 (k_ pq2 (k_ pq18 all_nil)))))).isP
theorem pq57 : IsP 79 := (pr 3 7 [2, 3, 13] (k_ isP2 (k_ pq1 (k_ pq15 all_nil)))).isP
theorem pq58 : IsP 41081 := (pr 3 16 [2, 2, 2, 5, 13, 79] (k_ isP2 (k_ isP2 (k_ isP2 (k_ pq8 (k_ pq15 (k_ pq57 all_nil))))))).isP
theorem pq59 : IsP 82163 := (pr 2 17 [2, 41081] (k_ isP2 (k_ pq58 all_nil))).isP
theorem pq60 : IsP 17231 := (pr 13 15 [2, 5, 1723] (k_ isP2 (k_ pq8 (k_ pq30 all_nil)))).isP
theorem pq61 : IsP 137849 := (pr 3 18 [2, 2, 2, 17231] (k_ isP2 (k_ isP2 (k_ isP2 (k_ pq60 all_nil))))).isP
theorem pq62 : IsP 67 := (pr 2 7 [2, 3, 11] (k_ isP2 (k_ pq1 (k_ pq9 all_nil)))).isP
theorem pq63 : IsP 22111 := (pr 6 15 [2, 3, 5, 11, 67] (k_ isP2 (k_ pq1 (k_ pq8 (k_ pq9 (k_ pq62 all_nil)))))).isP
theorem pq64 : IsP 132667 := (pr 5 18 [2, 3, 22111] (k_ isP2 (k_ pq1 (k_ pq63 all_nil)))).isP
theorem pq65 : IsP 3044861653679985063343 := (pr 5 72 [2, 3, 11, 30703, 82163, 137849, 132667] (k_ isP2 (k_ pq1 (k_ pq9 (k_ pq56 (k_ pq59 (k_ pq61 (k_ pq64 all_nil)))))))).isP
theorem pq66 : IsP 198211423230930754013084525763697 := (pr 5 108 [2, 2, 2, 2, 3, 23, 58964693, 3044861653679985063343] (k_ isP2 (k_ isP2 (k_ isP2 (k_ isP2 (k_ pq1 (k_ pq19 (k_ pq55 (k_ pq65 all_nil))))))))).isP
theorem pq67 : IsP 269 := (pr 2 9 [2, 2, 67] (k_ isP2 (k_ isP2 (k_ pq62 all_nil)))).isP
theorem pq68 : IsP 73 := (pr 5 7 [2, 2, 2, 3, 3] (k_ isP2 (k_ isP2 (k_ isP2 (k_ pq1 (k_ pq1 all_nil)))))).isP
theorem pq69 : IsP 307 := (pr 5 9 [2, 3, 3, 17] (k_ isP2 (k_ pq1 (k_ pq1 (k_ pq2 all_nil))))).isP
theorem pq70 : IsP 113 := (pr 3 7 [2, 2, 2, 2, 7] (k_ isP2 (k_ isP2 (k_ isP2 (k_ isP2 (k_ pq3 all_nil)))))).isP
theorem pq71 : IsP 2939 := (pr 2 12 [2, 13, 113] (k_ isP2 (k_ pq15 (k_ pq70 all_nil)))).isP
theorem pq72 : IsP 5879 := (pr 11 13 [2, 2939] (k_ isP2 (k_ pq71 all_nil))).isP
theorem pq73 : IsP 292386187 := (pr 2 29 [2, 3, 3, 3, 3, 307, 5879] (k_ isP2 (k_ pq1 (k_ pq1 (k_ pq1 (k_ pq1 (k_ pq69 (k_ pq72 all_nil)))))))).isP
theorem pq74 : IsP 213441916511 := (pr 13 38 [2, 5, 73, 292386187] (k_ isP2 (k_ pq8 (k_ pq68 (k_ pq73 all_nil))))).isP
theorem pq75 : IsP 1361 := (pr 3 11 [2, 2, 2, 2, 5, 17] (k_ isP2 (k_ isP2 (k_ isP2 (k_ isP2 (k_ pq8 (k_ pq2 all_nil))))))).isP
theorem pq76 : IsP 2851 := (pr 2 12 [2, 3, 5, 5, 19] (k_ isP2 (k_ pq1 (k_ pq8 (k_ pq8 (k_ pq33 all_nil)))))).isP
theorem pq77 : IsP 2551 := (pr 6 12 [2, 3, 5, 5, 17] (k_ isP2 (k_ pq1 (k_ pq8 (k_ pq8 (k_ pq2 all_nil)))))).isP
theorem pq78 : IsP 1224481 := (pr 13 21 [2, 2, 2, 2, 2, 3, 5, 2551] (k_ isP2 (k_ isP2 (k_ isP2 (k_ isP2 (k_ isP2 (k_ pq1 (k_ pq8 (k_ pq77 all_nil))))))))).isP
theorem pq79 : IsP 3797 := (pr 2 12 [2, 2, 13, 73] (k_ isP2 (k_ isP2 (k_ pq15 (k_ pq68 all_nil))))).isP
theorem pq80 : IsP 531581 := (pr 2 20 [2, 2, 5, 7, 3797] (k_ isP2 (k_ isP2 (k_ pq8 (k_ pq3 (k_ pq79 all_nil)))))).isP
theorem pq81 : IsP 1257559732178653 := (pr 2 51 [2, 2, 3, 7, 23, 1224481, 531581] (k_ isP2 (k_ isP2 (k_ pq1 (k_ pq3 (k_ pq19 (k_ pq78 (k_ pq80 all_nil)))))))).isP
theorem pq82 : IsP 4434155615661930479 := (pr 17 62 [2, 41, 43, 1257559732178653] (k_ isP2 (k_ pq29 (k_ pq18 (k_ pq81 all_nil))))).isP
theorem pq83 : IsP 172054593956031949258510691 := (pr 2 88 [2, 5, 1361, 2851, 4434155615661930479] (k_ isP2 (k_ pq8 (k_ pq75 (k_ pq76 (k_ pq82 all_nil)))))).isP
theorem pq84 : IsP 19757330305831588566944191468367130476339 := (pr 2 134 [2, 269, 213441916511, 172054593956031949258510691] (k_ isP2 (k_ pq67 (k_ pq74 (k_ pq83 all_nil))))).isP
theorem pq85 : IsP 276602624281642239937218680557139826668747 := (pr 2 138 [2, 7, 19757330305831588566944191468367130476339] (k_ isP2 (k_ pq3 (k_ pq84 all_nil)))).isP
theorem genP : Gen 57896044618658097711785492504343953926634992332820282019728792003956564819949 2 := pr 2 255 [2, 2, 3, 65147, 74058212732561358302231226437062788676166966415465897661863160754340907] (k_ isP2 (k_ isP2 (k_ pq1 (k_ pq7 (k_ pq51 all_nil)))))
theorem isL : IsP 7237005577332262213973186563042994240857116359379907606001950938285454250989 := (pr 2 253 [2, 2, 3, 11, 198211423230930754013084525763697, 276602624281642239937218680557139826668747] (k_ isP2 (k_ isP2 (k_ pq1 (k_ pq9 (k_ pq66 (k_ pq85 all_nil))))))).isP
end Go.Proofs.YtffimigpbcilbaaGreatDoor.Mon
