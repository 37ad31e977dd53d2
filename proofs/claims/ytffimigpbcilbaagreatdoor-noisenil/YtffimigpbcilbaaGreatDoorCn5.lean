/- Part 5 of the walks and facts. -/
import Derived.Test.YtffimigpbcilbaaGreatDoorCnDef
import Derived.Test.YtffimigpbcilbaaGreatDoorCn4
import Derived.Laws.Bits64b
import Derived.Laws.Externs
import Derived.Laws.StructEq
import Derived.Lib.Mul64
set_option maxHeartbeats 16000000
set_option maxRecDepth 100000
namespace Go.Proofs.YtffimigpbcilbaaGreatDoor.Mon
open Go.RowKit
theorem bt_bd (s : Yb) (i : Nat) : 0 ≤ bt s i ∧ bt s i < 256 := by
 unfold bt
 have := (s.data[i]?.getD 0).toNat_lt
 omega
theorem bt_at (s : Yb) (i : Nat) (h : i < s.size) : ((s[i]'h).toNat : Int) = bt s i := by
 unfold bt
 have h' : i < s.data.size := h
 rw [Array.getElem?_eq_getElem h']
 rfl
def sw (s : Yb) (j : Nat) : Nat → Int
 | 0 => 0
 | r + 1 => sw s j r + bt s (8 * j + r) * 256 ^ r
theorem sw_bd (s : Yb) (j r : Nat) : 0 ≤ sw s j r ∧ sw s j r < 256 ^ r := by
 induction r with
 | zero => simp [sw]
 | succ r ih =>
  have hb := bt_bd s (8 * j + r)
  have hp : (0 : Int) < 256 ^ r := Int.pow_pos (by decide)
  have h1 : bt s (8 * j + r) * 256 ^ r ≤ 255 * 256 ^ r := Int.mul_le_mul_of_nonneg_right (by omega) (by omega)
  have h2 : 0 ≤ bt s (8 * j + r) * 256 ^ r := Int.mul_nonneg hb.1 (by omega)
  have h3 : (256 : Int) ^ (r + 1) = 256 * 256 ^ r := by rw [Int.pow_succ, Int.mul_comm]
  simp only [sw]
  omega
theorem swor0 (s : Yb) (j i : Nat) (hi : i = 8 * j + 0) : bits BinOp.or IntKind.u64 0 (bt s i) = sw s j 1 := by
 have hb := bt_bd s i
 rw [or_join 8 256 (by decide) ⟨by decide, by decide⟩ ⟨hb.1, by omega⟩ (by decide) (by omega)]
 simp [sw, hi]
theorem swor1 (s : Yb) (j i : Nat) (hi : i = 8 * j + 1) : bits BinOp.or IntKind.u64 (sw s j 1) (bt s i * 256) = sw s j 2 := by
 have hb := bt_bd s i
 have hs := sw_bd s j 1
 have e : (256 : Int) ^ 1 = 256 := by decide
 rw [e] at hs
 rw [or_join' 8 256 (by decide) ⟨hs.1, by omega⟩ ⟨by omega, by omega⟩ (by omega) (by omega)]
 show _ = sw s j 1 + bt s (8 * j + 1) * 256 ^ 1
 rw [e, hi]
theorem swor2 (s : Yb) (j i : Nat) (hi : i = 8 * j + 2) : bits BinOp.or IntKind.u64 (sw s j 2) (bt s i * 65536) = sw s j 3 := by
 have hb := bt_bd s i
 have hs := sw_bd s j 2
 have e : (256 : Int) ^ 2 = 65536 := by decide
 rw [e] at hs
 rw [or_join' 16 65536 (by decide) ⟨hs.1, by omega⟩ ⟨by omega, by omega⟩ (by omega) (by omega)]
 show _ = sw s j 2 + bt s (8 * j + 2) * 256 ^ 2
 rw [e, hi]
theorem swor3 (s : Yb) (j i : Nat) (hi : i = 8 * j + 3) : bits BinOp.or IntKind.u64 (sw s j 3) (bt s i * 16777216) = sw s j 4 := by
 have hb := bt_bd s i
 have hs := sw_bd s j 3
 have e : (256 : Int) ^ 3 = 16777216 := by decide
 rw [e] at hs
 rw [or_join' 24 16777216 (by decide) ⟨hs.1, by omega⟩ ⟨by omega, by omega⟩ (by omega) (by omega)]
 show _ = sw s j 3 + bt s (8 * j + 3) * 256 ^ 3
 rw [e, hi]
theorem swor4 (s : Yb) (j i : Nat) (hi : i = 8 * j + 4) : bits BinOp.or IntKind.u64 (sw s j 4) (bt s i * 4294967296) = sw s j 5 := by
 have hb := bt_bd s i
 have hs := sw_bd s j 4
 have e : (256 : Int) ^ 4 = 4294967296 := by decide
 rw [e] at hs
 rw [or_join' 32 4294967296 (by decide) ⟨hs.1, by omega⟩ ⟨by omega, by omega⟩ (by omega) (by omega)]
 show _ = sw s j 4 + bt s (8 * j + 4) * 256 ^ 4
 rw [e, hi]
theorem swor5 (s : Yb) (j i : Nat) (hi : i = 8 * j + 5) : bits BinOp.or IntKind.u64 (sw s j 5) (bt s i * 1099511627776) = sw s j 6 := by
 have hb := bt_bd s i
 have hs := sw_bd s j 5
 have e : (256 : Int) ^ 5 = 1099511627776 := by decide
 rw [e] at hs
 rw [or_join' 40 1099511627776 (by decide) ⟨hs.1, by omega⟩ ⟨by omega, by omega⟩ (by omega) (by omega)]
 show _ = sw s j 5 + bt s (8 * j + 5) * 256 ^ 5
 rw [e, hi]
theorem swor6 (s : Yb) (j i : Nat) (hi : i = 8 * j + 6) : bits BinOp.or IntKind.u64 (sw s j 6) (bt s i * 281474976710656) = sw s j 7 := by
 have hb := bt_bd s i
 have hs := sw_bd s j 6
 have e : (256 : Int) ^ 6 = 281474976710656 := by decide
 rw [e] at hs
 rw [or_join' 48 281474976710656 (by decide) ⟨hs.1, by omega⟩ ⟨by omega, by omega⟩ (by omega) (by omega)]
 show _ = sw s j 6 + bt s (8 * j + 6) * 256 ^ 6
 rw [e, hi]
theorem swor7 (s : Yb) (j i : Nat) (hi : i = 8 * j + 7) : bits BinOp.or IntKind.u64 (sw s j 7) (bt s i * 72057594037927936) = sw s j 8 := by
 have hb := bt_bd s i
 have hs := sw_bd s j 7
 have e : (256 : Int) ^ 7 = 72057594037927936 := by decide
 rw [e] at hs
 rw [or_join' 56 72057594037927936 (by decide) ⟨hs.1, by omega⟩ ⟨by omega, by omega⟩ (by omega) (by omega)]
 show _ = sw s j 7 + bt s (8 * j + 7) * 256 ^ 7
 rw [e, hi]
structure WW (w W : World) (a b c d : Int) : Prop where
 old : Below w.heap.size w W
 size : w.heap.size + 1 < W.heap.size
 free : ∀ o, W.frozen? ⟨w.heap.size + 1, o, none⟩ = false
 free0 : ∀ o, W.frozen? ⟨w.heap.size, o, none⟩ = false
 c0 : W.cell? ⟨w.heap.size + 1, 0, none⟩ = some (.int .u64 a)
 c1 : W.cell? ⟨w.heap.size + 1, 1, none⟩ = some (.int .u64 b)
 c2 : W.cell? ⟨w.heap.size + 1, 2, none⟩ = some (.int .u64 c)
 c3 : W.cell? ⟨w.heap.size + 1, 3, none⟩ = some (.int .u64 d)
 r0 : W.cell? ⟨w.heap.size, 0, none⟩ = some (.int .u64 0)
 r1 : W.cell? ⟨w.heap.size, 1, none⟩ = some (.int .u64 0)
 r2 : W.cell? ⟨w.heap.size, 2, none⟩ = some (.int .u64 0)
 r3 : W.cell? ⟨w.heap.size, 3, none⟩ = some (.int .u64 0)
theorem WW.start (w : World) : WW w ((w.alloc (.cells #[.int .u64 0, .int .u64 0, .int .u64 0, .int .u64 0] 144)).alloc (.cells #[.int .u64 0, .int .u64 0, .int .u64 0, .int .u64 0] 144)) 0 0 0 0 := by
 refine ⟨((Below.refl _ _).alloc (Nat.le_refl _) _).alloc (by simp) _, by simp, ?_, ?_, ?_, ?_, ?_, ?_, ?_, ?_, ?_, ?_⟩ <;> simp [go_sem]
theorem WW.set0 {w W : World} {a b c d : Int} (h : WW w W a b c d) (v : Int) : WW w (W.setCell ⟨w.heap.size + 1, 0, none⟩ (.int .u64 v)).drew v b c d := by
 obtain ⟨h1, h2, h3, h4, h5, h6, h7, h8, h9, h10, h11, h12⟩ := h
 refine ⟨(h1.setCell (p := ⟨w.heap.size + 1, 0, none⟩) (by simp) _).drew, ?_, ?_, ?_, ?_, ?_, ?_, ?_, ?_, ?_, ?_, ?_⟩ <;> simp [go_sem, h2, h3, h4, h5, h6, h7, h8, h9, h10, h11, h12]
theorem WW.set1 {w W : World} {a b c d : Int} (h : WW w W a b c d) (v : Int) : WW w (W.setCell ⟨w.heap.size + 1, 1, none⟩ (.int .u64 v)).drew a v c d := by
 obtain ⟨h1, h2, h3, h4, h5, h6, h7, h8, h9, h10, h11, h12⟩ := h
 refine ⟨(h1.setCell (p := ⟨w.heap.size + 1, 1, none⟩) (by simp) _).drew, ?_, ?_, ?_, ?_, ?_, ?_, ?_, ?_, ?_, ?_, ?_⟩ <;> simp [go_sem, h2, h3, h4, h5, h6, h7, h8, h9, h10, h11, h12]
theorem WW.set2 {w W : World} {a b c d : Int} (h : WW w W a b c d) (v : Int) : WW w (W.setCell ⟨w.heap.size + 1, 2, none⟩ (.int .u64 v)).drew a b v d := by
 obtain ⟨h1, h2, h3, h4, h5, h6, h7, h8, h9, h10, h11, h12⟩ := h
 refine ⟨(h1.setCell (p := ⟨w.heap.size + 1, 2, none⟩) (by simp) _).drew, ?_, ?_, ?_, ?_, ?_, ?_, ?_, ?_, ?_, ?_, ?_⟩ <;> simp [go_sem, h2, h3, h4, h5, h6, h7, h8, h9, h10, h11, h12]
theorem WW.set3 {w W : World} {a b c d : Int} (h : WW w W a b c d) (v : Int) : WW w (W.setCell ⟨w.heap.size + 1, 3, none⟩ (.int .u64 v)).drew a b c v := by
 obtain ⟨h1, h2, h3, h4, h5, h6, h7, h8, h9, h10, h11, h12⟩ := h
 refine ⟨(h1.setCell (p := ⟨w.heap.size + 1, 3, none⟩) (by simp) _).drew, ?_, ?_, ?_, ?_, ?_, ?_, ?_, ?_, ?_, ?_, ?_⟩ <;> simp [go_sem, h2, h3, h4, h5, h6, h7, h8, h9, h10, h11, h12]
def swk (s : Yb) (k j : Nat) : Int := sw s j (min (k - 8 * j) 8)
theorem wordsOf_any (s : Yb) (w : World) (hs : s.size = 32) : Cs 118 #[.string s] w (.agg #[.int .u64 (sw s 0 8), .int .u64 (sw s 1 8), .int .u64 (sw s 2 8), .int .u64 (sw s 3 8)]) := by
 go_enter Tryz.func118, Tryz.ntmps118
 go_wp2
 have H0 := WW.start w
 generalize (w.alloc (.cells #[.int .u64 0, .int .u64 0, .int .u64 0, .int .u64 0] 144)).alloc (.cells #[.int .u64 0, .int .u64 0, .int .u64 0, .int .u64 0] 144) = W at H0 ⊢
 go_loopw [5] (fun c wr => ∃ k : Nat, k ≤ 32 ∧ c = .int .i64 k ∧ WW w wr (swk s k 0) (swk s k 1) (swk s k 2) (swk s k 3)) (fun c _ => 32 - (intOf c).toNat)
 case atStart => exact ⟨0, by omega, rfl, H0⟩
 case round =>
  clear H0
  obtain ⟨k, hk, rfl, H⟩ := hrel
  by_cases hlt : k < 32
  ·have hc : k = 0 ∨ k = 1 ∨ k = 2 ∨ k = 3 ∨ k = 4 ∨ k = 5 ∨ k = 6 ∨ k = 7 ∨ k = 8 ∨ k = 9 ∨ k = 10 ∨ k = 11 ∨ k = 12 ∨ k = 13 ∨ k = 14 ∨ k = 15 ∨ k = 16 ∨ k = 17 ∨ k = 18 ∨ k = 19 ∨ k = 20 ∨ k = 21 ∨ k = 22 ∨ k = 23 ∨ k = 24 ∨ k = 25 ∨ k = 26 ∨ k = 27 ∨ k = 28 ∨ k = 29 ∨ k = 30 ∨ k = 31 := by omega
   clear hlt hk
   rcases hc with rfl | rfl | rfl | rfl | rfl | rfl | rfl | rfl | rfl | rfl | rfl | rfl | rfl | rfl | rfl | rfl | rfl | rfl | rfl | rfl | rfl | rfl | rfl | rfl | rfl | rfl | rfl | rfl | rfl | rfl | rfl | rfl
   ·replace H : WW w wr (sw s 0 0) (sw s 1 0) (sw s 2 0) (sw s 3 0) := H
    have hb := bt_at s 0 (by omega)
    obtain ⟨p, q⟩ := bt_bd s 0
    have e := swor0 s 0 0 (by decide)
    have c := H.c0
    have f := H.free
    rw [show sw s 0 0 = 0 from rfl] at c
    replace H := hide (H.set0 (sw s 0 1))
    go_wp2
    go_region
    go_wp2
    go_roundw
    case rel => exact ⟨1, by omega, rfl, H.out⟩
    case measure => simp [intOf]
   ·replace H : WW w wr (sw s 0 1) (sw s 1 0) (sw s 2 0) (sw s 3 0) := H
    have hb := bt_at s 1 (by omega)
    obtain ⟨p, q⟩ := bt_bd s 1
    have e := swor1 s 0 1 (by decide)
    have c := H.c0
    have f := H.free
    skip
    replace H := hide (H.set0 (sw s 0 2))
    go_wp2
    go_region
    go_wp2
    go_roundw
    case rel => exact ⟨2, by omega, rfl, H.out⟩
    case measure => simp [intOf]
   ·replace H : WW w wr (sw s 0 2) (sw s 1 0) (sw s 2 0) (sw s 3 0) := H
    have hb := bt_at s 2 (by omega)
    obtain ⟨p, q⟩ := bt_bd s 2
    have e := swor2 s 0 2 (by decide)
    have c := H.c0
    have f := H.free
    skip
    replace H := hide (H.set0 (sw s 0 3))
    go_wp2
    go_region
    go_wp2
    go_roundw
    case rel => exact ⟨3, by omega, rfl, H.out⟩
    case measure => simp [intOf]
   ·replace H : WW w wr (sw s 0 3) (sw s 1 0) (sw s 2 0) (sw s 3 0) := H
    have hb := bt_at s 3 (by omega)
    obtain ⟨p, q⟩ := bt_bd s 3
    have e := swor3 s 0 3 (by decide)
    have c := H.c0
    have f := H.free
    skip
    replace H := hide (H.set0 (sw s 0 4))
    go_wp2
    go_region
    go_wp2
    go_roundw
    case rel => exact ⟨4, by omega, rfl, H.out⟩
    case measure => simp [intOf]
   ·replace H : WW w wr (sw s 0 4) (sw s 1 0) (sw s 2 0) (sw s 3 0) := H
    have hb := bt_at s 4 (by omega)
    obtain ⟨p, q⟩ := bt_bd s 4
    have e := swor4 s 0 4 (by decide)
    have c := H.c0
    have f := H.free
    skip
    replace H := hide (H.set0 (sw s 0 5))
    go_wp2
    go_region
    go_wp2
    go_roundw
    case rel => exact ⟨5, by omega, rfl, H.out⟩
    case measure => simp [intOf]
   ·replace H : WW w wr (sw s 0 5) (sw s 1 0) (sw s 2 0) (sw s 3 0) := H
    have hb := bt_at s 5 (by omega)
    obtain ⟨p, q⟩ := bt_bd s 5
    have e := swor5 s 0 5 (by decide)
    have c := H.c0
    have f := H.free
    skip
    replace H := hide (H.set0 (sw s 0 6))
    go_wp2
    go_region
    go_wp2
    go_roundw
    case rel => exact ⟨6, by omega, rfl, H.out⟩
    case measure => simp [intOf]
   ·replace H : WW w wr (sw s 0 6) (sw s 1 0) (sw s 2 0) (sw s 3 0) := H
    have hb := bt_at s 6 (by omega)
    obtain ⟨p, q⟩ := bt_bd s 6
    have e := swor6 s 0 6 (by decide)
    have c := H.c0
    have f := H.free
    skip
    replace H := hide (H.set0 (sw s 0 7))
    go_wp2
    go_region
    go_wp2
    go_roundw
    case rel => exact ⟨7, by omega, rfl, H.out⟩
    case measure => simp [intOf]
   ·replace H : WW w wr (sw s 0 7) (sw s 1 0) (sw s 2 0) (sw s 3 0) := H
    have hb := bt_at s 7 (by omega)
    obtain ⟨p, q⟩ := bt_bd s 7
    have e := swor7 s 0 7 (by decide)
    have c := H.c0
    have f := H.free
    skip
    replace H := hide (H.set0 (sw s 0 8))
    go_wp2
    go_region
    go_wp2
    go_roundw
    case rel => exact ⟨8, by omega, rfl, H.out⟩
    case measure => simp [intOf]
   ·replace H : WW w wr (sw s 0 8) (sw s 1 0) (sw s 2 0) (sw s 3 0) := H
    have hb := bt_at s 8 (by omega)
    obtain ⟨p, q⟩ := bt_bd s 8
    have e := swor0 s 1 8 (by decide)
    have c := H.c1
    have f := H.free
    rw [show sw s 1 0 = 0 from rfl] at c
    replace H := hide (H.set1 (sw s 1 1))
    go_wp2
    go_region
    go_wp2
    go_roundw
    case rel => exact ⟨9, by omega, rfl, H.out⟩
    case measure => simp [intOf]
   ·replace H : WW w wr (sw s 0 8) (sw s 1 1) (sw s 2 0) (sw s 3 0) := H
    have hb := bt_at s 9 (by omega)
    obtain ⟨p, q⟩ := bt_bd s 9
    have e := swor1 s 1 9 (by decide)
    have c := H.c1
    have f := H.free
    skip
    replace H := hide (H.set1 (sw s 1 2))
    go_wp2
    go_region
    go_wp2
    go_roundw
    case rel => exact ⟨10, by omega, rfl, H.out⟩
    case measure => simp [intOf]
   ·replace H : WW w wr (sw s 0 8) (sw s 1 2) (sw s 2 0) (sw s 3 0) := H
    have hb := bt_at s 10 (by omega)
    obtain ⟨p, q⟩ := bt_bd s 10
    have e := swor2 s 1 10 (by decide)
    have c := H.c1
    have f := H.free
    skip
    replace H := hide (H.set1 (sw s 1 3))
    go_wp2
    go_region
    go_wp2
    go_roundw
    case rel => exact ⟨11, by omega, rfl, H.out⟩
    case measure => simp [intOf]
   ·replace H : WW w wr (sw s 0 8) (sw s 1 3) (sw s 2 0) (sw s 3 0) := H
    have hb := bt_at s 11 (by omega)
    obtain ⟨p, q⟩ := bt_bd s 11
    have e := swor3 s 1 11 (by decide)
    have c := H.c1
    have f := H.free
    skip
    replace H := hide (H.set1 (sw s 1 4))
    go_wp2
    go_region
    go_wp2
    go_roundw
    case rel => exact ⟨12, by omega, rfl, H.out⟩
    case measure => simp [intOf]
   ·replace H : WW w wr (sw s 0 8) (sw s 1 4) (sw s 2 0) (sw s 3 0) := H
    have hb := bt_at s 12 (by omega)
    obtain ⟨p, q⟩ := bt_bd s 12
    have e := swor4 s 1 12 (by decide)
    have c := H.c1
    have f := H.free
    skip
    replace H := hide (H.set1 (sw s 1 5))
    go_wp2
    go_region
    go_wp2
    go_roundw
    case rel => exact ⟨13, by omega, rfl, H.out⟩
    case measure => simp [intOf]
   ·replace H : WW w wr (sw s 0 8) (sw s 1 5) (sw s 2 0) (sw s 3 0) := H
    have hb := bt_at s 13 (by omega)
    obtain ⟨p, q⟩ := bt_bd s 13
    have e := swor5 s 1 13 (by decide)
    have c := H.c1
    have f := H.free
    skip
    replace H := hide (H.set1 (sw s 1 6))
    go_wp2
    go_region
    go_wp2
    go_roundw
    case rel => exact ⟨14, by omega, rfl, H.out⟩
    case measure => simp [intOf]
   ·replace H : WW w wr (sw s 0 8) (sw s 1 6) (sw s 2 0) (sw s 3 0) := H
    have hb := bt_at s 14 (by omega)
    obtain ⟨p, q⟩ := bt_bd s 14
    have e := swor6 s 1 14 (by decide)
    have c := H.c1
    have f := H.free
    skip
    replace H := hide (H.set1 (sw s 1 7))
    go_wp2
    go_region
    go_wp2
    go_roundw
    case rel => exact ⟨15, by omega, rfl, H.out⟩
    case measure => simp [intOf]
   ·replace H : WW w wr (sw s 0 8) (sw s 1 7) (sw s 2 0) (sw s 3 0) := H
    have hb := bt_at s 15 (by omega)
    obtain ⟨p, q⟩ := bt_bd s 15
    have e := swor7 s 1 15 (by decide)
    have c := H.c1
    have f := H.free
    skip
    replace H := hide (H.set1 (sw s 1 8))
    go_wp2
    go_region
    go_wp2
    go_roundw
    case rel => exact ⟨16, by omega, rfl, H.out⟩
    case measure => simp [intOf]
   ·replace H : WW w wr (sw s 0 8) (sw s 1 8) (sw s 2 0) (sw s 3 0) := H
    have hb := bt_at s 16 (by omega)
    obtain ⟨p, q⟩ := bt_bd s 16
    have e := swor0 s 2 16 (by decide)
    have c := H.c2
    have f := H.free
    rw [show sw s 2 0 = 0 from rfl] at c
    replace H := hide (H.set2 (sw s 2 1))
    go_wp2
    go_region
    go_wp2
    go_roundw
    case rel => exact ⟨17, by omega, rfl, H.out⟩
    case measure => simp [intOf]
   ·replace H : WW w wr (sw s 0 8) (sw s 1 8) (sw s 2 1) (sw s 3 0) := H
    have hb := bt_at s 17 (by omega)
    obtain ⟨p, q⟩ := bt_bd s 17
    have e := swor1 s 2 17 (by decide)
    have c := H.c2
    have f := H.free
    skip
    replace H := hide (H.set2 (sw s 2 2))
    go_wp2
    go_region
    go_wp2
    go_roundw
    case rel => exact ⟨18, by omega, rfl, H.out⟩
    case measure => simp [intOf]
   ·replace H : WW w wr (sw s 0 8) (sw s 1 8) (sw s 2 2) (sw s 3 0) := H
    have hb := bt_at s 18 (by omega)
    obtain ⟨p, q⟩ := bt_bd s 18
    have e := swor2 s 2 18 (by decide)
    have c := H.c2
    have f := H.free
    skip
    replace H := hide (H.set2 (sw s 2 3))
    go_wp2
    go_region
    go_wp2
    go_roundw
    case rel => exact ⟨19, by omega, rfl, H.out⟩
    case measure => simp [intOf]
   ·replace H : WW w wr (sw s 0 8) (sw s 1 8) (sw s 2 3) (sw s 3 0) := H
    have hb := bt_at s 19 (by omega)
    obtain ⟨p, q⟩ := bt_bd s 19
    have e := swor3 s 2 19 (by decide)
    have c := H.c2
    have f := H.free
    skip
    replace H := hide (H.set2 (sw s 2 4))
    go_wp2
    go_region
    go_wp2
    go_roundw
    case rel => exact ⟨20, by omega, rfl, H.out⟩
    case measure => simp [intOf]
   ·replace H : WW w wr (sw s 0 8) (sw s 1 8) (sw s 2 4) (sw s 3 0) := H
    have hb := bt_at s 20 (by omega)
    obtain ⟨p, q⟩ := bt_bd s 20
    have e := swor4 s 2 20 (by decide)
    have c := H.c2
    have f := H.free
    skip
    replace H := hide (H.set2 (sw s 2 5))
    go_wp2
    go_region
    go_wp2
    go_roundw
    case rel => exact ⟨21, by omega, rfl, H.out⟩
    case measure => simp [intOf]
   ·replace H : WW w wr (sw s 0 8) (sw s 1 8) (sw s 2 5) (sw s 3 0) := H
    have hb := bt_at s 21 (by omega)
    obtain ⟨p, q⟩ := bt_bd s 21
    have e := swor5 s 2 21 (by decide)
    have c := H.c2
    have f := H.free
    skip
    replace H := hide (H.set2 (sw s 2 6))
    go_wp2
    go_region
    go_wp2
    go_roundw
    case rel => exact ⟨22, by omega, rfl, H.out⟩
    case measure => simp [intOf]
   ·replace H : WW w wr (sw s 0 8) (sw s 1 8) (sw s 2 6) (sw s 3 0) := H
    have hb := bt_at s 22 (by omega)
    obtain ⟨p, q⟩ := bt_bd s 22
    have e := swor6 s 2 22 (by decide)
    have c := H.c2
    have f := H.free
    skip
    replace H := hide (H.set2 (sw s 2 7))
    go_wp2
    go_region
    go_wp2
    go_roundw
    case rel => exact ⟨23, by omega, rfl, H.out⟩
    case measure => simp [intOf]
   ·replace H : WW w wr (sw s 0 8) (sw s 1 8) (sw s 2 7) (sw s 3 0) := H
    have hb := bt_at s 23 (by omega)
    obtain ⟨p, q⟩ := bt_bd s 23
    have e := swor7 s 2 23 (by decide)
    have c := H.c2
    have f := H.free
    skip
    replace H := hide (H.set2 (sw s 2 8))
    go_wp2
    go_region
    go_wp2
    go_roundw
    case rel => exact ⟨24, by omega, rfl, H.out⟩
    case measure => simp [intOf]
   ·replace H : WW w wr (sw s 0 8) (sw s 1 8) (sw s 2 8) (sw s 3 0) := H
    have hb := bt_at s 24 (by omega)
    obtain ⟨p, q⟩ := bt_bd s 24
    have e := swor0 s 3 24 (by decide)
    have c := H.c3
    have f := H.free
    rw [show sw s 3 0 = 0 from rfl] at c
    replace H := hide (H.set3 (sw s 3 1))
    go_wp2
    go_region
    go_wp2
    go_roundw
    case rel => exact ⟨25, by omega, rfl, H.out⟩
    case measure => simp [intOf]
   ·replace H : WW w wr (sw s 0 8) (sw s 1 8) (sw s 2 8) (sw s 3 1) := H
    have hb := bt_at s 25 (by omega)
    obtain ⟨p, q⟩ := bt_bd s 25
    have e := swor1 s 3 25 (by decide)
    have c := H.c3
    have f := H.free
    skip
    replace H := hide (H.set3 (sw s 3 2))
    go_wp2
    go_region
    go_wp2
    go_roundw
    case rel => exact ⟨26, by omega, rfl, H.out⟩
    case measure => simp [intOf]
   ·replace H : WW w wr (sw s 0 8) (sw s 1 8) (sw s 2 8) (sw s 3 2) := H
    have hb := bt_at s 26 (by omega)
    obtain ⟨p, q⟩ := bt_bd s 26
    have e := swor2 s 3 26 (by decide)
    have c := H.c3
    have f := H.free
    skip
    replace H := hide (H.set3 (sw s 3 3))
    go_wp2
    go_region
    go_wp2
    go_roundw
    case rel => exact ⟨27, by omega, rfl, H.out⟩
    case measure => simp [intOf]
   ·replace H : WW w wr (sw s 0 8) (sw s 1 8) (sw s 2 8) (sw s 3 3) := H
    have hb := bt_at s 27 (by omega)
    obtain ⟨p, q⟩ := bt_bd s 27
    have e := swor3 s 3 27 (by decide)
    have c := H.c3
    have f := H.free
    skip
    replace H := hide (H.set3 (sw s 3 4))
    go_wp2
    go_region
    go_wp2
    go_roundw
    case rel => exact ⟨28, by omega, rfl, H.out⟩
    case measure => simp [intOf]
   ·replace H : WW w wr (sw s 0 8) (sw s 1 8) (sw s 2 8) (sw s 3 4) := H
    have hb := bt_at s 28 (by omega)
    obtain ⟨p, q⟩ := bt_bd s 28
    have e := swor4 s 3 28 (by decide)
    have c := H.c3
    have f := H.free
    skip
    replace H := hide (H.set3 (sw s 3 5))
    go_wp2
    go_region
    go_wp2
    go_roundw
    case rel => exact ⟨29, by omega, rfl, H.out⟩
    case measure => simp [intOf]
   ·replace H : WW w wr (sw s 0 8) (sw s 1 8) (sw s 2 8) (sw s 3 5) := H
    have hb := bt_at s 29 (by omega)
    obtain ⟨p, q⟩ := bt_bd s 29
    have e := swor5 s 3 29 (by decide)
    have c := H.c3
    have f := H.free
    skip
    replace H := hide (H.set3 (sw s 3 6))
    go_wp2
    go_region
    go_wp2
    go_roundw
    case rel => exact ⟨30, by omega, rfl, H.out⟩
    case measure => simp [intOf]
   ·replace H : WW w wr (sw s 0 8) (sw s 1 8) (sw s 2 8) (sw s 3 6) := H
    have hb := bt_at s 30 (by omega)
    obtain ⟨p, q⟩ := bt_bd s 30
    have e := swor6 s 3 30 (by decide)
    have c := H.c3
    have f := H.free
    skip
    replace H := hide (H.set3 (sw s 3 7))
    go_wp2
    go_region
    go_wp2
    go_roundw
    case rel => exact ⟨31, by omega, rfl, H.out⟩
    case measure => simp [intOf]
   ·replace H : WW w wr (sw s 0 8) (sw s 1 8) (sw s 2 8) (sw s 3 7) := H
    have hb := bt_at s 31 (by omega)
    obtain ⟨p, q⟩ := bt_bd s 31
    have e := swor7 s 3 31 (by decide)
    have c := H.c3
    have f := H.free
    skip
    replace H := hide (H.set3 (sw s 3 8))
    go_wp2
    go_region
    go_wp2
    go_roundw
    case rel => exact ⟨32, by omega, rfl, H.out⟩
    case measure => simp [intOf]
  ·have e : k = 32 := by omega
   subst e
   replace H : WW w wr (sw s 0 8) (sw s 1 8) (sw s 2 8) (sw s 3 8) := H
   obtain ⟨h1, h2, h3, h4, h5, h6, h7, h8, h9, h10, h11, h12⟩ := H
   have H1 := hide h1
   clear h1
   go_wp2
   refine bodyPost_ret (v := .agg #[.int .u64 (sw s 0 8), .int .u64 (sw s 1 8), .int .u64 (sw s 2 8), .int .u64 (sw s 3 8)]) (by simp [results, Tryz.results118, go_sem, h9, h10, h11, h12]) rfl ⟨rfl, ?_⟩
   exact (((H1.out.setCell (p := ⟨w.heap.size, 0, none⟩) (Nat.le_refl _) _).setCell (p := ⟨w.heap.size, 1, none⟩) (Nat.le_refl _) _).setCell (p := ⟨w.heap.size, 2, none⟩) (Nat.le_refl _) _).setCell (p := ⟨w.heap.size, 3, none⟩) (Nat.le_refl _) _
open Go.RowKit
def numberF (a b c d : Int) : E5 := car (a % 2251799813685248) ((a / 2251799813685248 + b * 8192) % 2251799813685248) ((b / 274877906944 + c * 67108864) % 2251799813685248) ((c / 33554432 + d * 549755813888) % 2251799813685248) (d / 4096)
theorem part1 {a b : Int} (ha : W64 a) (_hb : W64 b) : bits BinOp.and IntKind.u64 (bits BinOp.or IntKind.u64 (a / 2251799813685248) (IntKind.u64.wrap (b * 8192))) 2251799813685247 = (a / 2251799813685248 + b * 8192) % 2251799813685248 := by
 unfold W64 at *
 rw [IntKind.wrap_u64, or_join' 13 8192 (by decide) ⟨by omega, by omega⟩ ⟨by omega, by omega⟩ (by omega) (by omega), and51 ⟨by omega, by omega⟩]
 omega
theorem part2 {a b : Int} (ha : W64 a) (_hb : W64 b) : bits BinOp.and IntKind.u64 (bits BinOp.or IntKind.u64 (a / 274877906944) (IntKind.u64.wrap (b * 67108864))) 2251799813685247 = (a / 274877906944 + b * 67108864) % 2251799813685248 := by
 unfold W64 at *
 rw [IntKind.wrap_u64, or_join' 26 67108864 (by decide) ⟨by omega, by omega⟩ ⟨by omega, by omega⟩ (by omega) (by omega), and51 ⟨by omega, by omega⟩]
 omega
theorem part3 {a b : Int} (ha : W64 a) (_hb : W64 b) : bits BinOp.and IntKind.u64 (bits BinOp.or IntKind.u64 (a / 33554432) (IntKind.u64.wrap (b * 549755813888))) 2251799813685247 = (a / 33554432 + b * 549755813888) % 2251799813685248 := by
 unfold W64 at *
 rw [IntKind.wrap_u64, or_join' 39 549755813888 (by decide) ⟨by omega, by omega⟩ ⟨by omega, by omega⟩ (by omega) (by omega), and51 ⟨by omega, by omega⟩]
 omega
theorem numberF_ok {a b c d : Int} (_ha : W64 a) (_hb : W64 b) (_hc : W64 c) (hd : W64 d) : (numberF a b c d).Ok := by
 unfold W64 at *
 exact car_ok ⟨by omega, by omega⟩ ⟨by omega, by omega⟩ ⟨by omega, by omega⟩ ⟨by omega, by omega⟩ ⟨by omega, by omega⟩
theorem numberF_n {a b c d : Int} (ha : W64 a) (hb : W64 b) (hc : W64 c) (_hd : W64 d) : Cg (numberF a b c d).n (a + 18446744073709551616 * b + 340282366920938463463374607431768211456 * c + 6277101735386680763835789423207666416102355444464034512896 * d) := by
 refine (car_n _ _ _ _ _).trans (Cg.of_eq ?_)
 unfold W64 at *
 simp only [E5.n]
 omega
theorem number_any (a b c d : Int) (w : World) (ha : W64 a) (hb : W64 b) (hc : W64 c) (hd : W64 d) : Calls Tryz.prog 119 #[.agg #[.int .u64 a, .int .u64 b, .int .u64 c, .int .u64 d]] w fun r w' => r = .returned (numberF a b c d).v ∧ Below w.heap.size w w' := by
 have e0 := and51 ha
 have e1 := part1 ha hb
 have e2 := part2 hb hc
 have e3 := part3 hc hd
 have HE := hide (show numberF a b c d = car (a % 2251799813685248) ((a / 2251799813685248 + b * 8192) % 2251799813685248) ((b / 274877906944 + c * 67108864) % 2251799813685248) ((c / 33554432 + d * 549755813888) % 2251799813685248) (d / 4096) from rfl)
 have q0 : W64 (a % 2251799813685248) := ⟨by omega, by omega⟩
 have q1 : W64 ((a / 2251799813685248 + b * 8192) % 2251799813685248) := ⟨by omega, by omega⟩
 have q2 : W64 ((b / 274877906944 + c * 67108864) % 2251799813685248) := ⟨by omega, by omega⟩
 have q3 : W64 ((c / 33554432 + d * 549755813888) % 2251799813685248) := ⟨by omega, by omega⟩
 have q4 : W64 (d / 4096) := by unfold W64 at *; exact ⟨by omega, by omega⟩
 go_enter Tryz.func119, Tryz.ntmps119
 go_wp2_with fail
 have R := Out.start1 w (.cells #[.int .u64 a, .int .u64 b, .int .u64 c, .int .u64 d] 144)
 refine (carried_any _ _ _ _ _ _ q0 q1 q2 q3 q4).mono ?_
 rintro _ w1 ⟨rfl, hb⟩
 replace R := R.keep hb
 rw [← HE.out]
 clear HE
 generalize hz : numberF a b c d = z
 have HE := hide hz
 clear hz
 clear hb q0 q1 q2 q3 q4 e0 e1 e2 e3
 obtain ⟨old, ge, rs, rf, r0, r1, r2, r3, r4⟩ := R
 have O := hide old
 clear old
 go_wp2
 refine bodyPost_ret (v := z.v) (by simp [results, Tryz.results119, go_sem, r0, r1, r2, r3, r4]) rfl ⟨by rw [HE.out], ?_⟩
 exact five O.out ge
def val (s : Yb) : Int := sw s 0 8 + 18446744073709551616 * sw s 1 8 + 340282366920938463463374607431768211456 * sw s 2 8 + 6277101735386680763835789423207666416102355444464034512896 * sw s 3 8
def ofF (s : Yb) : E5 := numberF (sw s 0 8) (sw s 1 8) (sw s 2 8) (sw s 3 8)
theorem sw64 (s : Yb) (j : Nat) : W64 (sw s j 8) := by
 have h := sw_bd s j 8
 have e : (256 : Int) ^ 8 = 18446744073709551616 := by decide
 rw [e] at h
 exact h
theorem ofF_ok (s : Yb) : (ofF s).Ok := numberF_ok (sw64 s 0) (sw64 s 1) (sw64 s 2) (sw64 s 3)
theorem ofF_n (s : Yb) : Cg (ofF s).n (val s) := numberF_n (sw64 s 0) (sw64 s 1) (sw64 s 2) (sw64 s 3)
theorem of_yes (s : Yb) (w : World) (hs : s.size = 32) : Cs 90 #[.string s] w (.tuple #[(ofF s).v, .int .i64 0]) := by
 have n0 : ((s.size : Int) != 32) = false := by simp [hs]
 go_enter Tryz.func90, Tryz.ntmps90
 go_wp2_with fail
 have R := Out.start0 w
 refine (wordsOf_any s _ hs).mono ?_
 rintro _ w1 ⟨rfl, hb⟩
 replace R := R.keep hb
 clear hb
 go_wp2_with fail
 refine (number_any _ _ _ _ _ (sw64 s 0) (sw64 s 1) (sw64 s 2) (sw64 s 3)).mono ?_
 rintro _ w2 ⟨rfl, hb⟩
 replace R := R.keep hb
 clear hb
 rw [show numberF (sw s 0 8) (sw s 1 8) (sw s 2 8) (sw s 3 8) = ofF s from rfl]
 generalize hz : ofF s = z
 have HZ := hide hz
 clear hz
 obtain ⟨old, ge, rs, rf, r0, r1, r2, r3, r4⟩ := R
 have O := hide old
 clear old
 go_wp2
 refine bodyPost_ret (v := .tuple #[z.v, .int .i64 0]) (by simp [results, Tryz.results90, go_sem, r0, r1, r2, r3, r4]) rfl ⟨by rw [HZ.out], ?_⟩
 exact five O.out ge
open Go.RowKit
def pt (s : Yb) (k : Nat) : Nat → Int := fun i => (if 2 * i < k then bt s (2 * i) else 0) + (if 2 * i + 1 < k then bt s (2 * i + 1) * 256 else 0)
theorem ptor0 (s : Yb) (i : Nat) : bits BinOp.or IntKind.u64 0 (bt s i) = bt s i := by
 have hb := bt_bd s i
 rw [or_join 8 256 (by decide) ⟨by decide, by decide⟩ ⟨hb.1, by omega⟩ (by decide) (by omega)]
 omega
theorem ptor1 (s : Yb) (i j : Nat) : bits BinOp.or IntKind.u64 (bt s i) (bt s j * 256) = bt s i + bt s j * 256 := by
 have hb := bt_bd s i
 have hc := bt_bd s j
 exact or_join' 8 256 (by decide) ⟨hb.1, by omega⟩ ⟨by omega, by omega⟩ (by omega) (by omega)
theorem pt_dig (s : Yb) (k : Nat) : Dig (pt s k) 16 := fun i _ => by
 have hb := bt_bd s (2 * i)
 have hc := bt_bd s (2 * i + 1)
 unfold pt
 split <;> split <;> omega
theorem pt_even (s : Yb) (j i : Nat) : upd (pt s (2 * j)) j (bt s (2 * j)) i = pt s (2 * j + 1) i := by
 unfold upd pt
 by_cases h : i = j
 ·subst h
  simp
 ·rw [if_neg h]
  congr 1
  ·by_cases h2 : 2 * i < 2 * j
   ·rw [if_pos h2, if_pos (by omega)]
   ·rw [if_neg h2, if_neg (by omega)]
  ·by_cases h2 : 2 * i + 1 < 2 * j
   ·rw [if_pos h2, if_pos (by omega)]
   ·rw [if_neg h2, if_neg (by omega)]
theorem pt_odd (s : Yb) (j i : Nat) : upd (pt s (2 * j + 1)) j (bt s (2 * j) + bt s (2 * j + 1) * 256) i = pt s (2 * j + 1 + 1) i := by
 unfold upd pt
 by_cases h : i = j
 ·subst h
  simp
  intro h
  omega
 ·rw [if_neg h]
  congr 1
  ·by_cases h2 : 2 * i < 2 * j + 1
   ·rw [if_pos h2, if_pos (by omega)]
   ·rw [if_neg h2, if_neg (by omega)]
  ·by_cases h2 : 2 * i + 1 < 2 * j + 1
   ·rw [if_pos h2, if_pos (by omega)]
   ·rw [if_neg h2, if_neg (by omega)]
theorem pt_S (s : Yb) : S (pt s 32) 16 = val s := by
 simp [S, pt, val, sw]
 omega
open Go.RowKit
theorem wid_S (f : NI) : S (wid f 16) 32 = S f 16 := by
 rw [S_upper_zero (wid f 16) fun i h _ => by unfold wid; rw [if_neg (by omega)]]
 exact S_congr fun i hi => by unfold wid; rw [if_pos hi]
theorem wid_48 {f : NI} (h : Dig f 16) : B48 (wid f 16) := ⟨fun i _ => by
 unfold wid
 by_cases hi : i < 16
 ·rw [if_pos hi]
  have := h i hi
  omega
 ·rw [if_neg hi]
  omega⟩
theorem and16u {x : Int} (h0 : 0 ≤ x) (h1 : x < 4294967296) : bits .and .u32 x 65535 = x % 65536 := by
 rw [u32_and x _ h0 h1 (by decide) (by decide)]
 have e : (65535 : Int).toNat = 65535 := by decide
 rw [e, nat_mask16]
 omega
theorem small_arr {n : Int} (h0 : 0 ≤ n) (h1 : n < 4294967296) : arr 16 (d16 n) = #[.int .u64 (n % 65536), .int .u64 (n / 65536), .int .u64 0, .int .u64 0, .int .u64 0, .int .u64 0, .int .u64 0, .int .u64 0, .int .u64 0, .int .u64 0, .int .u64 0, .int .u64 0, .int .u64 0, .int .u64 0, .int .u64 0, .int .u64 0] := by
 have e : arr 16 (d16 n) = arr 16 (fun i => if i = 0 then n % 65536 else if i = 1 then n / 65536 else 0) := by
  refine arr_congr fun i hi => ?_
  unfold d16
  by_cases i0 : i = 0
  ·subst i0; simp
  ·by_cases i1 : i = 1
   ·subst i1; simp; omega
   ·rw [if_neg i0, if_neg i1]
    have hp : (4294967296 : Int) ≤ 65536 ^ i := by
     obtain ⟨j, rfl⟩ : ∃ j, i = j + 2 := ⟨i - 2, by omega⟩
     rw [Int.pow_add]
     have := p16 j
     have e2 : (65536 : Int) ^ 2 = 4294967296 := by decide
     rw [e2]
     omega
    rw [Int.ediv_eq_zero_of_lt h0 (by omega)]
    decide
 rw [e]
 rfl
theorem rsmall_any (n : Int) (w : World) (h0 : 0 ≤ n) (h1 : n < 4294967296) : Cs 39 #[.int .u32 n] w (.agg (arr 16 (d16 n))) := by
 have e := and16u h0 h1
 have HA := hide (small_arr h0 h1)
 go_enter Tryz.func39, Tryz.ntmps39
 go_wp2
 refine bodyPost_ret (v := .agg (arr 16 (d16 n))) ?_ rfl ⟨rfl, (Below.refl _ _).alloc (Nat.le_refl _) _⟩
 rw [HA.out]
 simp [results, Tryz.results39, go_sem]
open Go.RowKit
theorem bs_fold (ns : List Int) : ∀ s : Yb, ns.foldl (fun r n => r.push (UInt8.ofNat n.toNat)) s = ⟨s.data ++ (ns.map fun n => UInt8.ofNat n.toNat).toArray⟩ := by
 induction ns with
 | nil => intro s; simp
 | cons n ns ih =>
  intro s
  rw [List.foldl_cons, ih]
  simp [ByteArray.push]
theorem conv_bytes (W : World) (g : Nat) (T : TypeId) (ns : List Int) (l cap : Nat) (fr : Nat × Nat) (hg : W.heap[g]? = some (.cells (ns.map (Value.int .u8)).toArray T fr)) (hl : ns.length = l) :
  (convert 61 9 (.slice (some ⟨g, 0, none⟩) l cap)).run Tryz.prog W = .ok (.string (bs ns)) W := by
 subst hl
 rw [run_convert_bytes_string W 61 9 5 (some ⟨g, 0, none⟩) ns.length cap Tryz.underlying61 Tryz.underlying5 Tryz.underlying9]
 have h := run_loadCells_list (P := Tryz.prog) W ⟨g, 0, none⟩ (ns.map (Value.int .u8)) (fun j v hv => by
  have hadd : (⟨g, 0, none⟩ : Addr).add j = ⟨g, j, none⟩ := by unfold Addr.add; split <;> simp_all
  rw [hadd, cell_of_row W g j _ T fr hg]
  simpa using hv)
 rw [List.length_map] at h
 have he : ByteArray.empty.data = #[] := rfl
 rw [run_bytesToString W _ ns.length cap ns h, bs_fold, he]
 simp [bs]
def digs (a : Int) : List Int := [a % 256, a / 256 % 256, a / 65536 % 256, a / 16777216 % 256, a / 4294967296 % 256, a / 1099511627776 % 256, a / 281474976710656 % 256, a / 72057594037927936 % 256]
def lebytes (n : Int) : ByteArray := bs (digs (n % 18446744073709551616) ++ digs (n / 18446744073709551616 % 18446744073709551616) ++ digs (n / 340282366920938463463374607431768211456 % 18446744073709551616) ++ digs (n / 6277101735386680763835789423207666416102355444464034512896 % 18446744073709551616))
theorem text_any (a b c d : Int) (w : World) : Cs 97 #[.agg #[.int .u64 a, .int .u64 b, .int .u64 c, .int .u64 d]] w (.string (bs (digs a ++ digs b ++ digs c ++ digs d))) := by
 go_enter Tryz.func97, Tryz.ntmps97
 go_wp2
 refine wp_loop_rounds 33 ?_
 iterate 33 (rw [rounds_succ]; go_wp2)
 have hcv : (convert 61 9 (.slice (some ⟨w.heap.size + 1, 0, none⟩) 32 32)).run Tryz.prog ((w.alloc (.cells #[.int .u64 a, .int .u64 b, .int .u64 c, .int .u64 d] 144)).alloc (.cells #[.int .u8 (a % 256), .int .u8 (a / 256 % 256), .int .u8 (a / 65536 % 256), .int .u8 (a / 16777216 % 256), .int .u8 (a / 4294967296 % 256), .int .u8 (a / 1099511627776 % 256), .int .u8 (a / 281474976710656 % 256), .int .u8 (a / 72057594037927936 % 256), .int .u8 (b % 256), .int .u8 (b / 256 % 256), .int .u8 (b / 65536 % 256), .int .u8 (b / 16777216 % 256), .int .u8 (b / 4294967296 % 256), .int .u8 (b / 1099511627776 % 256), .int .u8 (b / 281474976710656 % 256), .int .u8 (b / 72057594037927936 % 256), .int .u8 (c % 256), .int .u8 (c / 256 % 256), .int .u8 (c / 65536 % 256), .int .u8 (c / 16777216 % 256), .int .u8 (c / 4294967296 % 256), .int .u8 (c / 1099511627776 % 256), .int .u8 (c / 281474976710656 % 256), .int .u8 (c / 72057594037927936 % 256), .int .u8 (d % 256), .int .u8 (d / 256 % 256), .int .u8 (d / 65536 % 256), .int .u8 (d / 16777216 % 256), .int .u8 (d / 4294967296 % 256), .int .u8 (d / 1099511627776 % 256), .int .u8 (d / 281474976710656 % 256), .int .u8 (d / 72057594037927936 % 256)] 174)) = .ok (.string (bs (digs a ++ digs b ++ digs c ++ digs d))) _ := conv_bytes _ (w.heap.size + 1) 174 (digs a ++ digs b ++ digs c ++ digs d) 32 32 (0, 0) (heap_alloc2_new w _ _) rfl
 rw [hcv]
 clear hcv
 generalize hB : bs (digs a ++ digs b ++ digs c ++ digs d) = B
 have HB := hide hB
 clear hB
 go_wp2
 go_ret
 exact ⟨by rw [HB.out]; rfl, ((Below.refl _ _).alloc (Nat.le_refl _) _).alloc (by simp) _⟩
theorem wordsR0 {y : E5} (h : y.Low) : bits BinOp.or IntKind.u64 y.a (IntKind.u64.wrap (y.b * 2251799813685248)) = y.n % 18446744073709551616 := by
 obtain ⟨a0, a1, b0, b1, c0, c1, d0, d1, e0, e1⟩ := h
 rw [IntKind.wrap_u64, or_join' 51 2251799813685248 (by decide) ⟨by omega, by omega⟩ ⟨by omega, by omega⟩ (by omega) (by omega)]
 simp only [E5.n]
 omega
theorem wordsR1 {y : E5} (h : y.Low) : bits BinOp.or IntKind.u64 (y.b / 8192) (IntKind.u64.wrap (y.c * 274877906944)) = y.n / 18446744073709551616 % 18446744073709551616 := by
 obtain ⟨a0, a1, b0, b1, c0, c1, d0, d1, e0, e1⟩ := h
 rw [IntKind.wrap_u64, or_join' 38 274877906944 (by decide) ⟨by omega, by omega⟩ ⟨by omega, by omega⟩ (by omega) (by omega)]
 simp only [E5.n]
 omega
theorem wordsR2 {y : E5} (h : y.Low) : bits BinOp.or IntKind.u64 (y.c / 67108864) (IntKind.u64.wrap (y.d * 33554432)) = y.n / 340282366920938463463374607431768211456 % 18446744073709551616 := by
 obtain ⟨a0, a1, b0, b1, c0, c1, d0, d1, e0, e1⟩ := h
 rw [IntKind.wrap_u64, or_join' 25 33554432 (by decide) ⟨by omega, by omega⟩ ⟨by omega, by omega⟩ (by omega) (by omega)]
 simp only [E5.n]
 omega
theorem wordsR3 {y : E5} (h : y.Low) : bits BinOp.or IntKind.u64 (y.d / 549755813888) (IntKind.u64.wrap (y.e * 4096)) = y.n / 6277101735386680763835789423207666416102355444464034512896 % 18446744073709551616 := by
 obtain ⟨a0, a1, b0, b1, c0, c1, d0, d1, e0, e1⟩ := h
 rw [IntKind.wrap_u64, or_join' 12 4096 (by decide) ⟨by omega, by omega⟩ ⟨by omega, by omega⟩ (by omega) (by omega)]
 simp only [E5.n]
 omega
theorem set4 {B g : Nat} {w w1 : World} (h : Below B w w1) (hg : B ≤ g) {u0 u1 u2 u3 : Value} :
  Below B w ((((w1.setCell ⟨g, 0, none⟩ u0).setCell ⟨g, 1, none⟩ u1).setCell ⟨g, 2, none⟩ u2).setCell ⟨g, 3, none⟩ u3) :=
 (((h.setCell (p := ⟨g, 0, none⟩) hg u0).setCell (p := ⟨g, 1, none⟩) hg u1).setCell (p := ⟨g, 2, none⟩) hg u2).setCell (p := ⟨g, 3, none⟩) hg u3
abbrev w4 (n : Int) : Value := .agg #[.int .u64 (n % 18446744073709551616), .int .u64 (n / 18446744073709551616 % 18446744073709551616), .int .u64 (n / 340282366920938463463374607431768211456 % 18446744073709551616), .int .u64 (n / 6277101735386680763835789423207666416102355444464034512896 % 18446744073709551616)]
theorem words_any (x : E5) (w : World) (hx : x.Ok) : Cs 96 #[x.v] w (w4 (x.n % Pm)) := by
 go_enter Tryz.func96, Tryz.ntmps96
 go_wp2_with fail
 refine (least_any x _ hx).mono ?_
 rintro _ w1 ⟨rfl, hb⟩
 have HN := hide (leastF_n hx)
 have hl := leastF_low x
 have e0 := wordsR0 hl
 have e1 := wordsR1 hl
 have e2 := wordsR2 hl
 have e3 := wordsR3 hl
 rw [leastF_n hx] at e0 e1 e2 e3
 generalize leastF x = y at *
 have H3 := hide (below2 hb)
 obtain ⟨hc, hf⟩ := bcell hb
 have hs : w.heap.size + 1 < w1.heap.size := by have := hb.size; simp at this; omega
 clear hb hl
 go_wp2
 refine bodyPost_ret (v := w4 (x.n % Pm)) (by simp [results, Tryz.results96, go_sem, hc, hs]) rfl ⟨rfl, ?_⟩
 exact (set4 (B := w.heap.size) (g := w.heap.size + 1) H3.out (by omega)).alloc (by simp; omega) _
theorem bytes_any (x : E5) (w : World) (hx : x.Ok) : Cs 70 #[x.v] w (.string (lebytes (x.n % Pm))) := by
 go_enter Tryz.func70, Tryz.ntmps70
 go_wp2_with fail
 refine (words_any x _ hx).mono ?_
 rintro _ w1 ⟨rfl, hb⟩
 have H3 := below1 hb
 clear hb
 go_wp2_with fail
 refine (text_any _ _ _ _ _).mono ?_
 rintro _ w2 ⟨rfl, hb⟩
 have H4 := H3.trans (hb.mono H3.size)
 clear hb H3
 rw [show bs (digs (x.n % Pm % 18446744073709551616) ++ digs (x.n % Pm / 18446744073709551616 % 18446744073709551616) ++ digs (x.n % Pm / 340282366920938463463374607431768211456 % 18446744073709551616) ++ digs (x.n % Pm / 6277101735386680763835789423207666416102355444464034512896 % 18446744073709551616)) = lebytes (x.n % Pm) from rfl]
 go_wp2
 go_ret
 exact ⟨rfl, H4⟩
open Go.RowKit
def by16 (f : NI) (i : Nat) : Int := f (i / 2) / 256 ^ (i % 2) % 256
def rb (f : NI) (k : Nat) : List Int := (List.range 32).map fun i => if i < k then by16 f i else 0
theorem rb_len (f : NI) (k : Nat) : (rb f k).length = 32 := by simp [rb]
open Go.RowKit
section
variable {P : Program} {ops : Array Oper} {md : Region.Mode} {W : World} {n : Nat}
def keepOp (P : Program) (o : Oper) (a : Act) (W : World) (K : Act → Prop) : Prop := ∃ v, (∀ s : KW W, keepAt P o a s.w v) ∧ K (a.put o.dst v)
def wpK (P : Program) (ops : Array Oper) (W : World) (Q : Act → Prop) : List Oper → Act → Prop
 | [], a => Q a
 | o :: rest, a => if Region.wanted o (yielded ops a.tmps) then keepOp P o a W (wpK P ops W Q rest) else wpK P ops W Q rest (a.put o.dst undef)
theorem wpK_nil {Q : Act → Prop} {a : Act} (h : Q a) : wpK P ops W Q [] a := h
theorem wpK_step {Q : Act → Prop} {a : Act} {o : Oper} {rest : List Oper}
  (h : ∀ K : Act → Prop, (∀ a, wpK P ops W Q rest a → K a) → if Region.wanted o (yielded ops a.tmps) then keepOp P o a W K else K (a.put o.dst undef)) : wpK P ops W Q (o :: rest) a :=
 h _ (fun _ h => h)
def YK (P : Program) (ops : Array Oper) (W : World) (o : Oper) (v : Value) (a : Act) : Prop :=
 (Region.wanted o (yielded ops a.tmps) = true ∧ ∀ s : KW W, keepAt P o a s.w v) ∨ (Region.wanted o (yielded ops a.tmps) = false ∧ v = undef)
def kOp (P : Program) (ops : Array Oper) (W : World) (i : Nat) (K : Act → Prop) (a : Act) : Prop := ∃ o v, ops[i]? = some o ∧ YK P ops W o v a ∧ K (a.put o.dst v)
theorem YK.same {o : Oper} {v : Value} {a a' : Act} (hy : YK P ops W o v a) (he : execOp a'.eval o = execOp a.eval o) (hw : Region.wanted o (yielded ops a'.tmps) = Region.wanted o (yielded ops a.tmps)) : YK P ops W o v a' := by
 unfold YK keepAt at *
 rw [he, hw]
 exact hy
theorem wpK_yields {Q : Act → Prop} {a : Act} {o : Oper} {rest : List Oper} (h : wpK P ops W Q (o :: rest) a) : ∃ v, YK P ops W o v a ∧ wpK P ops W Q rest (a.put o.dst v) := by
 unfold wpK at h
 by_cases hw : Region.wanted o (yielded ops a.tmps) = true
 ·rw [if_pos hw] at h
  obtain ⟨v, h1, h2⟩ := h
  exact ⟨v, .inl ⟨hw, h1⟩, h2⟩
 ·rw [if_neg hw] at h
  exact ⟨undef, .inr ⟨by simpa using hw, rfl⟩, h⟩
theorem YK.wpOp {W1 : World} (hW : Below W.heap.size W W1) {i : Nat} {o : Oper} {v : Value} {a : Act} (hi : ops[i]? = some o) (hy : YK P ops W o v a) {K : Act → World → Prop} {Q : Exit → Act → World → Prop} (s : KW W1)
  (h : ∀ t : KW W1, K (a.put o.dst v) t.w) : wpOp P ops Q i K a s.w := by
 unfold Go.wpOp
 simp only [hi]
 rcases hy with ⟨hw, hv⟩ | ⟨hw, rfl⟩
 ·rw [if_pos hw]
  refine .inl ?_
  have hk := hv ⟨s.w, hW.trans (s.keep.mono hW.size)⟩
  unfold keepAt at hk
  unfold Oper.wp
  generalize (execOp a.eval o).run P s.w = r at *
  cases r with
  | ok x w' =>
   cases x <;> simp only [keepUpon] at hk <;> simp only [Oper.upon]
   case value u =>
    obtain ⟨e1, e2⟩ := hk
    rw [e1, e2]
    exact h s
   case skip =>
    obtain ⟨e1, e2⟩ := hk
    rw [e1, ← e2]
    exact h s
   case enter f args =>
    obtain ⟨e1, hc⟩ := hk
    rw [e1]
    exact hc.mono fun e w'' ⟨he, hb⟩ => by subst he; exact h (s.next w'' hb)
  | halt x w' => simp only [keepUpon] at hk
 ·rw [if_neg (by rw [hw]; exact Bool.false_ne_true)]
  exact h s
def HeadK (P : Program) (md : Region.Mode) (ops : Array Oper) (W : World) (n : Nat) (L : Array Bool → Act → Prop) : Nat → Array Bool → Act → Prop
 | 0, done, a => L done a
 | f + 1, done, a => (∃ i, i < n ∧ i ∈ Region.ready md ops done) ∧ ∀ i ∈ Region.ready md ops done, i = n ∨ (i < n ∧ kOp P ops W i (HeadK P md ops W n L f (done.setIfInBounds i true)) a)
theorem HeadK.first {i : Nat} {oi : Oper} {v : Value} {L : Array Bool → Act → Prop} (hi : ops[i]? = some oi) (hsel : ∀ (j : Nat) (o : Oper) cs b, ops[j]? = some o → o.op ≠ .select cs b)
  (hs : Region.sinkB md ops (n + 1) = true) (hc : Region.chainB md ops (n + 1) = true) (hn : n + 1 < ops.size) (hin : i < n) (hend : ∀ done a, L done a → Region.ready md ops done = [n]) :
  ∀ (f : Nat) (done : Array Bool) (a : Act), HeadInv md ops (n + 1) done →
   (∀ j oj, ops[j]? = some oj → j ≠ i → done.getD j true = false → (∀ e ∈ oj.after, Region.binds md e = true → e.on ≠ i) → oi.apart ops oj = true) →
   i ∈ Region.ready md ops done → YK P ops W oi v a → HeadK P md ops W n L f (done.setIfInBounds i true) (a.put oi.dst v) → HeadK P md ops W n L (f + 1) done a := by
 intro f
 induction f with
 | zero =>
  intro done a inv _ hr hy H
  refine ⟨⟨i, hin, hr⟩, fun j hj => ?_⟩
  by_cases hji : j = i
  ·subst hji
   exact .inr ⟨hin, oi, v, hi, hy, H⟩
  ·have h1 := ready_mono hj hji
   rw [hend _ _ H] at h1
   exact .inl (by simpa using h1)
 | succ f ih =>
  intro done a inv hfree hr hy H
  have hun := (mem_ready.1 hr).1
  refine ⟨⟨i, hin, hr⟩, fun j hj => ?_⟩
  have hjn : j < n + 1 := Nat.lt_of_not_le fun h => tail_waits hs hc hn inv _ i rfl (by omega) hun j h hj
  by_cases hji : j = i
  ·subst hji
   exact .inr ⟨hin, oi, v, hi, hy, H⟩
  ·rcases H.2 j (ready_mono hj hji) with h0 | ⟨hjlt, oj, u, hoj, hyj, hK⟩
   ·exact .inl h0
   ·obtain ⟨hjun, oj', hoj', hall⟩ := mem_ready.1 hj
    have e : oj' = oj := Option.some.inj (hoj'.symm.trans hoj)
    subst e
    have hno : ∀ e ∈ oj'.after, Region.binds md e = true → e.on ≠ i := by
     intro e he hb heq
     have h1 := hall e he hb
     rw [heq, getD_both hun] at h1
     cases h1
    obtain ⟨h1, h2, h3⟩ := Oper.apart_spec (hfree j oj' hoj hji hjun hno)
    have hyj' : YK P ops W oj' u a := hyj.same (execOp_put oj' (fun cs b => hsel j oj' cs b hoj) a oi.dst v h1).symm (wanted_put oj' a oi.dst v h1).symm
    have hyi' : YK P ops W oi v (a.put oj'.dst u) := hy.same (execOp_put oi (fun cs b => hsel i oi cs b hi) a oj'.dst u h3) (wanted_put oi a oj'.dst u h3)
    refine .inr ⟨hjlt, oj', u, hoj, hyj', ih (done.setIfInBounds j true) _ (inv.set hj hjn) ?_ (ready_mono hr (Ne.symm hji)) hyi' ?_⟩
    ·intro k ok hk hki hku hkn
     refine hfree k ok hk hki ?_ hkn
     by_cases hjk : j = k
     ·subst hjk
      exact hjun
     ·rw [getD_set_ne true hjk] at hku
      exact hku
    ·rw [Array.setIfInBounds_comm _ _ hji, ← Act.put_comm a v u h2]
     exact hK
theorem HeadK.lex {g : Nat} {K : Act → Prop} (hsel : Region.noSelect ops = true) (hs : Region.sinkB md ops (n + 1) = true) (hc : Region.chainB md ops (n + 1) = true) (hn : n + 1 < ops.size) (l : List Oper) :
  ∀ (k : Nat) (done : Array Bool) (a : Act), (∀ j, j < l.length → l[j]? = ops[k + j]?) → k + l.length = n → HeadInv md ops (n + 1) done →
  lexA md ops g n l.length k done = true → wpK P ops W K l a → HeadK P md ops W n (fun d a' => (Region.ready md ops d = [n] ∧ Region.seqB md ops g (n + 1) (d.setIfInBounds n true) = true) ∧ K a') l.length done a := by
 induction l with
 | nil =>
  intro k done a _ hk _ hB h
  simp only [List.length_nil, lexA, Bool.and_eq_true, decide_eq_true_eq] at hB
  exact ⟨hB, h⟩
 | cons o l ih =>
  intro k done a hl hk inv hB h
  have h0 : ops[k]? = some o := by simpa using (hl 0 (by simp)).symm
  simp only [List.length_cons, lexA, Bool.and_eq_true] at hB
  simp only [List.length_cons] at hk
  have hr : k ∈ Region.ready md ops done := by simpa using hB.1.1
  obtain ⟨v, hy, hK⟩ := wpK_yields h
  refine HeadK.first h0 (Region.noSelect_spec hsel) hs hc hn (by omega) (fun d a' hL => hL.1.1) l.length done a inv (Region.free_spec h0 hB.1.2) hr hy ?_
  refine ih (k + 1) _ _ (fun j hj => ?_) (by omega) (inv.set hr (by omega)) hB.2 hK
  have := hl (j + 1) (by simp; omega)
  simpa [Nat.add_assoc, Nat.add_comm 1 j] using this
theorem HeadK.anyT {g : Nat} {L : Array Bool → Act → Prop} {Q : Exit → Act → World → Prop} {om : Oper} (hom : ops[n]? = some om) (hsel : Region.noSelect ops = true) (hs : Region.sinkB md ops (n + 1) = true) (hc : Region.chainB md ops (n + 1) = true) (hn : n + 1 < ops.size) (hfr : freeN md ops n = true)
  {W1 : World} (hW : Below W.heap.size W W1) (p : Value) (hL : ∀ done a, L done a → ∀ s : KW W1, wpAny P md ops Q g (done.setIfInBounds n true) (a.put om.dst p) s.w) :
  ∀ (f : Nat) (done : Array Bool) (a : Act), HeadInv md ops (n + 1) (done.setIfInBounds n true) → HeadK P md ops W n L f done a → ∀ s : KW W1, wpAny P md ops Q (f + g) (done.setIfInBounds n true) (a.put om.dst p) s.w := by
 intro f
 induction f with
 | zero =>
  intro done a _ h s
  rw [Nat.zero_add]
  exact hL done a h s
 | succ f ih =>
  intro done a inv h s
  have e : f + 1 + g = (f + g) + 1 := by omega
  rw [e]
  obtain ⟨⟨i0, hi0, hr0⟩, hall⟩ := h
  have hr0' : i0 ∈ Region.ready md ops (done.setIfInBounds n true) := ready_mono hr0 (by omega)
  refine ⟨fun h0 => (by rw [h0] at hr0'; cases hr0'), fun i hi => ?_⟩
  have hin : i < n + 1 := Nat.lt_of_not_le fun h => tail_waits hs hc hn inv _ i0 rfl (by omega) (mem_ready.1 hr0').1 i h hi
  obtain ⟨hiun, oi, hoi, hie⟩ := mem_ready.1 hi
  have hne : i ≠ n := by
   intro he
   subst he
   by_cases hlt : i < done.size
   ·simp [hlt] at hiun
   ·rw [Array.getD_eq_getD_getElem?, Array.getElem?_eq_none (by simpa using hlt)] at hiun
    cases hiun
  have hF := List.all_eq_true.1 hfr i (List.mem_range.2 (by omega))
  simp only [hoi, hom, Bool.and_eq_true, Bool.not_eq_true'] at hF
  have hwait := waits_of hoi hF.1
  have hrd : i ∈ Region.ready md ops done := by
   rw [mem_ready]
   rw [getD_set_ne true (Ne.symm hne)] at hiun
   refine ⟨hiun, oi, hoi, fun e he hb => ?_⟩
   have := hie e he hb
   rwa [getD_set_ne false (Ne.symm (hwait e he hb))] at this
  rcases hall i hrd with h0 | ⟨hlt, o, v, ho, hy, hK⟩
  ·exact absurd h0 hne
  ·have eo : o = oi := Option.some.inj (ho.symm.trans hoi)
   subst eo
   obtain ⟨h1, h2, h3⟩ := Oper.apart_spec hF.2
   have hso : ∀ cs b, o.op ≠ .select cs b := fun cs b => Region.noSelect_spec hsel i o cs b ho
   have hy' : YK P ops W o v (a.put om.dst p) := hy.same (execOp_put o hso a om.dst p h3) (wanted_put o a om.dst p h3)
   refine hy'.wpOp hW ho s fun t => ?_
   rw [← Act.put_comm a v p h2, Array.setIfInBounds_comm _ _ (Ne.symm hne)]
   refine ih (done.setIfInBounds i true) _ ?_ hK t
   rw [Array.setIfInBounds_comm _ _ hne]
   exact inv.set hi hin
theorem HeadK.anyS {g : Nat} {L : Array Bool → Act → Prop} {Q : Exit → Act → World → Prop} {om : Oper} {Z : Obj} (hom : ops[n]? = some om) (hsel : Region.noSelect ops = true) (hs : Region.sinkB md ops (n + 1) = true) (hc : Region.chainB md ops (n + 1) = true) (hn : n + 1 < ops.size) (hfr : freeN md ops n = true)
  (hg : om.guard = none) (hrun : ∀ a w, (execOp (Act.eval a) om).run P w = .ok (.value (.pointer (some ⟨w.heap.size, 0, none⟩))) (w.alloc Z)) (hend : ∀ done a, L done a → Region.ready md ops done = [n])
  (hL : ∀ done a, L done a → ∀ (w1 : World) (b : Nat), Below W.heap.size W w1 → W.heap.size ≤ b → w1.heap[b]? = some Z → wpAny P md ops Q g (done.setIfInBounds n true) (a.put om.dst (.pointer (some ⟨b, 0, none⟩))) w1) :
  ∀ (f : Nat) (done : Array Bool) (a : Act), HeadInv md ops (n + 1) done → HeadK P md ops W n L f done a → ∀ s : KW W, wpAny P md ops Q (f + 1 + g) done a s.w := by
 have hnow : ∀ (f : Nat) (done : Array Bool) (a : Act) (s : KW W), HeadInv md ops (n + 1) done → n ∈ Region.ready md ops done → HeadK P md ops W n L f done a → wpOp P ops Q n (wpAny P md ops Q (f + g) (done.setIfInBounds n true)) a s.w := by
  intro f done a s inv hr h
  unfold wpOp
  have hw : Region.wanted om (yielded ops a.tmps) = true := by simp [Region.wanted, hg]
  simp only [hom, hw, if_true]
  refine .inl ?_
  unfold Oper.wp
  rw [hrun]
  simp only [Oper.upon]
  have hW1 : Below W.heap.size W (s.w.alloc Z) := s.keep.alloc s.keep.size Z
  refine HeadK.anyT hom hsel hs hc hn hfr hW1 _ ?_ f done a (inv.set hr (by omega)) h ⟨_, Below.refl _ _⟩
  intro d a' hd t
  refine hL d a' hd t.w _ (hW1.trans (t.keep.mono hW1.size)) s.keep.size ?_
  rw [t.keep.block _ (by simp)]
  exact heap_alloc_new s.w Z
 intro f
 induction f with
 | zero =>
  intro done a inv h s
  have e : 0 + 1 + g = (0 + g) + 1 := by omega
  rw [e]
  have hr := hend done a h
  refine ⟨fun h0 => (by rw [hr] at h0; cases h0), fun i hi => ?_⟩
  have hi' : i = n := by rw [hr] at hi; simpa using hi
  rw [hi'] at hi ⊢
  exact hnow 0 done a s inv hi h
 | succ f ih =>
  intro done a inv h s
  have e : f + 1 + 1 + g = (f + 1 + g) + 1 := by omega
  rw [e]
  have h' := h
  obtain ⟨⟨i0, hi0, hr0⟩, hall⟩ := h
  refine ⟨fun h0 => (by rw [h0] at hr0; cases hr0), fun i hi => ?_⟩
  rcases hall i hi with h0 | ⟨hlt, o, v, ho, hy, hK⟩
  ·rw [h0] at hi ⊢
   exact hnow (f + 1) done a s inv hi h'
  ·refine hy.wpOp (Below.refl _ _) ho s fun t => ?_
   exact ih (done.setIfInBounds i true) _ (inv.set hi (by omega)) hK t
theorem wp_region_keep_alloc {id : Nat} {Q : Exit → Act → World → Prop} {a : Act} {l : List Oper} {om : Oper} {Z : Obj} (n : Nat) (hm : P.follows .mixedOrders = true) (hB : lexAllocB .any l.toArray n = true)
  (hom : l.toArray[n]? = some om) (hg : om.guard = none) (hrun : ∀ a w, (execOp (Act.eval a) om).run P w = .ok (.value (.pointer (some ⟨w.heap.size, 0, none⟩))) (w.alloc Z))
  (h : wpK P l.toArray W (fun a' => ∀ (w1 : World) (b : Nat), Below W.heap.size W w1 → W.heap.size ≤ b → w1.heap[b]? = some Z → ∀ a2, a2 = a'.put om.dst (.pointer (some ⟨b, 0, none⟩)) → wpList P l.toArray Q (l.drop (n + 1)) a2 w1) (l.take n) a) :
  (Code.region id l.toArray true).wp P Q a W := by
 simp only [lexAllocB, Bool.and_eq_true, decide_eq_true_eq] at hB
 obtain ⟨⟨⟨⟨⟨hsel, hn⟩, hs⟩, hc⟩, hfr⟩, hlex⟩ := hB
 have hn' : n + 1 < l.length := by simpa using hn
 have htl : (l.take n).length = n := by simp; omega
 have hdl : (l.drop (n + 1)).length = l.toArray.size - (n + 1) := by simp
 have inv : HeadInv .any l.toArray (n + 1) (Array.replicate l.toArray.size false) :=
  ⟨by simp, fun j oj _ hl => (by rw [getD_replicate_false] at hl; cases hl), fun t _ ht => getD_in (by simpa using ht) (getD_replicate_false _ _)⟩
 have H := HeadK.lex (md := .any) (g := l.toArray.size - (n + 1)) hsel hs hc hn (l.take n) 0 _ a (fun j hj => by rw [htl] at hj; simp [hj]) (by simpa using htl) inv (by rw [htl]; exact hlex) h
 refine wp_region_any hm ?_
 have H2 := HeadK.anyS (Q := Q) (g := l.toArray.size - (n + 1)) hom hsel hs hc hn hfr hg hrun (fun d a' hL => hL.1.1) (fun d a' hL w1 b h1 h2 h3 => by
  have := wpAny_of_seq (md := .any) (Q' := Q) (l.drop (n + 1)) (n + 1) (d.setIfInBounds n true) (a'.put om.dst (.pointer (some ⟨b, 0, none⟩))) w1 (fun j => by simp [List.getElem?_drop]) (by rw [hdl]; exact hL.1.2) (hL.2 w1 b h1 h2 h3 _ rfl)
  rwa [hdl] at this) _ _ _ inv H ⟨W.drew, (Below.refl _ _).drew⟩
 rw [htl, show n + 1 + (l.toArray.size - (n + 1)) = l.toArray.size by omega] at H2
 exact H2
end
open Go.RowKit
theorem maskN (a : Nat) (ha : a < 18446744073709551616) : bits .and .u64 (a : Int) 4294967295 = ((a % 4294967296 : Nat) : Int) := by
 have h := bits_and_u64_nat a 4294967295 ha (by omega)
 have e : a &&& 4294967295 = a % 4294967296 := Nat.and_two_pow_sub_one_eq_mod a 32
 rw [e] at h
 exact h
theorem divN (a : Nat) : (a : Int) / 4294967296 = ((a / 4294967296 : Nat) : Int) := by omega
theorem mulN (a b : Nat) : (a : Int) * (b : Int) = ((a * b : Nat) : Int) := (Int.natCast_mul a b).symm
theorem addN (a b : Nat) : (a : Int) + (b : Int) = ((a + b : Nat) : Int) := (Int.natCast_add a b).symm
theorem wrapN (a : Nat) (ha : a < 18446744073709551616) : IntKind.u64.wrap (a : Int) = (a : Int) := by rw [IntKind.wrap_u64]; omega
theorem wrapM (a : Nat) : IntKind.u64.wrap (a : Int) = ((a % 18446744073709551616 : Nat) : Int) := by rw [IntKind.wrap_u64]; omega
theorem mul64_nat (x y : Nat) (hx : x < 18446744073709551616) (hy : y < 18446744073709551616) (w : World) : Calls Tryz.prog 158 #[.int .u64 x, .int .u64 y] w fun e w' => e = .returned (.tuple #[.int .u64 ((x * y / 18446744073709551616 : Nat) : Int), .int .u64 ((x * y % 18446744073709551616 : Nat) : Int)]) ∧ w' = w := by
 obtain ⟨bd, bt, bw, hhi⟩ := Lib.mul64_hi x y hx hy
 have ba := Lib.half_mul_le (a := x / 4294967296) (b := y / 4294967296) (by omega) (by omega)
 have bb := Lib.half_mul_le (a := x / 4294967296) (b := y % 4294967296) (by omega) (by omega)
 have bc := Lib.half_mul_le (a := x % 4294967296) (b := y / 4294967296) (by omega) (by omega)
 have ba' : x / 4294967296 * (y / 4294967296) < 18446744073709551616 := by omega
 have bb' : x / 4294967296 * (y % 4294967296) < 18446744073709551616 := by omega
 have bc' : x % 4294967296 * (y / 4294967296) < 18446744073709551616 := by omega
 have bh1 : x / 4294967296 * (y / 4294967296) + (x / 4294967296 * (y % 4294967296) + x % 4294967296 * (y % 4294967296) / 4294967296) / 4294967296 < 18446744073709551616 := by omega
 have bh : x / 4294967296 * (y / 4294967296) + (x / 4294967296 * (y % 4294967296) + x % 4294967296 * (y % 4294967296) / 4294967296) / 4294967296 + ((x / 4294967296 * (y % 4294967296) + x % 4294967296 * (y % 4294967296) / 4294967296) % 4294967296 + x % 4294967296 * (y / 4294967296)) / 4294967296 < 18446744073709551616 := by omega
 go_enter Tryz.func158, Tryz.ntmps158
 go_wp2
 simp only [maskN x hx, maskN y hy, divN, mulN, addN, wrapN _ bd, wrapN _ bb', wrapN _ bt, maskN _ bt, wrapN _ bc', wrapN _ bw, wrapN _ ba', wrapN _ bh1, wrapN _ bh, wrapM (x * y)]
 rw [hhi]
 go_ret2
 exact ⟨rfl, rfl⟩
theorem add64_run (x y c : Int) (hx : 0 ≤ x) (hy : 0 ≤ y) (hc0 : 0 ≤ c) (hc : c ≤ 1) (w : World) :
  (callFunc 159 #[.int .u64 x, .int .u64 y, .int .u64 c]).run Tryz.prog w =
   .ok (.value (.tuple #[.int .u64 ((x + y + c) % 18446744073709551616), .int .u64 ((x + y + c) / 18446744073709551616)])) w := by
 rw [run_callFunc_extern Tryz.func159 (by kernel_rfl) (by kernel_rfl) (by kernel_rfl) (e := add64Entry) (by kernel_rfl), run_add64 x y c hx hy hc0 hc]
 simp only [Result.andThen]
abbrev wd (N : Int) : Value := .agg #[.int .u64 (N / 18446744073709551616), .int .u64 (N % 18446744073709551616)]
theorem product_any (x y : Int) (w : World) (hx : W64 x) (hy : W64 y) : Cs 122 #[.int .u64 x, .int .u64 y] w (wd (x * y)) := by
 obtain ⟨X, rfl⟩ := Int.eq_ofNat_of_zero_le hx.1
 obtain ⟨Y, rfl⟩ := Int.eq_ofNat_of_zero_le hy.1
 have hX : X < 18446744073709551616 := by have := hx.2; omega
 have hY : Y < 18446744073709551616 := by have := hy.2; omega
 clear hx hy
 go_enter Tryz.func122, Tryz.ntmps122
 go_wp2_with fail
 refine (mul64_nat X Y hX hY _).mono ?_
 rintro _ w1 ⟨rfl, rfl⟩
 go_wp2
 exact bodyPost_ret (v := wd ((X : Int) * (Y : Int))) (by simp [results, Tryz.results122, go_sem]) rfl ⟨rfl, (Below.refl _ _).alloc (Nat.le_refl _) _⟩
theorem plusH {N M : Int} (h0 : 0 ≤ N) (h1 : 0 ≤ M) (hlt : N + M < 340282366920938463463374607431768211456) : (N / 18446744073709551616 + M / 18446744073709551616 + (N % 18446744073709551616 + M % 18446744073709551616) / 18446744073709551616) % 18446744073709551616 = (N + M) / 18446744073709551616 := by omega
theorem plusL {N M : Int} : (N % 18446744073709551616 + M % 18446744073709551616) % 18446744073709551616 = (N + M) % 18446744073709551616 := by omega
theorem plus_hl (h l h' l' : Int) (w : World) (a0 : 0 ≤ h) (b0 : 0 ≤ l) (b1 : l < 18446744073709551616) (c0 : 0 ≤ h') (d0 : 0 ≤ l') (d1 : l' < 18446744073709551616) : Cs 123 #[.agg #[.int .u64 h, .int .u64 l], .agg #[.int .u64 h', .int .u64 l']] w (.agg #[.int .u64 ((h + h' + (l + l') / 18446744073709551616) % 18446744073709551616), .int .u64 ((l + l') % 18446744073709551616)]) := by
 have r1 := add64_run l l' 0 b0 d0 (by decide) (by decide)
 have r2 := add64_run h h' ((l + l' + 0) / 18446744073709551616) a0 c0 (by omega) (by omega)
 rw [Int.add_zero] at r1 r2
 go_enter Tryz.func123, Tryz.ntmps123
 go_wp2
 exact bodyPost_ret (v := .agg #[.int .u64 ((h + h' + (l + l') / 18446744073709551616) % 18446744073709551616), .int .u64 ((l + l') % 18446744073709551616)]) (by simp [results, Tryz.results123, go_sem]) rfl ⟨rfl, (((Below.refl _ _).alloc (Nat.le_refl _) _).alloc (by simp) _).alloc (by simp; omega) _⟩
theorem plus_any (N M : Int) (w : World) (h0 : 0 ≤ N) (h1 : 0 ≤ M) (hlt : N + M < 340282366920938463463374607431768211456) : Cs 123 #[wd N, wd M] w (wd (N + M)) := by
 have := plus_hl (N / 18446744073709551616) (N % 18446744073709551616) (M / 18446744073709551616) (M % 18446744073709551616) w (by omega) (by omega) (by omega) (by omega) (by omega) (by omega)
 rw [plusH h0 h1 hlt, plusL] at this
 exact this
theorem belowR (N : Int) : bits BinOp.and IntKind.u64 (N % 18446744073709551616) 2251799813685247 = N % 2251799813685248 := by
 rw [and51 ⟨by omega, by omega⟩]
 omega
theorem below_any (N : Int) (w : World) : Cs 124 #[wd N] w (.int .u64 (N % 2251799813685248)) := by
 have e := belowR N
 go_enter Tryz.func124, Tryz.ntmps124
 go_wp2
 go_ret
 exact ⟨rfl, (Below.refl _ _).alloc (Nat.le_refl _) _⟩
theorem aboveR {N : Int} (h0 : 0 ≤ N) (h1 : N < 41538374868278621028243970633760768) : bits BinOp.or IntKind.u64 (IntKind.u64.wrap (N / 18446744073709551616 * 8192)) (N % 18446744073709551616 / 2251799813685248) = N / 2251799813685248 := by
 rw [wrap64u ⟨by omega, by omega⟩, or_join 13 8192 (by decide) ⟨by omega, by omega⟩ ⟨by omega, by omega⟩ (by omega) (by omega)]
 omega
theorem above_any (N : Int) (w : World) (h0 : 0 ≤ N) (h1 : N < 41538374868278621028243970633760768) : Cs 125 #[wd N] w (.int .u64 (N / 2251799813685248)) := by
 have e := aboveR h0 h1
 clear h0 h1
 go_enter Tryz.func125, Tryz.ntmps125
 go_wp2
 go_ret
 exact ⟨rfl, (Below.refl _ _).alloc (Nat.le_refl _) _⟩
open Go.RowKit
theorem E5.Ok.wa {x : E5} (h : x.Ok) : W64 x.a := ⟨h.a0, by have := h.a1; omega⟩
theorem E5.Ok.wb {x : E5} (h : x.Ok) : W64 x.b := ⟨h.b0, by have := h.b1; omega⟩
theorem E5.Ok.vb {x : E5} (h : x.Ok) : W64 (x.b * 19) := ⟨by have := h.b0; omega, by have := h.b1; omega⟩
theorem E5.Ok.wc {x : E5} (h : x.Ok) : W64 x.c := ⟨h.c0, by have := h.c1; omega⟩
theorem E5.Ok.vc {x : E5} (h : x.Ok) : W64 (x.c * 19) := ⟨by have := h.c0; omega, by have := h.c1; omega⟩
theorem E5.Ok.wd {x : E5} (h : x.Ok) : W64 x.d := ⟨h.d0, by have := h.d1; omega⟩
theorem E5.Ok.vd {x : E5} (h : x.Ok) : W64 (x.d * 19) := ⟨by have := h.d0; omega, by have := h.d1; omega⟩
theorem E5.Ok.we {x : E5} (h : x.Ok) : W64 x.e := ⟨h.e0, by have := h.e1; omega⟩
theorem E5.Ok.ve {x : E5} (h : x.Ok) : W64 (x.e * 19) := ⟨by have := h.e0; omega, by have := h.e1; omega⟩
structure MulW (w W : World) : Prop where
 old : Below w.heap.size w W
 size : w.heap.size + 1 + 1 < W.heap.size
 free : ∀ o, W.frozen? ⟨w.heap.size + 1 + 1, o, none⟩ = false
 c0 : W.cell? ⟨w.heap.size + 1 + 1, 0, none⟩ = some (.int .u64 0)
 c1 : W.cell? ⟨w.heap.size + 1 + 1, 1, none⟩ = some (.int .u64 0)
 c2 : W.cell? ⟨w.heap.size + 1 + 1, 2, none⟩ = some (.int .u64 0)
 c3 : W.cell? ⟨w.heap.size + 1 + 1, 3, none⟩ = some (.int .u64 0)
 c4 : W.cell? ⟨w.heap.size + 1 + 1, 4, none⟩ = some (.int .u64 0)
theorem MulW.keep {w W W' : World} (h : MulW w W) (hb : Below W.heap.size W W') : MulW w W' :=
 ⟨h.old.trans (hb.mono h.old.size), Nat.lt_of_lt_of_le h.size hb.size, fun o => (hb.frozen (p := ⟨_, o, none⟩) h.size).trans (h.free o), (hb.cell (p := ⟨_, 0, none⟩) h.size).trans h.c0, (hb.cell (p := ⟨_, 1, none⟩) h.size).trans h.c1, (hb.cell (p := ⟨_, 2, none⟩) h.size).trans h.c2, (hb.cell (p := ⟨_, 3, none⟩) h.size).trans h.c3, (hb.cell (p := ⟨_, 4, none⟩) h.size).trans h.c4⟩
theorem MulW.start {w W : World} {A B : Obj} {n : Nat}
  (hb : Below ((((w.alloc A).alloc B).alloc (.cells #[.int .u64 0, .int .u64 0, .int .u64 0, .int .u64 0, .int .u64 0] 116)).drewN n).heap.size ((((w.alloc A).alloc B).alloc (.cells #[.int .u64 0, .int .u64 0, .int .u64 0, .int .u64 0, .int .u64 0] 116)).drewN n) W) : MulW w W := by
 refine MulW.keep ?_ hb
 refine ⟨?_, by simp, by simp [go_sem], by simp [go_sem], by simp [go_sem], by simp [go_sem], by simp [go_sem], by simp [go_sem]⟩
 have := (((Below.refl w.heap.size w).alloc (Nat.le_refl _) A).alloc (by simp) B).alloc (by simp; omega) (.cells #[.int .u64 0, .int .u64 0, .int .u64 0, .int .u64 0, .int .u64 0] 116)
 exact ⟨this.os, this.tape, this.output, this.size, this.block⟩
structure At (W : World) (g : Nat) (N : Int) : Prop where
 size : g < W.heap.size
 c0 : W.cell? ⟨g, 0, none⟩ = some (.int .u64 (N / 18446744073709551616))
 c1 : W.cell? ⟨g, 1, none⟩ = some (.int .u64 (N % 18446744073709551616))
theorem At.keep {W W' : World} {g : Nat} {N : Int} (h : At W g N) (hb : Below W.heap.size W W') : At W' g N :=
 ⟨Nat.lt_of_lt_of_le h.size hb.size, (hb.cell (p := ⟨g, 0, none⟩) h.size).trans h.c0, (hb.cell (p := ⟨g, 1, none⟩) h.size).trans h.c1⟩
theorem At.new (W : World) (N : Int) : At (W.alloc (.cells #[.int .u64 (N / 18446744073709551616), .int .u64 (N % 18446744073709551616)] 169)) W.heap.size N :=
 ⟨by simp, by simp [go_sem], by simp [go_sem]⟩
theorem below_new (W : World) (o : Obj) : Below W.heap.size W (W.alloc o) := (Below.refl _ _).alloc (Nat.le_refl _) _
theorem mul_any (x y : E5) (w : World) (hx : x.Ok) (hy : y.Ok) : Calls Tryz.prog 93 #[x.v, y.v] w fun r w' => r = .returned (mulF x y).v ∧ Below w.heap.size w w' := by
 have HB := hide (MB.of hx hy)
 have HS := hide (MS.of hx hy)
 have q0 := hy.b0
 have q1 := hy.b1
 have q2 := hy.c0
 have q3 := hy.c1
 have q4 := hy.d0
 have q5 := hy.d1
 have q6 := hy.e0
 have q7 := hy.e1
 go_enter Tryz.func93, Tryz.ntmps93
 go_wp2_with fail
 go_quiet (fail)
 go_wp2_with fail
 go_quiet (fail)
 go_wp2_with fail
 clear q0 q1 q2 q3 q4 q5 q6 q7
 refine (product_any x.a y.a _ hx.wa hy.wa).mono ?_
 rintro _ wv ⟨rfl, hb⟩
 have M := MulW.start hb
 clear hb
 go_wp2_with fail
 refine (product_any x.b (y.e * 19) _ hx.wb hy.ve).mono ?_
 rintro _ wv ⟨rfl, hb⟩
 replace M := M.keep hb
 clear hb
 go_wp2_with fail
 refine (plus_any (x.a * y.a) (x.b * (y.e * 19)) _ (by have B := HB.out; have := B.aa; have := B.be'; have := B.cd'; have := B.dc'; have := B.eb'; omega) (by have B := HB.out; have := B.aa; have := B.be'; have := B.cd'; have := B.dc'; have := B.eb'; omega) (by have B := HB.out; have := B.aa; have := B.be'; have := B.cd'; have := B.dc'; have := B.eb'; omega)).mono ?_
 rintro _ wv ⟨rfl, hb⟩
 replace M := M.keep hb
 clear hb
 go_wp2_with fail
 refine (product_any x.c (y.d * 19) _ hx.wc hy.vd).mono ?_
 rintro _ wv ⟨rfl, hb⟩
 replace M := M.keep hb
 clear hb
 go_wp2_with fail
 refine (plus_any (x.a * y.a + x.b * (y.e * 19)) (x.c * (y.d * 19)) _ (by have B := HB.out; have := B.aa; have := B.be'; have := B.cd'; have := B.dc'; have := B.eb'; omega) (by have B := HB.out; have := B.aa; have := B.be'; have := B.cd'; have := B.dc'; have := B.eb'; omega) (by have B := HB.out; have := B.aa; have := B.be'; have := B.cd'; have := B.dc'; have := B.eb'; omega)).mono ?_
 rintro _ wv ⟨rfl, hb⟩
 replace M := M.keep hb
 clear hb
 go_wp2_with fail
 refine (product_any x.d (y.c * 19) _ hx.wd hy.vc).mono ?_
 rintro _ wv ⟨rfl, hb⟩
 replace M := M.keep hb
 clear hb
 go_wp2_with fail
 refine (plus_any (x.a * y.a + x.b * (y.e * 19) + x.c * (y.d * 19)) (x.d * (y.c * 19)) _ (by have B := HB.out; have := B.aa; have := B.be'; have := B.cd'; have := B.dc'; have := B.eb'; omega) (by have B := HB.out; have := B.aa; have := B.be'; have := B.cd'; have := B.dc'; have := B.eb'; omega) (by have B := HB.out; have := B.aa; have := B.be'; have := B.cd'; have := B.dc'; have := B.eb'; omega)).mono ?_
 rintro _ wv ⟨rfl, hb⟩
 replace M := M.keep hb
 clear hb
 go_wp2_with fail
 refine (product_any x.e (y.b * 19) _ hx.we hy.vb).mono ?_
 rintro _ wv ⟨rfl, hb⟩
 replace M := M.keep hb
 clear hb
 go_wp2_with fail
 refine (plus_any (x.a * y.a + x.b * (y.e * 19) + x.c * (y.d * 19) + x.d * (y.c * 19)) (x.e * (y.b * 19)) _ (by have B := HB.out; have := B.aa; have := B.be'; have := B.cd'; have := B.dc'; have := B.eb'; omega) (by have B := HB.out; have := B.aa; have := B.be'; have := B.cd'; have := B.dc'; have := B.eb'; omega) (by have B := HB.out; have := B.aa; have := B.be'; have := B.cd'; have := B.dc'; have := B.eb'; omega)).mono ?_
 rintro _ wv ⟨rfl, hb⟩
 replace M := M.keep hb
 clear hb
 rw [show x.a * y.a + x.b * (y.e * 19) + x.c * (y.d * 19) + x.d * (y.c * 19) + x.e * (y.b * 19) = m0 x y from rfl]
 go_wp2_with fail
 refine (product_any x.a y.b _ hx.wa hy.wb).mono ?_
 rintro _ wv ⟨rfl, hb⟩
 replace M := (M.keep (below_new _ _)).keep hb
 have A0 := (At.new _ _).keep hb
 clear hb
 go_wp2_with fail
 refine (product_any x.b y.a _ hx.wb hy.wa).mono ?_
 rintro _ wv ⟨rfl, hb⟩
 replace M := M.keep hb
 replace A0 := A0.keep hb
 clear hb
 go_wp2_with fail
 refine (plus_any (x.a * y.b) (x.b * y.a) _ (by have B := HB.out; have := B.ab; have := B.ba; have := B.ce'; have := B.dd'; have := B.ec'; omega) (by have B := HB.out; have := B.ab; have := B.ba; have := B.ce'; have := B.dd'; have := B.ec'; omega) (by have B := HB.out; have := B.ab; have := B.ba; have := B.ce'; have := B.dd'; have := B.ec'; omega)).mono ?_
 rintro _ wv ⟨rfl, hb⟩
 replace M := M.keep hb
 replace A0 := A0.keep hb
 clear hb
 go_wp2_with fail
 refine (product_any x.c (y.e * 19) _ hx.wc hy.ve).mono ?_
 rintro _ wv ⟨rfl, hb⟩
 replace M := M.keep hb
 replace A0 := A0.keep hb
 clear hb
 go_wp2_with fail
 refine (plus_any (x.a * y.b + x.b * y.a) (x.c * (y.e * 19)) _ (by have B := HB.out; have := B.ab; have := B.ba; have := B.ce'; have := B.dd'; have := B.ec'; omega) (by have B := HB.out; have := B.ab; have := B.ba; have := B.ce'; have := B.dd'; have := B.ec'; omega) (by have B := HB.out; have := B.ab; have := B.ba; have := B.ce'; have := B.dd'; have := B.ec'; omega)).mono ?_
 rintro _ wv ⟨rfl, hb⟩
 replace M := M.keep hb
 replace A0 := A0.keep hb
 clear hb
 go_wp2_with fail
 refine (product_any x.d (y.d * 19) _ hx.wd hy.vd).mono ?_
 rintro _ wv ⟨rfl, hb⟩
 replace M := M.keep hb
 replace A0 := A0.keep hb
 clear hb
 go_wp2_with fail
 refine (plus_any (x.a * y.b + x.b * y.a + x.c * (y.e * 19)) (x.d * (y.d * 19)) _ (by have B := HB.out; have := B.ab; have := B.ba; have := B.ce'; have := B.dd'; have := B.ec'; omega) (by have B := HB.out; have := B.ab; have := B.ba; have := B.ce'; have := B.dd'; have := B.ec'; omega) (by have B := HB.out; have := B.ab; have := B.ba; have := B.ce'; have := B.dd'; have := B.ec'; omega)).mono ?_
 rintro _ wv ⟨rfl, hb⟩
 replace M := M.keep hb
 replace A0 := A0.keep hb
 clear hb
 go_wp2_with fail
 refine (product_any x.e (y.c * 19) _ hx.we hy.vc).mono ?_
 rintro _ wv ⟨rfl, hb⟩
 replace M := M.keep hb
 replace A0 := A0.keep hb
 clear hb
 go_wp2_with fail
 refine (plus_any (x.a * y.b + x.b * y.a + x.c * (y.e * 19) + x.d * (y.d * 19)) (x.e * (y.c * 19)) _ (by have B := HB.out; have := B.ab; have := B.ba; have := B.ce'; have := B.dd'; have := B.ec'; omega) (by have B := HB.out; have := B.ab; have := B.ba; have := B.ce'; have := B.dd'; have := B.ec'; omega) (by have B := HB.out; have := B.ab; have := B.ba; have := B.ce'; have := B.dd'; have := B.ec'; omega)).mono ?_
 rintro _ wv ⟨rfl, hb⟩
 replace M := M.keep hb
 replace A0 := A0.keep hb
 clear hb
 rw [show x.a * y.b + x.b * y.a + x.c * (y.e * 19) + x.d * (y.d * 19) + x.e * (y.c * 19) = m1 x y from rfl]
 go_wp2_with fail
 refine (product_any x.a y.c _ hx.wa hy.wc).mono ?_
 rintro _ wv ⟨rfl, hb⟩
 replace M := (M.keep (below_new _ _)).keep hb
 replace A0 := (A0.keep (below_new _ _)).keep hb
 have A1 := (At.new _ _).keep hb
 clear hb
 go_wp2_with fail
 refine (product_any x.b y.b _ hx.wb hy.wb).mono ?_
 rintro _ wv ⟨rfl, hb⟩
 replace M := M.keep hb
 replace A0 := A0.keep hb
 replace A1 := A1.keep hb
 clear hb
 go_wp2_with fail
 refine (plus_any (x.a * y.c) (x.b * y.b) _ (by have B := HB.out; have := B.ac; have := B.bb; have := B.ca; have := B.de'; have := B.ed'; omega) (by have B := HB.out; have := B.ac; have := B.bb; have := B.ca; have := B.de'; have := B.ed'; omega) (by have B := HB.out; have := B.ac; have := B.bb; have := B.ca; have := B.de'; have := B.ed'; omega)).mono ?_
 rintro _ wv ⟨rfl, hb⟩
 replace M := M.keep hb
 replace A0 := A0.keep hb
 replace A1 := A1.keep hb
 clear hb
 go_wp2_with fail
 refine (product_any x.c y.a _ hx.wc hy.wa).mono ?_
 rintro _ wv ⟨rfl, hb⟩
 replace M := M.keep hb
 replace A0 := A0.keep hb
 replace A1 := A1.keep hb
 clear hb
 go_wp2_with fail
 refine (plus_any (x.a * y.c + x.b * y.b) (x.c * y.a) _ (by have B := HB.out; have := B.ac; have := B.bb; have := B.ca; have := B.de'; have := B.ed'; omega) (by have B := HB.out; have := B.ac; have := B.bb; have := B.ca; have := B.de'; have := B.ed'; omega) (by have B := HB.out; have := B.ac; have := B.bb; have := B.ca; have := B.de'; have := B.ed'; omega)).mono ?_
 rintro _ wv ⟨rfl, hb⟩
 replace M := M.keep hb
 replace A0 := A0.keep hb
 replace A1 := A1.keep hb
 clear hb
 go_wp2_with fail
 refine (product_any x.d (y.e * 19) _ hx.wd hy.ve).mono ?_
 rintro _ wv ⟨rfl, hb⟩
 replace M := M.keep hb
 replace A0 := A0.keep hb
 replace A1 := A1.keep hb
 clear hb
 go_wp2_with fail
 refine (plus_any (x.a * y.c + x.b * y.b + x.c * y.a) (x.d * (y.e * 19)) _ (by have B := HB.out; have := B.ac; have := B.bb; have := B.ca; have := B.de'; have := B.ed'; omega) (by have B := HB.out; have := B.ac; have := B.bb; have := B.ca; have := B.de'; have := B.ed'; omega) (by have B := HB.out; have := B.ac; have := B.bb; have := B.ca; have := B.de'; have := B.ed'; omega)).mono ?_
 rintro _ wv ⟨rfl, hb⟩
 replace M := M.keep hb
 replace A0 := A0.keep hb
 replace A1 := A1.keep hb
 clear hb
 go_wp2_with fail
 refine (product_any x.e (y.d * 19) _ hx.we hy.vd).mono ?_
 rintro _ wv ⟨rfl, hb⟩
 replace M := M.keep hb
 replace A0 := A0.keep hb
 replace A1 := A1.keep hb
 clear hb
 go_wp2_with fail
 refine (plus_any (x.a * y.c + x.b * y.b + x.c * y.a + x.d * (y.e * 19)) (x.e * (y.d * 19)) _ (by have B := HB.out; have := B.ac; have := B.bb; have := B.ca; have := B.de'; have := B.ed'; omega) (by have B := HB.out; have := B.ac; have := B.bb; have := B.ca; have := B.de'; have := B.ed'; omega) (by have B := HB.out; have := B.ac; have := B.bb; have := B.ca; have := B.de'; have := B.ed'; omega)).mono ?_
 rintro _ wv ⟨rfl, hb⟩
 replace M := M.keep hb
 replace A0 := A0.keep hb
 replace A1 := A1.keep hb
 clear hb
 rw [show x.a * y.c + x.b * y.b + x.c * y.a + x.d * (y.e * 19) + x.e * (y.d * 19) = m2 x y from rfl]
 go_wp2_with fail
 refine (product_any x.a y.d _ hx.wa hy.wd).mono ?_
 rintro _ wv ⟨rfl, hb⟩
 replace M := (M.keep (below_new _ _)).keep hb
 replace A0 := (A0.keep (below_new _ _)).keep hb
 replace A1 := (A1.keep (below_new _ _)).keep hb
 have A2 := (At.new _ _).keep hb
 clear hb
 go_wp2_with fail
 refine (product_any x.b y.c _ hx.wb hy.wc).mono ?_
 rintro _ wv ⟨rfl, hb⟩
 replace M := M.keep hb
 replace A0 := A0.keep hb
 replace A1 := A1.keep hb
 replace A2 := A2.keep hb
 clear hb
 go_wp2_with fail
 refine (plus_any (x.a * y.d) (x.b * y.c) _ (by have B := HB.out; have := B.ad; have := B.bc; have := B.cb; have := B.da; have := B.ee'; omega) (by have B := HB.out; have := B.ad; have := B.bc; have := B.cb; have := B.da; have := B.ee'; omega) (by have B := HB.out; have := B.ad; have := B.bc; have := B.cb; have := B.da; have := B.ee'; omega)).mono ?_
 rintro _ wv ⟨rfl, hb⟩
 replace M := M.keep hb
 replace A0 := A0.keep hb
 replace A1 := A1.keep hb
 replace A2 := A2.keep hb
 clear hb
 go_wp2_with fail
 refine (product_any x.c y.b _ hx.wc hy.wb).mono ?_
 rintro _ wv ⟨rfl, hb⟩
 replace M := M.keep hb
 replace A0 := A0.keep hb
 replace A1 := A1.keep hb
 replace A2 := A2.keep hb
 clear hb
 go_wp2_with fail
 refine (plus_any (x.a * y.d + x.b * y.c) (x.c * y.b) _ (by have B := HB.out; have := B.ad; have := B.bc; have := B.cb; have := B.da; have := B.ee'; omega) (by have B := HB.out; have := B.ad; have := B.bc; have := B.cb; have := B.da; have := B.ee'; omega) (by have B := HB.out; have := B.ad; have := B.bc; have := B.cb; have := B.da; have := B.ee'; omega)).mono ?_
 rintro _ wv ⟨rfl, hb⟩
 replace M := M.keep hb
 replace A0 := A0.keep hb
 replace A1 := A1.keep hb
 replace A2 := A2.keep hb
 clear hb
 go_wp2_with fail
 refine (product_any x.d y.a _ hx.wd hy.wa).mono ?_
 rintro _ wv ⟨rfl, hb⟩
 replace M := M.keep hb
 replace A0 := A0.keep hb
 replace A1 := A1.keep hb
 replace A2 := A2.keep hb
 clear hb
 go_wp2_with fail
 refine (plus_any (x.a * y.d + x.b * y.c + x.c * y.b) (x.d * y.a) _ (by have B := HB.out; have := B.ad; have := B.bc; have := B.cb; have := B.da; have := B.ee'; omega) (by have B := HB.out; have := B.ad; have := B.bc; have := B.cb; have := B.da; have := B.ee'; omega) (by have B := HB.out; have := B.ad; have := B.bc; have := B.cb; have := B.da; have := B.ee'; omega)).mono ?_
 rintro _ wv ⟨rfl, hb⟩
 replace M := M.keep hb
 replace A0 := A0.keep hb
 replace A1 := A1.keep hb
 replace A2 := A2.keep hb
 clear hb
 go_wp2_with fail
 refine (product_any x.e (y.e * 19) _ hx.we hy.ve).mono ?_
 rintro _ wv ⟨rfl, hb⟩
 replace M := M.keep hb
 replace A0 := A0.keep hb
 replace A1 := A1.keep hb
 replace A2 := A2.keep hb
 clear hb
 go_wp2_with fail
 refine (plus_any (x.a * y.d + x.b * y.c + x.c * y.b + x.d * y.a) (x.e * (y.e * 19)) _ (by have B := HB.out; have := B.ad; have := B.bc; have := B.cb; have := B.da; have := B.ee'; omega) (by have B := HB.out; have := B.ad; have := B.bc; have := B.cb; have := B.da; have := B.ee'; omega) (by have B := HB.out; have := B.ad; have := B.bc; have := B.cb; have := B.da; have := B.ee'; omega)).mono ?_
 rintro _ wv ⟨rfl, hb⟩
 replace M := M.keep hb
 replace A0 := A0.keep hb
 replace A1 := A1.keep hb
 replace A2 := A2.keep hb
 clear hb
 rw [show x.a * y.d + x.b * y.c + x.c * y.b + x.d * y.a + x.e * (y.e * 19) = m3 x y from rfl]
 go_wp2_with fail
 refine (product_any x.a y.e _ hx.wa hy.we).mono ?_
 rintro _ wv ⟨rfl, hb⟩
 replace M := (M.keep (below_new _ _)).keep hb
 replace A0 := (A0.keep (below_new _ _)).keep hb
 replace A1 := (A1.keep (below_new _ _)).keep hb
 replace A2 := (A2.keep (below_new _ _)).keep hb
 have A3 := (At.new _ _).keep hb
 clear hb
 go_wp2_with fail
 refine (product_any x.b y.d _ hx.wb hy.wd).mono ?_
 rintro _ wv ⟨rfl, hb⟩
 replace M := M.keep hb
 replace A0 := A0.keep hb
 replace A1 := A1.keep hb
 replace A2 := A2.keep hb
 replace A3 := A3.keep hb
 clear hb
 go_wp2_with fail
 refine (plus_any (x.a * y.e) (x.b * y.d) _ (by have B := HB.out; have := B.ae; have := B.bd; have := B.cc; have := B.db; have := B.ea; omega) (by have B := HB.out; have := B.ae; have := B.bd; have := B.cc; have := B.db; have := B.ea; omega) (by have B := HB.out; have := B.ae; have := B.bd; have := B.cc; have := B.db; have := B.ea; omega)).mono ?_
 rintro _ wv ⟨rfl, hb⟩
 replace M := M.keep hb
 replace A0 := A0.keep hb
 replace A1 := A1.keep hb
 replace A2 := A2.keep hb
 replace A3 := A3.keep hb
 clear hb
 go_wp2_with fail
 refine (product_any x.c y.c _ hx.wc hy.wc).mono ?_
 rintro _ wv ⟨rfl, hb⟩
 replace M := M.keep hb
 replace A0 := A0.keep hb
 replace A1 := A1.keep hb
 replace A2 := A2.keep hb
 replace A3 := A3.keep hb
 clear hb
 go_wp2_with fail
 refine (plus_any (x.a * y.e + x.b * y.d) (x.c * y.c) _ (by have B := HB.out; have := B.ae; have := B.bd; have := B.cc; have := B.db; have := B.ea; omega) (by have B := HB.out; have := B.ae; have := B.bd; have := B.cc; have := B.db; have := B.ea; omega) (by have B := HB.out; have := B.ae; have := B.bd; have := B.cc; have := B.db; have := B.ea; omega)).mono ?_
 rintro _ wv ⟨rfl, hb⟩
 replace M := M.keep hb
 replace A0 := A0.keep hb
 replace A1 := A1.keep hb
 replace A2 := A2.keep hb
 replace A3 := A3.keep hb
 clear hb
 go_wp2_with fail
 refine (product_any x.d y.b _ hx.wd hy.wb).mono ?_
 rintro _ wv ⟨rfl, hb⟩
 replace M := M.keep hb
 replace A0 := A0.keep hb
 replace A1 := A1.keep hb
 replace A2 := A2.keep hb
 replace A3 := A3.keep hb
 clear hb
 go_wp2_with fail
 refine (plus_any (x.a * y.e + x.b * y.d + x.c * y.c) (x.d * y.b) _ (by have B := HB.out; have := B.ae; have := B.bd; have := B.cc; have := B.db; have := B.ea; omega) (by have B := HB.out; have := B.ae; have := B.bd; have := B.cc; have := B.db; have := B.ea; omega) (by have B := HB.out; have := B.ae; have := B.bd; have := B.cc; have := B.db; have := B.ea; omega)).mono ?_
 rintro _ wv ⟨rfl, hb⟩
 replace M := M.keep hb
 replace A0 := A0.keep hb
 replace A1 := A1.keep hb
 replace A2 := A2.keep hb
 replace A3 := A3.keep hb
 clear hb
 go_wp2_with fail
 refine (product_any x.e y.a _ hx.we hy.wa).mono ?_
 rintro _ wv ⟨rfl, hb⟩
 replace M := M.keep hb
 replace A0 := A0.keep hb
 replace A1 := A1.keep hb
 replace A2 := A2.keep hb
 replace A3 := A3.keep hb
 clear hb
 go_wp2_with fail
 refine (plus_any (x.a * y.e + x.b * y.d + x.c * y.c + x.d * y.b) (x.e * y.a) _ (by have B := HB.out; have := B.ae; have := B.bd; have := B.cc; have := B.db; have := B.ea; omega) (by have B := HB.out; have := B.ae; have := B.bd; have := B.cc; have := B.db; have := B.ea; omega) (by have B := HB.out; have := B.ae; have := B.bd; have := B.cc; have := B.db; have := B.ea; omega)).mono ?_
 rintro _ wv ⟨rfl, hb⟩
 replace M := M.keep hb
 replace A0 := A0.keep hb
 replace A1 := A1.keep hb
 replace A2 := A2.keep hb
 replace A3 := A3.keep hb
 clear hb
 rw [show x.a * y.e + x.b * y.d + x.c * y.c + x.d * y.b + x.e * y.a = m4 x y from rfl]
 go_wp2_with fail
 have bn := below_new wv (.cells #[.int .u64 (m4 x y / 18446744073709551616), .int .u64 (m4 x y % 18446744073709551616)] 169)
 replace M := M.keep bn
 replace A0 := A0.keep bn
 replace A1 := A1.keep bn
 replace A2 := A2.keep bn
 replace A3 := A3.keep bn
 have A4 := At.new wv (m4 x y)
 clear bn
 obtain ⟨W9, hW9⟩ : ∃ W9, wv.alloc (.cells #[.int .u64 (m4 x y / 18446744073709551616), .int .u64 (m4 x y % 18446744073709551616)] 169) = W9 := ⟨_, rfl⟩
 rw [hW9] at M A0 A1 A2 A3 A4
 rw [hW9]
 clear hW9
 obtain ⟨⟨Z0, Y0⟩, ⟨Z1, Y1⟩, ⟨Z2, Y2⟩, ⟨Z3, Y3⟩, ⟨Z4, Y4⟩⟩ := HS.out
 have HF := hide (show mulF x y = car (m0 x y % 2251799813685248 + m4 x y / 2251799813685248 * 19) (m1 x y % 2251799813685248 + m0 x y / 2251799813685248) (m2 x y % 2251799813685248 + m1 x y / 2251799813685248) (m3 x y % 2251799813685248 + m2 x y / 2251799813685248) (m4 x y % 2251799813685248 + m3 x y / 2251799813685248) from rfl)
 clear HS HB hx hy
 generalize m0 x y = n0 at *
 generalize m1 x y = n1 at *
 generalize m2 x y = n2 at *
 generalize m3 x y = n3 at *
 generalize m4 x y = n4 at *
 have k0 := fun s : KW W9 => (A0.keep s.keep).c0
 have l0 := fun s : KW W9 => (A0.keep s.keep).c1
 have k1 := fun s : KW W9 => (A1.keep s.keep).c0
 have l1 := fun s : KW W9 => (A1.keep s.keep).c1
 have k2 := fun s : KW W9 => (A2.keep s.keep).c0
 have l2 := fun s : KW W9 => (A2.keep s.keep).c1
 have k3 := fun s : KW W9 => (A3.keep s.keep).c0
 have l3 := fun s : KW W9 => (A3.keep s.keep).c1
 have k4 := fun s : KW W9 => (A4.keep s.keep).c0
 have l4 := fun s : KW W9 => (A4.keep s.keep).c1
 clear A0 A1 A2 A3 A4
 have hne : Nonempty (KW W9) := ⟨⟨W9, Below.refl _ _⟩⟩
 refine wp_region_keep_tail 27 (by kernel_rfl) (by kernel_rfl) ?_
 simp only [List.take_succ_cons, List.take_zero, List.drop_succ_cons, List.drop_zero]
 repeat (go_big_quiet_step (first | (go_at_call 124; exact keep_of (below_any _ _)) | (go_at_call 125; exact keep_of (above_any _ _ (by omega) (by omega))) | (go_at_call 105; exact keep_of (carried_any _ _ _ _ _ _ ⟨by omega, by omega⟩ ⟨by omega, by omega⟩ ⟨by omega, by omega⟩ ⟨by omega, by omega⟩ ⟨by omega, by omega⟩))))
 refine wpQuiet_nil ?_
 intro s
 have HE := HF.out
 rw [← HE]
 replace M := M.keep s.keep
 generalize s.w = W' at M ⊢
 generalize hz : mulF x y = z at HE ⊢
 have H := hide hz
 clear HE HF hz k0 k1 k2 k3 k4 l0 l1 l2 l3 l4 hne
 have H3 := hide M.old
 obtain ⟨_, hs, hf, c0, c1, c2, c3, c4⟩ := M
 clear Z0 Z1 Z2 Z3 Z4 Y0 Y1 Y2 Y3 Y4
 go_wp2
 refine bodyPost_ret (v := z.v) (by simp [results, Tryz.results93, go_sem, c0, c1, c2, c3, c4]) rfl ⟨by rw [H.out], ?_⟩
 exact set5 H3.out (by omega)
open Go.RowKit
def squaresF : Nat → E5 → E5
 | 0, x => x
 | n + 1, x => squaresF n (mulF x x)
theorem squaresF_ok : ∀ (n : Nat) {x : E5}, x.Ok → (squaresF n x).Ok
 | 0, _, h => h
 | n + 1, _, h => squaresF_ok n (mulF_ok h h)
theorem squares_any (n : Nat) : ∀ (x : E5) (w : World), x.Ok → n < 1000000 →
  Calls Tryz.prog 127 #[x.v, .int .u64 n] w fun r w' => r = .returned (squaresF n x).v ∧ Below w.heap.size w w' := by
 induction n with
 | zero =>
  intro x w hx _
  go_enter Tryz.func127, Tryz.ntmps127
  go_wp2
  exact bodyPost_ret (v := x.v) (by simp [results, Tryz.results127, go_sem]) rfl ⟨rfl, ((Below.refl _ _).alloc (Nat.le_refl _) _).alloc (by simp) _⟩
 | succ n ih =>
  intro x w hx hn
  have HI := hide ih
  clear ih
  have h0 : (((n + 1 : Nat) : Int) == 0) = false := beq_eq_false_iff_ne.2 (by omega)
  have e : ((n + 1 : Nat) : Int) = (n : Int) + 1 := by omega
  rw [e] at h0
  rw [e]
  go_enter Tryz.func127, Tryz.ntmps127
  go_wp2_with fail
  have R := Out.start1 w (.cells #[.int .u64 x.a, .int .u64 x.b, .int .u64 x.c, .int .u64 x.d, .int .u64 x.e] 116)
  refine (mul_any x x _ hx hx).mono ?_
  rintro _ w1 ⟨rfl, hb⟩
  replace R := R.keep hb
  clear hb
  go_wp2_with fail
  refine (HI.out (mulF x x) _ (mulF_ok hx hx) (by omega)).mono ?_
  rintro _ w2 ⟨rfl, hb⟩
  replace R := R.keep hb
  clear hb HI
  rw [show squaresF n (mulF x x) = squaresF (n + 1) x from rfl]
  generalize hz : squaresF (n + 1) x = z
  have H := hide hz
  obtain ⟨old, ge, hs, hf, c0, c1, c2, c3, c4⟩ := R
  have O := hide old
  clear old hz
  go_wp2
  refine bodyPost_ret (v := z.v) (by simp [results, Tryz.results127, go_sem, c0, c1, c2, c3, c4]) rfl ⟨by rw [H.out], ?_⟩
  exact five O.out ge
open Go.RowKit
attribute [local go_sem] keepOp keepAt keepUpon
def onesF (x : E5) : Nat → Nat → E5
 | 0, _ => smallF 1
 | f + 1, n => if n = 0 then smallF 1 else
  if n % 2 = 0 then mulF (squaresF (n / 2) (onesF x f (n / 2))) (onesF x f (n / 2))
  else mulF (squaresF 1 (mulF (squaresF (n / 2) (onesF x f (n / 2))) (onesF x f (n / 2)))) x
theorem onesF_ok {x : E5} (hx : x.Ok) : ∀ (f n : Nat), (onesF x f n).Ok
 | 0, _ => smallF_ok (by decide) (by decide)
 | f + 1, n => by
  have h := onesF_ok hx f (n / 2)
  unfold onesF
  split
  ·exact smallF_ok (by decide) (by decide)
  ·split
   ·exact mulF_ok (squaresF_ok _ h) h
   ·exact mulF_ok (squaresF_ok _ (mulF_ok (squaresF_ok _ h) h)) hx
theorem squares_half (n : Nat) (x : E5) (w : World) (hx : x.Ok) (hn : n < 1000000) : Calls Tryz.prog 127 #[x.v, .int .u64 ((n : Int) / 2)] w fun r w' => r = .returned (squaresF (n / 2) x).v ∧ Below w.heap.size w w' := by
 rw [show (n : Int) / 2 = ((n / 2 : Nat) : Int) from by omega]
 exact squares_any (n / 2) x w hx (by omega)
theorem squares_1 (x : E5) (w : World) (hx : x.Ok) : Calls Tryz.prog 127 #[x.v, .int .u64 1] w fun r w' => r = .returned (squaresF 1 x).v ∧ Below w.heap.size w w' := squares_any 1 x w hx (by decide)
theorem squares_3 (x : E5) (w : World) (hx : x.Ok) : Calls Tryz.prog 127 #[x.v, .int .u64 3] w fun r w' => r = .returned (squaresF 3 x).v ∧ Below w.heap.size w w' := squares_any 3 x w hx (by decide)
theorem squares_5 (x : E5) (w : World) (hx : x.Ok) : Calls Tryz.prog 127 #[x.v, .int .u64 5] w fun r w' => r = .returned (squaresF 5 x).v ∧ Below w.heap.size w w' := squares_any 5 x w hx (by decide)
theorem ones_any (x : E5) (hx : x.Ok) (f : Nat) : ∀ (n : Nat) (w : World), n < 2 ^ f → n < 1000000 →
  Calls Tryz.prog 126 #[x.v, .int .u64 n] w fun r w' => r = .returned (onesF x f n).v ∧ Below w.heap.size w w' := by
 induction f with
 | zero =>
  intro n w hn _
  have e : n = 0 := by omega
  subst e
  go_enter Tryz.func126, Tryz.ntmps126
  go_wp2_with fail
  have R := Out.start1 w (.cells #[.int .u64 x.a, .int .u64 x.b, .int .u64 x.c, .int .u64 x.d, .int .u64 x.e] 116)
  refine (small_any 1 _ (by decide) (by decide)).mono ?_
  rintro _ w1 ⟨rfl, hb⟩
  replace R := R.keep hb
  clear hb
  rw [show smallF 1 = onesF x 0 0 from rfl]
  generalize hz : onesF x 0 0 = z
  have H := hide hz
  obtain ⟨old, ge, hs, hf, c0, c1, c2, c3, c4⟩ := R
  have O := hide old
  clear old hz
  go_wp2
  refine bodyPost_ret (v := z.v) (by simp [results, Tryz.results126, go_sem, c0, c1, c2, c3, c4]) rfl ⟨by rw [H.out], ?_⟩
  exact five O.out ge
 | succ f ih =>
  intro n w hn hlt
  have HI := hide ih
  clear ih
  by_cases h0 : n = 0
  ·subst h0
   go_enter Tryz.func126, Tryz.ntmps126
   go_wp2_with fail
   have R := Out.start1 w (.cells #[.int .u64 x.a, .int .u64 x.b, .int .u64 x.c, .int .u64 x.d, .int .u64 x.e] 116)
   refine (small_any 1 _ (by decide) (by decide)).mono ?_
   rintro _ w1 ⟨rfl, hb⟩
   replace R := R.keep hb
   clear hb
   have e : onesF x (f + 1) 0 = smallF 1 := by simp [onesF]
   rw [← e]
   generalize hz : onesF x (f + 1) 0 = z
   have H := hide hz
   obtain ⟨old, ge, hs, hf, c0, c1, c2, c3, c4⟩ := R
   have O := hide old
   clear old hz e
   go_wp2
   refine bodyPost_ret (v := z.v) (by simp [results, Tryz.results126, go_sem, c0, c1, c2, c3, c4]) rfl ⟨by rw [H.out], ?_⟩
   exact five O.out ge
  ·have b0 : ((n : Int) == 0) = false := beq_eq_false_iff_ne.2 (by omega)
   have hp : n / 2 < 2 ^ f := by
    have : 2 ^ (f + 1) = 2 * 2 ^ f := by rw [Nat.pow_succ, Nat.mul_comm]
    omega
   have ok := onesF_ok hx f (n / 2)
   by_cases hodd : n % 2 = 0
   all_goals
    go_enter Tryz.func126, Tryz.ntmps126
    go_wp2_with fail
    have R := Out.start1 w (.cells #[.int .u64 x.a, .int .u64 x.b, .int .u64 x.c, .int .u64 x.d, .int .u64 x.e] 116)
    have A := EAt.new1 w x (.cells #[.int .u64 0, .int .u64 0, .int .u64 0, .int .u64 0, .int .u64 0] 116)
    rw [show (n : Int) / 2 = ((n / 2 : Nat) : Int) from by omega]
    refine (HI.out (n / 2) _ hp (by omega)).mono ?_
    rintro _ w1 ⟨rfl, hb⟩
    replace R := R.keep hb
    replace A := A.keep hb
    clear hb HI
    have he : onesF x (f + 1) n = if n % 2 = 0 then mulF (squaresF (n / 2) (onesF x f (n / 2))) (onesF x f (n / 2)) else mulF (squaresF 1 (mulF (squaresF (n / 2) (onesF x f (n / 2))) (onesF x f (n / 2)))) x := by
     rw [onesF, if_neg h0]
    first | rw [if_pos hodd] at he | rw [if_neg hodd] at he
    have HE := hide he
    clear he
    generalize onesF x f (n / 2) = half at *
    go_wp2_with fail
    replace R := R.keep (new_below w1 (.cells #[.int .u64 half.a, .int .u64 half.b, .int .u64 half.c, .int .u64 half.d, .int .u64 half.e] 116))
    replace A := A.keep (new_below w1 (.cells #[.int .u64 half.a, .int .u64 half.b, .int .u64 half.c, .int .u64 half.d, .int .u64 half.e] 116))
    have B := EAt.new w1 half 116
    generalize w1.heap.size = g at *
    generalize w1.alloc (.cells #[.int .u64 half.a, .int .u64 half.b, .int .u64 half.c, .int .u64 half.d, .int .u64 half.e] 116) = W at *
    have hne := KW.some W
    have a0 := B.k0
    have a1 := B.k1
    have a2 := B.k2
    have a3 := B.k3
    have a4 := B.k4
    refine wp_region_keep_alloc (Z := .cells #[.int .u64 0, .int .u64 0, .int .u64 0, .int .u64 0, .int .u64 0] 116) 6 (by kernel_rfl) (by kernel_rfl) rfl rfl (fun _ _ => by kernel_rfl) ?_
    simp only [List.take_succ_cons, List.take_zero, List.drop_succ_cons, List.drop_zero]
    refine wpK_step (fun K hK => ?_)
    go_simp
    refine hK _ ?_
    clear hK K
    refine wpK_step (fun K hK => ?_)
    go_simp
    refine hK _ ?_
    clear hK K
    refine wpK_step (fun K hK => ?_)
    go_simp
    refine hK _ ?_
    clear hK K
    rw [show IntKind.u64.wrap ((n : Int) / 2) = (n : Int) / 2 from wrap64u ⟨by omega, by omega⟩]
    refine wpK_step (fun K hK => ?_)
    go_simp
    refine ⟨_, fun s => squares_half n half _ ok hlt, hK _ ?_⟩
    clear hK K
    refine wpK_step (fun K hK => ?_)
    go_simp
    refine hK _ ?_
    clear hK K
    refine wpK_step (fun K hK => ?_)
    go_simp
    refine ⟨_, fun s => mul_any _ _ _ (squaresF_ok _ ok) ok, hK _ ?_⟩
    clear hK K
    refine wpK_nil ?_
    intro W1 gb hb1 hb2 hb3 a2 ha2
    simp [go_sem] at ha2
    subst ha2
    clear a0 a1 a2 a3 a4 hne
    have sz := A.size
    have sz2 := R.lie.size
    replace R := R.keep hb1
    replace A := A.keep hb1
    have G := EAt.of_zero hb3
    clear B hb1 hb3
    have ok2 := mulF_ok (squaresF_ok (n / 2) ok) ok
    generalize mulF (squaresF (n / 2) half) half = even at *
    have n1 : ¬ w.heap.size + 1 = gb := by omega
    have n2 : ¬ gb = w.heap.size + 1 := by omega
    have GE := G.put even
    obtain ⟨gs, gf, g0, g1, g2, g3, g4⟩ := G
    have ev : ((n : Int) % 2 == 0) = decide (n % 2 = 0) := by rw [Bool.eq_iff_iff]; simp; omega
   ·rw [decide_eq_true hodd] at ev
    obtain ⟨old, ge, hs, hf, c0, c1, c2, c3, c4⟩ := R
    have O := hide old
    clear old A GE hn h0 hp
    go_wp2_with fail
    refine bodyPost_ret (v := even.v) (by simp [results, Tryz.results126, go_sem, c0, c1, c2, c3, c4]) rfl ⟨by rw [HE.out], ?_⟩
    exact five (five O.out (by omega)) ge
   ·rw [decide_eq_false hodd] at ev
    have RR := hide (R.other (k := gb) (by omega) (by omega) even)
    have AA := hide (A.other (k := gb) (by omega) even)
    have BB := hide GE
    clear A R GE
    go_wp2_with fail
    replace R := RR.out
    replace A := AA.out
    replace B := BB.out
    clear RR AA BB gs gf g0 g1 g2 g3 g4
    obtain ⟨W2, hW2⟩ : ∃ W2, put5 W1 gb even = W2 := ⟨_, rfl⟩
    rw [hW2] at R A B
    rw [show (((((W1.setCell ⟨gb, 0, none⟩ (.int .u64 even.a)).setCell ⟨gb, 1, none⟩ (.int .u64 even.b)).setCell ⟨gb, 2, none⟩ (.int .u64 even.c)).setCell ⟨gb, 3, none⟩ (.int .u64 even.d)).setCell ⟨gb, 4, none⟩ (.int .u64 even.e)) = W2 from hW2]
    clear hW2
    have hne := KW.some W2
    have a0 := B.k0
    have a1 := B.k1
    have a2 := B.k2
    have a3 := B.k3
    have a4 := B.k4
    have b0 := A.k0
    have b1 := A.k1
    have b2 := A.k2
    have b3 := A.k3
    have b4 := A.k4
    clear A B
    refine wp_region_keep_tail 4 (by kernel_rfl) (by kernel_rfl) ?_
    simp only [List.take_succ_cons, List.take_zero, List.drop_succ_cons, List.drop_zero]
    repeat (go_big_quiet_step (first | (go_at_call 127; exact keep_of (squares_1 even _ ok2)) | (go_at_call 93; exact keep_of (mul_any _ _ _ (squaresF_ok _ ok2) hx))))
    refine wpQuiet_nil ?_
    intro s
    clear a0 a1 a2 a3 a4 b0 b1 b2 b3 b4 hne
    replace R := R.keep s.keep
    generalize s.w = W3 at R ⊢
    generalize mulF (squaresF 1 even) x = z at *
    obtain ⟨old, ge, hs, hf, c0, c1, c2, c3, c4⟩ := R
    have O := hide old
    clear old
    go_wp2
    refine bodyPost_ret (v := z.v) (by simp [results, Tryz.results126, go_sem, c0, c1, c2, c3, c4]) rfl ⟨by rw [HE.out], ?_⟩
    exact five O.out ge
open Go.RowKit
def eqw (f g : NI) : Nat → Nat → Bool
 | _, 0 => true
 | k, m + 1 => (f k == g k) && eqw f g (k + 1) m
theorem run_eqs_from (d n : Nat) (f g : NI) (w : World) : ∀ (m k : Nat), k + m ≤ n →
  Sem.run Tryz.prog (forIn (List.range' k m 1) ((none, ()) : Option Bool × Unit) fun i _ => do
   let a ← part 86 (arr n f) i
   let b ← part 86 (arr n g) i
   let r ← Op.equalIn (d + 1) 86 a b
   if (!r) = true then pure (ForInStep.done (some false, ())) else pure (ForInStep.yield (none, ()))) w = .ok (if eqw f g k m = true then none else some false, ()) w := by
 intro m
 induction m with
 | zero => intro k _; simp [eqw, Sem.run_pure]
 | succ m ih =>
  intro k hk
  have hp : ∀ h : Nat → Int, (part 86 (arr n h) k).run Tryz.prog w = .ok (.int .u64 (h k)) w := fun h => by
   have ha : (isAgg 86).run Tryz.prog w = .ok false w := by kernel_rfl
   simp [part, Sem.run_bind, ha, arr_get n h k (by omega)]
  simp only [List.range'_succ, List.forIn_cons, Sem.run_bind, hp, Result.andThen_ok, run_equalIn_int w d 86 .u64 .u64 (f k) (g k) Tryz.underlying86]
  cases hc : (f k == g k)
  ·simp [eqw, hc, Sem.run_pure]
  ·simp only [Bool.not_true, Bool.false_eq_true, if_false, Sem.run_pure, Result.andThen_ok, eqw, hc, Bool.true_and]
   exact ih (k + 1) (by omega)
theorem run_equalIn_words (d : Nat) (t : TypeId) (n : Nat) (f g : NI) (w : World) (ht : Tryz.prog.underlying t = some (.array n 86)) :
  (Op.equalIn (d + 1 + 1) t (.agg (arr n f)) (.agg (arr n g))).run Tryz.prog w = .ok (eqw f g 0 n) w := by
 have hz : (sizeOf 86).run Tryz.prog w = .ok 1 w := by kernel_rfl
 rw [Op.equalIn]
 simp only [Sem.run_bind, run_underlying ht, Result.andThen_ok, hz, Nat.mul_one]
 rw [Std.Legacy.Range.forIn_eq_forIn_range']
 have e : ([:n] : Std.Legacy.Range).size = n := by simp [Std.Legacy.Range.size]
 rw [e]
 have h := run_eqs_from d n f g w n 0 (by omega)
 rw [h]
 cases hc : eqw f g 0 n <;> simp [Sem.run_pure]
theorem run_eql_words (t : TypeId) (n : Nat) (f g : NI) (w : World) (ht : Tryz.prog.underlying t = some (.array n 86)) :
  (binOp .eql t (.agg (arr n f)) (.agg (arr n g))).run Tryz.prog w = .ok (.bool (eqw f g 0 n)) w := by
 rw [run_eql_struct, run_equalIn_words 9998 t n f g w ht]
 rfl
def E5.fn (x : E5) (i : Nat) : Int := [x.a, x.b, x.c, x.d, x.e].getD i 0
def eq5 (x y : E5) : Bool := eqw x.fn y.fn 0 5
theorem run_eql_e5 (x y : E5) (w : World) : (binOp .eql 114 x.v y.v).run Tryz.prog w = .ok (.bool (eq5 x y)) w :=
 run_eql_words 114 5 x.fn y.fn w Tryz.underlying114
theorem eq5_iff (x y : E5) : eq5 x y = true ↔ x = y := by
 obtain ⟨a, b, c, d, e⟩ := x
 obtain ⟨f, g, h, i, j⟩ := y
 simp only [eq5, eqw, E5.fn, E5.mk.injEq]
 simp
theorem eqw_iff (f g : NI) : ∀ (m k : Nat), eqw f g k m = true ↔ ∀ i, k ≤ i → i < k + m → f i = g i := by
 intro m
 induction m with
 | zero => intro k; simp only [eqw]; exact ⟨fun _ i h1 h2 => by omega, fun _ => trivial⟩
 | succ m ih =>
  intro k
  simp only [eqw, Bool.and_eq_true, beq_iff_eq, ih (k + 1)]
  constructor
  ·intro h i h1 h2
   by_cases e : i = k
   ·rw [e]; exact h.1
   ·exact h.2 i (by omega) (by omega)
  ·intro h
   exact ⟨h k (by omega) (by omega), fun i h1 h2 => h i (by omega) (by omega)⟩
open Go.RowKit
theorem low_inj {x y : E5} (hx : x.Low) (hy : y.Low) (h : x.n = y.n) : x = y := by
 obtain ⟨a, b, c, d, e⟩ := x
 obtain ⟨f, g, i, j, k⟩ := y
 obtain ⟨a0, a1, b0, b1, c0, c1, d0, d1, e0, e1⟩ := hx
 obtain ⟨f0, f1, g0, g1, h0, h1, i0, i1, j0, j1⟩ := hy
 simp only [E5.n] at *
 have h1 : a = f := by omega
 have h2 : b = g := by omega
 have h3 : c = i := by omega
 have h4 : d = j := by omega
 have h5 : e = k := by omega
 rw [h1, h2, h3, h4, h5]
theorem sameR {x y : E5} (hx : x.Ok) (hy : y.Ok) : eq5 (leastF x) (leastF y) = (x.n % Pm == y.n % Pm) := by
 rw [Bool.eq_iff_iff, eq5_iff, beq_iff_eq, ← leastF_n hx, ← leastF_n hy]
 exact ⟨fun h => by rw [h], fun h => low_inj (leastF_low x) (leastF_low y) h⟩
theorem same_any (x y : E5) (w : World) (hx : x.Ok) (hy : y.Ok) : Cs 69 #[x.v, y.v] w (.bool (x.n % Pm == y.n % Pm)) := by
 have hg : Tryz.prog.eqGuardType Tryz.prog.depth 114 = false := by kernel_rfl
 have he := run_eql_e5 (leastF x) (leastF y)
 go_enter Tryz.func69, Tryz.ntmps69
 go_wp2_with fail
 have A := (EAt.new w x 116).alloc (.cells #[.int .u64 y.a, .int .u64 y.b, .int .u64 y.c, .int .u64 y.d, .int .u64 y.e] 116)
 have B := EAt.new (w.alloc (.cells #[.int .u64 x.a, .int .u64 x.b, .int .u64 x.c, .int .u64 x.d, .int .u64 x.e] 116)) y 116
 rw [World.size_alloc] at B
 have O := hide (((Below.refl w.heap.size w).alloc (Nat.le_refl _) (.cells #[.int .u64 x.a, .int .u64 x.b, .int .u64 x.c, .int .u64 x.d, .int .u64 x.e] 116)).alloc (by simp) (.cells #[.int .u64 y.a, .int .u64 y.b, .int .u64 y.c, .int .u64 y.d, .int .u64 y.e] 116))
 generalize (w.alloc (.cells #[.int .u64 x.a, .int .u64 x.b, .int .u64 x.c, .int .u64 x.d, .int .u64 x.e] 116)).alloc (.cells #[.int .u64 y.a, .int .u64 y.b, .int .u64 y.c, .int .u64 y.d, .int .u64 y.e] 116) = W at A B O ⊢
 have hne := KW.some W
 have c0 := A.k0
 have d0 := B.k0
 have c1 := A.k1
 have d1 := B.k1
 have c2 := A.k2
 have d2 := B.k2
 have c3 := A.k3
 have d3 := B.k3
 have c4 := A.k4
 have d4 := B.k4
 clear A B
 refine wp_region_keep (by kernel_rfl) (by kernel_rfl) ?_
 repeat (go_big_quiet_step ((go_at_call 95; exact keep_of (least_any _ _ (by first | exact hx | exact hy)))))
 refine wpQuiet_nil ?_
 intro s
 have hw := O.out.trans (s.keep.mono O.out.size)
 have HR := hide (sameR hx hy)
 clear he hg c0 c1 c2 c3 c4 d0 d1 d2 d3 d4 O hne
 go_wp2
 go_ret
 exact ⟨by rw [← HR.out]; rfl, hw⟩
open Go.RowKit
theorem ones_250 (x : E5) (w : World) (hx : x.Ok) : Calls Tryz.prog 126 #[x.v, .int .u64 250] w fun r w' => r = .returned (onesF x 8 250).v ∧ Below w.heap.size w w' := ones_any x hx 8 250 w (by decide) (by decide)
theorem ones_2 (x : E5) (w : World) (hx : x.Ok) : Calls Tryz.prog 126 #[x.v, .int .u64 2] w fun r w' => r = .returned (onesF x 8 2).v ∧ Below w.heap.size w w' := ones_any x hx 8 2 w (by decide) (by decide)
def invF (x : E5) : E5 := mulF (mulF (squaresF 5 (onesF x 8 250)) (squaresF 3 x)) (onesF x 8 2)
theorem invF_ok {x : E5} (hx : x.Ok) : (invF x).Ok := mulF_ok (mulF_ok (squaresF_ok _ (onesF_ok hx _ _)) (squaresF_ok _ hx)) (onesF_ok hx _ _)
theorem inv_any (x : E5) (w : World) (hx : x.Ok) : Calls Tryz.prog 94 #[x.v] w fun r w' => r = .returned (invF x).v ∧ Below w.heap.size w w' := by
 have k1 := onesF_ok hx 8 250
 have k2 := onesF_ok hx 8 2
 have HE := hide (show invF x = mulF (mulF (squaresF 5 (onesF x 8 250)) (squaresF 3 x)) (onesF x 8 2) from rfl)
 go_enter Tryz.func94, Tryz.ntmps94
 go_wp2_with fail
 have R := Out.start1 w (.cells #[.int .u64 x.a, .int .u64 x.b, .int .u64 x.c, .int .u64 x.d, .int .u64 x.e] 116)
 have A := EAt.new1 w x (.cells #[.int .u64 0, .int .u64 0, .int .u64 0, .int .u64 0, .int .u64 0] 116)
 generalize (w.alloc (.cells #[.int .u64 x.a, .int .u64 x.b, .int .u64 x.c, .int .u64 x.d, .int .u64 x.e] 116)).alloc (.cells #[.int .u64 0, .int .u64 0, .int .u64 0, .int .u64 0, .int .u64 0] 116) = W at R A ⊢
 have hne := KW.some W
 have a0 := A.k0
 have a1 := A.k1
 have a2 := A.k2
 have a3 := A.k3
 have a4 := A.k4
 clear A
 refine wp_region_keep_tail 9 (by kernel_rfl) (by kernel_rfl) ?_
 simp only [List.take_succ_cons, List.take_zero, List.drop_succ_cons, List.drop_zero]
 iterate 1 go_big_quiet_step (fail)
 go_big_quiet_step ((exact keep_of (ones_250 x _ hx)))
 generalize onesF x 8 250 = y1 at *
 go_big_quiet_step ((exact keep_of (squares_5 y1 _ k1)))
 have k3 := squaresF_ok 5 k1
 generalize squaresF 5 y1 = y2 at *
 go_big_quiet_step (fail)
 go_big_quiet_step ((exact keep_of (squares_3 x _ hx)))
 have k4 := squaresF_ok 3 hx
 generalize squaresF 3 x = y3 at *
 go_big_quiet_step ((exact keep_of (mul_any y2 y3 _ k3 k4)))
 have k5 := mulF_ok k3 k4
 generalize mulF y2 y3 = y4 at *
 go_big_quiet_step (fail)
 go_big_quiet_step ((exact keep_of (ones_2 x _ hx)))
 generalize onesF x 8 2 = y5 at *
 go_big_quiet_step ((exact keep_of (mul_any y4 y5 _ k5 k2)))
 generalize mulF y4 y5 = z at *
 refine wpQuiet_nil ?_
 intro s
 clear a0 a1 a2 a3 a4 hne k1 k2 k3 k4 k5
 replace R := R.keep s.keep
 generalize s.w = W3 at R ⊢
 obtain ⟨old, ge, hs, hf, c0, c1, c2, c3, c4⟩ := R
 have O := hide old
 clear old
 go_wp2
 refine bodyPost_ret (v := z.v) (by simp [results, Tryz.results94, go_sem, c0, c1, c2, c3, c4]) rfl ⟨by rw [HE.out], ?_⟩
 exact five O.out ge
open Go.RowKit
def sqz (y : Int) : Nat → Int
 | 0 => y
 | n + 1 => sqz (y * y) n
def onz (x : Int) : Nat → Int
 | 0 => 1
 | k + 1 => onz x k * onz x k * x
theorem sqz_succ (n : Nat) : ∀ y, sqz y (n + 1) = sqz y n * sqz y n := by
 induction n with
 | zero => intro y; rfl
 | succ n ih => intro y; exact ih (y * y)
theorem onz_add (x : Int) (m : Nat) : ∀ k, onz x (m + k) = sqz (onz x m) k * onz x k
 | 0 => by simp [sqz, onz]
 | k + 1 => by
  have ih := onz_add x m k
  rw [← Nat.add_assoc]
  simp only [onz]
  rw [ih, sqz_succ]
  generalize sqz (onz x m) k = a
  generalize onz x k = b
  simp only [Int.mul_assoc, Int.mul_left_comm b a]
theorem sqz_cg {y z : Int} : ∀ {n : Nat}, Cg y z → Cg (sqz y n) (sqz z n) := by
 intro n
 induction n generalizing y z with
 | zero => intro h; exact h
 | succ n ih => intro h; exact ih (h.mul h)
theorem squaresF_n : ∀ (n : Nat) (x : E5), Cg (squaresF n x).n (sqz x.n n)
 | 0, _ => Cg.refl _
 | n + 1, x => (squaresF_n n (mulF x x)).trans (sqz_cg (mulF_n x x))
theorem onesF_n (x : E5) : ∀ (f n : Nat), n < 2 ^ f → Cg (onesF x f n).n (onz x.n n) := by
 intro f
 induction f with
 | zero =>
  intro n h
  have e : n = 0 := by omega
  subst e
  exact smallF_n 1
 | succ f ih =>
  intro n h
  unfold onesF
  by_cases h0 : n = 0
  ·rw [if_pos h0]
   subst h0
   exact smallF_n 1
  ·rw [if_neg h0]
   have hp : 2 ^ (f + 1) = 2 * 2 ^ f := by rw [Nat.pow_succ, Nat.mul_comm]
   have hh := ih (n / 2) (by omega)
   have he : Cg (mulF (squaresF (n / 2) (onesF x f (n / 2))) (onesF x f (n / 2))).n (onz x.n (n / 2 + n / 2)) := by
    rw [onz_add]
    exact (mulF_n _ _).trans (((squaresF_n _ _).trans (sqz_cg hh)).mul hh)
   by_cases h2 : n % 2 = 0
   ·rw [if_pos h2]
    rw [show n / 2 + n / 2 = n by omega] at he
    exact he
   ·rw [if_neg h2]
    refine (mulF_n _ _).trans ?_
    have e : onz x.n n = onz x.n (n / 2 + n / 2) * onz x.n (n / 2 + n / 2) * x.n := by
     rw [show onz x.n n = onz x.n (n / 2 + n / 2 + 1) by congr 1; omega]
     rfl
    rw [e]
    exact ((squaresF_n 1 _).trans (he.mul he)).mul (Cg.refl _)
theorem invF_n (x : E5) : Cg (invF x).n (sqz (onz x.n 250) 5 * sqz x.n 3 * onz x.n 2) := by
 unfold invF
 exact (mulF_n _ _).trans (((mulF_n _ _).trans (((squaresF_n 5 _).trans (sqz_cg (onesF_n x 8 250 (by decide)))).mul (squaresF_n 3 x))).mul (onesF_n x 8 2 (by decide)))
def pQ : Nat := 57896044618658097711785492504343953926634992332820282019728792003956564819948
abbrev pN : Nat := pQ + 1
theorem pN_P : (pN : Int) = Pm := by decide
open Go.RowKit
theorem digs4 {a b c d : Int} (ha : 0 ≤ a ∧ a < 65536) (hb : 0 ≤ b ∧ b < 65536) (hc : 0 ≤ c ∧ c < 65536) (_hd : 0 ≤ d ∧ d < 65536) :
  digs (a + 65536 * b + 4294967296 * c + 281474976710656 * d) = [a % 256, a / 256 % 256, b % 256, b / 256 % 256, c % 256, c / 256 % 256, d % 256, d / 256 % 256] := by
 unfold digs
 have h1 : (a + 65536 * b + 4294967296 * c + 281474976710656 * d) % 256 = a % 256 := by omega
 have h2 : (a + 65536 * b + 4294967296 * c + 281474976710656 * d) / 256 % 256 = a / 256 % 256 := by omega
 have h3 : (a + 65536 * b + 4294967296 * c + 281474976710656 * d) / 65536 % 256 = b % 256 := by omega
 have h4 : (a + 65536 * b + 4294967296 * c + 281474976710656 * d) / 16777216 % 256 = b / 256 % 256 := by omega
 have h5 : (a + 65536 * b + 4294967296 * c + 281474976710656 * d) / 4294967296 % 256 = c % 256 := by omega
 have h6 : (a + 65536 * b + 4294967296 * c + 281474976710656 * d) / 1099511627776 % 256 = c / 256 % 256 := by omega
 have h7 : (a + 65536 * b + 4294967296 * c + 281474976710656 * d) / 281474976710656 % 256 = d % 256 := by omega
 have h8 : (a + 65536 * b + 4294967296 * c + 281474976710656 * d) / 72057594037927936 % 256 = d / 256 % 256 := by omega
 rw [h1, h2, h3, h4, h5, h6, h7, h8]
theorem S16 (f : NI) : S f 16 = f 0 + f 1 * 65536 + f 2 * 4294967296 + f 3 * 281474976710656 + f 4 * 18446744073709551616 + f 5 * 1208925819614629174706176 + f 6 * 79228162514264337593543950336 + f 7 * 5192296858534827628530496329220096 + f 8 * 340282366920938463463374607431768211456 + f 9 * 22300745198530623141535718272648361505980416 + f 10 * 1461501637330902918203684832716283019655932542976 + f 11 * 95780971304118053647396689196894323976171195136475136 + f 12 * 6277101735386680763835789423207666416102355444464034512896 + f 13 * 411376139330301510538742295639337626245683966408394965837152256 + f 14 * 26959946667150639794667015087019630673637144422540572481103610249216 + f 15 * 1766847064778384329583297500742918515827483896875618958121606201292619776 := by
 simp [S]
theorem lebytes_S {f : NI} (hf : Dig f 16) : lebytes (S f 16) = bs (rb f 32) := by
 have h0 := hf 0 (by omega)
 have h1 := hf 1 (by omega)
 have h2 := hf 2 (by omega)
 have h3 := hf 3 (by omega)
 have h4 := hf 4 (by omega)
 have h5 := hf 5 (by omega)
 have h6 := hf 6 (by omega)
 have h7 := hf 7 (by omega)
 have h8 := hf 8 (by omega)
 have h9 := hf 9 (by omega)
 have h10 := hf 10 (by omega)
 have h11 := hf 11 (by omega)
 have h12 := hf 12 (by omega)
 have h13 := hf 13 (by omega)
 have h14 := hf 14 (by omega)
 have h15 := hf 15 (by omega)
 have e := S16 f
 have w0 : S f 16 % 18446744073709551616 = f 0 + 65536 * f 1 + 4294967296 * f 2 + 281474976710656 * f 3 := by rw [e]; omega
 have w1 : S f 16 / 18446744073709551616 % 18446744073709551616 = f 4 + 65536 * f 5 + 4294967296 * f 6 + 281474976710656 * f 7 := by rw [e]; omega
 have w2 : S f 16 / 340282366920938463463374607431768211456 % 18446744073709551616 = f 8 + 65536 * f 9 + 4294967296 * f 10 + 281474976710656 * f 11 := by rw [e]; omega
 have w3 : S f 16 / 6277101735386680763835789423207666416102355444464034512896 % 18446744073709551616 = f 12 + 65536 * f 13 + 4294967296 * f 14 + 281474976710656 * f 15 := by rw [e]; omega
 unfold lebytes
 rw [w0, w1, w2, w3, digs4 h0 h1 h2 h3, digs4 h4 h5 h6 h7, digs4 h8 h9 h10 h11, digs4 h12 h13 h14 h15]
 congr 1
 simp [rb, by16, List.range, List.range.loop]
open Go.RowKit
theorem Pm_pos : (0 : Int) < Pm := by decide
theorem Pm_16 : Pm < 65536 ^ 16 := by decide
theorem dS (M : Int) : S (d16 (M % Pm)) 16 = M % Pm := by
 have h0 := Int.emod_nonneg M (show Pm ≠ 0 by decide)
 have h1 := Int.emod_lt_of_pos M Pm_pos
 have h2 := Pm_16
 rw [d16_S _ h0, Int.emod_eq_of_lt h0 (by omega)]
end Go.Proofs.YtffimigpbcilbaaGreatDoor.Mon
