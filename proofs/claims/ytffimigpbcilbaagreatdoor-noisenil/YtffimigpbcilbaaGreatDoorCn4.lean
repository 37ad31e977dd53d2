/- Part 4 of the walks and facts. -/
import Derived.Test.YtffimigpbcilbaaGreatDoorCnDef
import Derived.Test.YtffimigpbcilbaaGreatDoorCn1
import Derived.Test.YtffimigpbcilbaaGreatDoorCn2
import Derived.Test.YtffimigpbcilbaaGreatDoorCn3
import Derived.BigQuiet
import Derived.Deep.MidRow
import Derived.Laws.BitsAllLaws
import Derived.Laws.BytesString
import Derived.Laws.Rows
import Derived.Test.YtffimigpbcilbaaGreatDoorRows
set_option maxHeartbeats 16000000
set_option maxRecDepth 100000
namespace Go.Proofs.YtffimigpbcilbaaGreatDoor.Mon
open Go.RowKit
theorem bt_bd (s : ByteArray) (i : Nat) : 0 ≤ bt s i ∧ bt s i < 256 := by
 unfold bt
 have := (s.data[i]?.getD 0).toNat_lt
 omega
theorem bt_at (s : ByteArray) (i : Nat) (h : i < s.size) : ((s[i]'h).toNat : Int) = bt s i := by
 unfold bt
 have h' : i < s.data.size := h
 rw [Array.getElem?_eq_getElem h']
 rfl
def sw (s : ByteArray) (j : Nat) : Nat → Int
 | 0 => 0
 | r + 1 => sw s j r + bt s (8 * j + r) * 256 ^ r
theorem sw_bd (s : ByteArray) (j r : Nat) : 0 ≤ sw s j r ∧ sw s j r < 256 ^ r := by
 induction r with
 | zero => simp [sw]
 | succ r ih =>
  have hb := bt_bd s (8 * j + r)
  have hp : (0 : Int) < 256 ^ r := Int.pow_pos (by decide)
  have h1 : bt s (8 * j + r) * 256 ^ r ≤ 255 * 256 ^ r := Int.mul_le_mul_of_nonneg_right (by omega) (by omega)
  have h2 : 0 ≤ bt s (8 * j + r) * 256 ^ r := Int.mul_nonneg hb.1 (by omega)
  have h3 : (256 : Int) ^ (r + 1) = 256 * 256 ^ r := by rw [Int.pow_succ, Int.mul_comm]
  simp only [sw]
  omega
theorem swor0 (s : ByteArray) (j i : Nat) (hi : i = 8 * j + 0) : bits BinOp.or IntKind.u64 0 (bt s i) = sw s j 1 := by
 have hb := bt_bd s i
 rw [or_join 8 256 (by decide) ⟨by decide, by decide⟩ ⟨hb.1, by omega⟩ (by decide) (by omega)]
 simp [sw, hi]
theorem swor1 (s : ByteArray) (j i : Nat) (hi : i = 8 * j + 1) : bits BinOp.or IntKind.u64 (sw s j 1) (bt s i * 256) = sw s j 2 := by
 have hb := bt_bd s i
 have hs := sw_bd s j 1
 have e : (256 : Int) ^ 1 = 256 := by decide
 rw [e] at hs
 rw [or_join' 8 256 (by decide) ⟨hs.1, by omega⟩ ⟨by omega, by omega⟩ (by omega) (by omega)]
 show _ = sw s j 1 + bt s (8 * j + 1) * 256 ^ 1
 rw [e, hi]
theorem swor2 (s : ByteArray) (j i : Nat) (hi : i = 8 * j + 2) : bits BinOp.or IntKind.u64 (sw s j 2) (bt s i * 65536) = sw s j 3 := by
 have hb := bt_bd s i
 have hs := sw_bd s j 2
 have e : (256 : Int) ^ 2 = 65536 := by decide
 rw [e] at hs
 rw [or_join' 16 65536 (by decide) ⟨hs.1, by omega⟩ ⟨by omega, by omega⟩ (by omega) (by omega)]
 show _ = sw s j 2 + bt s (8 * j + 2) * 256 ^ 2
 rw [e, hi]
theorem swor3 (s : ByteArray) (j i : Nat) (hi : i = 8 * j + 3) : bits BinOp.or IntKind.u64 (sw s j 3) (bt s i * 16777216) = sw s j 4 := by
 have hb := bt_bd s i
 have hs := sw_bd s j 3
 have e : (256 : Int) ^ 3 = 16777216 := by decide
 rw [e] at hs
 rw [or_join' 24 16777216 (by decide) ⟨hs.1, by omega⟩ ⟨by omega, by omega⟩ (by omega) (by omega)]
 show _ = sw s j 3 + bt s (8 * j + 3) * 256 ^ 3
 rw [e, hi]
theorem swor4 (s : ByteArray) (j i : Nat) (hi : i = 8 * j + 4) : bits BinOp.or IntKind.u64 (sw s j 4) (bt s i * 4294967296) = sw s j 5 := by
 have hb := bt_bd s i
 have hs := sw_bd s j 4
 have e : (256 : Int) ^ 4 = 4294967296 := by decide
 rw [e] at hs
 rw [or_join' 32 4294967296 (by decide) ⟨hs.1, by omega⟩ ⟨by omega, by omega⟩ (by omega) (by omega)]
 show _ = sw s j 4 + bt s (8 * j + 4) * 256 ^ 4
 rw [e, hi]
theorem swor5 (s : ByteArray) (j i : Nat) (hi : i = 8 * j + 5) : bits BinOp.or IntKind.u64 (sw s j 5) (bt s i * 1099511627776) = sw s j 6 := by
 have hb := bt_bd s i
 have hs := sw_bd s j 5
 have e : (256 : Int) ^ 5 = 1099511627776 := by decide
 rw [e] at hs
 rw [or_join' 40 1099511627776 (by decide) ⟨hs.1, by omega⟩ ⟨by omega, by omega⟩ (by omega) (by omega)]
 show _ = sw s j 5 + bt s (8 * j + 5) * 256 ^ 5
 rw [e, hi]
theorem swor6 (s : ByteArray) (j i : Nat) (hi : i = 8 * j + 6) : bits BinOp.or IntKind.u64 (sw s j 6) (bt s i * 281474976710656) = sw s j 7 := by
 have hb := bt_bd s i
 have hs := sw_bd s j 6
 have e : (256 : Int) ^ 6 = 281474976710656 := by decide
 rw [e] at hs
 rw [or_join' 48 281474976710656 (by decide) ⟨hs.1, by omega⟩ ⟨by omega, by omega⟩ (by omega) (by omega)]
 show _ = sw s j 6 + bt s (8 * j + 6) * 256 ^ 6
 rw [e, hi]
theorem swor7 (s : ByteArray) (j i : Nat) (hi : i = 8 * j + 7) : bits BinOp.or IntKind.u64 (sw s j 7) (bt s i * 72057594037927936) = sw s j 8 := by
 have hb := bt_bd s i
 have hs := sw_bd s j 7
 have e : (256 : Int) ^ 7 = 72057594037927936 := by decide
 rw [e] at hs
 rw [or_join' 56 72057594037927936 (by decide) ⟨hs.1, by omega⟩ ⟨by omega, by omega⟩ (by omega) (by omega)]
 show _ = sw s j 7 + bt s (8 * j + 7) * 256 ^ 7
 rw [e, hi]
structure WW (w W : World) (a b c d : Int) : Prop where
 old : Below w.heap.size w W
 size : w.heap.size + 1 < W.heap.size
 free : ∀ o, W.frozen? ⟨w.heap.size + 1, o, none⟩ = false
 free0 : ∀ o, W.frozen? ⟨w.heap.size, o, none⟩ = false
 c0 : W.cell? ⟨w.heap.size + 1, 0, none⟩ = some (.int .u64 a)
 c1 : W.cell? ⟨w.heap.size + 1, 1, none⟩ = some (.int .u64 b)
 c2 : W.cell? ⟨w.heap.size + 1, 2, none⟩ = some (.int .u64 c)
 c3 : W.cell? ⟨w.heap.size + 1, 3, none⟩ = some (.int .u64 d)
 r0 : W.cell? ⟨w.heap.size, 0, none⟩ = some (.int .u64 0)
 r1 : W.cell? ⟨w.heap.size, 1, none⟩ = some (.int .u64 0)
 r2 : W.cell? ⟨w.heap.size, 2, none⟩ = some (.int .u64 0)
 r3 : W.cell? ⟨w.heap.size, 3, none⟩ = some (.int .u64 0)
theorem WW.start (w : World) : WW w ((w.alloc (.cells #[.int .u64 0, .int .u64 0, .int .u64 0, .int .u64 0] 144)).alloc (.cells #[.int .u64 0, .int .u64 0, .int .u64 0, .int .u64 0] 144)) 0 0 0 0 := by
 refine ⟨((Below.refl _ _).alloc (Nat.le_refl _) _).alloc (by simp) _, by simp, ?_, ?_, ?_, ?_, ?_, ?_, ?_, ?_, ?_, ?_⟩ <;> simp [go_sem]
theorem WW.set0 {w W : World} {a b c d : Int} (h : WW w W a b c d) (v : Int) : WW w (W.setCell ⟨w.heap.size + 1, 0, none⟩ (.int .u64 v)).drew v b c d := by
 obtain ⟨h1, h2, h3, h4, h5, h6, h7, h8, h9, h10, h11, h12⟩ := h
 refine ⟨(h1.setCell (p := ⟨w.heap.size + 1, 0, none⟩) (by simp) _).drew, ?_, ?_, ?_, ?_, ?_, ?_, ?_, ?_, ?_, ?_, ?_⟩ <;> simp [go_sem, h2, h3, h4, h5, h6, h7, h8, h9, h10, h11, h12]
theorem WW.set1 {w W : World} {a b c d : Int} (h : WW w W a b c d) (v : Int) : WW w (W.setCell ⟨w.heap.size + 1, 1, none⟩ (.int .u64 v)).drew a v c d := by
 obtain ⟨h1, h2, h3, h4, h5, h6, h7, h8, h9, h10, h11, h12⟩ := h
 refine ⟨(h1.setCell (p := ⟨w.heap.size + 1, 1, none⟩) (by simp) _).drew, ?_, ?_, ?_, ?_, ?_, ?_, ?_, ?_, ?_, ?_, ?_⟩ <;> simp [go_sem, h2, h3, h4, h5, h6, h7, h8, h9, h10, h11, h12]
theorem WW.set2 {w W : World} {a b c d : Int} (h : WW w W a b c d) (v : Int) : WW w (W.setCell ⟨w.heap.size + 1, 2, none⟩ (.int .u64 v)).drew a b v d := by
 obtain ⟨h1, h2, h3, h4, h5, h6, h7, h8, h9, h10, h11, h12⟩ := h
 refine ⟨(h1.setCell (p := ⟨w.heap.size + 1, 2, none⟩) (by simp) _).drew, ?_, ?_, ?_, ?_, ?_, ?_, ?_, ?_, ?_, ?_, ?_⟩ <;> simp [go_sem, h2, h3, h4, h5, h6, h7, h8, h9, h10, h11, h12]
theorem WW.set3 {w W : World} {a b c d : Int} (h : WW w W a b c d) (v : Int) : WW w (W.setCell ⟨w.heap.size + 1, 3, none⟩ (.int .u64 v)).drew a b c v := by
 obtain ⟨h1, h2, h3, h4, h5, h6, h7, h8, h9, h10, h11, h12⟩ := h
 refine ⟨(h1.setCell (p := ⟨w.heap.size + 1, 3, none⟩) (by simp) _).drew, ?_, ?_, ?_, ?_, ?_, ?_, ?_, ?_, ?_, ?_, ?_⟩ <;> simp [go_sem, h2, h3, h4, h5, h6, h7, h8, h9, h10, h11, h12]
def swk (s : ByteArray) (k j : Nat) : Int := sw s j (min (k - 8 * j) 8)
theorem wordsOf_any (s : ByteArray) (w : World) (hs : s.size = 32) : Cs 118 #[.string s] w (.agg #[.int .u64 (sw s 0 8), .int .u64 (sw s 1 8), .int .u64 (sw s 2 8), .int .u64 (sw s 3 8)]) := by
 go_enter Tryz.func118, Tryz.ntmps118
 go_wp2
 have H0 := WW.start w
 generalize (w.alloc (.cells #[.int .u64 0, .int .u64 0, .int .u64 0, .int .u64 0] 144)).alloc (.cells #[.int .u64 0, .int .u64 0, .int .u64 0, .int .u64 0] 144) = W at H0 ⊢
 go_loopw [5] (fun c wr => ∃ k : Nat, k ≤ 32 ∧ c = .int .i64 k ∧ WW w wr (swk s k 0) (swk s k 1) (swk s k 2) (swk s k 3)) (fun c _ => 32 - (intOf c).toNat)
 case atStart => exact ⟨0, by omega, rfl, H0⟩
 case round =>
  clear H0
  obtain ⟨k, hk, rfl, H⟩ := hrel
  by_cases hlt : k < 32
  ·have hc : k = 0 ∨ k = 1 ∨ k = 2 ∨ k = 3 ∨ k = 4 ∨ k = 5 ∨ k = 6 ∨ k = 7 ∨ k = 8 ∨ k = 9 ∨ k = 10 ∨ k = 11 ∨ k = 12 ∨ k = 13 ∨ k = 14 ∨ k = 15 ∨ k = 16 ∨ k = 17 ∨ k = 18 ∨ k = 19 ∨ k = 20 ∨ k = 21 ∨ k = 22 ∨ k = 23 ∨ k = 24 ∨ k = 25 ∨ k = 26 ∨ k = 27 ∨ k = 28 ∨ k = 29 ∨ k = 30 ∨ k = 31 := by omega
   clear hlt hk
   rcases hc with rfl | rfl | rfl | rfl | rfl | rfl | rfl | rfl | rfl | rfl | rfl | rfl | rfl | rfl | rfl | rfl | rfl | rfl | rfl | rfl | rfl | rfl | rfl | rfl | rfl | rfl | rfl | rfl | rfl | rfl | rfl | rfl
   ·replace H : WW w wr (sw s 0 0) (sw s 1 0) (sw s 2 0) (sw s 3 0) := H
    have hb := bt_at s 0 (by omega)
    obtain ⟨p, q⟩ := bt_bd s 0
    have e := swor0 s 0 0 (by decide)
    have c := H.c0
    have f := H.free
    rw [show sw s 0 0 = 0 from rfl] at c
    replace H := hide (H.set0 (sw s 0 1))
    go_wp2
    go_region
    go_wp2
    go_roundw
    case rel => exact ⟨1, by omega, rfl, H.out⟩
    case measure => simp [intOf]
   ·replace H : WW w wr (sw s 0 1) (sw s 1 0) (sw s 2 0) (sw s 3 0) := H
    have hb := bt_at s 1 (by omega)
    obtain ⟨p, q⟩ := bt_bd s 1
    have e := swor1 s 0 1 (by decide)
    have c := H.c0
    have f := H.free
    skip
    replace H := hide (H.set0 (sw s 0 2))
    go_wp2
    go_region
    go_wp2
    go_roundw
    case rel => exact ⟨2, by omega, rfl, H.out⟩
    case measure => simp [intOf]
   ·replace H : WW w wr (sw s 0 2) (sw s 1 0) (sw s 2 0) (sw s 3 0) := H
    have hb := bt_at s 2 (by omega)
    obtain ⟨p, q⟩ := bt_bd s 2
    have e := swor2 s 0 2 (by decide)
    have c := H.c0
    have f := H.free
    skip
    replace H := hide (H.set0 (sw s 0 3))
    go_wp2
    go_region
    go_wp2
    go_roundw
    case rel => exact ⟨3, by omega, rfl, H.out⟩
    case measure => simp [intOf]
   ·replace H : WW w wr (sw s 0 3) (sw s 1 0) (sw s 2 0) (sw s 3 0) := H
    have hb := bt_at s 3 (by omega)
    obtain ⟨p, q⟩ := bt_bd s 3
    have e := swor3 s 0 3 (by decide)
    have c := H.c0
    have f := H.free
    skip
    replace H := hide (H.set0 (sw s 0 4))
    go_wp2
    go_region
    go_wp2
    go_roundw
    case rel => exact ⟨4, by omega, rfl, H.out⟩
    case measure => simp [intOf]
   ·replace H : WW w wr (sw s 0 4) (sw s 1 0) (sw s 2 0) (sw s 3 0) := H
    have hb := bt_at s 4 (by omega)
    obtain ⟨p, q⟩ := bt_bd s 4
    have e := swor4 s 0 4 (by decide)
    have c := H.c0
    have f := H.free
    skip
    replace H := hide (H.set0 (sw s 0 5))
    go_wp2
    go_region
    go_wp2
    go_roundw
    case rel => exact ⟨5, by omega, rfl, H.out⟩
    case measure => simp [intOf]
   ·replace H : WW w wr (sw s 0 5) (sw s 1 0) (sw s 2 0) (sw s 3 0) := H
    have hb := bt_at s 5 (by omega)
    obtain ⟨p, q⟩ := bt_bd s 5
    have e := swor5 s 0 5 (by decide)
    have c := H.c0
    have f := H.free
    skip
    replace H := hide (H.set0 (sw s 0 6))
    go_wp2
    go_region
    go_wp2
    go_roundw
    case rel => exact ⟨6, by omega, rfl, H.out⟩
    case measure => simp [intOf]
   ·replace H : WW w wr (sw s 0 6) (sw s 1 0) (sw s 2 0) (sw s 3 0) := H
    have hb := bt_at s 6 (by omega)
    obtain ⟨p, q⟩ := bt_bd s 6
    have e := swor6 s 0 6 (by decide)
    have c := H.c0
    have f := H.free
    skip
    replace H := hide (H.set0 (sw s 0 7))
    go_wp2
    go_region
    go_wp2
    go_roundw
    case rel => exact ⟨7, by omega, rfl, H.out⟩
    case measure => simp [intOf]
   ·replace H : WW w wr (sw s 0 7) (sw s 1 0) (sw s 2 0) (sw s 3 0) := H
    have hb := bt_at s 7 (by omega)
    obtain ⟨p, q⟩ := bt_bd s 7
    have e := swor7 s 0 7 (by decide)
    have c := H.c0
    have f := H.free
    skip
    replace H := hide (H.set0 (sw s 0 8))
    go_wp2
    go_region
    go_wp2
    go_roundw
    case rel => exact ⟨8, by omega, rfl, H.out⟩
    case measure => simp [intOf]
   ·replace H : WW w wr (sw s 0 8) (sw s 1 0) (sw s 2 0) (sw s 3 0) := H
    have hb := bt_at s 8 (by omega)
    obtain ⟨p, q⟩ := bt_bd s 8
    have e := swor0 s 1 8 (by decide)
    have c := H.c1
    have f := H.free
    rw [show sw s 1 0 = 0 from rfl] at c
    replace H := hide (H.set1 (sw s 1 1))
    go_wp2
    go_region
    go_wp2
    go_roundw
    case rel => exact ⟨9, by omega, rfl, H.out⟩
    case measure => simp [intOf]
   ·replace H : WW w wr (sw s 0 8) (sw s 1 1) (sw s 2 0) (sw s 3 0) := H
    have hb := bt_at s 9 (by omega)
    obtain ⟨p, q⟩ := bt_bd s 9
    have e := swor1 s 1 9 (by decide)
    have c := H.c1
    have f := H.free
    skip
    replace H := hide (H.set1 (sw s 1 2))
    go_wp2
    go_region
    go_wp2
    go_roundw
    case rel => exact ⟨10, by omega, rfl, H.out⟩
    case measure => simp [intOf]
   ·replace H : WW w wr (sw s 0 8) (sw s 1 2) (sw s 2 0) (sw s 3 0) := H
    have hb := bt_at s 10 (by omega)
    obtain ⟨p, q⟩ := bt_bd s 10
    have e := swor2 s 1 10 (by decide)
    have c := H.c1
    have f := H.free
    skip
    replace H := hide (H.set1 (sw s 1 3))
    go_wp2
    go_region
    go_wp2
    go_roundw
    case rel => exact ⟨11, by omega, rfl, H.out⟩
    case measure => simp [intOf]
   ·replace H : WW w wr (sw s 0 8) (sw s 1 3) (sw s 2 0) (sw s 3 0) := H
    have hb := bt_at s 11 (by omega)
    obtain ⟨p, q⟩ := bt_bd s 11
    have e := swor3 s 1 11 (by decide)
    have c := H.c1
    have f := H.free
    skip
    replace H := hide (H.set1 (sw s 1 4))
    go_wp2
    go_region
    go_wp2
    go_roundw
    case rel => exact ⟨12, by omega, rfl, H.out⟩
    case measure => simp [intOf]
   ·replace H : WW w wr (sw s 0 8) (sw s 1 4) (sw s 2 0) (sw s 3 0) := H
    have hb := bt_at s 12 (by omega)
    obtain ⟨p, q⟩ := bt_bd s 12
    have e := swor4 s 1 12 (by decide)
    have c := H.c1
    have f := H.free
    skip
    replace H := hide (H.set1 (sw s 1 5))
    go_wp2
    go_region
    go_wp2
    go_roundw
    case rel => exact ⟨13, by omega, rfl, H.out⟩
    case measure => simp [intOf]
   ·replace H : WW w wr (sw s 0 8) (sw s 1 5) (sw s 2 0) (sw s 3 0) := H
    have hb := bt_at s 13 (by omega)
    obtain ⟨p, q⟩ := bt_bd s 13
    have e := swor5 s 1 13 (by decide)
    have c := H.c1
    have f := H.free
    skip
    replace H := hide (H.set1 (sw s 1 6))
    go_wp2
    go_region
    go_wp2
    go_roundw
    case rel => exact ⟨14, by omega, rfl, H.out⟩
    case measure => simp [intOf]
   ·replace H : WW w wr (sw s 0 8) (sw s 1 6) (sw s 2 0) (sw s 3 0) := H
    have hb := bt_at s 14 (by omega)
    obtain ⟨p, q⟩ := bt_bd s 14
    have e := swor6 s 1 14 (by decide)
    have c := H.c1
    have f := H.free
    skip
    replace H := hide (H.set1 (sw s 1 7))
    go_wp2
    go_region
    go_wp2
    go_roundw
    case rel => exact ⟨15, by omega, rfl, H.out⟩
    case measure => simp [intOf]
   ·replace H : WW w wr (sw s 0 8) (sw s 1 7) (sw s 2 0) (sw s 3 0) := H
    have hb := bt_at s 15 (by omega)
    obtain ⟨p, q⟩ := bt_bd s 15
    have e := swor7 s 1 15 (by decide)
    have c := H.c1
    have f := H.free
    skip
    replace H := hide (H.set1 (sw s 1 8))
    go_wp2
    go_region
    go_wp2
    go_roundw
    case rel => exact ⟨16, by omega, rfl, H.out⟩
    case measure => simp [intOf]
   ·replace H : WW w wr (sw s 0 8) (sw s 1 8) (sw s 2 0) (sw s 3 0) := H
    have hb := bt_at s 16 (by omega)
    obtain ⟨p, q⟩ := bt_bd s 16
    have e := swor0 s 2 16 (by decide)
    have c := H.c2
    have f := H.free
    rw [show sw s 2 0 = 0 from rfl] at c
    replace H := hide (H.set2 (sw s 2 1))
    go_wp2
    go_region
    go_wp2
    go_roundw
    case rel => exact ⟨17, by omega, rfl, H.out⟩
    case measure => simp [intOf]
   ·replace H : WW w wr (sw s 0 8) (sw s 1 8) (sw s 2 1) (sw s 3 0) := H
    have hb := bt_at s 17 (by omega)
    obtain ⟨p, q⟩ := bt_bd s 17
    have e := swor1 s 2 17 (by decide)
    have c := H.c2
    have f := H.free
    skip
    replace H := hide (H.set2 (sw s 2 2))
    go_wp2
    go_region
    go_wp2
    go_roundw
    case rel => exact ⟨18, by omega, rfl, H.out⟩
    case measure => simp [intOf]
   ·replace H : WW w wr (sw s 0 8) (sw s 1 8) (sw s 2 2) (sw s 3 0) := H
    have hb := bt_at s 18 (by omega)
    obtain ⟨p, q⟩ := bt_bd s 18
    have e := swor2 s 2 18 (by decide)
    have c := H.c2
    have f := H.free
    skip
    replace H := hide (H.set2 (sw s 2 3))
    go_wp2
    go_region
    go_wp2
    go_roundw
    case rel => exact ⟨19, by omega, rfl, H.out⟩
    case measure => simp [intOf]
   ·replace H : WW w wr (sw s 0 8) (sw s 1 8) (sw s 2 3) (sw s 3 0) := H
    have hb := bt_at s 19 (by omega)
    obtain ⟨p, q⟩ := bt_bd s 19
    have e := swor3 s 2 19 (by decide)
    have c := H.c2
    have f := H.free
    skip
    replace H := hide (H.set2 (sw s 2 4))
    go_wp2
    go_region
    go_wp2
    go_roundw
    case rel => exact ⟨20, by omega, rfl, H.out⟩
    case measure => simp [intOf]
   ·replace H : WW w wr (sw s 0 8) (sw s 1 8) (sw s 2 4) (sw s 3 0) := H
    have hb := bt_at s 20 (by omega)
    obtain ⟨p, q⟩ := bt_bd s 20
    have e := swor4 s 2 20 (by decide)
    have c := H.c2
    have f := H.free
    skip
    replace H := hide (H.set2 (sw s 2 5))
    go_wp2
    go_region
    go_wp2
    go_roundw
    case rel => exact ⟨21, by omega, rfl, H.out⟩
    case measure => simp [intOf]
   ·replace H : WW w wr (sw s 0 8) (sw s 1 8) (sw s 2 5) (sw s 3 0) := H
    have hb := bt_at s 21 (by omega)
    obtain ⟨p, q⟩ := bt_bd s 21
    have e := swor5 s 2 21 (by decide)
    have c := H.c2
    have f := H.free
    skip
    replace H := hide (H.set2 (sw s 2 6))
    go_wp2
    go_region
    go_wp2
    go_roundw
    case rel => exact ⟨22, by omega, rfl, H.out⟩
    case measure => simp [intOf]
   ·replace H : WW w wr (sw s 0 8) (sw s 1 8) (sw s 2 6) (sw s 3 0) := H
    have hb := bt_at s 22 (by omega)
    obtain ⟨p, q⟩ := bt_bd s 22
    have e := swor6 s 2 22 (by decide)
    have c := H.c2
    have f := H.free
    skip
    replace H := hide (H.set2 (sw s 2 7))
    go_wp2
    go_region
    go_wp2
    go_roundw
    case rel => exact ⟨23, by omega, rfl, H.out⟩
    case measure => simp [intOf]
   ·replace H : WW w wr (sw s 0 8) (sw s 1 8) (sw s 2 7) (sw s 3 0) := H
    have hb := bt_at s 23 (by omega)
    obtain ⟨p, q⟩ := bt_bd s 23
    have e := swor7 s 2 23 (by decide)
    have c := H.c2
    have f := H.free
    skip
    replace H := hide (H.set2 (sw s 2 8))
    go_wp2
    go_region
    go_wp2
    go_roundw
    case rel => exact ⟨24, by omega, rfl, H.out⟩
    case measure => simp [intOf]
   ·replace H : WW w wr (sw s 0 8) (sw s 1 8) (sw s 2 8) (sw s 3 0) := H
    have hb := bt_at s 24 (by omega)
    obtain ⟨p, q⟩ := bt_bd s 24
    have e := swor0 s 3 24 (by decide)
    have c := H.c3
    have f := H.free
    rw [show sw s 3 0 = 0 from rfl] at c
    replace H := hide (H.set3 (sw s 3 1))
    go_wp2
    go_region
    go_wp2
    go_roundw
    case rel => exact ⟨25, by omega, rfl, H.out⟩
    case measure => simp [intOf]
   ·replace H : WW w wr (sw s 0 8) (sw s 1 8) (sw s 2 8) (sw s 3 1) := H
    have hb := bt_at s 25 (by omega)
    obtain ⟨p, q⟩ := bt_bd s 25
    have e := swor1 s 3 25 (by decide)
    have c := H.c3
    have f := H.free
    skip
    replace H := hide (H.set3 (sw s 3 2))
    go_wp2
    go_region
    go_wp2
    go_roundw
    case rel => exact ⟨26, by omega, rfl, H.out⟩
    case measure => simp [intOf]
   ·replace H : WW w wr (sw s 0 8) (sw s 1 8) (sw s 2 8) (sw s 3 2) := H
    have hb := bt_at s 26 (by omega)
    obtain ⟨p, q⟩ := bt_bd s 26
    have e := swor2 s 3 26 (by decide)
    have c := H.c3
    have f := H.free
    skip
    replace H := hide (H.set3 (sw s 3 3))
    go_wp2
    go_region
    go_wp2
    go_roundw
    case rel => exact ⟨27, by omega, rfl, H.out⟩
    case measure => simp [intOf]
   ·replace H : WW w wr (sw s 0 8) (sw s 1 8) (sw s 2 8) (sw s 3 3) := H
    have hb := bt_at s 27 (by omega)
    obtain ⟨p, q⟩ := bt_bd s 27
    have e := swor3 s 3 27 (by decide)
    have c := H.c3
    have f := H.free
    skip
    replace H := hide (H.set3 (sw s 3 4))
    go_wp2
    go_region
    go_wp2
    go_roundw
    case rel => exact ⟨28, by omega, rfl, H.out⟩
    case measure => simp [intOf]
   ·replace H : WW w wr (sw s 0 8) (sw s 1 8) (sw s 2 8) (sw s 3 4) := H
    have hb := bt_at s 28 (by omega)
    obtain ⟨p, q⟩ := bt_bd s 28
    have e := swor4 s 3 28 (by decide)
    have c := H.c3
    have f := H.free
    skip
    replace H := hide (H.set3 (sw s 3 5))
    go_wp2
    go_region
    go_wp2
    go_roundw
    case rel => exact ⟨29, by omega, rfl, H.out⟩
    case measure => simp [intOf]
   ·replace H : WW w wr (sw s 0 8) (sw s 1 8) (sw s 2 8) (sw s 3 5) := H
    have hb := bt_at s 29 (by omega)
    obtain ⟨p, q⟩ := bt_bd s 29
    have e := swor5 s 3 29 (by decide)
    have c := H.c3
    have f := H.free
    skip
    replace H := hide (H.set3 (sw s 3 6))
    go_wp2
    go_region
    go_wp2
    go_roundw
    case rel => exact ⟨30, by omega, rfl, H.out⟩
    case measure => simp [intOf]
   ·replace H : WW w wr (sw s 0 8) (sw s 1 8) (sw s 2 8) (sw s 3 6) := H
    have hb := bt_at s 30 (by omega)
    obtain ⟨p, q⟩ := bt_bd s 30
    have e := swor6 s 3 30 (by decide)
    have c := H.c3
    have f := H.free
    skip
    replace H := hide (H.set3 (sw s 3 7))
    go_wp2
    go_region
    go_wp2
    go_roundw
    case rel => exact ⟨31, by omega, rfl, H.out⟩
    case measure => simp [intOf]
   ·replace H : WW w wr (sw s 0 8) (sw s 1 8) (sw s 2 8) (sw s 3 7) := H
    have hb := bt_at s 31 (by omega)
    obtain ⟨p, q⟩ := bt_bd s 31
    have e := swor7 s 3 31 (by decide)
    have c := H.c3
    have f := H.free
    skip
    replace H := hide (H.set3 (sw s 3 8))
    go_wp2
    go_region
    go_wp2
    go_roundw
    case rel => exact ⟨32, by omega, rfl, H.out⟩
    case measure => simp [intOf]
  ·have e : k = 32 := by omega
   subst e
   replace H : WW w wr (sw s 0 8) (sw s 1 8) (sw s 2 8) (sw s 3 8) := H
   obtain ⟨h1, h2, h3, h4, h5, h6, h7, h8, h9, h10, h11, h12⟩ := H
   have H1 := hide h1
   clear h1
   go_wp2
   refine bodyPost_ret (v := .agg #[.int .u64 (sw s 0 8), .int .u64 (sw s 1 8), .int .u64 (sw s 2 8), .int .u64 (sw s 3 8)]) (by simp [results, Tryz.results118, go_sem, h9, h10, h11, h12]) rfl ⟨rfl, ?_⟩
   exact (((H1.out.setCell (p := ⟨w.heap.size, 0, none⟩) (Nat.le_refl _) _).setCell (p := ⟨w.heap.size, 1, none⟩) (Nat.le_refl _) _).setCell (p := ⟨w.heap.size, 2, none⟩) (Nat.le_refl _) _).setCell (p := ⟨w.heap.size, 3, none⟩) (Nat.le_refl _) _
open Go.RowKit
def numberF (a b c d : Int) : E5 := car (a % 2251799813685248) ((a / 2251799813685248 + b * 8192) % 2251799813685248) ((b / 274877906944 + c * 67108864) % 2251799813685248) ((c / 33554432 + d * 549755813888) % 2251799813685248) (d / 4096)
theorem part1 {a b : Int} (ha : W64 a) (_hb : W64 b) : bits BinOp.and IntKind.u64 (bits BinOp.or IntKind.u64 (a / 2251799813685248) (IntKind.u64.wrap (b * 8192))) 2251799813685247 = (a / 2251799813685248 + b * 8192) % 2251799813685248 := by
 unfold W64 at *
 rw [IntKind.wrap_u64, or_join' 13 8192 (by decide) ⟨by omega, by omega⟩ ⟨by omega, by omega⟩ (by omega) (by omega), and51 ⟨by omega, by omega⟩]
 omega
theorem part2 {a b : Int} (ha : W64 a) (_hb : W64 b) : bits BinOp.and IntKind.u64 (bits BinOp.or IntKind.u64 (a / 274877906944) (IntKind.u64.wrap (b * 67108864))) 2251799813685247 = (a / 274877906944 + b * 67108864) % 2251799813685248 := by
 unfold W64 at *
 rw [IntKind.wrap_u64, or_join' 26 67108864 (by decide) ⟨by omega, by omega⟩ ⟨by omega, by omega⟩ (by omega) (by omega), and51 ⟨by omega, by omega⟩]
 omega
theorem part3 {a b : Int} (ha : W64 a) (_hb : W64 b) : bits BinOp.and IntKind.u64 (bits BinOp.or IntKind.u64 (a / 33554432) (IntKind.u64.wrap (b * 549755813888))) 2251799813685247 = (a / 33554432 + b * 549755813888) % 2251799813685248 := by
 unfold W64 at *
 rw [IntKind.wrap_u64, or_join' 39 549755813888 (by decide) ⟨by omega, by omega⟩ ⟨by omega, by omega⟩ (by omega) (by omega), and51 ⟨by omega, by omega⟩]
 omega
theorem numberF_ok {a b c d : Int} (_ha : W64 a) (_hb : W64 b) (_hc : W64 c) (hd : W64 d) : (numberF a b c d).Ok := by
 unfold W64 at *
 exact car_ok ⟨by omega, by omega⟩ ⟨by omega, by omega⟩ ⟨by omega, by omega⟩ ⟨by omega, by omega⟩ ⟨by omega, by omega⟩
theorem numberF_n {a b c d : Int} (ha : W64 a) (hb : W64 b) (hc : W64 c) (_hd : W64 d) : Cg (numberF a b c d).n (a + 18446744073709551616 * b + 340282366920938463463374607431768211456 * c + 6277101735386680763835789423207666416102355444464034512896 * d) := by
 refine (car_n _ _ _ _ _).trans (Cg.of_eq ?_)
 unfold W64 at *
 simp only [E5.n]
 omega
theorem number_any (a b c d : Int) (w : World) (ha : W64 a) (hb : W64 b) (hc : W64 c) (hd : W64 d) :
  Calls Tryz.prog 119 #[.agg #[.int .u64 a, .int .u64 b, .int .u64 c, .int .u64 d]] w fun r w' => r = .returned (numberF a b c d).v ∧ Below w.heap.size w w' := by
 have e0 := and51 ha
 have e1 := part1 ha hb
 have e2 := part2 hb hc
 have e3 := part3 hc hd
 have HE := hide (show numberF a b c d = car (a % 2251799813685248) ((a / 2251799813685248 + b * 8192) % 2251799813685248) ((b / 274877906944 + c * 67108864) % 2251799813685248) ((c / 33554432 + d * 549755813888) % 2251799813685248) (d / 4096) from rfl)
 have q0 : W64 (a % 2251799813685248) := ⟨by omega, by omega⟩
 have q1 : W64 ((a / 2251799813685248 + b * 8192) % 2251799813685248) := ⟨by omega, by omega⟩
 have q2 : W64 ((b / 274877906944 + c * 67108864) % 2251799813685248) := ⟨by omega, by omega⟩
 have q3 : W64 ((c / 33554432 + d * 549755813888) % 2251799813685248) := ⟨by omega, by omega⟩
 have q4 : W64 (d / 4096) := by unfold W64 at *; exact ⟨by omega, by omega⟩
 go_enter Tryz.func119, Tryz.ntmps119
 go_wp2_with fail
 have R := Out.start1 w (.cells #[.int .u64 a, .int .u64 b, .int .u64 c, .int .u64 d] 144)
 refine (carried_any _ _ _ _ _ _ q0 q1 q2 q3 q4).mono ?_
 rintro _ w1 ⟨rfl, hb⟩
 replace R := R.keep hb
 rw [← HE.out]
 clear HE
 generalize hz : numberF a b c d = z
 have HE := hide hz
 clear hz
 clear hb q0 q1 q2 q3 q4 e0 e1 e2 e3
 obtain ⟨old, ge, rs, rf, r0, r1, r2, r3, r4⟩ := R
 have O := hide old
 clear old
 go_wp2
 refine bodyPost_ret (v := z.v) (by simp [results, Tryz.results119, go_sem, r0, r1, r2, r3, r4]) rfl ⟨by rw [HE.out], ?_⟩
 exact five O.out ge
def val (s : ByteArray) : Int := sw s 0 8 + 18446744073709551616 * sw s 1 8 + 340282366920938463463374607431768211456 * sw s 2 8 + 6277101735386680763835789423207666416102355444464034512896 * sw s 3 8
def ofF (s : ByteArray) : E5 := numberF (sw s 0 8) (sw s 1 8) (sw s 2 8) (sw s 3 8)
theorem sw64 (s : ByteArray) (j : Nat) : W64 (sw s j 8) := by
 have h := sw_bd s j 8
 have e : (256 : Int) ^ 8 = 18446744073709551616 := by decide
 rw [e] at h
 exact h
theorem ofF_ok (s : ByteArray) : (ofF s).Ok := numberF_ok (sw64 s 0) (sw64 s 1) (sw64 s 2) (sw64 s 3)
theorem ofF_n (s : ByteArray) : Cg (ofF s).n (val s) := numberF_n (sw64 s 0) (sw64 s 1) (sw64 s 2) (sw64 s 3)
theorem of_yes (s : ByteArray) (w : World) (hs : s.size = 32) : Cs 90 #[.string s] w (.tuple #[(ofF s).v, .int .i64 0]) := by
 have n0 : ((s.size : Int) != 32) = false := by simp [hs]
 go_enter Tryz.func90, Tryz.ntmps90
 go_wp2_with fail
 have R := Out.start0 w
 refine (wordsOf_any s _ hs).mono ?_
 rintro _ w1 ⟨rfl, hb⟩
 replace R := R.keep hb
 clear hb
 go_wp2_with fail
 refine (number_any _ _ _ _ _ (sw64 s 0) (sw64 s 1) (sw64 s 2) (sw64 s 3)).mono ?_
 rintro _ w2 ⟨rfl, hb⟩
 replace R := R.keep hb
 clear hb
 rw [show numberF (sw s 0 8) (sw s 1 8) (sw s 2 8) (sw s 3 8) = ofF s from rfl]
 generalize hz : ofF s = z
 have HZ := hide hz
 clear hz
 obtain ⟨old, ge, rs, rf, r0, r1, r2, r3, r4⟩ := R
 have O := hide old
 clear old
 go_wp2
 refine bodyPost_ret (v := .tuple #[z.v, .int .i64 0]) (by simp [results, Tryz.results90, go_sem, r0, r1, r2, r3, r4]) rfl ⟨by rw [HZ.out], ?_⟩
 exact five O.out ge
open Go.RowKit
theorem Row.setAll {W : World} {g : Nat} {T : TypeId} {n : Nat} {f : Nat → Int} (h : Row W g T n f) (h' : Nat → Int) : Row (W.setCells g 0 (arr n h').toList) g T n h' := by
 unfold Row
 rw [heap_setCells g T _ W (arr n f) 0 h]
 congr 2
 apply Array.ext_getElem?
 intro i
 rw [setAll_get _ _ _ _ (by simp [arr_size])]
 by_cases hi : i < n
 ·rw [if_pos (by simp [arr_size]; omega)]
  simp
 ·rw [if_neg (by simp [arr_size]; omega), Array.getElem?_eq_none (by rw [arr_size]; omega), Array.getElem?_eq_none (by rw [arr_size]; omega)]
theorem Row.setOther {W : World} {g k : Nat} {T : TypeId} {n : Nat} {f : Nat → Int} (h : Row W g T n f) (hk : g ≠ k) (o : Nat) (vs : List Value) : Row (W.setCells k o vs) g T n f := by
 unfold Row
 rw [heap_setCells_other k g hk]
 exact h
theorem Row.there {W : World} {g : Nat} {T : TypeId} {n : Nat} {f : Nat → Int} (h : Row W g T n f) : W.there g 0 n := fun j hj => by
 rw [Nat.zero_add, h.cell hj]
 exact ⟨rfl, h.free j⟩
theorem arr_one (n : Nat) (f : Nat → Int) : (arr n f).all (·.oneCell') = true := by
 rw [Array.all_eq_true]
 intro i hi
 have hi' : i < n := by rw [arr_size] at hi; exact hi
 have h := arr_get n f i hi'
 rw [Array.getElem?_eq_getElem hi] at h
 rw [Option.some.inj h]
 rfl
theorem info88 (f : Nat → Int) : (Tryz.prog.info? 88).map (·.size) = some (arr 16 f).size := by rw [arr_size]; kernel_rfl
theorem info108 (f : Nat → Int) : (Tryz.prog.info? 108).map (·.size) = some (arr 32 f).size := by rw [arr_size]; kernel_rfl
open Go.RowKit
def S (f : Nat → Int) : Nat → Int
 | 0 => 0
 | n + 1 => S f n + f n * 65536 ^ n
theorem p16 (n : Nat) : (0 : Int) < 65536 ^ n := Int.pow_pos (by decide)
theorem p16s (n : Nat) : (65536 : Int) ^ (n + 1) = 65536 * 65536 ^ n := by rw [Int.pow_succ, Int.mul_comm]
def Dig (f : Nat → Int) (n : Nat) : Prop := ∀ i, i < n → 0 ≤ f i ∧ f i < 65536
theorem Dig.le {f : Nat → Int} {n m : Nat} (h : Dig f n) (hm : m ≤ n) : Dig f m := fun i hi => h i (by omega)
theorem S_bd {f : Nat → Int} : ∀ {n : Nat}, Dig f n → 0 ≤ S f n ∧ S f n < 65536 ^ n
 | 0, _ => by simp [S]
 | n + 1, h => by
  have ih := S_bd (n := n) (h.le (by omega))
  have hd := h n (by omega)
  have hp := p16 n
  have h1 : f n * 65536 ^ n ≤ 65535 * 65536 ^ n := Int.mul_le_mul_of_nonneg_right (by omega) (by omega)
  have h2 : 0 ≤ f n * 65536 ^ n := Int.mul_nonneg hd.1 (by omega)
  rw [p16s]
  simp only [S]
  omega
theorem S_congr {f g : Nat → Int} : ∀ {n : Nat}, (∀ i, i < n → f i = g i) → S f n = S g n
 | 0, _ => rfl
 | n + 1, h => by
  simp only [S]
  rw [S_congr (n := n) fun i hi => h i (by omega), h n (by omega)]
theorem S_above {f g : Nat → Int} {p : Nat} : ∀ {n : Nat}, p ≤ n → (∀ j, p ≤ j → j < n → f j = g j) → S f n - S g n = S f p - S g p := by
 intro n
 induction n with
 | zero => intro h _; have : p = 0 := by omega
           subst this; rfl
 | succ n ih =>
  intro h he
  by_cases hp : p = n + 1
  ·subst hp; rfl
  ·have h1 := ih (by omega) fun j a b => he j a (by omega)
   simp only [S]
   rw [he n (by omega) (by omega)]
   omega
theorem S_lt {f g : Nat → Int} {p : Nat} (hf : Dig f 16) (hg : Dig g 16) (hp : p < 16) (he : ∀ j, p + 1 ≤ j → j < 16 → f j = g j) (hne : f p ≠ g p) : decide (f p < g p) = decide (S f 16 < S g 16) := by
 have h1 := S_above (n := 16) (by omega) he
 have h2 := S_bd (hf.le (m := p) (by omega))
 have h3 := S_bd (hg.le (m := p) (by omega))
 have hx := p16 p
 simp only [S] at h1
 generalize S f p = sf at *
 generalize S g p = sg at *
 generalize (65536 : Int) ^ p = X at *
 have hS : (S f 16 < S g 16) ↔ f p < g p := by
  constructor
  ·intro h
   apply Int.lt_of_not_ge
   intro hge
   have : f p ≥ g p + 1 := by omega
   have : (f p - g p) * X ≥ 1 * X := Int.mul_le_mul_of_nonneg_right (by omega) (by omega)
   rw [Int.sub_mul] at this
   have e16 : S f 16 - S g 16 < 0 := by omega
   simp only [S] at e16
   omega
  ·intro h
   have : (g p - f p) * X ≥ 1 * X := Int.mul_le_mul_of_nonneg_right (by omega) (by omega)
   rw [Int.sub_mul] at this
   have e16 : ∀ d, S f 16 - S g 16 = d → d < 0 → S f 16 < S g 16 := fun d a b => by omega
   simp only [S] at e16 ⊢
   omega
 exact decide_eq_decide.2 hS.symm
def wid (f : Nat → Int) (k : Nat) : Nat → Int := fun i => if i < k then f i else 0
theorem wide_any (f : Nat → Int) (w : World) : Cs 60 #[.agg (arr 16 f)] w (.agg (arr 32 (wid f 16))) := by
 go_enter Tryz.func60, Tryz.ntmps60
 go_wp2
 rw [show #[Value.int IntKind.u64 0, Value.int IntKind.u64 0, Value.int IntKind.u64 0, Value.int IntKind.u64 0, Value.int IntKind.u64 0, Value.int IntKind.u64 0, Value.int IntKind.u64 0, Value.int IntKind.u64 0, Value.int IntKind.u64 0, Value.int IntKind.u64 0, Value.int IntKind.u64 0, Value.int IntKind.u64 0, Value.int IntKind.u64 0, Value.int IntKind.u64 0, Value.int IntKind.u64 0, Value.int IntKind.u64 0, Value.int IntKind.u64 0, Value.int IntKind.u64 0, Value.int IntKind.u64 0, Value.int IntKind.u64 0, Value.int IntKind.u64 0, Value.int IntKind.u64 0, Value.int IntKind.u64 0, Value.int IntKind.u64 0, Value.int IntKind.u64 0, Value.int IntKind.u64 0, Value.int IntKind.u64 0, Value.int IntKind.u64 0, Value.int IntKind.u64 0, Value.int IntKind.u64 0, Value.int IntKind.u64 0, Value.int IntKind.u64 0] = arr 32 (fun _ => 0) from rfl]
 have R1 : Row (((w.alloc (.cells (arr 16 f) 88)).alloc (.cells (arr 32 fun _ => 0) 108)).alloc (.cells (arr 32 fun _ => 0) 108)) w.heap.size 88 16 f := ((Row.new w 88 16 f).alloc _).alloc _
 have R2 : Row (((w.alloc (.cells (arr 16 f) 88)).alloc (.cells (arr 32 fun _ => 0) 108)).alloc (.cells (arr 32 fun _ => 0) 108)) (w.heap.size + 1) 108 32 fun _ => 0 := (Row.new' _ 108 32 _ (by simp)).alloc _
 have R3 : Row (((w.alloc (.cells (arr 16 f) 88)).alloc (.cells (arr 32 fun _ => 0) 108)).alloc (.cells (arr 32 fun _ => 0) 108)) (w.heap.size + 1 + 1) 108 32 fun _ => 0 := Row.new' _ 108 32 _ (by simp)
 have O : Below w.heap.size w (((w.alloc (.cells (arr 16 f) 88)).alloc (.cells (arr 32 fun _ => 0) 108)).alloc (.cells (arr 32 fun _ => 0) 108)) := (((Below.refl _ _).alloc (Nat.le_refl _) _).alloc (by simp) _).alloc (by simp; omega) _
 generalize ((w.alloc (.cells (arr 16 f) 88)).alloc (.cells (arr 32 fun _ => 0) 108)).alloc (.cells (arr 32 fun _ => 0) 108) = W at R1 R2 R3 O ⊢
 go_loopw [4] (fun i wr => ∃ k : Nat, k ≤ 16 ∧ i = .int .i64 k ∧ Row wr w.heap.size 88 16 f ∧ Row wr (w.heap.size + 1) 108 32 (fun _ => 0) ∧ Row wr (w.heap.size + 1 + 1) 108 32 (wid f k) ∧ Below w.heap.size w wr) (fun i _ => 16 - (intOf i).toNat)
 case atStart => exact ⟨0, by omega, rfl, R1, R2, R3, O⟩
 case round =>
  clear R1 R2 R3 O
  obtain ⟨k, hk, rfl, R1, R2, R3, O⟩ := hrel
  by_cases hlt : k < 16
  ·have c := R1.cell hlt
   have d := R3.cell (i := k) (by omega)
   have e := R3.free k
   have RR := hide ((R3.set k (f k)))
   have R1' := hide (R1.other (a := ⟨w.heap.size + 1 + 1, k, none⟩) (by simp; omega) (.int .u64 (f k)))
   have R2' := hide (R2.other (a := ⟨w.heap.size + 1 + 1, k, none⟩) (by simp) (.int .u64 (f k)))
   have O' := hide (O.setCell (p := ⟨w.heap.size + 1 + 1, k, none⟩) (by simp; omega) (.int .u64 (f k)))
   clear R1 R2 R3 O
   go_wp2
   go_roundw
   case rel => exact ⟨k + 1, by omega, by go_num, R1'.out, R2'.out, RR.out.congr (fun i _ => by unfold upd wid; by_cases h : i = k <;> simp [h] <;> omega), O'.out⟩
   case measure => simp [intOf]; omega
  ·have hk' : k = 16 := by omega
   subst hk'
   have RR := hide (R2.setAll (wid f 16))
   have OO := hide (below_setCells (g := w.heap.size + 1) (by omega) (arr 32 (wid f 16)).toList 0 O)
   go_wp2_with (first | (refine wpList_load_row rfl 108 _ rfl (w.heap.size + 1 + 1) rfl 108 (arr 32 (wid f 16)) (0, 0) _ R3 Tryz.underlying108 rfl (info108 _) ?_) | (refine wpList_store_mid rfl 108 _ _ rfl (w.heap.size + 1) 0 (arr 32 (wid f 16)) rfl rfl (by rw [arr_size]; exact R2.there) (info108 _) (arr_one _ _) ?_))
   exact bodyPost_ret (v := .agg (arr 32 (wid f 16))) (results_cell_row Tryz.results60 _ _ (w.heap.size + 1) 108 (arr 32 (wid f 16)) (0, 0) _ rfl RR.out Tryz.underlying108 rfl (info108 _)) rfl ⟨rfl, OO.out⟩
theorem rowN {w : World} {g : Nat} {T : TypeId} {n : Nat} {f : Nat → Int} (h : Row w g T n f) (k : Nat) : Row (w.drewN k) g T n f := h
theorem belN {B : Nat} {a w : World} {n : Nat} (h : Below B a w) : Below B a (w.drewN n) := ⟨h.os, h.tape, h.output, h.size, h.block⟩
theorem less_any (f g : Nat → Int) (w : World) (hf : Dig f 16) (hg : Dig g 16) : Cs 84 #[.agg (arr 16 f), .agg (arr 16 g)] w (.bool (decide (S f 16 < S g 16))) := by
 go_enter Tryz.func84, Tryz.ntmps84
 go_wp2
 have R1 : Row ((w.alloc (.cells (arr 16 f) 88)).alloc (.cells (arr 16 g) 88)) w.heap.size 88 16 f := (Row.new w 88 16 f).alloc _
 have R2 : Row ((w.alloc (.cells (arr 16 f) 88)).alloc (.cells (arr 16 g) 88)) (w.heap.size + 1) 88 16 g := Row.new' _ 88 16 _ (by simp)
 have O : Below w.heap.size w ((w.alloc (.cells (arr 16 f) 88)).alloc (.cells (arr 16 g) 88)) := ((Below.refl _ _).alloc (Nat.le_refl _) _).alloc (by simp) _
 generalize (w.alloc (.cells (arr 16 f) 88)).alloc (.cells (arr 16 g) 88) = W at R1 R2 O ⊢
 go_loopw [5] (fun i wr => ∃ m : Nat, m ≤ 16 ∧ (∃ v : Int, v = (m : Int) - 1 ∧ i = .int .i64 v) ∧ (∀ j, m ≤ j → j < 16 → f j = g j) ∧ Row wr w.heap.size 88 16 f ∧ Row wr (w.heap.size + 1) 88 16 g ∧ Below w.heap.size w wr) (fun i _ => (intOf i + 1).toNat)
 case atStart => exact ⟨16, by omega, ⟨15, by omega, rfl⟩, fun j a b => by omega, R1, R2, O⟩
 case round =>
  clear R1 R2 O
  obtain ⟨m, hm, ⟨v, hv, hi⟩, hall, R1, R2, O⟩ := hrel
  rcases m with _ | p
  ·have e : v = -1 := by omega
   rw [e] at hi
   clear hv e
   subst hi
   have HS := hide (S_congr (n := 16) fun i hi => hall i (by omega) hi)
   clear hall
   go_wp2
   go_ret
   refine ⟨?_, O⟩
   rw [HS.out]
   simp
  ·have e : v = (p : Int) := by omega
   rw [e] at hi
   clear hv e
   subst hi
   have c := R1.cell (i := p) (by omega)
   have d := R2.cell (i := p) (by omega)
   have i1 : (0 : Int) ≤ (p : Int) := by omega
   have i2 : (p : Int) < 16 := by omega
   have HA := hide hall
   clear hall
   by_cases hfg : f p = g p
   ·have hb : (f p != g p) = false := by simp [hfg]
    have HF := hide hfg
    clear hfg
    go_wp2_with fail
    go_quiet (fail)
    go_wp2
    go_roundw
    case rel => exact ⟨p, by omega, ⟨_, by omega, rfl⟩, fun j a b => by
     by_cases hj : j = p
     ·rw [hj]; exact HF.out
     ·exact HA.out j (by omega) b, rowN R1 _, rowN R2 _, belN O⟩
    case measure => simp [intOf]
   ·have hb : (f p != g p) = true := by simp [hfg]
    have HL := hide (S_lt hf hg (p := p) (by omega) HA.out hfg)
    clear hfg
    go_wp2_with fail
    go_quiet (fail)
    go_wp2_with fail
    go_quiet (fail)
    go_wp2
    go_ret
    exact ⟨by rw [← HL.out]; rfl, belN (belN O)⟩
open Go.RowKit
def pk (k : Nat) : Nat → Int := fun i => if i = 0 then 65517 else if i < k then 65535 else 0
def pF : Nat → Int := upd (pk 15) 15 32767
theorem prime_any (w : World) : Cs 85 #[] w (.agg (arr 16 pF)) := by
 go_enter Tryz.func85, Tryz.ntmps85
 go_wp2
 rw [show #[Value.int IntKind.u64 0, Value.int IntKind.u64 0, Value.int IntKind.u64 0, Value.int IntKind.u64 0, Value.int IntKind.u64 0, Value.int IntKind.u64 0, Value.int IntKind.u64 0, Value.int IntKind.u64 0, Value.int IntKind.u64 0, Value.int IntKind.u64 0, Value.int IntKind.u64 0, Value.int IntKind.u64 0, Value.int IntKind.u64 0, Value.int IntKind.u64 0, Value.int IntKind.u64 0, Value.int IntKind.u64 0] = arr 16 (fun _ => 0) from rfl]
 rw [show #[Value.int IntKind.u64 65517, Value.int IntKind.u64 0, Value.int IntKind.u64 0, Value.int IntKind.u64 0, Value.int IntKind.u64 0, Value.int IntKind.u64 0, Value.int IntKind.u64 0, Value.int IntKind.u64 0, Value.int IntKind.u64 0, Value.int IntKind.u64 0, Value.int IntKind.u64 0, Value.int IntKind.u64 0, Value.int IntKind.u64 0, Value.int IntKind.u64 0, Value.int IntKind.u64 0, Value.int IntKind.u64 0] = arr 16 (pk 1) from rfl]
 have R1 : Row ((w.alloc (.cells (arr 16 fun _ => 0) 88)).alloc (.cells (arr 16 (pk 1)) 88)) w.heap.size 88 16 (fun _ => 0) := (Row.new w 88 16 _).alloc _
 have R2 : Row ((w.alloc (.cells (arr 16 fun _ => 0) 88)).alloc (.cells (arr 16 (pk 1)) 88)) (w.heap.size + 1) 88 16 (pk 1) := Row.new' _ 88 16 _ (by simp)
 have O : Below w.heap.size w ((w.alloc (.cells (arr 16 fun _ => 0) 88)).alloc (.cells (arr 16 (pk 1)) 88)) := ((Below.refl _ _).alloc (Nat.le_refl _) _).alloc (by simp) _
 generalize (w.alloc (.cells (arr 16 fun _ => 0) 88)).alloc (.cells (arr 16 (pk 1)) 88) = W at R1 R2 O ⊢
 go_loopw [2] (fun i wr => ∃ k : Nat, 1 ≤ k ∧ k ≤ 15 ∧ i = .int .i64 k ∧ Row wr w.heap.size 88 16 (fun _ => 0) ∧ Row wr (w.heap.size + 1) 88 16 (pk k) ∧ Below w.heap.size w wr) (fun i _ => 15 - (intOf i).toNat)
 case atStart => exact ⟨1, by omega, by omega, rfl, R1, R2, O⟩
 case round =>
  clear R1 R2 O
  obtain ⟨k, hk0, hk, rfl, R1, R2, O⟩ := hrel
  by_cases hlt : k < 15
  ·have d := R2.cell (i := k) (by omega)
   have e := R2.free k
   have RR := hide ((R2.set k 65535))
   have R1' := hide (R1.other (a := ⟨w.heap.size + 1, k, none⟩) (by simp) (.int .u64 65535))
   have O' := hide (O.setCell (p := ⟨w.heap.size + 1, k, none⟩) (by simp) (.int .u64 65535))
   clear R1 R2 O
   go_wp2
   go_roundw
   case rel => exact ⟨k + 1, by omega, by omega, by go_num, R1'.out, RR.out.congr (fun i _ => by unfold upd pk; by_cases h : i = k <;> by_cases h0 : i = 0 <;> simp [h, h0] <;> omega), O'.out⟩
   case measure => simp [intOf]; omega
  ·have hk' : k = 15 := by omega
   subst hk'
   have d := R2.cell (i := 15) (by omega)
   have e := R2.free 15
   have R3 := R2.set 15 32767
   have R1' := R1.other (a := ⟨w.heap.size + 1, 15, none⟩) (by simp) (.int .u64 32767)
   have O' := O.setCell (p := ⟨w.heap.size + 1, 15, none⟩) (by simp) (.int .u64 32767)
   rw [show upd (pk 15) 15 32767 = pF from rfl] at R3
   have RR := hide (R1'.setAll pF)
   have OO := hide (below_setCells (g := w.heap.size) (Nat.le_refl _) (arr 16 pF).toList 0 O')
   clear R1 R2 O O' hlt hk hk0
   go_wp2_with (first | (refine wpList_load_row rfl 88 _ rfl (w.heap.size + 1) rfl 88 (arr 16 pF) (0, 0) _ R3 Tryz.underlying88 rfl (info88 _) ?_) | (refine wpList_store_mid rfl 88 _ _ rfl w.heap.size 0 (arr 16 pF) rfl rfl (by rw [arr_size]; exact R1'.there) (info88 _) (arr_one _ _) ?_))
   exact bodyPost_ret (v := .agg (arr 16 pF)) (results_cell_row Tryz.results85 _ _ w.heap.size 88 (arr 16 pF) (0, 0) _ rfl RR.out Tryz.underlying88 rfl (info88 _)) rfl ⟨rfl, OO.out⟩
theorem pF_dig : Dig pF 16 := fun i _ => by
 unfold pF upd pk
 by_cases h : i = 15
 ·simp [h]
 ·by_cases h0 : i = 0
  ·simp [h0]
  ·by_cases h1 : i < 15 <;> simp [h, h0, h1]
theorem pF_S : S pF 16 = Pm := by decide +kernel
def bor (a b : Nat → Int) : Nat → Int
 | 0 => 0
 | k + 1 => 1 - (65536 + a k - b k - bor a b k) / 65536
def minusF (a b : Nat → Int) : Nat → Int := fun i => (65536 + a i - b i - bor a b i) % 65536
def mk (a b : Nat → Int) (k : Nat) : Nat → Int := fun i => if i < k then minusF a b i else 0
theorem bor_bd {a b : Nat → Int} (ha : Dig a 16) (hb : Dig b 16) : ∀ k, k ≤ 16 → 0 ≤ bor a b k ∧ bor a b k ≤ 1
 | 0, _ => by simp [bor]
 | k + 1, h => by
  have ih := bor_bd ha hb k (by omega)
  have h1 := ha k (by omega)
  have h2 := hb k (by omega)
  simp only [bor]
  omega
theorem minusF_dig (a b : Nat → Int) (n : Nat) : Dig (minusF a b) n := fun i _ => by unfold minusF; omega
theorem minus_S (a b : Nat → Int) : ∀ k, S (minusF a b) k = S a k - S b k + bor a b k * 65536 ^ k
 | 0 => by simp [S, bor]
 | k + 1 => by
  have ih := minus_S a b k
  have e : bor a b (k + 1) * 65536 ^ (k + 1) = 65536 * bor a b (k + 1) * 65536 ^ k := by rw [p16s, ← Int.mul_assoc, Int.mul_comm (bor a b (k + 1)) 65536]
  have e2 : minusF a b k = a k - b k - bor a b k + 65536 * bor a b (k + 1) := by
   simp only [minusF, bor]
   omega
  simp only [S]
  rw [ih, e, e2, Int.add_mul, Int.sub_mul, Int.sub_mul]
  omega
theorem minus_le {a b : Nat → Int} (ha : Dig a 16) (hb : Dig b 16) (h : S b 16 ≤ S a 16) : S (minusF a b) 16 = S a 16 - S b 16 := by
 have e := minus_S a b 16
 have h0 := bor_bd ha hb 16 (by omega)
 have h1 := S_bd (minusF_dig a b 16)
 have h2 := S_bd ha
 have h3 := S_bd hb
 have : bor a b 16 = 0 ∨ bor a b 16 = 1 := by omega
 rcases this with h4 | h4
 ·rw [h4] at e; omega
 ·rw [h4] at e; omega
theorem and16 {x : Int} (h0 : 0 ≤ x) (h1 : x < 18446744073709551616) : bits .and .u64 x 65535 = x % 65536 := by
 rw [u64_and x _ h0 h1 (by decide) (by decide)]
 have e : (65535 : Int).toNat = 65535 := by decide
 rw [e, nat_mask16]
 omega
theorem minus_any (a b : Nat → Int) (w : World) (ha : Dig a 16) (hb : Dig b 16) : Cs 86 #[.agg (arr 16 a), .agg (arr 16 b)] w (.agg (arr 16 (minusF a b))) := by
 go_enter Tryz.func86, Tryz.ntmps86
 go_wp2
 rw [show #[Value.int IntKind.u64 0, Value.int IntKind.u64 0, Value.int IntKind.u64 0, Value.int IntKind.u64 0, Value.int IntKind.u64 0, Value.int IntKind.u64 0, Value.int IntKind.u64 0, Value.int IntKind.u64 0, Value.int IntKind.u64 0, Value.int IntKind.u64 0, Value.int IntKind.u64 0, Value.int IntKind.u64 0, Value.int IntKind.u64 0, Value.int IntKind.u64 0, Value.int IntKind.u64 0, Value.int IntKind.u64 0] = arr 16 (fun _ => 0) from rfl]
 have R1 : Row ((((w.alloc (.cells (arr 16 a) 88)).alloc (.cells (arr 16 b) 88)).alloc (.cells (arr 16 fun _ => 0) 88)).alloc (.cells (arr 16 fun _ => 0) 88)) w.heap.size 88 16 a := (((Row.new w 88 16 a).alloc _).alloc _).alloc _
 have R2 : Row ((((w.alloc (.cells (arr 16 a) 88)).alloc (.cells (arr 16 b) 88)).alloc (.cells (arr 16 fun _ => 0) 88)).alloc (.cells (arr 16 fun _ => 0) 88)) (w.heap.size + 1) 88 16 b := ((Row.new' _ 88 16 _ (by simp)).alloc _).alloc _
 have R3 : Row ((((w.alloc (.cells (arr 16 a) 88)).alloc (.cells (arr 16 b) 88)).alloc (.cells (arr 16 fun _ => 0) 88)).alloc (.cells (arr 16 fun _ => 0) 88)) (w.heap.size + 1 + 1) 88 16 (fun _ => 0) := (Row.new' _ 88 16 _ (by simp)).alloc _
 have R4 : Row ((((w.alloc (.cells (arr 16 a) 88)).alloc (.cells (arr 16 b) 88)).alloc (.cells (arr 16 fun _ => 0) 88)).alloc (.cells (arr 16 fun _ => 0) 88)) (w.heap.size + 1 + 1 + 1) 88 16 (fun _ => 0) := Row.new' _ 88 16 _ (by simp)
 have O : Below w.heap.size w ((((w.alloc (.cells (arr 16 a) 88)).alloc (.cells (arr 16 b) 88)).alloc (.cells (arr 16 fun _ => 0) 88)).alloc (.cells (arr 16 fun _ => 0) 88)) := ((((Below.refl _ _).alloc (Nat.le_refl _) _).alloc (by simp) _).alloc (by simp; omega) _).alloc (by simp; omega) _
 generalize (((w.alloc (.cells (arr 16 a) 88)).alloc (.cells (arr 16 b) 88)).alloc (.cells (arr 16 fun _ => 0) 88)).alloc (.cells (arr 16 fun _ => 0) 88) = W at R1 R2 R3 R4 O ⊢
 go_loopw [6, 7] (fun bo i wr => ∃ k : Nat, k ≤ 16 ∧ bo = .int .u64 (bor a b k) ∧ i = .int .i64 k ∧ Row wr w.heap.size 88 16 a ∧ Row wr (w.heap.size + 1) 88 16 b ∧ Row wr (w.heap.size + 1 + 1) 88 16 (fun _ => 0) ∧ Row wr (w.heap.size + 1 + 1 + 1) 88 16 (mk a b k) ∧ Below w.heap.size w wr) (fun _ i _ => 16 - (intOf i).toNat)
 case atStart => exact ⟨0, by omega, rfl, rfl, R1, R2, R3, R4, O⟩
 case round =>
  clear R1 R2 R3 R4 O
  obtain ⟨k, hk, rfl, rfl, R1, R2, R3, R4, O⟩ := hrel
  by_cases hlt : k < 16
  ·have c := R1.cell hlt
   have d := R2.cell hlt
   have x := R4.cell (i := k) hlt
   have e := R4.free k
   obtain ⟨a0, a1⟩ := ha k hlt
   obtain ⟨b0, b1⟩ := hb k hlt
   obtain ⟨q0, q1⟩ := bor_bd ha hb k (by omega)
   have i1 : (0 : Int) ≤ (k : Int) := by omega
   have i2 : (k : Int) < 16 := by omega
   have ea := and16 (x := 65536 + a k - b k - bor a b k) (by omega) (by omega)
   have HB := hide (show bor a b (k + 1) = 1 - (65536 + a k - b k - bor a b k) / 65536 from rfl)
   have RR := hide (fun n => (rowN R4 n).set k ((65536 + a k - b k - bor a b k) % 65536))
   have R1' := hide (fun n => (rowN R1 n).other (a := ⟨w.heap.size + 1 + 1 + 1, k, none⟩) (by simp; omega) (.int .u64 ((65536 + a k - b k - bor a b k) % 65536)))
   have R2' := hide (fun n => (rowN R2 n).other (a := ⟨w.heap.size + 1 + 1 + 1, k, none⟩) (by simp) (.int .u64 ((65536 + a k - b k - bor a b k) % 65536)))
   have R3' := hide (fun n => (rowN R3 n).other (a := ⟨w.heap.size + 1 + 1 + 1, k, none⟩) (by simp) (.int .u64 ((65536 + a k - b k - bor a b k) % 65536)))
   have O' := hide (fun n => (belN (n := n) O).setCell (p := ⟨w.heap.size + 1 + 1 + 1, k, none⟩) (by simp; omega) (.int .u64 ((65536 + a k - b k - bor a b k) % 65536)))
   clear R1 R2 R3 R4 O
   generalize hbo : bor a b k = bo at *
   have HO := hide hbo
   clear hbo
   go_wp2_with fail
   go_quiet (fail)
   go_wp2
   exact ⟨⟨k + 1, by omega, by rw [HB.out], by go_num, R1'.out _, R2'.out _, R3'.out _, (RR.out _).congr (fun i _ => by
    unfold upd mk
    by_cases h : i = k
    ·subst h
     simp [minusF, HO.out]
    ·simp [h]
     omega), O'.out _⟩, by simp [intOf]; omega⟩
  ·have hk' : k = 16 := by omega
   subst hk'
   have e : arr 16 (mk a b 16) = arr 16 (minusF a b) := arr_congr fun i hi => by unfold mk; rw [if_pos hi]
   unfold Row at R4
   rw [e] at R4
   have RR := hide (R3.setAll (minusF a b))
   have OO := hide (below_setCells (g := w.heap.size + 1 + 1) (by omega) (arr 16 (minusF a b)).toList 0 O)
   go_wp2_with (first | (refine wpList_load_row rfl 88 _ rfl (w.heap.size + 1 + 1 + 1) rfl 88 (arr 16 (minusF a b)) (0, 0) _ R4 Tryz.underlying88 rfl (info88 _) ?_) | (refine wpList_store_mid rfl 88 _ _ rfl (w.heap.size + 1 + 1) 0 (arr 16 (minusF a b)) rfl rfl (by rw [arr_size]; exact R3.there) (info88 _) (arr_one _ _) ?_))
   exact bodyPost_ret (v := .agg (arr 16 (minusF a b))) (results_cell_row Tryz.results86 _ _ (w.heap.size + 1 + 1) 88 (arr 16 (minusF a b)) (0, 0) _ rfl RR.out Tryz.underlying88 rfl (info88 _)) rfl ⟨rfl, OO.out⟩
open Go.RowKit
def cf (t : Nat → Int) : Nat → Int
 | 0 => 0
 | k + 1 => (t k + cf t k) / 65536
def lo (t : Nat → Int) : Nat → Int := fun i => (t i + cf t i) % 65536
theorem lo_dig (t : Nat → Int) (n : Nat) : Dig (lo t) n := fun i _ => by unfold lo; omega
theorem pass_S (t : Nat → Int) : ∀ k, S (lo t) k + cf t k * 65536 ^ k = S t k
 | 0 => by simp [S, cf]
 | k + 1 => by
  have ih := pass_S t k
  have e : cf t (k + 1) * 65536 ^ (k + 1) = 65536 * cf t (k + 1) * 65536 ^ k := by rw [p16s, ← Int.mul_assoc, Int.mul_comm (cf t (k + 1)) 65536]
  have e2 : lo t k = t k + cf t k - 65536 * cf t (k + 1) := by
   simp only [lo, cf]
   omega
  simp only [S]
  rw [e, e2, Int.sub_mul, Int.add_mul]
  omega
theorem S_shift (f : Nat → Int) (n : Nat) : ∀ m, S f (n + m) = S f n + 65536 ^ n * S (fun i => f (n + i)) m
 | 0 => by simp [S]
 | m + 1 => by
  have ih := S_shift f n m
  rw [← Nat.add_assoc]
  simp only [S]
  rw [ih, Int.mul_add, Int.pow_add, Int.mul_left_comm, Int.add_assoc]
theorem S_zero (n : Nat) : S (fun _ => 0) n = 0 := by
 induction n with
 | zero => rfl
 | succ n ih => simp only [S, ih]; simp
def foldF (u : Nat → Int) : Nat → Int := fun i => if i < 16 then u i + 38 * u (16 + i) else 0
theorem fold_S (u : Nat → Int) : ∀ n, n ≤ 16 → S (foldF u) n = S u n + 38 * S (fun i => u (16 + i)) n
 | 0, _ => by simp [S]
 | n + 1, h => by
  have ih := fold_S u n (by omega)
  simp only [S]
  rw [ih, foldF, if_pos (by omega), Int.add_mul, Int.mul_add, Int.mul_assoc]
  omega
theorem S_upper_zero (f : Nat → Int) (h : ∀ i, 16 ≤ i → i < 32 → f i = 0) : S f 32 = S f 16 := by
 have e := S_shift f 16 16
 rw [show 16 + 16 = 32 from rfl] at e
 rw [e, S_congr (f := fun i => f (16 + i)) (g := fun _ => 0) fun i hi => h (16 + i) (by omega) (by omega), S_zero]
 simp
def T1 (t : Nat → Int) : Nat → Int := upd (foldF (lo t)) 0 (foldF (lo t) 0 + 1444 * cf t 32)
theorem S_upd0 (f : Nat → Int) (v : Int) : ∀ n, S (upd f 0 v) (n + 1) = S f (n + 1) - f 0 + v
 | 0 => by simp [S, upd]
 | n + 1 => by
  have ih := S_upd0 f v n
  show S (upd f 0 v) (n + 1) + upd f 0 v (n + 1) * 65536 ^ (n + 1) = S f (n + 1) + f (n + 1) * 65536 ^ (n + 1) - f 0 + v
  rw [ih]
  simp only [upd]
  rw [if_neg (by omega)]
  omega
theorem T1_up (t : Nat → Int) (i : Nat) (h : 16 ≤ i) : T1 t i = 0 := by
 unfold T1 upd foldF
 rw [if_neg (by omega), if_neg (by omega)]
theorem T1_S (t : Nat → Int) : Cg (S (T1 t) 32) (S t 32) := by
 rw [S_upper_zero (T1 t) fun i h _ => T1_up t i h]
 have e1 : S (T1 t) 16 = S (foldF (lo t)) 16 + 1444 * cf t 32 := by
  have h := S_upd0 (foldF (lo t)) (foldF (lo t) 0 + 1444 * cf t 32) 15
  rw [show 15 + 1 = 16 from rfl] at h
  unfold T1
  rw [h]
  omega
 have e2 := fold_S (lo t) 16 (by omega)
 have e3 := pass_S t 32
 have e4 := S_shift (lo t) 16 16
 rw [show 16 + 16 = 32 from rfl] at e4
 have p1 : (65536 : Int) ^ 16 = 2 * Pm + 38 := by decide
 have p2 : (65536 : Int) ^ 32 = (2 * Pm + 76) * (2 * Pm) + 1444 := by decide
 rw [e4, p2, p1] at e3
 rw [e1, e2]
 generalize S (fun i => lo t (16 + i)) 16 = h at *
 generalize S (lo t) 16 = l at *
 generalize cf t 32 = c at *
 refine ⟨- (2 * h) - c * ((2 * Pm + 76) * 2), ?_⟩
 rw [← e3]
 simp only [Int.mul_add, Int.add_mul, Int.sub_mul, Int.neg_mul, Int.mul_assoc, Int.mul_comm Pm]
 omega
structure B48 (t : Nat → Int) : Prop where
 b : ∀ i, i < 32 → 0 ≤ t i ∧ t i < 281474976710656
theorem cf_bd {t : Nat → Int} (h : B48 t) : ∀ k, k ≤ 32 → 0 ≤ cf t k ∧ cf t k ≤ 8589934592
 | 0, _ => by simp [cf]
 | k + 1, hk => by
  have ih := cf_bd h k (by omega)
  have := h.b k (by omega)
  simp only [cf]
  omega
def Jl : Nat → (Nat → Int) → Prop
 | 0, t => B48 t
 | 1, t => (∀ i, 16 ≤ i → i < 32 → t i = 0) ∧ (0 ≤ t 0 ∧ t 0 ≤ 17592186044416) ∧ ∀ i, 1 ≤ i → i < 16 → 0 ≤ t i ∧ t i ≤ 2555865
 | 2, t => (∀ i, 16 ≤ i → i < 32 → t i = 0) ∧ (0 ≤ t 0 ∧ t 0 ≤ 67100) ∧ ∀ i, 1 ≤ i → i < 16 → 0 ≤ t i ∧ t i ≤ 65535
 | _, t => (∀ i, 16 ≤ i → i < 32 → t i = 0) ∧ Dig t 16
theorem Jl.b48 {k : Nat} {t : Nat → Int} (hk : k ≤ 3) (h : Jl k t) : B48 t := by
 have hc : k = 0 ∨ k = 1 ∨ k = 2 ∨ k = 3 := by omega
 rcases hc with rfl | rfl | rfl | rfl
 ·exact h
 all_goals
  refine ⟨fun i hi => ?_⟩
  by_cases h16 : 16 ≤ i
  ·rw [h.1 i h16 hi]; omega
  ·first
   | (have := h.2 i (by omega); omega)
   | (by_cases h0 : i = 0
      ·have := h.2.1; rw [h0]; omega
      ·have := h.2.2 i (by omega) (by omega); omega)
theorem T1_low {t : Nat → Int} (hz : ∀ i, 16 ≤ i → i < 32 → t i = 0) (hc : 0 ≤ cf t 16 ∧ cf t 16 ≤ 65535) : T1 t 0 = lo t 0 + 38 * cf t 16 ∧ ∀ i, 1 ≤ i → i < 16 → T1 t i = lo t i := by
 have h17 : ∀ j, cf t (17 + j) = 0 ∨ 15 ≤ j := by
  intro j
  induction j with
  | zero => left; show (t 16 + cf t 16) / 65536 = 0; rw [hz 16 (by omega) (by omega)]; omega
  | succ j ih =>
   by_cases hj : 15 ≤ j + 1
   ·exact .inr hj
   ·left
    rcases ih with ih | ih
    ·show (t (17 + j) + cf t (17 + j)) / 65536 = 0
     rw [ih, hz (17 + j) (by omega) (by omega)]
     decide
    ·omega
 have h32 : cf t 32 = 0 := by
  have a : cf t 31 = 0 := by rcases h17 14 with h | h; · exact h
                             ·omega
  show (t 31 + cf t 31) / 65536 = 0
  rw [a, hz 31 (by omega) (by omega)]
  decide
 have hl : ∀ i, 1 ≤ i → i < 16 → lo t (16 + i) = 0 := by
  intro i h1 h2
  have a : cf t (16 + i) = 0 := by
   have := h17 (i - 1)
   rw [show 17 + (i - 1) = 16 + i by omega] at this
   rcases this with h | h
   ·exact h
   ·have : i = 16 := by omega
    omega
  unfold lo
  rw [a, hz (16 + i) (by omega) (by omega)]
  decide
 have h16 : lo t 16 = cf t 16 := by
  unfold lo
  rw [hz 16 (by omega) (by omega)]
  omega
 refine ⟨?_, fun i h1 h2 => ?_⟩
 ·unfold T1 upd
  rw [if_pos rfl, h32]
  unfold foldF
  rw [if_pos (by omega), Nat.add_zero, h16]
  omega
 ·unfold T1 upd
  rw [if_neg (by omega)]
  unfold foldF
  rw [if_pos h2, hl i h1 h2]
  omega
theorem Jl.next {k : Nat} {t : Nat → Int} (hk : k < 3) (h : Jl k t) : Jl (k + 1) (T1 t) := by
 have hB := h.b48 (by omega)
 have hc : k = 0 ∨ k = 1 ∨ k = 2 := by omega
 rcases hc with rfl | rfl | rfl
 ·have hcf := cf_bd hB 32 (by omega)
  have hlo := lo_dig t 32
  refine ⟨fun i a _ => T1_up t i a, ?_, fun i h1 h2 => ?_⟩
  ·unfold T1 upd foldF
   have := hlo 0 (by omega)
   have := hlo 16 (by omega)
   simp
   omega
  ·unfold T1 upd foldF
   have := hlo i (by omega)
   have := hlo (16 + i) (by omega)
   rw [if_neg (by omega), if_pos h2]
   omega
 ·obtain ⟨hz, h0, hi⟩ := h
  have c0 : cf t 0 = 0 := rfl
  have c1 : 0 ≤ cf t 1 ∧ cf t 1 ≤ 268435456 := by show 0 ≤ (t 0 + cf t 0) / 65536 ∧ (t 0 + cf t 0) / 65536 ≤ 268435456; rw [c0]; omega
  have c2 : 0 ≤ cf t 2 ∧ cf t 2 ≤ 5000 := by
   have := hi 1 (by omega) (by omega)
   show 0 ≤ (t 1 + cf t 1) / 65536 ∧ (t 1 + cf t 1) / 65536 ≤ 5000
   omega
  have c3 : ∀ j, 3 + j ≤ 16 → 0 ≤ cf t (3 + j) ∧ cf t (3 + j) ≤ 39 := by
   intro j
   induction j with
   | zero =>
    intro _
    have := hi 2 (by omega) (by omega)
    show 0 ≤ (t 2 + cf t 2) / 65536 ∧ (t 2 + cf t 2) / 65536 ≤ 39
    omega
   | succ j ih =>
    intro hj
    have ih := ih (by omega)
    have := hi (3 + j) (by omega) (by omega)
    show 0 ≤ (t (3 + j) + cf t (3 + j)) / 65536 ∧ (t (3 + j) + cf t (3 + j)) / 65536 ≤ 39
    omega
  have h16 := c3 13 (by omega)
  rw [show 3 + 13 = 16 from rfl] at h16
  have hT := T1_low hz (by omega)
  have hlo := lo_dig t 32
  refine ⟨fun i a _ => T1_up t i a, ?_, fun i h1 h2 => ?_⟩
  ·rw [hT.1]
   have := hlo 0 (by omega)
   omega
  ·rw [hT.2 i h1 h2]
   have := hlo i (by omega)
   omega
 ·obtain ⟨hz, h0, hi⟩ := h
  have c0 : cf t 0 = 0 := rfl
  have c1 : 0 ≤ cf t 1 ∧ cf t 1 ≤ 1 := by show 0 ≤ (t 0 + cf t 0) / 65536 ∧ (t 0 + cf t 0) / 65536 ≤ 1; rw [c0]; omega
  have c3 : ∀ j, 1 + j ≤ 16 → 0 ≤ cf t (1 + j) ∧ cf t (1 + j) ≤ cf t 1 := by
   intro j
   induction j with
   | zero => intro _; show 0 ≤ cf t 1 ∧ cf t 1 ≤ cf t 1; omega
   | succ j ih =>
    intro hj
    have ih := ih (by omega)
    have := hi (1 + j) (by omega) (by omega)
    show 0 ≤ (t (1 + j) + cf t (1 + j)) / 65536 ∧ (t (1 + j) + cf t (1 + j)) / 65536 ≤ cf t 1
    omega
  have h16 := c3 15 (by omega)
  rw [show 1 + 15 = 16 from rfl] at h16
  have hT := T1_low hz (by omega)
  have hlo := lo_dig t 32
  have e1 : cf t 1 = (t 0 + cf t 0) / 65536 := rfl
  have el : lo t 0 = (t 0 + cf t 0) % 65536 := rfl
  rw [c0] at e1 el
  refine ⟨fun i a _ => T1_up t i a, fun i h2 => ?_⟩
  by_cases hi0 : i = 0
  ·rw [hi0, hT.1]
   omega
  ·rw [hT.2 i (by omega) h2]
   exact hlo i (by omega)
def d16 (N : Int) : Nat → Int := fun i => N / 65536 ^ i % 65536
theorem S_inj {f g : Nat → Int} : ∀ {n : Nat}, Dig f n → Dig g n → S f n = S g n → ∀ i, i < n → f i = g i
 | 0, _, _, _, i, hi => by omega
 | n + 1, hf, hg, h, i, hi => by
  have bf := S_bd (hf.le (m := n) (by omega))
  have bg := S_bd (hg.le (m := n) (by omega))
  have hp := p16 n
  simp only [S] at h
  have hn : f n = g n := by
   apply Classical.byContradiction
   intro hne
   have : f n < g n ∨ g n < f n := by omega
   rcases this with hl | hl
   ·have : (g n - f n) * 65536 ^ n ≥ 1 * 65536 ^ n := Int.mul_le_mul_of_nonneg_right (by omega) (by omega)
    rw [Int.sub_mul] at this
    omega
   ·have : (f n - g n) * 65536 ^ n ≥ 1 * 65536 ^ n := Int.mul_le_mul_of_nonneg_right (by omega) (by omega)
    rw [Int.sub_mul] at this
    omega
  by_cases hin : i = n
  ·rw [hin]; exact hn
  ·refine S_inj (n := n) (hf.le (by omega)) (hg.le (by omega)) ?_ i (by omega)
   rw [hn] at h
   omega
theorem d16_dig (N : Int) (n : Nat) : Dig (d16 N) n := fun i _ => by unfold d16; omega
theorem d16_S (N : Int) (h0 : 0 ≤ N) : ∀ n, S (d16 N) n = N % 65536 ^ n
 | 0 => by simp [S]
 | n + 1 => by
  simp only [S]
  rw [d16_S N h0 n, d16, Int.pow_succ]
  have hp := p16 n
  generalize (65536 : Int) ^ n = X at *
  have a := Int.mul_ediv_add_emod N X
  have b := Int.mul_ediv_add_emod (N / X) 65536
  have r0 := Int.emod_nonneg N (by omega : X ≠ 0)
  have r1 := Int.emod_lt_of_pos N hp
  have hN : N = (N % X + N / X % 65536 * X) + X * 65536 * (N / X / 65536) := by
   have e : X * (N / X) = X * (65536 * (N / X / 65536) + N / X % 65536) := by rw [b]
   rw [Int.mul_add] at e
   rw [Int.mul_comm (N / X % 65536) X, Int.mul_assoc]
   omega
  have q : N / X % 65536 * X ≤ 65535 * X := Int.mul_le_mul_of_nonneg_right (by omega) (by omega)
  have q0 : 0 ≤ N / X % 65536 * X := Int.mul_nonneg (by omega) (by omega)
  have hM : N % (X * 65536) = (N % X + N / X % 65536 * X + X * 65536 * (N / X / 65536)) % (X * 65536) := by rw [← hN]
  rw [hM, Int.add_mul_emod_self_left]
  exact (Int.emod_eq_of_lt (by omega) (by omega)).symm
open Go.RowKit
theorem bs_fold (ns : List Int) : ∀ s : ByteArray, ns.foldl (fun r n => r.push (UInt8.ofNat n.toNat)) s = ⟨s.data ++ (ns.map fun n => UInt8.ofNat n.toNat).toArray⟩ := by
 induction ns with
 | nil => intro s; simp
 | cons n ns ih =>
  intro s
  rw [List.foldl_cons, ih]
  simp [ByteArray.push]
theorem conv_bytes (W : World) (g : Nat) (T : TypeId) (ns : List Int) (l cap : Nat) (fr : Nat × Nat) (hg : W.heap[g]? = some (.cells (ns.map (Value.int .u8)).toArray T fr)) (hl : ns.length = l) :
  (convert 61 9 (.slice (some ⟨g, 0, none⟩) l cap)).run Tryz.prog W = .ok (.string (bs ns)) W := by
 subst hl
 rw [run_convert_bytes_string W 61 9 5 (some ⟨g, 0, none⟩) ns.length cap Tryz.underlying61 Tryz.underlying5 Tryz.underlying9]
 have h := run_loadCells_list (P := Tryz.prog) W ⟨g, 0, none⟩ (ns.map (Value.int .u8)) (fun j v hv => by
  have hadd : (⟨g, 0, none⟩ : Addr).add j = ⟨g, j, none⟩ := by unfold Addr.add; split <;> simp_all
  rw [hadd, cell_of_row W g j _ T fr hg]
  simpa using hv)
 rw [List.length_map] at h
 have he : ByteArray.empty.data = #[] := rfl
 rw [run_bytesToString W _ ns.length cap ns h, bs_fold, he]
 simp [bs]
def digs (a : Int) : List Int := [a % 256, a / 256 % 256, a / 65536 % 256, a / 16777216 % 256, a / 4294967296 % 256, a / 1099511627776 % 256, a / 281474976710656 % 256, a / 72057594037927936 % 256]
def lebytes (n : Int) : ByteArray := bs (digs (n % 18446744073709551616) ++ digs (n / 18446744073709551616 % 18446744073709551616) ++ digs (n / 340282366920938463463374607431768211456 % 18446744073709551616) ++ digs (n / 6277101735386680763835789423207666416102355444464034512896 % 18446744073709551616))
theorem text_any (a b c d : Int) (w : World) : Cs 97 #[.agg #[.int .u64 a, .int .u64 b, .int .u64 c, .int .u64 d]] w (.string (bs (digs a ++ digs b ++ digs c ++ digs d))) := by
 go_enter Tryz.func97, Tryz.ntmps97
 go_wp2
 refine wp_loop_rounds 33 ?_
 iterate 33 (rw [rounds_succ]; go_wp2)
 have hcv : (convert 61 9 (.slice (some ⟨w.heap.size + 1, 0, none⟩) 32 32)).run Tryz.prog ((w.alloc (.cells #[.int .u64 a, .int .u64 b, .int .u64 c, .int .u64 d] 144)).alloc (.cells #[.int .u8 (a % 256), .int .u8 (a / 256 % 256), .int .u8 (a / 65536 % 256), .int .u8 (a / 16777216 % 256), .int .u8 (a / 4294967296 % 256), .int .u8 (a / 1099511627776 % 256), .int .u8 (a / 281474976710656 % 256), .int .u8 (a / 72057594037927936 % 256), .int .u8 (b % 256), .int .u8 (b / 256 % 256), .int .u8 (b / 65536 % 256), .int .u8 (b / 16777216 % 256), .int .u8 (b / 4294967296 % 256), .int .u8 (b / 1099511627776 % 256), .int .u8 (b / 281474976710656 % 256), .int .u8 (b / 72057594037927936 % 256), .int .u8 (c % 256), .int .u8 (c / 256 % 256), .int .u8 (c / 65536 % 256), .int .u8 (c / 16777216 % 256), .int .u8 (c / 4294967296 % 256), .int .u8 (c / 1099511627776 % 256), .int .u8 (c / 281474976710656 % 256), .int .u8 (c / 72057594037927936 % 256), .int .u8 (d % 256), .int .u8 (d / 256 % 256), .int .u8 (d / 65536 % 256), .int .u8 (d / 16777216 % 256), .int .u8 (d / 4294967296 % 256), .int .u8 (d / 1099511627776 % 256), .int .u8 (d / 281474976710656 % 256), .int .u8 (d / 72057594037927936 % 256)] 174)) = .ok (.string (bs (digs a ++ digs b ++ digs c ++ digs d))) _ := conv_bytes _ (w.heap.size + 1) 174 (digs a ++ digs b ++ digs c ++ digs d) 32 32 (0, 0) (heap_alloc2_new w _ _) rfl
 rw [hcv]
 clear hcv
 generalize hB : bs (digs a ++ digs b ++ digs c ++ digs d) = B
 have HB := hide hB
 clear hB
 go_wp2
 go_ret
 exact ⟨by rw [HB.out]; rfl, ((Below.refl _ _).alloc (Nat.le_refl _) _).alloc (by simp) _⟩
theorem wordsR0 {y : E5} (h : y.Low) : bits BinOp.or IntKind.u64 y.a (IntKind.u64.wrap (y.b * 2251799813685248)) = y.n % 18446744073709551616 := by
 obtain ⟨a0, a1, b0, b1, c0, c1, d0, d1, e0, e1⟩ := h
 rw [IntKind.wrap_u64, or_join' 51 2251799813685248 (by decide) ⟨by omega, by omega⟩ ⟨by omega, by omega⟩ (by omega) (by omega)]
 simp only [E5.n]
 omega
theorem wordsR1 {y : E5} (h : y.Low) : bits BinOp.or IntKind.u64 (y.b / 8192) (IntKind.u64.wrap (y.c * 274877906944)) = y.n / 18446744073709551616 % 18446744073709551616 := by
 obtain ⟨a0, a1, b0, b1, c0, c1, d0, d1, e0, e1⟩ := h
 rw [IntKind.wrap_u64, or_join' 38 274877906944 (by decide) ⟨by omega, by omega⟩ ⟨by omega, by omega⟩ (by omega) (by omega)]
 simp only [E5.n]
 omega
theorem wordsR2 {y : E5} (h : y.Low) : bits BinOp.or IntKind.u64 (y.c / 67108864) (IntKind.u64.wrap (y.d * 33554432)) = y.n / 340282366920938463463374607431768211456 % 18446744073709551616 := by
 obtain ⟨a0, a1, b0, b1, c0, c1, d0, d1, e0, e1⟩ := h
 rw [IntKind.wrap_u64, or_join' 25 33554432 (by decide) ⟨by omega, by omega⟩ ⟨by omega, by omega⟩ (by omega) (by omega)]
 simp only [E5.n]
 omega
theorem wordsR3 {y : E5} (h : y.Low) : bits BinOp.or IntKind.u64 (y.d / 549755813888) (IntKind.u64.wrap (y.e * 4096)) = y.n / 6277101735386680763835789423207666416102355444464034512896 % 18446744073709551616 := by
 obtain ⟨a0, a1, b0, b1, c0, c1, d0, d1, e0, e1⟩ := h
 rw [IntKind.wrap_u64, or_join' 12 4096 (by decide) ⟨by omega, by omega⟩ ⟨by omega, by omega⟩ (by omega) (by omega)]
 simp only [E5.n]
 omega
theorem set4 {B g : Nat} {w w1 : World} (h : Below B w w1) (hg : B ≤ g) {u0 u1 u2 u3 : Value} :
  Below B w ((((w1.setCell ⟨g, 0, none⟩ u0).setCell ⟨g, 1, none⟩ u1).setCell ⟨g, 2, none⟩ u2).setCell ⟨g, 3, none⟩ u3) :=
 (((h.setCell (p := ⟨g, 0, none⟩) hg u0).setCell (p := ⟨g, 1, none⟩) hg u1).setCell (p := ⟨g, 2, none⟩) hg u2).setCell (p := ⟨g, 3, none⟩) hg u3
abbrev w4 (n : Int) : Value := .agg #[.int .u64 (n % 18446744073709551616), .int .u64 (n / 18446744073709551616 % 18446744073709551616), .int .u64 (n / 340282366920938463463374607431768211456 % 18446744073709551616), .int .u64 (n / 6277101735386680763835789423207666416102355444464034512896 % 18446744073709551616)]
theorem words_any (x : E5) (w : World) (hx : x.Ok) : Cs 96 #[x.v] w (w4 (x.n % Pm)) := by
 go_enter Tryz.func96, Tryz.ntmps96
 go_wp2_with fail
 refine (least_any x _ hx).mono ?_
 rintro _ w1 ⟨rfl, hb⟩
 have HN := hide (leastF_n hx)
 have hl := leastF_low x
 have e0 := wordsR0 hl
 have e1 := wordsR1 hl
 have e2 := wordsR2 hl
 have e3 := wordsR3 hl
 rw [leastF_n hx] at e0 e1 e2 e3
 generalize leastF x = y at *
 have H3 := hide (below2 hb)
 obtain ⟨hc, hf⟩ := bcell hb
 have hs : w.heap.size + 1 < w1.heap.size := by have := hb.size; simp at this; omega
 clear hb hl
 go_wp2
 refine bodyPost_ret (v := w4 (x.n % Pm)) (by simp [results, Tryz.results96, go_sem, hc, hs]) rfl ⟨rfl, ?_⟩
 exact (set4 (B := w.heap.size) (g := w.heap.size + 1) H3.out (by omega)).alloc (by simp; omega) _
theorem bytes_any (x : E5) (w : World) (hx : x.Ok) : Cs 70 #[x.v] w (.string (lebytes (x.n % Pm))) := by
 go_enter Tryz.func70, Tryz.ntmps70
 go_wp2_with fail
 refine (words_any x _ hx).mono ?_
 rintro _ w1 ⟨rfl, hb⟩
 have H3 := below1 hb
 clear hb
 go_wp2_with fail
 refine (text_any _ _ _ _ _).mono ?_
 rintro _ w2 ⟨rfl, hb⟩
 have H4 := H3.trans (hb.mono H3.size)
 clear hb H3
 rw [show bs (digs (x.n % Pm % 18446744073709551616) ++ digs (x.n % Pm / 18446744073709551616 % 18446744073709551616) ++ digs (x.n % Pm / 340282366920938463463374607431768211456 % 18446744073709551616) ++ digs (x.n % Pm / 6277101735386680763835789423207666416102355444464034512896 % 18446744073709551616)) = lebytes (x.n % Pm) from rfl]
 go_wp2
 go_ret
 exact ⟨rfl, H4⟩
open Go.RowKit
def by16 (f : Nat → Int) (i : Nat) : Int := f (i / 2) / 256 ^ (i % 2) % 256
def rb (f : Nat → Int) (k : Nat) : List Int := (List.range 32).map fun i => if i < k then by16 f i else 0
def Byt (W : World) (g : Nat) (l : List Int) : Prop := W.heap[g]? = some (.cells (l.map (Value.int .u8)).toArray 5 (0, 0))
theorem Byt.cell {W : World} {g : Nat} {l : List Int} (h : Byt W g l) {i : Nat} (hi : i < l.length) : ∃ v, W.cell? ⟨g, i, none⟩ = some v := by
 rw [cell_of_row W g i _ 5 (0, 0) h]
 simp [hi]
theorem Byt.free {W : World} {g : Nat} {l : List Int} (h : Byt W g l) (i : Nat) : W.frozen? ⟨g, i, none⟩ = false := frozen_of_row W g i _ 5 h
theorem Byt.set {W : World} {g : Nat} {l : List Int} (h : Byt W g l) (k : Nat) (v : Int) : Byt (W.setCell ⟨g, k, none⟩ (.int .u8 v)) g (l.set k v) := by
 unfold Byt
 rw [heap_setCell_same W g k _ 5 _ h]
 simp [List.map_set]
theorem rb_len (f : Nat → Int) (k : Nat) : (rb f k).length = 32 := by simp [rb]
theorem rb_set (f : Nat → Int) (k : Nat) : (rb f k).set k (by16 f k) = rb f (k + 1) := by
 apply List.ext_getElem?
 intro i
 by_cases hi : i < 32
 ·by_cases h : k = i
  ·subst h
   rw [List.getElem?_set_self (by rw [rb_len]; exact hi)]
   simp [rb, hi]
  ·rw [List.getElem?_set_ne h]
   simp only [rb, List.getElem?_map, List.getElem?_range hi, Option.map_some]
   congr 1
   by_cases h2 : i < k
   ·rw [if_pos h2, if_pos (by omega)]
   ·rw [if_neg h2, if_neg (by omega)]
 ·rw [List.getElem?_eq_none (by simp [rb]; omega), List.getElem?_eq_none (by simp [rb]; omega)]
theorem rbytes_any (f : Nat → Int) (w : World) (hf : Dig f 16) : Cs 44 #[.agg (arr 16 f)] w (.string (bs (rb f 32))) := by
 have hmk : ∀ w, (Instr.makeSlice 61 (.int .i64 32) (.int .i64 32)).run Tryz.prog w = .ok (.slice (some ⟨w.heap.size, 0, none⟩) 32 32) (w.alloc (.cells #[Value.int IntKind.u8 0, Value.int IntKind.u8 0, Value.int IntKind.u8 0, Value.int IntKind.u8 0, Value.int IntKind.u8 0, Value.int IntKind.u8 0, Value.int IntKind.u8 0, Value.int IntKind.u8 0, Value.int IntKind.u8 0, Value.int IntKind.u8 0, Value.int IntKind.u8 0, Value.int IntKind.u8 0, Value.int IntKind.u8 0, Value.int IntKind.u8 0, Value.int IntKind.u8 0, Value.int IntKind.u8 0, Value.int IntKind.u8 0, Value.int IntKind.u8 0, Value.int IntKind.u8 0, Value.int IntKind.u8 0, Value.int IntKind.u8 0, Value.int IntKind.u8 0, Value.int IntKind.u8 0, Value.int IntKind.u8 0, Value.int IntKind.u8 0, Value.int IntKind.u8 0, Value.int IntKind.u8 0, Value.int IntKind.u8 0, Value.int IntKind.u8 0, Value.int IntKind.u8 0, Value.int IntKind.u8 0, Value.int IntKind.u8 0] 5)) := fun _ => by kernel_rfl
 go_enter Tryz.func44, Tryz.ntmps44
 go_wp2
 clear hmk
 have R1 : Row ((w.alloc (.cells (arr 16 f) 88)).alloc (.cells #[Value.int IntKind.u8 0, Value.int IntKind.u8 0, Value.int IntKind.u8 0, Value.int IntKind.u8 0, Value.int IntKind.u8 0, Value.int IntKind.u8 0, Value.int IntKind.u8 0, Value.int IntKind.u8 0, Value.int IntKind.u8 0, Value.int IntKind.u8 0, Value.int IntKind.u8 0, Value.int IntKind.u8 0, Value.int IntKind.u8 0, Value.int IntKind.u8 0, Value.int IntKind.u8 0, Value.int IntKind.u8 0, Value.int IntKind.u8 0, Value.int IntKind.u8 0, Value.int IntKind.u8 0, Value.int IntKind.u8 0, Value.int IntKind.u8 0, Value.int IntKind.u8 0, Value.int IntKind.u8 0, Value.int IntKind.u8 0, Value.int IntKind.u8 0, Value.int IntKind.u8 0, Value.int IntKind.u8 0, Value.int IntKind.u8 0, Value.int IntKind.u8 0, Value.int IntKind.u8 0, Value.int IntKind.u8 0, Value.int IntKind.u8 0] 5)) w.heap.size 88 16 f := (Row.new w 88 16 f).alloc _
 have R2 : Byt ((w.alloc (.cells (arr 16 f) 88)).alloc (.cells #[Value.int IntKind.u8 0, Value.int IntKind.u8 0, Value.int IntKind.u8 0, Value.int IntKind.u8 0, Value.int IntKind.u8 0, Value.int IntKind.u8 0, Value.int IntKind.u8 0, Value.int IntKind.u8 0, Value.int IntKind.u8 0, Value.int IntKind.u8 0, Value.int IntKind.u8 0, Value.int IntKind.u8 0, Value.int IntKind.u8 0, Value.int IntKind.u8 0, Value.int IntKind.u8 0, Value.int IntKind.u8 0, Value.int IntKind.u8 0, Value.int IntKind.u8 0, Value.int IntKind.u8 0, Value.int IntKind.u8 0, Value.int IntKind.u8 0, Value.int IntKind.u8 0, Value.int IntKind.u8 0, Value.int IntKind.u8 0, Value.int IntKind.u8 0, Value.int IntKind.u8 0, Value.int IntKind.u8 0, Value.int IntKind.u8 0, Value.int IntKind.u8 0, Value.int IntKind.u8 0, Value.int IntKind.u8 0, Value.int IntKind.u8 0] 5)) (w.heap.size + 1) (rb f 0) := heap_alloc2_new w _ _
 have O : Below w.heap.size w ((w.alloc (.cells (arr 16 f) 88)).alloc (.cells #[Value.int IntKind.u8 0, Value.int IntKind.u8 0, Value.int IntKind.u8 0, Value.int IntKind.u8 0, Value.int IntKind.u8 0, Value.int IntKind.u8 0, Value.int IntKind.u8 0, Value.int IntKind.u8 0, Value.int IntKind.u8 0, Value.int IntKind.u8 0, Value.int IntKind.u8 0, Value.int IntKind.u8 0, Value.int IntKind.u8 0, Value.int IntKind.u8 0, Value.int IntKind.u8 0, Value.int IntKind.u8 0, Value.int IntKind.u8 0, Value.int IntKind.u8 0, Value.int IntKind.u8 0, Value.int IntKind.u8 0, Value.int IntKind.u8 0, Value.int IntKind.u8 0, Value.int IntKind.u8 0, Value.int IntKind.u8 0, Value.int IntKind.u8 0, Value.int IntKind.u8 0, Value.int IntKind.u8 0, Value.int IntKind.u8 0, Value.int IntKind.u8 0, Value.int IntKind.u8 0, Value.int IntKind.u8 0, Value.int IntKind.u8 0] 5)) := ((Below.refl _ _).alloc (Nat.le_refl _) _).alloc (by simp) _
 generalize (w.alloc (.cells (arr 16 f) 88)).alloc (.cells #[Value.int IntKind.u8 0, Value.int IntKind.u8 0, Value.int IntKind.u8 0, Value.int IntKind.u8 0, Value.int IntKind.u8 0, Value.int IntKind.u8 0, Value.int IntKind.u8 0, Value.int IntKind.u8 0, Value.int IntKind.u8 0, Value.int IntKind.u8 0, Value.int IntKind.u8 0, Value.int IntKind.u8 0, Value.int IntKind.u8 0, Value.int IntKind.u8 0, Value.int IntKind.u8 0, Value.int IntKind.u8 0, Value.int IntKind.u8 0, Value.int IntKind.u8 0, Value.int IntKind.u8 0, Value.int IntKind.u8 0, Value.int IntKind.u8 0, Value.int IntKind.u8 0, Value.int IntKind.u8 0, Value.int IntKind.u8 0, Value.int IntKind.u8 0, Value.int IntKind.u8 0, Value.int IntKind.u8 0, Value.int IntKind.u8 0, Value.int IntKind.u8 0, Value.int IntKind.u8 0, Value.int IntKind.u8 0, Value.int IntKind.u8 0] 5) = W at R1 R2 O ⊢
 go_loopw [4] (fun i wr => ∃ k : Nat, k ≤ 32 ∧ i = .int .i64 k ∧ Row wr w.heap.size 88 16 f ∧ Byt wr (w.heap.size + 1) (rb f k) ∧ Below w.heap.size w wr) (fun i _ => 32 - (intOf i).toNat)
 case atStart => exact ⟨0, by omega, rfl, R1, R2, O⟩
 case round =>
  clear R1 R2 O
  obtain ⟨k, hk, rfl, R1, R2, O⟩ := hrel
  by_cases hlt : k < 32
  ·have hc : k = 0 ∨ k = 1 ∨ k = 2 ∨ k = 3 ∨ k = 4 ∨ k = 5 ∨ k = 6 ∨ k = 7 ∨ k = 8 ∨ k = 9 ∨ k = 10 ∨ k = 11 ∨ k = 12 ∨ k = 13 ∨ k = 14 ∨ k = 15 ∨ k = 16 ∨ k = 17 ∨ k = 18 ∨ k = 19 ∨ k = 20 ∨ k = 21 ∨ k = 22 ∨ k = 23 ∨ k = 24 ∨ k = 25 ∨ k = 26 ∨ k = 27 ∨ k = 28 ∨ k = 29 ∨ k = 30 ∨ k = 31 := by omega
   clear hlt hk
   rcases hc with rfl | rfl | rfl | rfl | rfl | rfl | rfl | rfl | rfl | rfl | rfl | rfl | rfl | rfl | rfl | rfl | rfl | rfl | rfl | rfl | rfl | rfl | rfl | rfl | rfl | rfl | rfl | rfl | rfl | rfl | rfl | rfl
   ·have c := R1.cell (i := 0) (by omega)
    obtain ⟨a0, a1⟩ := hf 0 (by omega)
    obtain ⟨v, d⟩ := R2.cell (i := 0) (by rw [rb_len]; omega)
    have e := R2.free 0
    have HV := hide (show by16 f 0 = f 0 % 256 by simp [by16])
    have RR := hide (R2.set 0 (by16 f 0))
    have R1' := hide (R1.other (a := ⟨w.heap.size + 1, 0, none⟩) (by simp) (.int .u8 (by16 f 0)))
    have O' := hide (O.setCell (p := ⟨w.heap.size + 1, 0, none⟩) (by simp) (.int .u8 (by16 f 0)))
    clear R1 R2 O
    go_wp2
    rw [← HV.out]
    first | exact ⟨⟨1, by omega, rfl, R1'.out, by rw [← rb_set]; exact RR.out, O'.out⟩, by simp [intOf]⟩ | (go_roundw; (case rel => exact ⟨1, by omega, rfl, R1'.out, by rw [← rb_set]; exact RR.out, O'.out⟩); (case measure => simp [intOf]))
   ·have c := R1.cell (i := 0) (by omega)
    obtain ⟨a0, a1⟩ := hf 0 (by omega)
    obtain ⟨v, d⟩ := R2.cell (i := 1) (by rw [rb_len]; omega)
    have e := R2.free 1
    have HV := hide (show by16 f 1 = f 0 / 256 by rw [show by16 f 1 = f 0 / 256 % 256 by simp [by16]]; omega)
    have RR := hide (R2.set 1 (by16 f 1))
    have R1' := hide (R1.other (a := ⟨w.heap.size + 1, 1, none⟩) (by simp) (.int .u8 (by16 f 1)))
    have O' := hide (O.setCell (p := ⟨w.heap.size + 1, 1, none⟩) (by simp) (.int .u8 (by16 f 1)))
    clear R1 R2 O
    go_wp2
    rw [← HV.out]
    first | exact ⟨⟨2, by omega, rfl, R1'.out, by rw [← rb_set]; exact RR.out, O'.out⟩, by simp [intOf]⟩ | (go_roundw; (case rel => exact ⟨2, by omega, rfl, R1'.out, by rw [← rb_set]; exact RR.out, O'.out⟩); (case measure => simp [intOf]))
   ·have c := R1.cell (i := 1) (by omega)
    obtain ⟨a0, a1⟩ := hf 1 (by omega)
    obtain ⟨v, d⟩ := R2.cell (i := 2) (by rw [rb_len]; omega)
    have e := R2.free 2
    have HV := hide (show by16 f 2 = f 1 % 256 by simp [by16])
    have RR := hide (R2.set 2 (by16 f 2))
    have R1' := hide (R1.other (a := ⟨w.heap.size + 1, 2, none⟩) (by simp) (.int .u8 (by16 f 2)))
    have O' := hide (O.setCell (p := ⟨w.heap.size + 1, 2, none⟩) (by simp) (.int .u8 (by16 f 2)))
    clear R1 R2 O
    go_wp2
    rw [← HV.out]
    first | exact ⟨⟨3, by omega, rfl, R1'.out, by rw [← rb_set]; exact RR.out, O'.out⟩, by simp [intOf]⟩ | (go_roundw; (case rel => exact ⟨3, by omega, rfl, R1'.out, by rw [← rb_set]; exact RR.out, O'.out⟩); (case measure => simp [intOf]))
   ·have c := R1.cell (i := 1) (by omega)
    obtain ⟨a0, a1⟩ := hf 1 (by omega)
    obtain ⟨v, d⟩ := R2.cell (i := 3) (by rw [rb_len]; omega)
    have e := R2.free 3
    have HV := hide (show by16 f 3 = f 1 / 256 by rw [show by16 f 3 = f 1 / 256 % 256 by simp [by16]]; omega)
    have RR := hide (R2.set 3 (by16 f 3))
    have R1' := hide (R1.other (a := ⟨w.heap.size + 1, 3, none⟩) (by simp) (.int .u8 (by16 f 3)))
    have O' := hide (O.setCell (p := ⟨w.heap.size + 1, 3, none⟩) (by simp) (.int .u8 (by16 f 3)))
    clear R1 R2 O
    go_wp2
    rw [← HV.out]
    first | exact ⟨⟨4, by omega, rfl, R1'.out, by rw [← rb_set]; exact RR.out, O'.out⟩, by simp [intOf]⟩ | (go_roundw; (case rel => exact ⟨4, by omega, rfl, R1'.out, by rw [← rb_set]; exact RR.out, O'.out⟩); (case measure => simp [intOf]))
   ·have c := R1.cell (i := 2) (by omega)
    obtain ⟨a0, a1⟩ := hf 2 (by omega)
    obtain ⟨v, d⟩ := R2.cell (i := 4) (by rw [rb_len]; omega)
    have e := R2.free 4
    have HV := hide (show by16 f 4 = f 2 % 256 by simp [by16])
    have RR := hide (R2.set 4 (by16 f 4))
    have R1' := hide (R1.other (a := ⟨w.heap.size + 1, 4, none⟩) (by simp) (.int .u8 (by16 f 4)))
    have O' := hide (O.setCell (p := ⟨w.heap.size + 1, 4, none⟩) (by simp) (.int .u8 (by16 f 4)))
    clear R1 R2 O
    go_wp2
    rw [← HV.out]
    first | exact ⟨⟨5, by omega, rfl, R1'.out, by rw [← rb_set]; exact RR.out, O'.out⟩, by simp [intOf]⟩ | (go_roundw; (case rel => exact ⟨5, by omega, rfl, R1'.out, by rw [← rb_set]; exact RR.out, O'.out⟩); (case measure => simp [intOf]))
   ·have c := R1.cell (i := 2) (by omega)
    obtain ⟨a0, a1⟩ := hf 2 (by omega)
    obtain ⟨v, d⟩ := R2.cell (i := 5) (by rw [rb_len]; omega)
    have e := R2.free 5
    have HV := hide (show by16 f 5 = f 2 / 256 by rw [show by16 f 5 = f 2 / 256 % 256 by simp [by16]]; omega)
    have RR := hide (R2.set 5 (by16 f 5))
    have R1' := hide (R1.other (a := ⟨w.heap.size + 1, 5, none⟩) (by simp) (.int .u8 (by16 f 5)))
    have O' := hide (O.setCell (p := ⟨w.heap.size + 1, 5, none⟩) (by simp) (.int .u8 (by16 f 5)))
    clear R1 R2 O
    go_wp2
    rw [← HV.out]
    first | exact ⟨⟨6, by omega, rfl, R1'.out, by rw [← rb_set]; exact RR.out, O'.out⟩, by simp [intOf]⟩ | (go_roundw; (case rel => exact ⟨6, by omega, rfl, R1'.out, by rw [← rb_set]; exact RR.out, O'.out⟩); (case measure => simp [intOf]))
   ·have c := R1.cell (i := 3) (by omega)
    obtain ⟨a0, a1⟩ := hf 3 (by omega)
    obtain ⟨v, d⟩ := R2.cell (i := 6) (by rw [rb_len]; omega)
    have e := R2.free 6
    have HV := hide (show by16 f 6 = f 3 % 256 by simp [by16])
    have RR := hide (R2.set 6 (by16 f 6))
    have R1' := hide (R1.other (a := ⟨w.heap.size + 1, 6, none⟩) (by simp) (.int .u8 (by16 f 6)))
    have O' := hide (O.setCell (p := ⟨w.heap.size + 1, 6, none⟩) (by simp) (.int .u8 (by16 f 6)))
    clear R1 R2 O
    go_wp2
    rw [← HV.out]
    first | exact ⟨⟨7, by omega, rfl, R1'.out, by rw [← rb_set]; exact RR.out, O'.out⟩, by simp [intOf]⟩ | (go_roundw; (case rel => exact ⟨7, by omega, rfl, R1'.out, by rw [← rb_set]; exact RR.out, O'.out⟩); (case measure => simp [intOf]))
   ·have c := R1.cell (i := 3) (by omega)
    obtain ⟨a0, a1⟩ := hf 3 (by omega)
    obtain ⟨v, d⟩ := R2.cell (i := 7) (by rw [rb_len]; omega)
    have e := R2.free 7
    have HV := hide (show by16 f 7 = f 3 / 256 by rw [show by16 f 7 = f 3 / 256 % 256 by simp [by16]]; omega)
    have RR := hide (R2.set 7 (by16 f 7))
    have R1' := hide (R1.other (a := ⟨w.heap.size + 1, 7, none⟩) (by simp) (.int .u8 (by16 f 7)))
    have O' := hide (O.setCell (p := ⟨w.heap.size + 1, 7, none⟩) (by simp) (.int .u8 (by16 f 7)))
    clear R1 R2 O
    go_wp2
    rw [← HV.out]
    first | exact ⟨⟨8, by omega, rfl, R1'.out, by rw [← rb_set]; exact RR.out, O'.out⟩, by simp [intOf]⟩ | (go_roundw; (case rel => exact ⟨8, by omega, rfl, R1'.out, by rw [← rb_set]; exact RR.out, O'.out⟩); (case measure => simp [intOf]))
   ·have c := R1.cell (i := 4) (by omega)
    obtain ⟨a0, a1⟩ := hf 4 (by omega)
    obtain ⟨v, d⟩ := R2.cell (i := 8) (by rw [rb_len]; omega)
    have e := R2.free 8
    have HV := hide (show by16 f 8 = f 4 % 256 by simp [by16])
    have RR := hide (R2.set 8 (by16 f 8))
    have R1' := hide (R1.other (a := ⟨w.heap.size + 1, 8, none⟩) (by simp) (.int .u8 (by16 f 8)))
    have O' := hide (O.setCell (p := ⟨w.heap.size + 1, 8, none⟩) (by simp) (.int .u8 (by16 f 8)))
    clear R1 R2 O
    go_wp2
    rw [← HV.out]
    first | exact ⟨⟨9, by omega, rfl, R1'.out, by rw [← rb_set]; exact RR.out, O'.out⟩, by simp [intOf]⟩ | (go_roundw; (case rel => exact ⟨9, by omega, rfl, R1'.out, by rw [← rb_set]; exact RR.out, O'.out⟩); (case measure => simp [intOf]))
   ·have c := R1.cell (i := 4) (by omega)
    obtain ⟨a0, a1⟩ := hf 4 (by omega)
    obtain ⟨v, d⟩ := R2.cell (i := 9) (by rw [rb_len]; omega)
    have e := R2.free 9
    have HV := hide (show by16 f 9 = f 4 / 256 by rw [show by16 f 9 = f 4 / 256 % 256 by simp [by16]]; omega)
    have RR := hide (R2.set 9 (by16 f 9))
    have R1' := hide (R1.other (a := ⟨w.heap.size + 1, 9, none⟩) (by simp) (.int .u8 (by16 f 9)))
    have O' := hide (O.setCell (p := ⟨w.heap.size + 1, 9, none⟩) (by simp) (.int .u8 (by16 f 9)))
    clear R1 R2 O
    go_wp2
    rw [← HV.out]
    first | exact ⟨⟨10, by omega, rfl, R1'.out, by rw [← rb_set]; exact RR.out, O'.out⟩, by simp [intOf]⟩ | (go_roundw; (case rel => exact ⟨10, by omega, rfl, R1'.out, by rw [← rb_set]; exact RR.out, O'.out⟩); (case measure => simp [intOf]))
   ·have c := R1.cell (i := 5) (by omega)
    obtain ⟨a0, a1⟩ := hf 5 (by omega)
    obtain ⟨v, d⟩ := R2.cell (i := 10) (by rw [rb_len]; omega)
    have e := R2.free 10
    have HV := hide (show by16 f 10 = f 5 % 256 by simp [by16])
    have RR := hide (R2.set 10 (by16 f 10))
    have R1' := hide (R1.other (a := ⟨w.heap.size + 1, 10, none⟩) (by simp) (.int .u8 (by16 f 10)))
    have O' := hide (O.setCell (p := ⟨w.heap.size + 1, 10, none⟩) (by simp) (.int .u8 (by16 f 10)))
    clear R1 R2 O
    go_wp2
    rw [← HV.out]
    first | exact ⟨⟨11, by omega, rfl, R1'.out, by rw [← rb_set]; exact RR.out, O'.out⟩, by simp [intOf]⟩ | (go_roundw; (case rel => exact ⟨11, by omega, rfl, R1'.out, by rw [← rb_set]; exact RR.out, O'.out⟩); (case measure => simp [intOf]))
   ·have c := R1.cell (i := 5) (by omega)
    obtain ⟨a0, a1⟩ := hf 5 (by omega)
    obtain ⟨v, d⟩ := R2.cell (i := 11) (by rw [rb_len]; omega)
    have e := R2.free 11
    have HV := hide (show by16 f 11 = f 5 / 256 by rw [show by16 f 11 = f 5 / 256 % 256 by simp [by16]]; omega)
    have RR := hide (R2.set 11 (by16 f 11))
    have R1' := hide (R1.other (a := ⟨w.heap.size + 1, 11, none⟩) (by simp) (.int .u8 (by16 f 11)))
    have O' := hide (O.setCell (p := ⟨w.heap.size + 1, 11, none⟩) (by simp) (.int .u8 (by16 f 11)))
    clear R1 R2 O
    go_wp2
    rw [← HV.out]
    first | exact ⟨⟨12, by omega, rfl, R1'.out, by rw [← rb_set]; exact RR.out, O'.out⟩, by simp [intOf]⟩ | (go_roundw; (case rel => exact ⟨12, by omega, rfl, R1'.out, by rw [← rb_set]; exact RR.out, O'.out⟩); (case measure => simp [intOf]))
   ·have c := R1.cell (i := 6) (by omega)
    obtain ⟨a0, a1⟩ := hf 6 (by omega)
    obtain ⟨v, d⟩ := R2.cell (i := 12) (by rw [rb_len]; omega)
    have e := R2.free 12
    have HV := hide (show by16 f 12 = f 6 % 256 by simp [by16])
    have RR := hide (R2.set 12 (by16 f 12))
    have R1' := hide (R1.other (a := ⟨w.heap.size + 1, 12, none⟩) (by simp) (.int .u8 (by16 f 12)))
    have O' := hide (O.setCell (p := ⟨w.heap.size + 1, 12, none⟩) (by simp) (.int .u8 (by16 f 12)))
    clear R1 R2 O
    go_wp2
    rw [← HV.out]
    first | exact ⟨⟨13, by omega, rfl, R1'.out, by rw [← rb_set]; exact RR.out, O'.out⟩, by simp [intOf]⟩ | (go_roundw; (case rel => exact ⟨13, by omega, rfl, R1'.out, by rw [← rb_set]; exact RR.out, O'.out⟩); (case measure => simp [intOf]))
   ·have c := R1.cell (i := 6) (by omega)
    obtain ⟨a0, a1⟩ := hf 6 (by omega)
    obtain ⟨v, d⟩ := R2.cell (i := 13) (by rw [rb_len]; omega)
    have e := R2.free 13
    have HV := hide (show by16 f 13 = f 6 / 256 by rw [show by16 f 13 = f 6 / 256 % 256 by simp [by16]]; omega)
    have RR := hide (R2.set 13 (by16 f 13))
    have R1' := hide (R1.other (a := ⟨w.heap.size + 1, 13, none⟩) (by simp) (.int .u8 (by16 f 13)))
    have O' := hide (O.setCell (p := ⟨w.heap.size + 1, 13, none⟩) (by simp) (.int .u8 (by16 f 13)))
    clear R1 R2 O
    go_wp2
    rw [← HV.out]
    first | exact ⟨⟨14, by omega, rfl, R1'.out, by rw [← rb_set]; exact RR.out, O'.out⟩, by simp [intOf]⟩ | (go_roundw; (case rel => exact ⟨14, by omega, rfl, R1'.out, by rw [← rb_set]; exact RR.out, O'.out⟩); (case measure => simp [intOf]))
   ·have c := R1.cell (i := 7) (by omega)
    obtain ⟨a0, a1⟩ := hf 7 (by omega)
    obtain ⟨v, d⟩ := R2.cell (i := 14) (by rw [rb_len]; omega)
    have e := R2.free 14
    have HV := hide (show by16 f 14 = f 7 % 256 by simp [by16])
    have RR := hide (R2.set 14 (by16 f 14))
    have R1' := hide (R1.other (a := ⟨w.heap.size + 1, 14, none⟩) (by simp) (.int .u8 (by16 f 14)))
    have O' := hide (O.setCell (p := ⟨w.heap.size + 1, 14, none⟩) (by simp) (.int .u8 (by16 f 14)))
    clear R1 R2 O
    go_wp2
    rw [← HV.out]
    first | exact ⟨⟨15, by omega, rfl, R1'.out, by rw [← rb_set]; exact RR.out, O'.out⟩, by simp [intOf]⟩ | (go_roundw; (case rel => exact ⟨15, by omega, rfl, R1'.out, by rw [← rb_set]; exact RR.out, O'.out⟩); (case measure => simp [intOf]))
   ·have c := R1.cell (i := 7) (by omega)
    obtain ⟨a0, a1⟩ := hf 7 (by omega)
    obtain ⟨v, d⟩ := R2.cell (i := 15) (by rw [rb_len]; omega)
    have e := R2.free 15
    have HV := hide (show by16 f 15 = f 7 / 256 by rw [show by16 f 15 = f 7 / 256 % 256 by simp [by16]]; omega)
    have RR := hide (R2.set 15 (by16 f 15))
    have R1' := hide (R1.other (a := ⟨w.heap.size + 1, 15, none⟩) (by simp) (.int .u8 (by16 f 15)))
    have O' := hide (O.setCell (p := ⟨w.heap.size + 1, 15, none⟩) (by simp) (.int .u8 (by16 f 15)))
    clear R1 R2 O
    go_wp2
    rw [← HV.out]
    first | exact ⟨⟨16, by omega, rfl, R1'.out, by rw [← rb_set]; exact RR.out, O'.out⟩, by simp [intOf]⟩ | (go_roundw; (case rel => exact ⟨16, by omega, rfl, R1'.out, by rw [← rb_set]; exact RR.out, O'.out⟩); (case measure => simp [intOf]))
   ·have c := R1.cell (i := 8) (by omega)
    obtain ⟨a0, a1⟩ := hf 8 (by omega)
    obtain ⟨v, d⟩ := R2.cell (i := 16) (by rw [rb_len]; omega)
    have e := R2.free 16
    have HV := hide (show by16 f 16 = f 8 % 256 by simp [by16])
    have RR := hide (R2.set 16 (by16 f 16))
    have R1' := hide (R1.other (a := ⟨w.heap.size + 1, 16, none⟩) (by simp) (.int .u8 (by16 f 16)))
    have O' := hide (O.setCell (p := ⟨w.heap.size + 1, 16, none⟩) (by simp) (.int .u8 (by16 f 16)))
    clear R1 R2 O
    go_wp2
    rw [← HV.out]
    first | exact ⟨⟨17, by omega, rfl, R1'.out, by rw [← rb_set]; exact RR.out, O'.out⟩, by simp [intOf]⟩ | (go_roundw; (case rel => exact ⟨17, by omega, rfl, R1'.out, by rw [← rb_set]; exact RR.out, O'.out⟩); (case measure => simp [intOf]))
   ·have c := R1.cell (i := 8) (by omega)
    obtain ⟨a0, a1⟩ := hf 8 (by omega)
    obtain ⟨v, d⟩ := R2.cell (i := 17) (by rw [rb_len]; omega)
    have e := R2.free 17
    have HV := hide (show by16 f 17 = f 8 / 256 by rw [show by16 f 17 = f 8 / 256 % 256 by simp [by16]]; omega)
    have RR := hide (R2.set 17 (by16 f 17))
    have R1' := hide (R1.other (a := ⟨w.heap.size + 1, 17, none⟩) (by simp) (.int .u8 (by16 f 17)))
    have O' := hide (O.setCell (p := ⟨w.heap.size + 1, 17, none⟩) (by simp) (.int .u8 (by16 f 17)))
    clear R1 R2 O
    go_wp2
    rw [← HV.out]
    first | exact ⟨⟨18, by omega, rfl, R1'.out, by rw [← rb_set]; exact RR.out, O'.out⟩, by simp [intOf]⟩ | (go_roundw; (case rel => exact ⟨18, by omega, rfl, R1'.out, by rw [← rb_set]; exact RR.out, O'.out⟩); (case measure => simp [intOf]))
   ·have c := R1.cell (i := 9) (by omega)
    obtain ⟨a0, a1⟩ := hf 9 (by omega)
    obtain ⟨v, d⟩ := R2.cell (i := 18) (by rw [rb_len]; omega)
    have e := R2.free 18
    have HV := hide (show by16 f 18 = f 9 % 256 by simp [by16])
    have RR := hide (R2.set 18 (by16 f 18))
    have R1' := hide (R1.other (a := ⟨w.heap.size + 1, 18, none⟩) (by simp) (.int .u8 (by16 f 18)))
    have O' := hide (O.setCell (p := ⟨w.heap.size + 1, 18, none⟩) (by simp) (.int .u8 (by16 f 18)))
    clear R1 R2 O
    go_wp2
    rw [← HV.out]
    first | exact ⟨⟨19, by omega, rfl, R1'.out, by rw [← rb_set]; exact RR.out, O'.out⟩, by simp [intOf]⟩ | (go_roundw; (case rel => exact ⟨19, by omega, rfl, R1'.out, by rw [← rb_set]; exact RR.out, O'.out⟩); (case measure => simp [intOf]))
   ·have c := R1.cell (i := 9) (by omega)
    obtain ⟨a0, a1⟩ := hf 9 (by omega)
    obtain ⟨v, d⟩ := R2.cell (i := 19) (by rw [rb_len]; omega)
    have e := R2.free 19
    have HV := hide (show by16 f 19 = f 9 / 256 by rw [show by16 f 19 = f 9 / 256 % 256 by simp [by16]]; omega)
    have RR := hide (R2.set 19 (by16 f 19))
    have R1' := hide (R1.other (a := ⟨w.heap.size + 1, 19, none⟩) (by simp) (.int .u8 (by16 f 19)))
    have O' := hide (O.setCell (p := ⟨w.heap.size + 1, 19, none⟩) (by simp) (.int .u8 (by16 f 19)))
    clear R1 R2 O
    go_wp2
    rw [← HV.out]
    first | exact ⟨⟨20, by omega, rfl, R1'.out, by rw [← rb_set]; exact RR.out, O'.out⟩, by simp [intOf]⟩ | (go_roundw; (case rel => exact ⟨20, by omega, rfl, R1'.out, by rw [← rb_set]; exact RR.out, O'.out⟩); (case measure => simp [intOf]))
   ·have c := R1.cell (i := 10) (by omega)
    obtain ⟨a0, a1⟩ := hf 10 (by omega)
    obtain ⟨v, d⟩ := R2.cell (i := 20) (by rw [rb_len]; omega)
    have e := R2.free 20
    have HV := hide (show by16 f 20 = f 10 % 256 by simp [by16])
    have RR := hide (R2.set 20 (by16 f 20))
    have R1' := hide (R1.other (a := ⟨w.heap.size + 1, 20, none⟩) (by simp) (.int .u8 (by16 f 20)))
    have O' := hide (O.setCell (p := ⟨w.heap.size + 1, 20, none⟩) (by simp) (.int .u8 (by16 f 20)))
    clear R1 R2 O
    go_wp2
    rw [← HV.out]
    first | exact ⟨⟨21, by omega, rfl, R1'.out, by rw [← rb_set]; exact RR.out, O'.out⟩, by simp [intOf]⟩ | (go_roundw; (case rel => exact ⟨21, by omega, rfl, R1'.out, by rw [← rb_set]; exact RR.out, O'.out⟩); (case measure => simp [intOf]))
   ·have c := R1.cell (i := 10) (by omega)
    obtain ⟨a0, a1⟩ := hf 10 (by omega)
    obtain ⟨v, d⟩ := R2.cell (i := 21) (by rw [rb_len]; omega)
    have e := R2.free 21
    have HV := hide (show by16 f 21 = f 10 / 256 by rw [show by16 f 21 = f 10 / 256 % 256 by simp [by16]]; omega)
    have RR := hide (R2.set 21 (by16 f 21))
    have R1' := hide (R1.other (a := ⟨w.heap.size + 1, 21, none⟩) (by simp) (.int .u8 (by16 f 21)))
    have O' := hide (O.setCell (p := ⟨w.heap.size + 1, 21, none⟩) (by simp) (.int .u8 (by16 f 21)))
    clear R1 R2 O
    go_wp2
    rw [← HV.out]
    first | exact ⟨⟨22, by omega, rfl, R1'.out, by rw [← rb_set]; exact RR.out, O'.out⟩, by simp [intOf]⟩ | (go_roundw; (case rel => exact ⟨22, by omega, rfl, R1'.out, by rw [← rb_set]; exact RR.out, O'.out⟩); (case measure => simp [intOf]))
   ·have c := R1.cell (i := 11) (by omega)
    obtain ⟨a0, a1⟩ := hf 11 (by omega)
    obtain ⟨v, d⟩ := R2.cell (i := 22) (by rw [rb_len]; omega)
    have e := R2.free 22
    have HV := hide (show by16 f 22 = f 11 % 256 by simp [by16])
    have RR := hide (R2.set 22 (by16 f 22))
    have R1' := hide (R1.other (a := ⟨w.heap.size + 1, 22, none⟩) (by simp) (.int .u8 (by16 f 22)))
    have O' := hide (O.setCell (p := ⟨w.heap.size + 1, 22, none⟩) (by simp) (.int .u8 (by16 f 22)))
    clear R1 R2 O
    go_wp2
    rw [← HV.out]
    first | exact ⟨⟨23, by omega, rfl, R1'.out, by rw [← rb_set]; exact RR.out, O'.out⟩, by simp [intOf]⟩ | (go_roundw; (case rel => exact ⟨23, by omega, rfl, R1'.out, by rw [← rb_set]; exact RR.out, O'.out⟩); (case measure => simp [intOf]))
   ·have c := R1.cell (i := 11) (by omega)
    obtain ⟨a0, a1⟩ := hf 11 (by omega)
    obtain ⟨v, d⟩ := R2.cell (i := 23) (by rw [rb_len]; omega)
    have e := R2.free 23
    have HV := hide (show by16 f 23 = f 11 / 256 by rw [show by16 f 23 = f 11 / 256 % 256 by simp [by16]]; omega)
    have RR := hide (R2.set 23 (by16 f 23))
    have R1' := hide (R1.other (a := ⟨w.heap.size + 1, 23, none⟩) (by simp) (.int .u8 (by16 f 23)))
    have O' := hide (O.setCell (p := ⟨w.heap.size + 1, 23, none⟩) (by simp) (.int .u8 (by16 f 23)))
    clear R1 R2 O
    go_wp2
    rw [← HV.out]
    first | exact ⟨⟨24, by omega, rfl, R1'.out, by rw [← rb_set]; exact RR.out, O'.out⟩, by simp [intOf]⟩ | (go_roundw; (case rel => exact ⟨24, by omega, rfl, R1'.out, by rw [← rb_set]; exact RR.out, O'.out⟩); (case measure => simp [intOf]))
   ·have c := R1.cell (i := 12) (by omega)
    obtain ⟨a0, a1⟩ := hf 12 (by omega)
    obtain ⟨v, d⟩ := R2.cell (i := 24) (by rw [rb_len]; omega)
    have e := R2.free 24
    have HV := hide (show by16 f 24 = f 12 % 256 by simp [by16])
    have RR := hide (R2.set 24 (by16 f 24))
    have R1' := hide (R1.other (a := ⟨w.heap.size + 1, 24, none⟩) (by simp) (.int .u8 (by16 f 24)))
    have O' := hide (O.setCell (p := ⟨w.heap.size + 1, 24, none⟩) (by simp) (.int .u8 (by16 f 24)))
    clear R1 R2 O
    go_wp2
    rw [← HV.out]
    first | exact ⟨⟨25, by omega, rfl, R1'.out, by rw [← rb_set]; exact RR.out, O'.out⟩, by simp [intOf]⟩ | (go_roundw; (case rel => exact ⟨25, by omega, rfl, R1'.out, by rw [← rb_set]; exact RR.out, O'.out⟩); (case measure => simp [intOf]))
   ·have c := R1.cell (i := 12) (by omega)
    obtain ⟨a0, a1⟩ := hf 12 (by omega)
    obtain ⟨v, d⟩ := R2.cell (i := 25) (by rw [rb_len]; omega)
    have e := R2.free 25
    have HV := hide (show by16 f 25 = f 12 / 256 by rw [show by16 f 25 = f 12 / 256 % 256 by simp [by16]]; omega)
    have RR := hide (R2.set 25 (by16 f 25))
    have R1' := hide (R1.other (a := ⟨w.heap.size + 1, 25, none⟩) (by simp) (.int .u8 (by16 f 25)))
    have O' := hide (O.setCell (p := ⟨w.heap.size + 1, 25, none⟩) (by simp) (.int .u8 (by16 f 25)))
    clear R1 R2 O
    go_wp2
    rw [← HV.out]
    first | exact ⟨⟨26, by omega, rfl, R1'.out, by rw [← rb_set]; exact RR.out, O'.out⟩, by simp [intOf]⟩ | (go_roundw; (case rel => exact ⟨26, by omega, rfl, R1'.out, by rw [← rb_set]; exact RR.out, O'.out⟩); (case measure => simp [intOf]))
   ·have c := R1.cell (i := 13) (by omega)
    obtain ⟨a0, a1⟩ := hf 13 (by omega)
    obtain ⟨v, d⟩ := R2.cell (i := 26) (by rw [rb_len]; omega)
    have e := R2.free 26
    have HV := hide (show by16 f 26 = f 13 % 256 by simp [by16])
    have RR := hide (R2.set 26 (by16 f 26))
    have R1' := hide (R1.other (a := ⟨w.heap.size + 1, 26, none⟩) (by simp) (.int .u8 (by16 f 26)))
    have O' := hide (O.setCell (p := ⟨w.heap.size + 1, 26, none⟩) (by simp) (.int .u8 (by16 f 26)))
    clear R1 R2 O
    go_wp2
    rw [← HV.out]
    first | exact ⟨⟨27, by omega, rfl, R1'.out, by rw [← rb_set]; exact RR.out, O'.out⟩, by simp [intOf]⟩ | (go_roundw; (case rel => exact ⟨27, by omega, rfl, R1'.out, by rw [← rb_set]; exact RR.out, O'.out⟩); (case measure => simp [intOf]))
   ·have c := R1.cell (i := 13) (by omega)
    obtain ⟨a0, a1⟩ := hf 13 (by omega)
    obtain ⟨v, d⟩ := R2.cell (i := 27) (by rw [rb_len]; omega)
    have e := R2.free 27
    have HV := hide (show by16 f 27 = f 13 / 256 by rw [show by16 f 27 = f 13 / 256 % 256 by simp [by16]]; omega)
    have RR := hide (R2.set 27 (by16 f 27))
    have R1' := hide (R1.other (a := ⟨w.heap.size + 1, 27, none⟩) (by simp) (.int .u8 (by16 f 27)))
    have O' := hide (O.setCell (p := ⟨w.heap.size + 1, 27, none⟩) (by simp) (.int .u8 (by16 f 27)))
    clear R1 R2 O
    go_wp2
    rw [← HV.out]
    first | exact ⟨⟨28, by omega, rfl, R1'.out, by rw [← rb_set]; exact RR.out, O'.out⟩, by simp [intOf]⟩ | (go_roundw; (case rel => exact ⟨28, by omega, rfl, R1'.out, by rw [← rb_set]; exact RR.out, O'.out⟩); (case measure => simp [intOf]))
   ·have c := R1.cell (i := 14) (by omega)
    obtain ⟨a0, a1⟩ := hf 14 (by omega)
    obtain ⟨v, d⟩ := R2.cell (i := 28) (by rw [rb_len]; omega)
    have e := R2.free 28
    have HV := hide (show by16 f 28 = f 14 % 256 by simp [by16])
    have RR := hide (R2.set 28 (by16 f 28))
    have R1' := hide (R1.other (a := ⟨w.heap.size + 1, 28, none⟩) (by simp) (.int .u8 (by16 f 28)))
    have O' := hide (O.setCell (p := ⟨w.heap.size + 1, 28, none⟩) (by simp) (.int .u8 (by16 f 28)))
    clear R1 R2 O
    go_wp2
    rw [← HV.out]
    first | exact ⟨⟨29, by omega, rfl, R1'.out, by rw [← rb_set]; exact RR.out, O'.out⟩, by simp [intOf]⟩ | (go_roundw; (case rel => exact ⟨29, by omega, rfl, R1'.out, by rw [← rb_set]; exact RR.out, O'.out⟩); (case measure => simp [intOf]))
   ·have c := R1.cell (i := 14) (by omega)
    obtain ⟨a0, a1⟩ := hf 14 (by omega)
    obtain ⟨v, d⟩ := R2.cell (i := 29) (by rw [rb_len]; omega)
    have e := R2.free 29
    have HV := hide (show by16 f 29 = f 14 / 256 by rw [show by16 f 29 = f 14 / 256 % 256 by simp [by16]]; omega)
    have RR := hide (R2.set 29 (by16 f 29))
    have R1' := hide (R1.other (a := ⟨w.heap.size + 1, 29, none⟩) (by simp) (.int .u8 (by16 f 29)))
    have O' := hide (O.setCell (p := ⟨w.heap.size + 1, 29, none⟩) (by simp) (.int .u8 (by16 f 29)))
    clear R1 R2 O
    go_wp2
    rw [← HV.out]
    first | exact ⟨⟨30, by omega, rfl, R1'.out, by rw [← rb_set]; exact RR.out, O'.out⟩, by simp [intOf]⟩ | (go_roundw; (case rel => exact ⟨30, by omega, rfl, R1'.out, by rw [← rb_set]; exact RR.out, O'.out⟩); (case measure => simp [intOf]))
   ·have c := R1.cell (i := 15) (by omega)
    obtain ⟨a0, a1⟩ := hf 15 (by omega)
    obtain ⟨v, d⟩ := R2.cell (i := 30) (by rw [rb_len]; omega)
    have e := R2.free 30
    have HV := hide (show by16 f 30 = f 15 % 256 by simp [by16])
    have RR := hide (R2.set 30 (by16 f 30))
    have R1' := hide (R1.other (a := ⟨w.heap.size + 1, 30, none⟩) (by simp) (.int .u8 (by16 f 30)))
    have O' := hide (O.setCell (p := ⟨w.heap.size + 1, 30, none⟩) (by simp) (.int .u8 (by16 f 30)))
    clear R1 R2 O
    go_wp2
    rw [← HV.out]
    first | exact ⟨⟨31, by omega, rfl, R1'.out, by rw [← rb_set]; exact RR.out, O'.out⟩, by simp [intOf]⟩ | (go_roundw; (case rel => exact ⟨31, by omega, rfl, R1'.out, by rw [← rb_set]; exact RR.out, O'.out⟩); (case measure => simp [intOf]))
   ·have c := R1.cell (i := 15) (by omega)
    obtain ⟨a0, a1⟩ := hf 15 (by omega)
    obtain ⟨v, d⟩ := R2.cell (i := 31) (by rw [rb_len]; omega)
    have e := R2.free 31
    have HV := hide (show by16 f 31 = f 15 / 256 by rw [show by16 f 31 = f 15 / 256 % 256 by simp [by16]]; omega)
    have RR := hide (R2.set 31 (by16 f 31))
    have R1' := hide (R1.other (a := ⟨w.heap.size + 1, 31, none⟩) (by simp) (.int .u8 (by16 f 31)))
    have O' := hide (O.setCell (p := ⟨w.heap.size + 1, 31, none⟩) (by simp) (.int .u8 (by16 f 31)))
    clear R1 R2 O
    go_wp2
    rw [← HV.out]
    first | exact ⟨⟨32, by omega, rfl, R1'.out, by rw [← rb_set]; exact RR.out, O'.out⟩, by simp [intOf]⟩ | (go_roundw; (case rel => exact ⟨32, by omega, rfl, R1'.out, by rw [← rb_set]; exact RR.out, O'.out⟩); (case measure => simp [intOf]))
  ·have e : k = 32 := by omega
   subst e
   have hcv := conv_bytes wr (w.heap.size + 1) 5 (rb f 32) 32 32 (0, 0) R2 (rb_len f 32)
   generalize hB : bs (rb f 32) = B at hcv
   have HB := hide hB
   clear hB R1 R2
   go_wp2
   go_ret
   exact ⟨by rw [HB.out]; rfl, O⟩
open Go.RowKit
def ps (t : Nat → Int) (k : Nat) : Nat → Int := fun i => if i < k then lo t i else t i
def fs (u : Nat → Int) (k : Nat) : Nat → Int := fun i => if i < k then u i + 38 * u (16 + i) else if 16 ≤ i ∧ i < 16 + k then 0 else u i
theorem fs_step (u : Nat → Int) (m i : Nat) (hm : m < 16) (hi : i < 32) : upd (upd (fs u m) m (u m + 38 * u (16 + m))) (16 + m) 0 i = fs u (m + 1) i := by
 unfold upd fs
 repeat' split
 all_goals first | omega | (have e : i = m := by omega
                            subst e
                            omega)
theorem fs_last (t : Nat → Int) (i : Nat) (hi : i < 32) : upd (fs (lo t) 16) 0 (lo t 0 + 38 * lo t 16 + 1444 * cf t 32) i = T1 t i := by
 unfold T1 upd fs foldF
 by_cases h1 : i = 0
 ·simp [h1]
 ·rw [if_neg h1, if_neg h1]
  by_cases h2 : i < 16
  ·rw [if_pos h2, if_pos h2]
  ·rw [if_neg h2, if_neg h2, if_pos (by omega)]
theorem rowD {w : World} {g : Nat} {T : TypeId} {n : Nat} {f : Nat → Int} (h : Row w g T n f) : Row w.drew g T n f := h
theorem fin_eq {u : Nat → Int} {N : Int} (hU : Dig u 16) (hC : Cg (S u 16) N) (hlt : S u 16 < Pm) : arr 16 (d16 (N % Pm)) = arr 16 u := by
 have e := hC.emod
 have h0 := (S_bd hU).1
 rw [Int.emod_eq_of_lt h0 hlt] at e
 rw [← e]
 refine arr_congr (S_inj (d16_dig _ 16) hU ?_)
 rw [d16_S _ h0, Int.emod_eq_of_lt h0 (S_bd hU).2]
def meas (W : World) (g : Nat) : Nat :=
 match W.heap[g]? with
 | some (.cells cs _ _) => (S (fun i => intOf (cs.getD i undef)) 16).toNat
 | _ => 0
theorem meas_row {W : World} {g : Nat} {T : TypeId} {f : Nat → Int} (h : Row W g T 16 f) : meas W g = (S f 16).toNat := by
 unfold meas
 rw [h]
 show (S (fun i => intOf ((arr 16 f).getD i undef)) 16).toNat = _
 rw [S_congr (g := f) fun i hi => by
  rw [Array.getD_eq_getD_getElem?, arr_get 16 f i hi]
  rfl]
theorem reduce_any (t0 : Nat → Int) (w : World) (h0 : B48 t0) : Cs 59 #[.agg (arr 32 t0)] w (.agg (arr 16 (d16 (S t0 32 % Pm)))) := by
 go_enter Tryz.func59, Tryz.ntmps59
 go_wp2
 rw [show #[Value.int IntKind.u64 0, Value.int IntKind.u64 0, Value.int IntKind.u64 0, Value.int IntKind.u64 0, Value.int IntKind.u64 0, Value.int IntKind.u64 0, Value.int IntKind.u64 0, Value.int IntKind.u64 0, Value.int IntKind.u64 0, Value.int IntKind.u64 0, Value.int IntKind.u64 0, Value.int IntKind.u64 0, Value.int IntKind.u64 0, Value.int IntKind.u64 0, Value.int IntKind.u64 0, Value.int IntKind.u64 0] = arr 16 (fun _ => 0) from rfl]
 have R1 : Row ((w.alloc (.cells (arr 32 t0) 108)).alloc (.cells (arr 16 fun _ => 0) 88)) w.heap.size 108 32 t0 := (Row.new w 108 32 t0).alloc _
 have R2 : Row ((w.alloc (.cells (arr 32 t0) 108)).alloc (.cells (arr 16 fun _ => 0) 88)) (w.heap.size + 1) 88 16 (fun _ => 0) := Row.new' _ 88 16 _ (by simp)
 have O : Below w.heap.size w ((w.alloc (.cells (arr 32 t0) 108)).alloc (.cells (arr 16 fun _ => 0) 88)) := ((Below.refl _ _).alloc (Nat.le_refl _) _).alloc (by simp) _
 generalize (w.alloc (.cells (arr 32 t0) 108)).alloc (.cells (arr 16 fun _ => 0) 88) = W at R1 R2 O ⊢
 go_loopw [3] (fun r wr => ∃ k : Nat, k ≤ 3 ∧ r = .int .i64 k ∧ (∃ t, Jl k t ∧ Cg (S t 32) (S t0 32) ∧ Row wr w.heap.size 108 32 t) ∧ Row wr (w.heap.size + 1) 88 16 (fun _ => 0) ∧ Below w.heap.size w wr) (fun r _ => 3 - (intOf r).toNat)
 case atStart => exact ⟨0, by omega, rfl, ⟨t0, h0, Cg.refl _, R1⟩, R2, O⟩
 case round =>
  clear R1 R2 O
  obtain ⟨k, hk, rfl, ⟨t, hJ, hC, R1⟩, R2, O⟩ := hrel
  by_cases hlt : k < 3
  ·have hB := hJ.b48 hk
   have HJ := hide (hJ.next hlt)
   have HC := hide ((T1_S t).trans hC)
   clear hJ hC
   go_wp2
   go_loopw [4, 5] (fun c i wq => ∃ j : Nat, j ≤ 32 ∧ c = .int .u64 (cf t j) ∧ i = .int .i64 j ∧ Row wq w.heap.size 108 32 (ps t j) ∧ Row wq (w.heap.size + 1) 88 16 (fun _ => 0) ∧ Below w.heap.size w wq) (fun _ i _ => 32 - (intOf i).toNat)
   case atStart => exact ⟨0, by omega, rfl, rfl, R1.congr (fun i _ => by unfold ps; rw [if_neg (by omega)]), R2, O⟩
   case round =>
    clear R1 R2 O
    obtain ⟨j, hj, rfl, rfl, R1, R2, O⟩ := hrel
    by_cases hjl : j < 32
    ·have c := R1.cell hjl
     rw [show ps t j j = t j by unfold ps; rw [if_neg (by omega)]] at c
     have e := R1.free j
     obtain ⟨a0, a1⟩ := hB.b j hjl
     obtain ⟨b0, b1⟩ := cf_bd hB j (by omega)
     have ea := and16 (x := t j + cf t j) (by omega) (by omega)
     have HN := hide (show cf t (j + 1) = (t j + cf t j) / 65536 from rfl)
     have HL := hide (show lo t j = (t j + cf t j) % 65536 from rfl)
     have RR := hide (R1.set j ((t j + cf t j) % 65536))
     have R2' := hide (R2.other (a := ⟨w.heap.size, j, none⟩) (by simp) (.int .u64 ((t j + cf t j) % 65536)))
     have O' := hide (O.setCell (p := ⟨w.heap.size, j, none⟩) (by simp) (.int .u64 ((t j + cf t j) % 65536)))
     clear R1 R2 O
     go_wp2
     go_roundw
     case rel => exact ⟨j + 1, by omega, by rw [HN.out], by go_num, RR.out.congr (fun i _ => by
      unfold upd ps
      by_cases h : i = j
      ·subst h
       simp [HL.out]
      ·by_cases h2 : i < j
       ·simp [h, h2, show i < j + 1 by omega]
       ·simp [h, h2, show ¬ i < j + 1 by omega]), R2'.out, O'.out⟩
     case measure => simp [intOf]; omega
    ·have hj' : j = 32 := by omega
     subst hj'
     have R1' : Row wr w.heap.size 108 32 (fs (lo t) 0) := R1.congr (fun i hi => by
      unfold ps fs
      rw [if_pos hi, if_neg (by omega), if_neg (by omega)])
     have hlo := lo_dig t 32
     have hcf := cf_bd hB 32 (by omega)
     clear R1
     go_wp2
     go_loopw [7] (fun i wq => ∃ m : Nat, m ≤ 16 ∧ i = .int .i64 m ∧ Row wq w.heap.size 108 32 (fs (lo t) m) ∧ Row wq (w.heap.size + 1) 88 16 (fun _ => 0) ∧ Below w.heap.size w wq) (fun i _ => 16 - (intOf i).toNat)
     case atStart => exact ⟨0, by omega, rfl, R1', R2, O⟩
     case round =>
      clear R1' R2 O
      obtain ⟨m, hm, rfl, R1, R2, O⟩ := hrel
      by_cases hml : m < 16
      ·have c := R1.cell (i := m) (by omega)
       have d := R1.cell (i := 16 + m) (by omega)
       rw [show fs (lo t) m m = lo t m by unfold fs; rw [if_neg (by omega), if_neg (by omega)]] at c
       rw [show fs (lo t) m (16 + m) = lo t (16 + m) by unfold fs; rw [if_neg (by omega), if_neg (by omega)]] at d
       have e := R1.free
       obtain ⟨a0, a1⟩ := hlo m (by omega)
       obtain ⟨b0, b1⟩ := hlo (16 + m) (by omega)
       have i1 : (0 : Int) ≤ (m : Int) := by omega
       have i2 : (m : Int) < 16 := by omega
       clear hlo hcf hB
       go_wp2_with fail
       go_region
       go_wp2
       exact ⟨⟨m + 1, by omega, by go_num, rowD (((R1.set m (lo t m + 38 * lo t (16 + m))).set (16 + m) 0).congr (fun i hi => fs_step (lo t) m i hml hi)), rowD ((R2.other (a := ⟨w.heap.size, m, none⟩) (by simp) _).other (a := ⟨w.heap.size, 16 + m, none⟩) (by simp) _), ((O.setCell (p := ⟨w.heap.size, m, none⟩) (Nat.le_refl _) _).setCell (p := ⟨w.heap.size, 16 + m, none⟩) (Nat.le_refl _) _).drew⟩, by simp [intOf]; omega⟩
      ·have hm' : m = 16 := by omega
       subst hm'
       have c := R1.cell (i := 0) (by omega)
       have e := R1.free 0
       rw [show fs (lo t) 16 0 = lo t 0 + 38 * lo t 16 by unfold fs; rw [if_pos (by omega)]] at c
       obtain ⟨a0, a1⟩ := hlo 0 (by omega)
       obtain ⟨b0, b1⟩ := hlo 16 (by omega)
       obtain ⟨f0, f1⟩ := hcf
       have RR := hide ((R1.set 0 (lo t 0 + 38 * lo t 16 + 1444 * cf t 32)).congr (f' := T1 t) (fun i hi => fs_last t i hi))
       have R2' := hide (R2.other (a := ⟨w.heap.size, 0, none⟩) (by simp) (.int .u64 (lo t 0 + 38 * lo t 16 + 1444 * cf t 32)))
       have O' := hide (O.setCell (p := ⟨w.heap.size, 0, none⟩) (Nat.le_refl _) (.int .u64 (lo t 0 + 38 * lo t 16 + 1444 * cf t 32)))
       clear R1 R2 O hlo hB
       go_wp2
       exact ⟨⟨k + 1, by omega, by go_num, ⟨T1 t, HJ.out, HC.out, RR.out⟩, R2'.out, O'.out⟩, by simp [intOf]; omega⟩
  ·have hk' : k = 3 := by omega
   subst hk'
   obtain ⟨hz, hD⟩ := hJ
   have HV := hide (show Cg (S t 16) (S t0 32) by rw [← S_upper_zero t hz]; exact hC)
   clear hC hlt hk
   go_wp2
   go_loopw [8] (fun r wq => ∃ k : Nat, k ≤ 3 ∧ r = .int .i64 k ∧ Row wq w.heap.size 108 32 t ∧ Row wq (w.heap.size + 1) 88 16 (fun _ => 0) ∧ Below w.heap.size w wq) (fun r _ => 3 - (intOf r).toNat)
   case atStart => exact ⟨0, by omega, rfl, R1, R2, O⟩
   case round =>
    clear R1 R2 O
    obtain ⟨k, hk, rfl, R1, R2, O⟩ := hrel
    by_cases hlt : k < 3
    ·go_wp2
     go_loopw [9, 10] (fun c i wq => ∃ j : Nat, j ≤ 16 ∧ c = .int .u64 0 ∧ i = .int .i64 j ∧ Row wq w.heap.size 108 32 t ∧ Row wq (w.heap.size + 1) 88 16 (fun _ => 0) ∧ Below w.heap.size w wq) (fun _ i _ => 16 - (intOf i).toNat)
     case atStart => exact ⟨0, by omega, rfl, rfl, R1, R2, O⟩
     case round =>
      clear R1 R2 O
      obtain ⟨j, hj, rfl, rfl, R1, R2, O⟩ := hrel
      by_cases hjl : j < 16
      ·have c := R1.cell (i := j) (by omega)
       have e := R1.free j
       obtain ⟨a0, a1⟩ := hD j hjl
       have ea : bits BinOp.and IntKind.u64 (t j) 65535 = t j := by rw [and16 a0 (by omega)]; omega
       have ed : t j / 65536 = 0 := by omega
       have RR := hide ((R1.set j (t j)).congr (f' := t) (fun i _ => by unfold upd; by_cases h : i = j <;> simp [h]))
       have R2' := hide (R2.other (a := ⟨w.heap.size, j, none⟩) (by simp) (.int .u64 (t j)))
       have O' := hide (O.setCell (p := ⟨w.heap.size, j, none⟩) (Nat.le_refl _) (.int .u64 (t j)))
       clear R1 R2 O
       go_wp2
       go_roundw
       case rel => exact ⟨j + 1, by omega, rfl, by go_num, RR.out, R2'.out, O'.out⟩
       case measure => simp [intOf]; omega
      ·have hj' : j = 16 := by omega
       subst hj'
       have c := R1.cell (i := 0) (by omega)
       have e := R1.free 0
       obtain ⟨a0, a1⟩ := hD 0 (by omega)
       have RR := hide ((R1.set 0 (t 0)).congr (f' := t) (fun i _ => by unfold upd; by_cases h : i = 0 <;> simp [h]))
       have R2' := hide (R2.other (a := ⟨w.heap.size, 0, none⟩) (by simp) (.int .u64 (t 0)))
       have O' := hide (O.setCell (p := ⟨w.heap.size, 0, none⟩) (Nat.le_refl _) (.int .u64 (t 0)))
       clear R1 R2 O
       go_wp2
       exact ⟨⟨k + 1, by omega, by go_num, RR.out, R2'.out, O'.out⟩, by simp [intOf]; omega⟩
    ·have hk' : k = 3 := by omega
     subst hk'
     go_wp2
     rw [show #[Value.int IntKind.u64 0, Value.int IntKind.u64 0, Value.int IntKind.u64 0, Value.int IntKind.u64 0, Value.int IntKind.u64 0, Value.int IntKind.u64 0, Value.int IntKind.u64 0, Value.int IntKind.u64 0, Value.int IntKind.u64 0, Value.int IntKind.u64 0, Value.int IntKind.u64 0, Value.int IntKind.u64 0, Value.int IntKind.u64 0, Value.int IntKind.u64 0, Value.int IntKind.u64 0, Value.int IntKind.u64 0] = arr 16 (fun _ => 0) from rfl]
     have hg := R2.lt
     have R3 : Row (wr.alloc (.cells (arr 16 fun _ => 0) 88)) wr.heap.size 88 16 (fun _ => 0) := Row.new _ 88 16 _
     replace R1 := R1.alloc (.cells (arr 16 fun _ => 0) 88)
     replace R2 := R2.alloc (.cells (arr 16 fun _ => 0) 88)
     replace O := O.alloc (by omega) (.cells (arr 16 fun _ => 0) 88)
     generalize wr.heap.size = gN at *
     generalize wr.alloc (.cells (arr 16 fun _ => 0) 88) = W6 at *
     go_loopw [13] (fun i wq => ∃ m : Nat, m ≤ 16 ∧ i = .int .i64 m ∧ Row wq w.heap.size 108 32 t ∧ Row wq (w.heap.size + 1) 88 16 (fun _ => 0) ∧ Row wq gN 88 16 (wid t m) ∧ Below w.heap.size w wq) (fun i _ => 16 - (intOf i).toNat)
     case atStart => exact ⟨0, by omega, rfl, R1, R2, R3, O⟩
     case round =>
      clear R1 R2 R3 O
      obtain ⟨m, hm, rfl, R1, R2, R3, O⟩ := hrel
      by_cases hml : m < 16
      ·have c := R1.cell (i := m) (by omega)
       have d := R3.cell (i := m) (by omega)
       have e := R3.free m
       have RR := hide ((R3.set m (t m)).congr (f' := wid t (m + 1)) (fun i _ => by unfold upd wid; by_cases h : i = m <;> simp [h] <;> omega))
       have R1' := hide (R1.other (a := ⟨gN, m, none⟩) (by simp; omega) (.int .u64 (t m)))
       have R2' := hide (R2.other (a := ⟨gN, m, none⟩) (by simp; omega) (.int .u64 (t m)))
       have O' := hide (O.setCell (p := ⟨gN, m, none⟩) (by simp; omega) (.int .u64 (t m)))
       clear R1 R2 R3 O
       go_wp2
       go_roundw
       case rel => exact ⟨m + 1, by omega, by go_num, R1'.out, R2'.out, RR.out, O'.out⟩
       case measure => simp [intOf]; omega
      ·have hm' : m = 16 := by omega
       subst hm'
       replace R3 := R3.congr (f' := t) (fun i hi => by unfold wid; rw [if_pos hi])
       clear R1 hz hml hm
       go_wp2_with fail
       go_loopw [91] (fun _ wq => ∃ u : Nat → Int, Dig u 16 ∧ Cg (S u 16) (S t0 32) ∧ Row wq (w.heap.size + 1) 88 16 (fun _ => 0) ∧ Row wq gN 88 16 u ∧ Below w.heap.size w wq) (fun _ wq => meas wq gN)
       case atStart => exact ⟨t, hD, HV.out, R2, R3, O⟩
       case round =>
        clear R2 R3 O HV hD
        obtain ⟨u, hU, hC, R2, R3, O⟩ := hrel
        have HC := hide hC
        clear hC
        have hne := KW.some wr
        have hg3 : ∀ w', (∃ s : KW wr, w' = s.w) → w'.heap[gN]? = some (.cells (arr 16 u) 88 (0, 0)) := by
         rintro _ ⟨s, rfl⟩
         exact R3.keep s.keep
        have HG := hide hg3
        clear hg3
        go_wp2_with fail
        refine wp_region_keep (by kernel_rfl) (by kernel_rfl) ?_
        go_big_quiet_want
        refine quiet_load_row 88 _ rfl gN rfl 88 (arr 16 u) (0, 0) _ HG.out Tryz.underlying88 rfl (info88 _) ?_
        go_simp
        go_big_quiet_on
        go_big_quiet_step ((exact keep_of (prime_any _)))
        go_big_quiet_step ((exact keep_of (less_any u pF _ hU pF_dig)))
        rw [pF_S]
        by_cases hlt : S u 16 < Pm
        ·rw [decide_eq_true hlt]
         go_big_quiet_step (fail)
         refine wpQuiet_nil ?_
         intro s
         replace R2 := R2.keep s.keep
         replace R3 := R3.keep s.keep
         replace O := O.trans (s.keep.mono O.size)
         generalize s.w = W7 at R2 R3 O ⊢
         have RR := hide (R2.setAll u)
         have OO := hide (below_setCells (g := w.heap.size + 1) (by omega) (arr 16 u).toList 0 O)
         have HE := hide (fin_eq hU HC.out hlt)
         clear HG hne hlt
         go_wp2_with (first | (refine wpList_load_row rfl 88 _ rfl gN rfl 88 (arr 16 u) (0, 0) _ R3 Tryz.underlying88 rfl (info88 _) ?_) | (refine wpList_store_mid rfl 88 _ _ rfl (w.heap.size + 1) 0 (arr 16 u) rfl rfl (by rw [arr_size]; exact R2.there) (info88 _) (arr_one _ _) ?_))
         exact bodyPost_ret (v := .agg (arr 16 u)) (results_cell_row Tryz.results59 _ _ (w.heap.size + 1) 88 (arr 16 u) (0, 0) _ rfl RR.out Tryz.underlying88 rfl (info88 _)) rfl ⟨by rw [HE.out], OO.out⟩
        ·rw [decide_eq_false hlt]
         go_big_quiet_step (fail)
         refine wpQuiet_nil ?_
         intro s
         have HM := hide (meas_row R3)
         replace R2 := R2.keep s.keep
         replace R3 := R3.keep s.keep
         replace O := O.trans (s.keep.mono O.size)
         generalize s.w = W7 at R2 R3 O ⊢
         have hle : S pF 16 ≤ S u 16 := by rw [pF_S]; omega
         have HS := hide (minus_le hU pF_dig hle)
         have HL := hide hle
         clear HG hne hlt hle
         have hne := KW.some W7
         have hg3 : ∀ w', (∃ s : KW W7, w' = s.w) → w'.heap[gN]? = some (.cells (arr 16 u) 88 (0, 0)) := by
          rintro _ ⟨s, rfl⟩
          exact R3.keep s.keep
         have HG := hide hg3
         clear hg3
         go_wp2_with fail
         refine wp_region_keep_tail 3 (by kernel_rfl) (by kernel_rfl) ?_
         simp only [List.take_succ_cons, List.take_zero, List.drop_succ_cons, List.drop_zero]
         go_big_quiet_want
         refine quiet_load_row 88 _ rfl gN rfl 88 (arr 16 u) (0, 0) _ HG.out Tryz.underlying88 rfl (info88 _) ?_
         go_simp
         go_big_quiet_on
         go_big_quiet_step ((exact keep_of (prime_any _)))
         go_big_quiet_step ((exact keep_of (minus_any u pF _ hU pF_dig)))
         refine wpQuiet_nil ?_
         intro s
         replace R2 := R2.keep s.keep
         replace R3 := R3.keep s.keep
         replace O := O.trans (s.keep.mono O.size)
         generalize s.w = W8 at R2 R3 O ⊢
         have RR := hide (R3.setAll (minusF u pF))
         have R2' := hide (R2.setOther (k := gN) (by omega) 0 (arr 16 (minusF u pF)).toList)
         have OO := hide (below_setCells (g := gN) (by omega) (arr 16 (minusF u pF)).toList 0 O)
         clear HG hne
         go_wp2_with (refine wpList_store_mid rfl 88 _ _ rfl gN 0 (arr 16 (minusF u pF)) rfl rfl (by rw [arr_size]; exact R3.there) (info88 _) (arr_one _ _) ?_)
         refine ⟨⟨_, _, _, _, _, _, _, ⟨minusF u pF, minusF_dig u pF 16, ?_, R2'.out, RR.out, OO.out⟩, rfl⟩, ?_⟩
         ·rw [HS.out, pF_S]
          have := Cg.sub_P (S u 16) 1
          rw [Int.one_mul] at this
          exact this.trans HC.out
         ·rw [meas_row RR.out, HM.out, HS.out, pF_S]
          have := HL.out
          rw [pF_S] at this
          unfold Pm at *
          omega
open Go.RowKit
def pt (s : ByteArray) (k : Nat) : Nat → Int := fun i => (if 2 * i < k then bt s (2 * i) else 0) + (if 2 * i + 1 < k then bt s (2 * i + 1) * 256 else 0)
theorem ptor0 (s : ByteArray) (i : Nat) : bits BinOp.or IntKind.u64 0 (bt s i) = bt s i := by
 have hb := bt_bd s i
 rw [or_join 8 256 (by decide) ⟨by decide, by decide⟩ ⟨hb.1, by omega⟩ (by decide) (by omega)]
 omega
theorem ptor1 (s : ByteArray) (i j : Nat) : bits BinOp.or IntKind.u64 (bt s i) (bt s j * 256) = bt s i + bt s j * 256 := by
 have hb := bt_bd s i
 have hc := bt_bd s j
 exact or_join' 8 256 (by decide) ⟨hb.1, by omega⟩ ⟨by omega, by omega⟩ (by omega) (by omega)
theorem pt_dig (s : ByteArray) (k : Nat) : Dig (pt s k) 16 := fun i _ => by
 have hb := bt_bd s (2 * i)
 have hc := bt_bd s (2 * i + 1)
 unfold pt
 split <;> split <;> omega
theorem pt_even (s : ByteArray) (j i : Nat) : upd (pt s (2 * j)) j (bt s (2 * j)) i = pt s (2 * j + 1) i := by
 unfold upd pt
 by_cases h : i = j
 ·subst h
  simp
 ·rw [if_neg h]
  congr 1
  ·by_cases h2 : 2 * i < 2 * j
   ·rw [if_pos h2, if_pos (by omega)]
   ·rw [if_neg h2, if_neg (by omega)]
  ·by_cases h2 : 2 * i + 1 < 2 * j
   ·rw [if_pos h2, if_pos (by omega)]
   ·rw [if_neg h2, if_neg (by omega)]
theorem pt_odd (s : ByteArray) (j i : Nat) : upd (pt s (2 * j + 1)) j (bt s (2 * j) + bt s (2 * j + 1) * 256) i = pt s (2 * j + 1 + 1) i := by
 unfold upd pt
 by_cases h : i = j
 ·subst h
  simp
  intro h
  omega
 ·rw [if_neg h]
  congr 1
  ·by_cases h2 : 2 * i < 2 * j + 1
   ·rw [if_pos h2, if_pos (by omega)]
   ·rw [if_neg h2, if_neg (by omega)]
  ·by_cases h2 : 2 * i + 1 < 2 * j + 1
   ·rw [if_pos h2, if_pos (by omega)]
   ·rw [if_neg h2, if_neg (by omega)]
theorem pt_S (s : ByteArray) : S (pt s 32) 16 = val s := by
 simp [S, pt, val, sw]
 omega
theorem parts_any (s : ByteArray) (w : World) (hs : s.size = 32) : Cs 61 #[.string s] w (.agg (arr 16 (pt s 32))) := by
 go_enter Tryz.func61, Tryz.ntmps61
 go_wp2
 rw [show #[Value.int IntKind.u64 0, Value.int IntKind.u64 0, Value.int IntKind.u64 0, Value.int IntKind.u64 0, Value.int IntKind.u64 0, Value.int IntKind.u64 0, Value.int IntKind.u64 0, Value.int IntKind.u64 0, Value.int IntKind.u64 0, Value.int IntKind.u64 0, Value.int IntKind.u64 0, Value.int IntKind.u64 0, Value.int IntKind.u64 0, Value.int IntKind.u64 0, Value.int IntKind.u64 0, Value.int IntKind.u64 0] = arr 16 (fun _ => 0) from rfl]
 have R1 : Row ((w.alloc (.cells (arr 16 fun _ => 0) 88)).alloc (.cells (arr 16 fun _ => 0) 88)) w.heap.size 88 16 (fun _ => 0) := (Row.new w 88 16 _).alloc _
 have R2 : Row ((w.alloc (.cells (arr 16 fun _ => 0) 88)).alloc (.cells (arr 16 fun _ => 0) 88)) (w.heap.size + 1) 88 16 (pt s 0) := (Row.new' _ 88 16 _ (by simp)).congr (fun i _ => by simp [pt])
 have O : Below w.heap.size w ((w.alloc (.cells (arr 16 fun _ => 0) 88)).alloc (.cells (arr 16 fun _ => 0) 88)) := ((Below.refl _ _).alloc (Nat.le_refl _) _).alloc (by simp) _
 generalize (w.alloc (.cells (arr 16 fun _ => 0) 88)).alloc (.cells (arr 16 fun _ => 0) 88) = W at R1 R2 O ⊢
 go_loopw [4] (fun i wr => ∃ k : Nat, k ≤ 32 ∧ i = .int .i64 k ∧ Row wr w.heap.size 88 16 (fun _ => 0) ∧ Row wr (w.heap.size + 1) 88 16 (pt s k) ∧ Below w.heap.size w wr) (fun i _ => 32 - (intOf i).toNat)
 case atStart => exact ⟨0, by omega, rfl, R1, R2, O⟩
 case round =>
  clear R1 R2 O
  obtain ⟨k, hk, rfl, R1, R2, O⟩ := hrel
  by_cases hlt : k < 32
  ·have hc : k = 0 ∨ k = 1 ∨ k = 2 ∨ k = 3 ∨ k = 4 ∨ k = 5 ∨ k = 6 ∨ k = 7 ∨ k = 8 ∨ k = 9 ∨ k = 10 ∨ k = 11 ∨ k = 12 ∨ k = 13 ∨ k = 14 ∨ k = 15 ∨ k = 16 ∨ k = 17 ∨ k = 18 ∨ k = 19 ∨ k = 20 ∨ k = 21 ∨ k = 22 ∨ k = 23 ∨ k = 24 ∨ k = 25 ∨ k = 26 ∨ k = 27 ∨ k = 28 ∨ k = 29 ∨ k = 30 ∨ k = 31 := by omega
   clear hlt hk
   rcases hc with rfl | rfl | rfl | rfl | rfl | rfl | rfl | rfl | rfl | rfl | rfl | rfl | rfl | rfl | rfl | rfl | rfl | rfl | rfl | rfl | rfl | rfl | rfl | rfl | rfl | rfl | rfl | rfl | rfl | rfl | rfl | rfl
   ·have hb := bt_at s 0 (by omega)
    obtain ⟨p, q⟩ := bt_bd s 0
    have e := ptor0 s 0
    have c := R2.cell (i := 0) (by omega)
    rw [show pt s 0 0 = 0 by simp [pt]] at c
    have f := R2.free 0
    have RR := hide ((R2.set 0 (bt s 0)).congr (fun i _ => pt_even s 0 i))
    have R1' := hide (R1.other (a := ⟨w.heap.size + 1, 0, none⟩) (by simp) (.int .u64 (bt s 0)))
    have O' := hide (O.setCell (p := ⟨w.heap.size + 1, 0, none⟩) (by simp) (.int .u64 (bt s 0)))
    clear R1 R2 O
    go_wp2_with fail
    go_region
    go_wp2
    first | exact ⟨⟨1, by omega, rfl, R1'.out, RR.out, O'.out.drew⟩, by simp [intOf]⟩ | (go_roundw; (case rel => exact ⟨1, by omega, rfl, R1'.out, RR.out, O'.out.drew⟩); (case measure => simp [intOf]))
   ·have hb := bt_at s 1 (by omega)
    obtain ⟨p, q⟩ := bt_bd s 1
    have e := ptor1 s 0 1
    have c := R2.cell (i := 0) (by omega)
    rw [show pt s 1 0 = bt s 0 by simp [pt]] at c
    have f := R2.free 0
    have RR := hide ((R2.set 0 (bt s 0 + bt s 1 * 256)).congr (fun i _ => pt_odd s 0 i))
    have R1' := hide (R1.other (a := ⟨w.heap.size + 1, 0, none⟩) (by simp) (.int .u64 (bt s 0 + bt s 1 * 256)))
    have O' := hide (O.setCell (p := ⟨w.heap.size + 1, 0, none⟩) (by simp) (.int .u64 (bt s 0 + bt s 1 * 256)))
    clear R1 R2 O
    go_wp2_with fail
    go_region
    go_wp2
    first | exact ⟨⟨2, by omega, rfl, R1'.out, RR.out, O'.out.drew⟩, by simp [intOf]⟩ | (go_roundw; (case rel => exact ⟨2, by omega, rfl, R1'.out, RR.out, O'.out.drew⟩); (case measure => simp [intOf]))
   ·have hb := bt_at s 2 (by omega)
    obtain ⟨p, q⟩ := bt_bd s 2
    have e := ptor0 s 2
    have c := R2.cell (i := 1) (by omega)
    rw [show pt s 2 1 = 0 by simp [pt]] at c
    have f := R2.free 1
    have RR := hide ((R2.set 1 (bt s 2)).congr (fun i _ => pt_even s 1 i))
    have R1' := hide (R1.other (a := ⟨w.heap.size + 1, 1, none⟩) (by simp) (.int .u64 (bt s 2)))
    have O' := hide (O.setCell (p := ⟨w.heap.size + 1, 1, none⟩) (by simp) (.int .u64 (bt s 2)))
    clear R1 R2 O
    go_wp2_with fail
    go_region
    go_wp2
    first | exact ⟨⟨3, by omega, rfl, R1'.out, RR.out, O'.out.drew⟩, by simp [intOf]⟩ | (go_roundw; (case rel => exact ⟨3, by omega, rfl, R1'.out, RR.out, O'.out.drew⟩); (case measure => simp [intOf]))
   ·have hb := bt_at s 3 (by omega)
    obtain ⟨p, q⟩ := bt_bd s 3
    have e := ptor1 s 2 3
    have c := R2.cell (i := 1) (by omega)
    rw [show pt s 3 1 = bt s 2 by simp [pt]] at c
    have f := R2.free 1
    have RR := hide ((R2.set 1 (bt s 2 + bt s 3 * 256)).congr (fun i _ => pt_odd s 1 i))
    have R1' := hide (R1.other (a := ⟨w.heap.size + 1, 1, none⟩) (by simp) (.int .u64 (bt s 2 + bt s 3 * 256)))
    have O' := hide (O.setCell (p := ⟨w.heap.size + 1, 1, none⟩) (by simp) (.int .u64 (bt s 2 + bt s 3 * 256)))
    clear R1 R2 O
    go_wp2_with fail
    go_region
    go_wp2
    first | exact ⟨⟨4, by omega, rfl, R1'.out, RR.out, O'.out.drew⟩, by simp [intOf]⟩ | (go_roundw; (case rel => exact ⟨4, by omega, rfl, R1'.out, RR.out, O'.out.drew⟩); (case measure => simp [intOf]))
   ·have hb := bt_at s 4 (by omega)
    obtain ⟨p, q⟩ := bt_bd s 4
    have e := ptor0 s 4
    have c := R2.cell (i := 2) (by omega)
    rw [show pt s 4 2 = 0 by simp [pt]] at c
    have f := R2.free 2
    have RR := hide ((R2.set 2 (bt s 4)).congr (fun i _ => pt_even s 2 i))
    have R1' := hide (R1.other (a := ⟨w.heap.size + 1, 2, none⟩) (by simp) (.int .u64 (bt s 4)))
    have O' := hide (O.setCell (p := ⟨w.heap.size + 1, 2, none⟩) (by simp) (.int .u64 (bt s 4)))
    clear R1 R2 O
    go_wp2_with fail
    go_region
    go_wp2
    first | exact ⟨⟨5, by omega, rfl, R1'.out, RR.out, O'.out.drew⟩, by simp [intOf]⟩ | (go_roundw; (case rel => exact ⟨5, by omega, rfl, R1'.out, RR.out, O'.out.drew⟩); (case measure => simp [intOf]))
   ·have hb := bt_at s 5 (by omega)
    obtain ⟨p, q⟩ := bt_bd s 5
    have e := ptor1 s 4 5
    have c := R2.cell (i := 2) (by omega)
    rw [show pt s 5 2 = bt s 4 by simp [pt]] at c
    have f := R2.free 2
    have RR := hide ((R2.set 2 (bt s 4 + bt s 5 * 256)).congr (fun i _ => pt_odd s 2 i))
    have R1' := hide (R1.other (a := ⟨w.heap.size + 1, 2, none⟩) (by simp) (.int .u64 (bt s 4 + bt s 5 * 256)))
    have O' := hide (O.setCell (p := ⟨w.heap.size + 1, 2, none⟩) (by simp) (.int .u64 (bt s 4 + bt s 5 * 256)))
    clear R1 R2 O
    go_wp2_with fail
    go_region
    go_wp2
    first | exact ⟨⟨6, by omega, rfl, R1'.out, RR.out, O'.out.drew⟩, by simp [intOf]⟩ | (go_roundw; (case rel => exact ⟨6, by omega, rfl, R1'.out, RR.out, O'.out.drew⟩); (case measure => simp [intOf]))
   ·have hb := bt_at s 6 (by omega)
    obtain ⟨p, q⟩ := bt_bd s 6
    have e := ptor0 s 6
    have c := R2.cell (i := 3) (by omega)
    rw [show pt s 6 3 = 0 by simp [pt]] at c
    have f := R2.free 3
    have RR := hide ((R2.set 3 (bt s 6)).congr (fun i _ => pt_even s 3 i))
    have R1' := hide (R1.other (a := ⟨w.heap.size + 1, 3, none⟩) (by simp) (.int .u64 (bt s 6)))
    have O' := hide (O.setCell (p := ⟨w.heap.size + 1, 3, none⟩) (by simp) (.int .u64 (bt s 6)))
    clear R1 R2 O
    go_wp2_with fail
    go_region
    go_wp2
    first | exact ⟨⟨7, by omega, rfl, R1'.out, RR.out, O'.out.drew⟩, by simp [intOf]⟩ | (go_roundw; (case rel => exact ⟨7, by omega, rfl, R1'.out, RR.out, O'.out.drew⟩); (case measure => simp [intOf]))
   ·have hb := bt_at s 7 (by omega)
    obtain ⟨p, q⟩ := bt_bd s 7
    have e := ptor1 s 6 7
    have c := R2.cell (i := 3) (by omega)
    rw [show pt s 7 3 = bt s 6 by simp [pt]] at c
    have f := R2.free 3
    have RR := hide ((R2.set 3 (bt s 6 + bt s 7 * 256)).congr (fun i _ => pt_odd s 3 i))
    have R1' := hide (R1.other (a := ⟨w.heap.size + 1, 3, none⟩) (by simp) (.int .u64 (bt s 6 + bt s 7 * 256)))
    have O' := hide (O.setCell (p := ⟨w.heap.size + 1, 3, none⟩) (by simp) (.int .u64 (bt s 6 + bt s 7 * 256)))
    clear R1 R2 O
    go_wp2_with fail
    go_region
    go_wp2
    first | exact ⟨⟨8, by omega, rfl, R1'.out, RR.out, O'.out.drew⟩, by simp [intOf]⟩ | (go_roundw; (case rel => exact ⟨8, by omega, rfl, R1'.out, RR.out, O'.out.drew⟩); (case measure => simp [intOf]))
   ·have hb := bt_at s 8 (by omega)
    obtain ⟨p, q⟩ := bt_bd s 8
    have e := ptor0 s 8
    have c := R2.cell (i := 4) (by omega)
    rw [show pt s 8 4 = 0 by simp [pt]] at c
    have f := R2.free 4
    have RR := hide ((R2.set 4 (bt s 8)).congr (fun i _ => pt_even s 4 i))
    have R1' := hide (R1.other (a := ⟨w.heap.size + 1, 4, none⟩) (by simp) (.int .u64 (bt s 8)))
    have O' := hide (O.setCell (p := ⟨w.heap.size + 1, 4, none⟩) (by simp) (.int .u64 (bt s 8)))
    clear R1 R2 O
    go_wp2_with fail
    go_region
    go_wp2
    first | exact ⟨⟨9, by omega, rfl, R1'.out, RR.out, O'.out.drew⟩, by simp [intOf]⟩ | (go_roundw; (case rel => exact ⟨9, by omega, rfl, R1'.out, RR.out, O'.out.drew⟩); (case measure => simp [intOf]))
   ·have hb := bt_at s 9 (by omega)
    obtain ⟨p, q⟩ := bt_bd s 9
    have e := ptor1 s 8 9
    have c := R2.cell (i := 4) (by omega)
    rw [show pt s 9 4 = bt s 8 by simp [pt]] at c
    have f := R2.free 4
    have RR := hide ((R2.set 4 (bt s 8 + bt s 9 * 256)).congr (fun i _ => pt_odd s 4 i))
    have R1' := hide (R1.other (a := ⟨w.heap.size + 1, 4, none⟩) (by simp) (.int .u64 (bt s 8 + bt s 9 * 256)))
    have O' := hide (O.setCell (p := ⟨w.heap.size + 1, 4, none⟩) (by simp) (.int .u64 (bt s 8 + bt s 9 * 256)))
    clear R1 R2 O
    go_wp2_with fail
    go_region
    go_wp2
    first | exact ⟨⟨10, by omega, rfl, R1'.out, RR.out, O'.out.drew⟩, by simp [intOf]⟩ | (go_roundw; (case rel => exact ⟨10, by omega, rfl, R1'.out, RR.out, O'.out.drew⟩); (case measure => simp [intOf]))
   ·have hb := bt_at s 10 (by omega)
    obtain ⟨p, q⟩ := bt_bd s 10
    have e := ptor0 s 10
    have c := R2.cell (i := 5) (by omega)
    rw [show pt s 10 5 = 0 by simp [pt]] at c
    have f := R2.free 5
    have RR := hide ((R2.set 5 (bt s 10)).congr (fun i _ => pt_even s 5 i))
    have R1' := hide (R1.other (a := ⟨w.heap.size + 1, 5, none⟩) (by simp) (.int .u64 (bt s 10)))
    have O' := hide (O.setCell (p := ⟨w.heap.size + 1, 5, none⟩) (by simp) (.int .u64 (bt s 10)))
    clear R1 R2 O
    go_wp2_with fail
    go_region
    go_wp2
    first | exact ⟨⟨11, by omega, rfl, R1'.out, RR.out, O'.out.drew⟩, by simp [intOf]⟩ | (go_roundw; (case rel => exact ⟨11, by omega, rfl, R1'.out, RR.out, O'.out.drew⟩); (case measure => simp [intOf]))
   ·have hb := bt_at s 11 (by omega)
    obtain ⟨p, q⟩ := bt_bd s 11
    have e := ptor1 s 10 11
    have c := R2.cell (i := 5) (by omega)
    rw [show pt s 11 5 = bt s 10 by simp [pt]] at c
    have f := R2.free 5
    have RR := hide ((R2.set 5 (bt s 10 + bt s 11 * 256)).congr (fun i _ => pt_odd s 5 i))
    have R1' := hide (R1.other (a := ⟨w.heap.size + 1, 5, none⟩) (by simp) (.int .u64 (bt s 10 + bt s 11 * 256)))
    have O' := hide (O.setCell (p := ⟨w.heap.size + 1, 5, none⟩) (by simp) (.int .u64 (bt s 10 + bt s 11 * 256)))
    clear R1 R2 O
    go_wp2_with fail
    go_region
    go_wp2
    first | exact ⟨⟨12, by omega, rfl, R1'.out, RR.out, O'.out.drew⟩, by simp [intOf]⟩ | (go_roundw; (case rel => exact ⟨12, by omega, rfl, R1'.out, RR.out, O'.out.drew⟩); (case measure => simp [intOf]))
   ·have hb := bt_at s 12 (by omega)
    obtain ⟨p, q⟩ := bt_bd s 12
    have e := ptor0 s 12
    have c := R2.cell (i := 6) (by omega)
    rw [show pt s 12 6 = 0 by simp [pt]] at c
    have f := R2.free 6
    have RR := hide ((R2.set 6 (bt s 12)).congr (fun i _ => pt_even s 6 i))
    have R1' := hide (R1.other (a := ⟨w.heap.size + 1, 6, none⟩) (by simp) (.int .u64 (bt s 12)))
    have O' := hide (O.setCell (p := ⟨w.heap.size + 1, 6, none⟩) (by simp) (.int .u64 (bt s 12)))
    clear R1 R2 O
    go_wp2_with fail
    go_region
    go_wp2
    first | exact ⟨⟨13, by omega, rfl, R1'.out, RR.out, O'.out.drew⟩, by simp [intOf]⟩ | (go_roundw; (case rel => exact ⟨13, by omega, rfl, R1'.out, RR.out, O'.out.drew⟩); (case measure => simp [intOf]))
   ·have hb := bt_at s 13 (by omega)
    obtain ⟨p, q⟩ := bt_bd s 13
    have e := ptor1 s 12 13
    have c := R2.cell (i := 6) (by omega)
    rw [show pt s 13 6 = bt s 12 by simp [pt]] at c
    have f := R2.free 6
    have RR := hide ((R2.set 6 (bt s 12 + bt s 13 * 256)).congr (fun i _ => pt_odd s 6 i))
    have R1' := hide (R1.other (a := ⟨w.heap.size + 1, 6, none⟩) (by simp) (.int .u64 (bt s 12 + bt s 13 * 256)))
    have O' := hide (O.setCell (p := ⟨w.heap.size + 1, 6, none⟩) (by simp) (.int .u64 (bt s 12 + bt s 13 * 256)))
    clear R1 R2 O
    go_wp2_with fail
    go_region
    go_wp2
    first | exact ⟨⟨14, by omega, rfl, R1'.out, RR.out, O'.out.drew⟩, by simp [intOf]⟩ | (go_roundw; (case rel => exact ⟨14, by omega, rfl, R1'.out, RR.out, O'.out.drew⟩); (case measure => simp [intOf]))
   ·have hb := bt_at s 14 (by omega)
    obtain ⟨p, q⟩ := bt_bd s 14
    have e := ptor0 s 14
    have c := R2.cell (i := 7) (by omega)
    rw [show pt s 14 7 = 0 by simp [pt]] at c
    have f := R2.free 7
    have RR := hide ((R2.set 7 (bt s 14)).congr (fun i _ => pt_even s 7 i))
    have R1' := hide (R1.other (a := ⟨w.heap.size + 1, 7, none⟩) (by simp) (.int .u64 (bt s 14)))
    have O' := hide (O.setCell (p := ⟨w.heap.size + 1, 7, none⟩) (by simp) (.int .u64 (bt s 14)))
    clear R1 R2 O
    go_wp2_with fail
    go_region
    go_wp2
    first | exact ⟨⟨15, by omega, rfl, R1'.out, RR.out, O'.out.drew⟩, by simp [intOf]⟩ | (go_roundw; (case rel => exact ⟨15, by omega, rfl, R1'.out, RR.out, O'.out.drew⟩); (case measure => simp [intOf]))
   ·have hb := bt_at s 15 (by omega)
    obtain ⟨p, q⟩ := bt_bd s 15
    have e := ptor1 s 14 15
    have c := R2.cell (i := 7) (by omega)
    rw [show pt s 15 7 = bt s 14 by simp [pt]] at c
    have f := R2.free 7
    have RR := hide ((R2.set 7 (bt s 14 + bt s 15 * 256)).congr (fun i _ => pt_odd s 7 i))
    have R1' := hide (R1.other (a := ⟨w.heap.size + 1, 7, none⟩) (by simp) (.int .u64 (bt s 14 + bt s 15 * 256)))
    have O' := hide (O.setCell (p := ⟨w.heap.size + 1, 7, none⟩) (by simp) (.int .u64 (bt s 14 + bt s 15 * 256)))
    clear R1 R2 O
    go_wp2_with fail
    go_region
    go_wp2
    first | exact ⟨⟨16, by omega, rfl, R1'.out, RR.out, O'.out.drew⟩, by simp [intOf]⟩ | (go_roundw; (case rel => exact ⟨16, by omega, rfl, R1'.out, RR.out, O'.out.drew⟩); (case measure => simp [intOf]))
   ·have hb := bt_at s 16 (by omega)
    obtain ⟨p, q⟩ := bt_bd s 16
    have e := ptor0 s 16
    have c := R2.cell (i := 8) (by omega)
    rw [show pt s 16 8 = 0 by simp [pt]] at c
    have f := R2.free 8
    have RR := hide ((R2.set 8 (bt s 16)).congr (fun i _ => pt_even s 8 i))
    have R1' := hide (R1.other (a := ⟨w.heap.size + 1, 8, none⟩) (by simp) (.int .u64 (bt s 16)))
    have O' := hide (O.setCell (p := ⟨w.heap.size + 1, 8, none⟩) (by simp) (.int .u64 (bt s 16)))
    clear R1 R2 O
    go_wp2_with fail
    go_region
    go_wp2
    first | exact ⟨⟨17, by omega, rfl, R1'.out, RR.out, O'.out.drew⟩, by simp [intOf]⟩ | (go_roundw; (case rel => exact ⟨17, by omega, rfl, R1'.out, RR.out, O'.out.drew⟩); (case measure => simp [intOf]))
   ·have hb := bt_at s 17 (by omega)
    obtain ⟨p, q⟩ := bt_bd s 17
    have e := ptor1 s 16 17
    have c := R2.cell (i := 8) (by omega)
    rw [show pt s 17 8 = bt s 16 by simp [pt]] at c
    have f := R2.free 8
    have RR := hide ((R2.set 8 (bt s 16 + bt s 17 * 256)).congr (fun i _ => pt_odd s 8 i))
    have R1' := hide (R1.other (a := ⟨w.heap.size + 1, 8, none⟩) (by simp) (.int .u64 (bt s 16 + bt s 17 * 256)))
    have O' := hide (O.setCell (p := ⟨w.heap.size + 1, 8, none⟩) (by simp) (.int .u64 (bt s 16 + bt s 17 * 256)))
    clear R1 R2 O
    go_wp2_with fail
    go_region
    go_wp2
    first | exact ⟨⟨18, by omega, rfl, R1'.out, RR.out, O'.out.drew⟩, by simp [intOf]⟩ | (go_roundw; (case rel => exact ⟨18, by omega, rfl, R1'.out, RR.out, O'.out.drew⟩); (case measure => simp [intOf]))
   ·have hb := bt_at s 18 (by omega)
    obtain ⟨p, q⟩ := bt_bd s 18
    have e := ptor0 s 18
    have c := R2.cell (i := 9) (by omega)
    rw [show pt s 18 9 = 0 by simp [pt]] at c
    have f := R2.free 9
    have RR := hide ((R2.set 9 (bt s 18)).congr (fun i _ => pt_even s 9 i))
    have R1' := hide (R1.other (a := ⟨w.heap.size + 1, 9, none⟩) (by simp) (.int .u64 (bt s 18)))
    have O' := hide (O.setCell (p := ⟨w.heap.size + 1, 9, none⟩) (by simp) (.int .u64 (bt s 18)))
    clear R1 R2 O
    go_wp2_with fail
    go_region
    go_wp2
    first | exact ⟨⟨19, by omega, rfl, R1'.out, RR.out, O'.out.drew⟩, by simp [intOf]⟩ | (go_roundw; (case rel => exact ⟨19, by omega, rfl, R1'.out, RR.out, O'.out.drew⟩); (case measure => simp [intOf]))
   ·have hb := bt_at s 19 (by omega)
    obtain ⟨p, q⟩ := bt_bd s 19
    have e := ptor1 s 18 19
    have c := R2.cell (i := 9) (by omega)
    rw [show pt s 19 9 = bt s 18 by simp [pt]] at c
    have f := R2.free 9
    have RR := hide ((R2.set 9 (bt s 18 + bt s 19 * 256)).congr (fun i _ => pt_odd s 9 i))
    have R1' := hide (R1.other (a := ⟨w.heap.size + 1, 9, none⟩) (by simp) (.int .u64 (bt s 18 + bt s 19 * 256)))
    have O' := hide (O.setCell (p := ⟨w.heap.size + 1, 9, none⟩) (by simp) (.int .u64 (bt s 18 + bt s 19 * 256)))
    clear R1 R2 O
    go_wp2_with fail
    go_region
    go_wp2
    first | exact ⟨⟨20, by omega, rfl, R1'.out, RR.out, O'.out.drew⟩, by simp [intOf]⟩ | (go_roundw; (case rel => exact ⟨20, by omega, rfl, R1'.out, RR.out, O'.out.drew⟩); (case measure => simp [intOf]))
   ·have hb := bt_at s 20 (by omega)
    obtain ⟨p, q⟩ := bt_bd s 20
    have e := ptor0 s 20
    have c := R2.cell (i := 10) (by omega)
    rw [show pt s 20 10 = 0 by simp [pt]] at c
    have f := R2.free 10
    have RR := hide ((R2.set 10 (bt s 20)).congr (fun i _ => pt_even s 10 i))
    have R1' := hide (R1.other (a := ⟨w.heap.size + 1, 10, none⟩) (by simp) (.int .u64 (bt s 20)))
    have O' := hide (O.setCell (p := ⟨w.heap.size + 1, 10, none⟩) (by simp) (.int .u64 (bt s 20)))
    clear R1 R2 O
    go_wp2_with fail
    go_region
    go_wp2
    first | exact ⟨⟨21, by omega, rfl, R1'.out, RR.out, O'.out.drew⟩, by simp [intOf]⟩ | (go_roundw; (case rel => exact ⟨21, by omega, rfl, R1'.out, RR.out, O'.out.drew⟩); (case measure => simp [intOf]))
   ·have hb := bt_at s 21 (by omega)
    obtain ⟨p, q⟩ := bt_bd s 21
    have e := ptor1 s 20 21
    have c := R2.cell (i := 10) (by omega)
    rw [show pt s 21 10 = bt s 20 by simp [pt]] at c
    have f := R2.free 10
    have RR := hide ((R2.set 10 (bt s 20 + bt s 21 * 256)).congr (fun i _ => pt_odd s 10 i))
    have R1' := hide (R1.other (a := ⟨w.heap.size + 1, 10, none⟩) (by simp) (.int .u64 (bt s 20 + bt s 21 * 256)))
    have O' := hide (O.setCell (p := ⟨w.heap.size + 1, 10, none⟩) (by simp) (.int .u64 (bt s 20 + bt s 21 * 256)))
    clear R1 R2 O
    go_wp2_with fail
    go_region
    go_wp2
    first | exact ⟨⟨22, by omega, rfl, R1'.out, RR.out, O'.out.drew⟩, by simp [intOf]⟩ | (go_roundw; (case rel => exact ⟨22, by omega, rfl, R1'.out, RR.out, O'.out.drew⟩); (case measure => simp [intOf]))
   ·have hb := bt_at s 22 (by omega)
    obtain ⟨p, q⟩ := bt_bd s 22
    have e := ptor0 s 22
    have c := R2.cell (i := 11) (by omega)
    rw [show pt s 22 11 = 0 by simp [pt]] at c
    have f := R2.free 11
    have RR := hide ((R2.set 11 (bt s 22)).congr (fun i _ => pt_even s 11 i))
    have R1' := hide (R1.other (a := ⟨w.heap.size + 1, 11, none⟩) (by simp) (.int .u64 (bt s 22)))
    have O' := hide (O.setCell (p := ⟨w.heap.size + 1, 11, none⟩) (by simp) (.int .u64 (bt s 22)))
    clear R1 R2 O
    go_wp2_with fail
    go_region
    go_wp2
    first | exact ⟨⟨23, by omega, rfl, R1'.out, RR.out, O'.out.drew⟩, by simp [intOf]⟩ | (go_roundw; (case rel => exact ⟨23, by omega, rfl, R1'.out, RR.out, O'.out.drew⟩); (case measure => simp [intOf]))
   ·have hb := bt_at s 23 (by omega)
    obtain ⟨p, q⟩ := bt_bd s 23
    have e := ptor1 s 22 23
    have c := R2.cell (i := 11) (by omega)
    rw [show pt s 23 11 = bt s 22 by simp [pt]] at c
    have f := R2.free 11
    have RR := hide ((R2.set 11 (bt s 22 + bt s 23 * 256)).congr (fun i _ => pt_odd s 11 i))
    have R1' := hide (R1.other (a := ⟨w.heap.size + 1, 11, none⟩) (by simp) (.int .u64 (bt s 22 + bt s 23 * 256)))
    have O' := hide (O.setCell (p := ⟨w.heap.size + 1, 11, none⟩) (by simp) (.int .u64 (bt s 22 + bt s 23 * 256)))
    clear R1 R2 O
    go_wp2_with fail
    go_region
    go_wp2
    first | exact ⟨⟨24, by omega, rfl, R1'.out, RR.out, O'.out.drew⟩, by simp [intOf]⟩ | (go_roundw; (case rel => exact ⟨24, by omega, rfl, R1'.out, RR.out, O'.out.drew⟩); (case measure => simp [intOf]))
   ·have hb := bt_at s 24 (by omega)
    obtain ⟨p, q⟩ := bt_bd s 24
    have e := ptor0 s 24
    have c := R2.cell (i := 12) (by omega)
    rw [show pt s 24 12 = 0 by simp [pt]] at c
    have f := R2.free 12
    have RR := hide ((R2.set 12 (bt s 24)).congr (fun i _ => pt_even s 12 i))
    have R1' := hide (R1.other (a := ⟨w.heap.size + 1, 12, none⟩) (by simp) (.int .u64 (bt s 24)))
    have O' := hide (O.setCell (p := ⟨w.heap.size + 1, 12, none⟩) (by simp) (.int .u64 (bt s 24)))
    clear R1 R2 O
    go_wp2_with fail
    go_region
    go_wp2
    first | exact ⟨⟨25, by omega, rfl, R1'.out, RR.out, O'.out.drew⟩, by simp [intOf]⟩ | (go_roundw; (case rel => exact ⟨25, by omega, rfl, R1'.out, RR.out, O'.out.drew⟩); (case measure => simp [intOf]))
   ·have hb := bt_at s 25 (by omega)
    obtain ⟨p, q⟩ := bt_bd s 25
    have e := ptor1 s 24 25
    have c := R2.cell (i := 12) (by omega)
    rw [show pt s 25 12 = bt s 24 by simp [pt]] at c
    have f := R2.free 12
    have RR := hide ((R2.set 12 (bt s 24 + bt s 25 * 256)).congr (fun i _ => pt_odd s 12 i))
    have R1' := hide (R1.other (a := ⟨w.heap.size + 1, 12, none⟩) (by simp) (.int .u64 (bt s 24 + bt s 25 * 256)))
    have O' := hide (O.setCell (p := ⟨w.heap.size + 1, 12, none⟩) (by simp) (.int .u64 (bt s 24 + bt s 25 * 256)))
    clear R1 R2 O
    go_wp2_with fail
    go_region
    go_wp2
    first | exact ⟨⟨26, by omega, rfl, R1'.out, RR.out, O'.out.drew⟩, by simp [intOf]⟩ | (go_roundw; (case rel => exact ⟨26, by omega, rfl, R1'.out, RR.out, O'.out.drew⟩); (case measure => simp [intOf]))
   ·have hb := bt_at s 26 (by omega)
    obtain ⟨p, q⟩ := bt_bd s 26
    have e := ptor0 s 26
    have c := R2.cell (i := 13) (by omega)
    rw [show pt s 26 13 = 0 by simp [pt]] at c
    have f := R2.free 13
    have RR := hide ((R2.set 13 (bt s 26)).congr (fun i _ => pt_even s 13 i))
    have R1' := hide (R1.other (a := ⟨w.heap.size + 1, 13, none⟩) (by simp) (.int .u64 (bt s 26)))
    have O' := hide (O.setCell (p := ⟨w.heap.size + 1, 13, none⟩) (by simp) (.int .u64 (bt s 26)))
    clear R1 R2 O
    go_wp2_with fail
    go_region
    go_wp2
    first | exact ⟨⟨27, by omega, rfl, R1'.out, RR.out, O'.out.drew⟩, by simp [intOf]⟩ | (go_roundw; (case rel => exact ⟨27, by omega, rfl, R1'.out, RR.out, O'.out.drew⟩); (case measure => simp [intOf]))
   ·have hb := bt_at s 27 (by omega)
    obtain ⟨p, q⟩ := bt_bd s 27
    have e := ptor1 s 26 27
    have c := R2.cell (i := 13) (by omega)
    rw [show pt s 27 13 = bt s 26 by simp [pt]] at c
    have f := R2.free 13
    have RR := hide ((R2.set 13 (bt s 26 + bt s 27 * 256)).congr (fun i _ => pt_odd s 13 i))
    have R1' := hide (R1.other (a := ⟨w.heap.size + 1, 13, none⟩) (by simp) (.int .u64 (bt s 26 + bt s 27 * 256)))
    have O' := hide (O.setCell (p := ⟨w.heap.size + 1, 13, none⟩) (by simp) (.int .u64 (bt s 26 + bt s 27 * 256)))
    clear R1 R2 O
    go_wp2_with fail
    go_region
    go_wp2
    first | exact ⟨⟨28, by omega, rfl, R1'.out, RR.out, O'.out.drew⟩, by simp [intOf]⟩ | (go_roundw; (case rel => exact ⟨28, by omega, rfl, R1'.out, RR.out, O'.out.drew⟩); (case measure => simp [intOf]))
   ·have hb := bt_at s 28 (by omega)
    obtain ⟨p, q⟩ := bt_bd s 28
    have e := ptor0 s 28
    have c := R2.cell (i := 14) (by omega)
    rw [show pt s 28 14 = 0 by simp [pt]] at c
    have f := R2.free 14
    have RR := hide ((R2.set 14 (bt s 28)).congr (fun i _ => pt_even s 14 i))
    have R1' := hide (R1.other (a := ⟨w.heap.size + 1, 14, none⟩) (by simp) (.int .u64 (bt s 28)))
    have O' := hide (O.setCell (p := ⟨w.heap.size + 1, 14, none⟩) (by simp) (.int .u64 (bt s 28)))
    clear R1 R2 O
    go_wp2_with fail
    go_region
    go_wp2
    first | exact ⟨⟨29, by omega, rfl, R1'.out, RR.out, O'.out.drew⟩, by simp [intOf]⟩ | (go_roundw; (case rel => exact ⟨29, by omega, rfl, R1'.out, RR.out, O'.out.drew⟩); (case measure => simp [intOf]))
   ·have hb := bt_at s 29 (by omega)
    obtain ⟨p, q⟩ := bt_bd s 29
    have e := ptor1 s 28 29
    have c := R2.cell (i := 14) (by omega)
    rw [show pt s 29 14 = bt s 28 by simp [pt]] at c
    have f := R2.free 14
    have RR := hide ((R2.set 14 (bt s 28 + bt s 29 * 256)).congr (fun i _ => pt_odd s 14 i))
    have R1' := hide (R1.other (a := ⟨w.heap.size + 1, 14, none⟩) (by simp) (.int .u64 (bt s 28 + bt s 29 * 256)))
    have O' := hide (O.setCell (p := ⟨w.heap.size + 1, 14, none⟩) (by simp) (.int .u64 (bt s 28 + bt s 29 * 256)))
    clear R1 R2 O
    go_wp2_with fail
    go_region
    go_wp2
    first | exact ⟨⟨30, by omega, rfl, R1'.out, RR.out, O'.out.drew⟩, by simp [intOf]⟩ | (go_roundw; (case rel => exact ⟨30, by omega, rfl, R1'.out, RR.out, O'.out.drew⟩); (case measure => simp [intOf]))
   ·have hb := bt_at s 30 (by omega)
    obtain ⟨p, q⟩ := bt_bd s 30
    have e := ptor0 s 30
    have c := R2.cell (i := 15) (by omega)
    rw [show pt s 30 15 = 0 by simp [pt]] at c
    have f := R2.free 15
    have RR := hide ((R2.set 15 (bt s 30)).congr (fun i _ => pt_even s 15 i))
    have R1' := hide (R1.other (a := ⟨w.heap.size + 1, 15, none⟩) (by simp) (.int .u64 (bt s 30)))
    have O' := hide (O.setCell (p := ⟨w.heap.size + 1, 15, none⟩) (by simp) (.int .u64 (bt s 30)))
    clear R1 R2 O
    go_wp2_with fail
    go_region
    go_wp2
    first | exact ⟨⟨31, by omega, rfl, R1'.out, RR.out, O'.out.drew⟩, by simp [intOf]⟩ | (go_roundw; (case rel => exact ⟨31, by omega, rfl, R1'.out, RR.out, O'.out.drew⟩); (case measure => simp [intOf]))
   ·have hb := bt_at s 31 (by omega)
    obtain ⟨p, q⟩ := bt_bd s 31
    have e := ptor1 s 30 31
    have c := R2.cell (i := 15) (by omega)
    rw [show pt s 31 15 = bt s 30 by simp [pt]] at c
    have f := R2.free 15
    have RR := hide ((R2.set 15 (bt s 30 + bt s 31 * 256)).congr (fun i _ => pt_odd s 15 i))
    have R1' := hide (R1.other (a := ⟨w.heap.size + 1, 15, none⟩) (by simp) (.int .u64 (bt s 30 + bt s 31 * 256)))
    have O' := hide (O.setCell (p := ⟨w.heap.size + 1, 15, none⟩) (by simp) (.int .u64 (bt s 30 + bt s 31 * 256)))
    clear R1 R2 O
    go_wp2_with fail
    go_region
    go_wp2
    first | exact ⟨⟨32, by omega, rfl, R1'.out, RR.out, O'.out.drew⟩, by simp [intOf]⟩ | (go_roundw; (case rel => exact ⟨32, by omega, rfl, R1'.out, RR.out, O'.out.drew⟩); (case measure => simp [intOf]))
  ·have e : k = 32 := by omega
   subst e
   have RR := hide (R1.setAll (pt s 32))
   have OO := hide (below_setCells (g := w.heap.size) (Nat.le_refl _) (arr 16 (pt s 32)).toList 0 O)
   go_wp2_with (first | (refine wpList_load_row rfl 88 _ rfl (w.heap.size + 1) rfl 88 (arr 16 (pt s 32)) (0, 0) _ R2 Tryz.underlying88 rfl (info88 _) ?_) | (refine wpList_store_mid rfl 88 _ _ rfl w.heap.size 0 (arr 16 (pt s 32)) rfl rfl (by rw [arr_size]; exact R1.there) (info88 _) (arr_one _ _) ?_))
   exact bodyPost_ret (v := .agg (arr 16 (pt s 32))) (results_cell_row Tryz.results61 _ _ w.heap.size 88 (arr 16 (pt s 32)) (0, 0) _ rfl RR.out Tryz.underlying88 rfl (info88 _)) rfl ⟨rfl, OO.out⟩
open Go.RowKit
theorem wid_S (f : Nat → Int) : S (wid f 16) 32 = S f 16 := by
 rw [S_upper_zero (wid f 16) fun i h _ => by unfold wid; rw [if_neg (by omega)]]
 exact S_congr fun i hi => by unfold wid; rw [if_pos hi]
theorem wid_48 {f : Nat → Int} (h : Dig f 16) : B48 (wid f 16) := ⟨fun i _ => by
 unfold wid
 by_cases hi : i < 16
 ·rw [if_pos hi]
  have := h i hi
  omega
 ·rw [if_neg hi]
  omega⟩
theorem rof_any (s : ByteArray) (w : World) (hs : s.size = 32) : Cs 38 #[.string s] w (.agg (arr 16 (d16 (val s % Pm)))) := by
 go_enter Tryz.func38, Tryz.ntmps38
 go_wp2_with fail
 rw [show #[Value.int IntKind.u64 0, Value.int IntKind.u64 0, Value.int IntKind.u64 0, Value.int IntKind.u64 0, Value.int IntKind.u64 0, Value.int IntKind.u64 0, Value.int IntKind.u64 0, Value.int IntKind.u64 0, Value.int IntKind.u64 0, Value.int IntKind.u64 0, Value.int IntKind.u64 0, Value.int IntKind.u64 0, Value.int IntKind.u64 0, Value.int IntKind.u64 0, Value.int IntKind.u64 0, Value.int IntKind.u64 0] = arr 16 (fun _ => 0) from rfl]
 have R := Row.new w 88 16 (fun _ => 0)
 have O := new_below w (.cells (arr 16 (fun _ => 0)) 88)
 refine (parts_any s _ hs).mono ?_
 rintro _ w1 ⟨rfl, hb⟩
 replace R := R.keep hb
 replace O := O.trans (hb.mono O.size)
 clear hb
 go_wp2_with fail
 refine (wide_any (pt s 32) _).mono ?_
 rintro _ w2 ⟨rfl, hb⟩
 replace R := R.keep hb
 replace O := O.trans (hb.mono O.size)
 clear hb
 go_wp2_with fail
 refine (reduce_any (wid (pt s 32) 16) _ (wid_48 (pt_dig s 32))).mono ?_
 rintro _ w3 ⟨rfl, hb⟩
 replace R := R.keep hb
 replace O := O.trans (hb.mono O.size)
 clear hb
 rw [wid_S, pt_S]
 have RR := hide (R.setAll (d16 (val s % Pm)))
 have OO := hide (below_setCells (g := w.heap.size) (Nat.le_refl _) (arr 16 (d16 (val s % Pm))).toList 0 O)
 go_wp2_with (refine wpList_store_mid rfl 88 _ _ rfl w.heap.size 0 (arr 16 (d16 (val s % Pm))) rfl rfl (by rw [arr_size]; exact R.there) (info88 _) (arr_one _ _) ?_)
 exact bodyPost_ret (v := .agg (arr 16 (d16 (val s % Pm)))) (results_cell_row Tryz.results38 _ _ w.heap.size 88 (arr 16 (d16 (val s % Pm))) (0, 0) _ rfl RR.out Tryz.underlying88 rfl (info88 _)) rfl ⟨rfl, OO.out⟩
theorem and16u {x : Int} (h0 : 0 ≤ x) (h1 : x < 4294967296) : bits .and .u32 x 65535 = x % 65536 := by
 rw [u32_and x _ h0 h1 (by decide) (by decide)]
 have e : (65535 : Int).toNat = 65535 := by decide
 rw [e, nat_mask16]
 omega
theorem small_arr {n : Int} (h0 : 0 ≤ n) (h1 : n < 4294967296) : arr 16 (d16 n) = #[.int .u64 (n % 65536), .int .u64 (n / 65536), .int .u64 0, .int .u64 0, .int .u64 0, .int .u64 0, .int .u64 0, .int .u64 0, .int .u64 0, .int .u64 0, .int .u64 0, .int .u64 0, .int .u64 0, .int .u64 0, .int .u64 0, .int .u64 0] := by
 have e : arr 16 (d16 n) = arr 16 (fun i => if i = 0 then n % 65536 else if i = 1 then n / 65536 else 0) := by
  refine arr_congr fun i hi => ?_
  unfold d16
  by_cases i0 : i = 0
  ·subst i0; simp
  ·by_cases i1 : i = 1
   ·subst i1; simp; omega
   ·rw [if_neg i0, if_neg i1]
    have hp : (4294967296 : Int) ≤ 65536 ^ i := by
     obtain ⟨j, rfl⟩ : ∃ j, i = j + 2 := ⟨i - 2, by omega⟩
     rw [Int.pow_add]
     have := p16 j
     have e2 : (65536 : Int) ^ 2 = 4294967296 := by decide
     rw [e2]
     omega
    rw [Int.ediv_eq_zero_of_lt h0 (by omega)]
    decide
 rw [e]
 rfl
theorem rsmall_any (n : Int) (w : World) (h0 : 0 ≤ n) (h1 : n < 4294967296) : Cs 39 #[.int .u32 n] w (.agg (arr 16 (d16 n))) := by
 have e := and16u h0 h1
 have HA := hide (small_arr h0 h1)
 go_enter Tryz.func39, Tryz.ntmps39
 go_wp2
 refine bodyPost_ret (v := .agg (arr 16 (d16 n))) ?_ rfl ⟨rfl, (Below.refl _ _).alloc (Nat.le_refl _) _⟩
 rw [HA.out]
 simp [results, Tryz.results39, go_sem]
open Go.RowKit
theorem digs4 {a b c d : Int} (ha : 0 ≤ a ∧ a < 65536) (hb : 0 ≤ b ∧ b < 65536) (hc : 0 ≤ c ∧ c < 65536) (_hd : 0 ≤ d ∧ d < 65536) :
  digs (a + 65536 * b + 4294967296 * c + 281474976710656 * d) = [a % 256, a / 256 % 256, b % 256, b / 256 % 256, c % 256, c / 256 % 256, d % 256, d / 256 % 256] := by
 unfold digs
 have h1 : (a + 65536 * b + 4294967296 * c + 281474976710656 * d) % 256 = a % 256 := by omega
 have h2 : (a + 65536 * b + 4294967296 * c + 281474976710656 * d) / 256 % 256 = a / 256 % 256 := by omega
 have h3 : (a + 65536 * b + 4294967296 * c + 281474976710656 * d) / 65536 % 256 = b % 256 := by omega
 have h4 : (a + 65536 * b + 4294967296 * c + 281474976710656 * d) / 16777216 % 256 = b / 256 % 256 := by omega
 have h5 : (a + 65536 * b + 4294967296 * c + 281474976710656 * d) / 4294967296 % 256 = c % 256 := by omega
 have h6 : (a + 65536 * b + 4294967296 * c + 281474976710656 * d) / 1099511627776 % 256 = c / 256 % 256 := by omega
 have h7 : (a + 65536 * b + 4294967296 * c + 281474976710656 * d) / 281474976710656 % 256 = d % 256 := by omega
 have h8 : (a + 65536 * b + 4294967296 * c + 281474976710656 * d) / 72057594037927936 % 256 = d / 256 % 256 := by omega
 rw [h1, h2, h3, h4, h5, h6, h7, h8]
theorem S16 (f : Nat → Int) : S f 16 = f 0 + f 1 * 65536 + f 2 * 4294967296 + f 3 * 281474976710656 + f 4 * 18446744073709551616 + f 5 * 1208925819614629174706176 + f 6 * 79228162514264337593543950336 + f 7 * 5192296858534827628530496329220096 + f 8 * 340282366920938463463374607431768211456 + f 9 * 22300745198530623141535718272648361505980416 + f 10 * 1461501637330902918203684832716283019655932542976 + f 11 * 95780971304118053647396689196894323976171195136475136 + f 12 * 6277101735386680763835789423207666416102355444464034512896 + f 13 * 411376139330301510538742295639337626245683966408394965837152256 + f 14 * 26959946667150639794667015087019630673637144422540572481103610249216 + f 15 * 1766847064778384329583297500742918515827483896875618958121606201292619776 := by
 simp [S]
theorem lebytes_S {f : Nat → Int} (hf : Dig f 16) : lebytes (S f 16) = bs (rb f 32) := by
 have h0 := hf 0 (by omega)
 have h1 := hf 1 (by omega)
 have h2 := hf 2 (by omega)
 have h3 := hf 3 (by omega)
 have h4 := hf 4 (by omega)
 have h5 := hf 5 (by omega)
 have h6 := hf 6 (by omega)
 have h7 := hf 7 (by omega)
 have h8 := hf 8 (by omega)
 have h9 := hf 9 (by omega)
 have h10 := hf 10 (by omega)
 have h11 := hf 11 (by omega)
 have h12 := hf 12 (by omega)
 have h13 := hf 13 (by omega)
 have h14 := hf 14 (by omega)
 have h15 := hf 15 (by omega)
 have e := S16 f
 have w0 : S f 16 % 18446744073709551616 = f 0 + 65536 * f 1 + 4294967296 * f 2 + 281474976710656 * f 3 := by rw [e]; omega
 have w1 : S f 16 / 18446744073709551616 % 18446744073709551616 = f 4 + 65536 * f 5 + 4294967296 * f 6 + 281474976710656 * f 7 := by rw [e]; omega
 have w2 : S f 16 / 340282366920938463463374607431768211456 % 18446744073709551616 = f 8 + 65536 * f 9 + 4294967296 * f 10 + 281474976710656 * f 11 := by rw [e]; omega
 have w3 : S f 16 / 6277101735386680763835789423207666416102355444464034512896 % 18446744073709551616 = f 12 + 65536 * f 13 + 4294967296 * f 14 + 281474976710656 * f 15 := by rw [e]; omega
 unfold lebytes
 rw [w0, w1, w2, w3, digs4 h0 h1 h2 h3, digs4 h4 h5 h6 h7, digs4 h8 h9 h10 h11, digs4 h12 h13 h14 h15]
 congr 1
 simp [rb, by16, List.range, List.range.loop]
open Go.RowKit
theorem Pm_pos : (0 : Int) < Pm := by decide
theorem Pm_16 : Pm < 65536 ^ 16 := by decide
theorem dS (M : Int) : S (d16 (M % Pm)) 16 = M % Pm := by
 have h0 := Int.emod_nonneg M (show Pm ≠ 0 by decide)
 have h1 := Int.emod_lt_of_pos M Pm_pos
 have h2 := Pm_16
 rw [d16_S _ h0, Int.emod_eq_of_lt h0 (by omega)]
open Go.RowKit
def barr (n : Nat) (f : Nat → Bool) : Array Value := ((List.range n).map fun i => Value.bool (f i)).toArray
theorem barr_size (n : Nat) (f : Nat → Bool) : (barr n f).size = n := by simp [barr]
theorem barr_get (n : Nat) (f : Nat → Bool) (i : Nat) (h : i < n) : (barr n f)[i]? = some (.bool (f i)) := by simp [barr, h]
theorem barr_congr {n : Nat} {f g : Nat → Bool} (h : ∀ i, i < n → f i = g i) : barr n f = barr n g := by
 unfold barr
 congr 1
 exact List.map_congr_left fun i hi => by rw [h i (List.mem_range.1 hi)]
def bupd (f : Nat → Bool) (k : Nat) (v : Bool) : Nat → Bool := fun i => if i = k then v else f i
theorem barr_set (n : Nat) (f : Nat → Bool) (k : Nat) (v : Bool) : (barr n f).setIfInBounds k (.bool v) = barr n (bupd f k v) := by
 apply Array.ext_getElem?
 intro i
 by_cases hi : i < n
 ·rw [Array.getElem?_setIfInBounds, barr_get n (bupd f k v) i hi]
  by_cases hk : k = i
  ·subst hk
   rw [if_pos rfl, if_pos (by rw [barr_size]; exact hi)]
   simp [bupd]
  ·have : ¬ i = k := fun h => hk h.symm
   rw [if_neg hk, barr_get n f i hi]
   simp [bupd, this]
 ·rw [Array.getElem?_eq_none (by simp [barr_size]; omega), Array.getElem?_eq_none (by simp [barr_size]; omega)]
def Brow (w : World) (g : Nat) (n : Nat) (f : Nat → Bool) : Prop := w.heap[g]? = some (.cells (barr n f) 4 (0, 0))
theorem Brow.lt {w : World} {g n : Nat} {f : Nat → Bool} (h : Brow w g n f) : g < w.heap.size := by
 by_cases hlt : g < w.heap.size
 ·exact hlt
 ·have hn : w.heap[g]? = none := by simp; omega
  rw [Brow, hn] at h
  cases h
theorem Brow.cell {w : World} {g n : Nat} {f : Nat → Bool} (h : Brow w g n f) {i : Nat} (hi : i < n) : w.cell? ⟨g, i, none⟩ = some (.bool (f i)) := by
 rw [cell_of_row w g i (barr n f) 4 (0, 0) h, barr_get n f i hi]
theorem Brow.free {w : World} {g n : Nat} {f : Nat → Bool} (h : Brow w g n f) (i : Nat) : w.frozen? ⟨g, i, none⟩ = false := frozen_of_row w g i (barr n f) 4 h
theorem Brow.set {w : World} {g n : Nat} {f : Nat → Bool} (h : Brow w g n f) (k : Nat) (v : Bool) : Brow (w.setCell ⟨g, k, none⟩ (.bool v)) g n (bupd f k v) := by
 unfold Brow
 rw [heap_setCell_same w g k (barr n f) 4 _ h, barr_set]
theorem Brow.keep {w w' : World} {g n : Nat} {f : Nat → Bool} (h : Brow w g n f) (hb : Below w.heap.size w w') : Brow w' g n f := by
 unfold Brow
 rw [hb.block g h.lt]
 exact h
theorem Brow.congr {w : World} {g n : Nat} {f f' : Nat → Bool} (h : Brow w g n f) (e : ∀ i, i < n → f i = f' i) : Brow w g n f' := by
 unfold Brow
 rw [← barr_congr e]
 exact h
theorem Brow.new (w : World) (n : Nat) (f : Nat → Bool) : Brow (w.alloc (.cells (barr n f) 4)) w.heap.size n f := heap_alloc_new w _
def xbit (n k i : Nat) : Bool := decide (8 ≤ n - 1 - i) || Nat.testBit (256 - k) (n - 1 - i)
def xbw (n k j : Nat) : Nat → Bool := fun i => decide (i < j) && xbit n k i
theorem xbw_next (n k j i : Nat) {v : Bool} (hv : v = xbit n k j) : bupd (xbw n k j) j v i = xbw n k (j + 1) i := by
 unfold bupd xbw
 by_cases h : i = j
 ·subst h
  simp [hv]
 ·rw [if_neg h]
  by_cases h2 : i < j
  ·simp [h2, show i < j + 1 by omega]
  ·simp [h2, show ¬ i < j + 1 by omega]
theorem bits_255 (w : World) : Calls Tryz.prog 64 #[.int .i64 255, .int .i64 21] w fun r w' => ∃ b, r = .returned (.slice (some ⟨b, 0, none⟩) 255 255) ∧ w.heap.size ≤ b ∧ Brow w' b 255 (xbit 255 21) ∧ Below w.heap.size w w' := by
 have hmk : ∀ w, (Instr.makeSlice 111 (.int .i64 255) (.int .i64 255)).run Tryz.prog w = .ok (.slice (some ⟨w.heap.size, 0, none⟩) 255 255) (w.alloc (.cells (barr 255 fun _ => false) 4)) := fun _ => by kernel_rfl
 go_enter Tryz.func64, Tryz.ntmps64
 go_wp2
 clear hmk
 have R := Brow.new w 255 fun _ => false
 have O := new_below w (.cells (barr 255 fun _ => false) 4)
 generalize w.alloc (.cells (barr 255 fun _ => false) 4) = W at R O ⊢
 go_loopw [7] (fun i wr => ∃ j : Nat, j ≤ 255 ∧ i = .int .i64 j ∧ Brow wr w.heap.size 255 (xbw 255 21 j) ∧ Below w.heap.size w wr) (fun i _ => 255 - (intOf i).toNat)
 case atStart => exact ⟨0, by omega, rfl, R.congr (fun i _ => by simp [xbw]), O⟩
 case round =>
  clear R O
  obtain ⟨j, hj, rfl, R, O⟩ := hrel
  by_cases h1 : j < 247
  ·have c := R.cell (i := j) (by omega)
   have e := R.free j
   have i1 : (0 : Int) ≤ (j : Int) := by omega
   have i2 : (j : Int) < 247 := by omega
   have RR := hide ((R.set j true).congr (f' := xbw 255 21 (j + 1)) (fun i _ => xbw_next 255 21 j i (by unfold xbit; rw [decide_eq_true (by omega)]; rfl)))
   have O' := hide (O.setCell (p := ⟨w.heap.size, j, none⟩) (Nat.le_refl _) (.bool true))
   clear R O
   go_wp2
   go_roundw
   case rel => exact ⟨j + 1, by omega, by go_num, RR.out, O'.out⟩
   case measure => simp [intOf]; omega
  ·by_cases h2 : j < 255
   ·rcases (show j = 247 ∨ j = 248 ∨ j = 249 ∨ j = 250 ∨ j = 251 ∨ j = 252 ∨ j = 253 ∨ j = 254 by omega) with rfl | rfl | rfl | rfl | rfl | rfl | rfl | rfl
    ·have c := R.cell (i := 247) (by omega)
     have e := R.free 247
     have RR := hide ((R.set 247 true).congr (f' := xbw 255 21 (247 + 1)) (fun i _ => xbw_next 255 21 247 i (by decide)))
     have O' := hide (O.setCell (p := ⟨w.heap.size, 247, none⟩) (Nat.le_refl _) (.bool true))
     clear R O
     go_wp2
     go_roundw
     case rel => exact ⟨248, by omega, rfl, RR.out, O'.out⟩
     case measure => simp [intOf]
    ·have c := R.cell (i := 248) (by omega)
     have e := R.free 248
     have RR := hide ((R.set 248 true).congr (f' := xbw 255 21 (248 + 1)) (fun i _ => xbw_next 255 21 248 i (by decide)))
     have O' := hide (O.setCell (p := ⟨w.heap.size, 248, none⟩) (Nat.le_refl _) (.bool true))
     clear R O
     go_wp2
     go_roundw
     case rel => exact ⟨249, by omega, rfl, RR.out, O'.out⟩
     case measure => simp [intOf]
    ·have c := R.cell (i := 249) (by omega)
     have e := R.free 249
     have RR := hide ((R.set 249 true).congr (f' := xbw 255 21 (249 + 1)) (fun i _ => xbw_next 255 21 249 i (by decide)))
     have O' := hide (O.setCell (p := ⟨w.heap.size, 249, none⟩) (Nat.le_refl _) (.bool true))
     clear R O
     go_wp2
     go_roundw
     case rel => exact ⟨250, by omega, rfl, RR.out, O'.out⟩
     case measure => simp [intOf]
    ·have c := R.cell (i := 250) (by omega)
     have e := R.free 250
     have RR := hide ((R.set 250 false).congr (f' := xbw 255 21 (250 + 1)) (fun i _ => xbw_next 255 21 250 i (by decide)))
     have O' := hide (O.setCell (p := ⟨w.heap.size, 250, none⟩) (Nat.le_refl _) (.bool false))
     clear R O
     go_wp2
     go_roundw
     case rel => exact ⟨251, by omega, rfl, RR.out, O'.out⟩
     case measure => simp [intOf]
    ·have c := R.cell (i := 251) (by omega)
     have e := R.free 251
     have RR := hide ((R.set 251 true).congr (f' := xbw 255 21 (251 + 1)) (fun i _ => xbw_next 255 21 251 i (by decide)))
     have O' := hide (O.setCell (p := ⟨w.heap.size, 251, none⟩) (Nat.le_refl _) (.bool true))
     clear R O
     go_wp2
     go_roundw
     case rel => exact ⟨252, by omega, rfl, RR.out, O'.out⟩
     case measure => simp [intOf]
    ·have c := R.cell (i := 252) (by omega)
     have e := R.free 252
     have RR := hide ((R.set 252 false).congr (f' := xbw 255 21 (252 + 1)) (fun i _ => xbw_next 255 21 252 i (by decide)))
     have O' := hide (O.setCell (p := ⟨w.heap.size, 252, none⟩) (Nat.le_refl _) (.bool false))
     clear R O
     go_wp2
     go_roundw
     case rel => exact ⟨253, by omega, rfl, RR.out, O'.out⟩
     case measure => simp [intOf]
    ·have c := R.cell (i := 253) (by omega)
     have e := R.free 253
     have RR := hide ((R.set 253 true).congr (f' := xbw 255 21 (253 + 1)) (fun i _ => xbw_next 255 21 253 i (by decide)))
     have O' := hide (O.setCell (p := ⟨w.heap.size, 253, none⟩) (Nat.le_refl _) (.bool true))
     clear R O
     go_wp2
     go_roundw
     case rel => exact ⟨254, by omega, rfl, RR.out, O'.out⟩
     case measure => simp [intOf]
    ·have c := R.cell (i := 254) (by omega)
     have e := R.free 254
     have RR := hide ((R.set 254 true).congr (f' := xbw 255 21 (254 + 1)) (fun i _ => xbw_next 255 21 254 i (by decide)))
     have O' := hide (O.setCell (p := ⟨w.heap.size, 254, none⟩) (Nat.le_refl _) (.bool true))
     clear R O
     go_wp2
     go_roundw
     case rel => exact ⟨255, by omega, rfl, RR.out, O'.out⟩
     case measure => simp [intOf]
   ·have hj' : j = 255 := by omega
    subst hj'
    have RR := hide (R.congr (f' := xbit 255 21) (fun i hi => by unfold xbw; rw [decide_eq_true hi]; rfl))
    clear R
    go_wp2
    go_ret
    exact ⟨w.heap.size, rfl, Nat.le_refl _, RR.out, O⟩
open Go.RowKit
def rw1 (a b : Nat → Int) (i k : Nat) : Nat → Int := fun j => if i ≤ j ∧ j < i + k then a i * b (j - i) else 0
def mp (a b : Nat → Int) : Nat → Nat → Int
 | 0, _ => 0
 | i + 1, j => mp a b i j + rw1 a b i 16 j
def mq (a b : Nat → Int) (i k : Nat) : Nat → Int := fun j => mp a b i j + rw1 a b i k j
theorem S_add' (f g : Nat → Int) : ∀ n, S (fun i => f i + g i) n = S f n + S g n
 | 0 => rfl
 | n + 1 => by
  have ih := S_add' f g n
  simp only [S]
  rw [ih, Int.add_mul]
  omega
theorem S_one (m : Nat) (v : Int) : ∀ n, S (fun j => if j = m then v else 0) n = if m < n then v * 65536 ^ m else 0
 | 0 => by simp [S]
 | n + 1 => by
  have ih := S_one m v n
  simp only [S]
  rw [ih]
  by_cases h1 : m < n
  ·rw [if_pos h1, if_neg (show ¬ n = m by omega), if_pos (show m < n + 1 by omega)]
   simp
  ·rw [if_neg h1]
   by_cases h2 : n = m
   ·subst h2
    rw [if_pos rfl, if_pos (by omega)]
    simp
   ·rw [if_neg h2, if_neg (show ¬ m < n + 1 by omega)]
    simp
theorem rw1_next (a b : Nat → Int) (i k j : Nat) : rw1 a b i (k + 1) j = rw1 a b i k j + if j = i + k then a i * b k else 0 := by
 unfold rw1
 by_cases h1 : j = i + k
 ·subst h1
  rw [if_pos (by omega), if_neg (by omega), if_pos rfl, show i + k - i = k by omega]
  omega
 ·rw [if_neg h1]
  by_cases h2 : i ≤ j ∧ j < i + k
  ·rw [if_pos h2, if_pos (by omega)]
   omega
  ·rw [if_neg h2, if_neg (by omega)]
   omega
theorem rw1_S (a b : Nat → Int) (i : Nat) : ∀ k, i + k ≤ 32 → S (rw1 a b i k) 32 = a i * 65536 ^ i * S b k
 | 0, _ => by
  rw [S_congr (g := fun _ => 0) fun j _ => by unfold rw1; rw [if_neg (by omega)], S_zero]
  simp [S]
 | k + 1, h => by
  have ih := rw1_S a b i k (by omega)
  rw [S_congr fun j _ => rw1_next a b i k j, S_add', ih, S_one, if_pos (by omega)]
  simp only [S]
  rw [Int.pow_add, Int.mul_add]
  congr 1
  rw [Int.mul_assoc, Int.mul_assoc, Int.mul_left_comm (65536 ^ i)]
theorem mp_S (a b : Nat → Int) : ∀ i, i ≤ 16 → S (mp a b i) 32 = S a i * S b 16
 | 0, _ => by
  show S (fun _ => 0) 32 = _
  rw [S_zero]
  simp [S]
 | i + 1, h => by
  have ih := mp_S a b i (by omega)
  have e : S (mp a b (i + 1)) 32 = S (fun j => mp a b i j + rw1 a b i 16 j) 32 := rfl
  rw [e, S_add', ih, rw1_S a b i 16 (by omega)]
  simp only [S]
  rw [Int.add_mul]
theorem dmul {x y : Int} (hx : 0 ≤ x ∧ x < 65536) (hy : 0 ≤ y ∧ y < 65536) : 0 ≤ x * y ∧ x * y ≤ 4294836225 := by
 refine ⟨Int.mul_nonneg hx.1 hy.1, ?_⟩
 have h1 : x * y ≤ 65535 * y := Int.mul_le_mul_of_nonneg_right (by omega) hy.1
 omega
theorem rw1_bd {a b : Nat → Int} (ha : Dig a 16) (hb : Dig b 16) {i k : Nat} (hi : i < 16) (hk : k ≤ 16) (j : Nat) : 0 ≤ rw1 a b i k j ∧ rw1 a b i k j ≤ 4294836225 := by
 unfold rw1
 by_cases h : i ≤ j ∧ j < i + k
 ·rw [if_pos h]
  exact dmul (ha i hi) (hb (j - i) (by omega))
 ·rw [if_neg h]
  omega
theorem mp_bd {a b : Nat → Int} (ha : Dig a 16) (hb : Dig b 16) (j : Nat) : ∀ i, i ≤ 16 → 0 ≤ mp a b i j ∧ mp a b i j ≤ 4294836225 * i
 | 0, _ => by simp [mp]
 | i + 1, h => by
  have ih := mp_bd ha hb j i (by omega)
  have h2 := rw1_bd ha hb (i := i) (k := 16) (by omega) (by omega) j
  simp only [mp]
  omega
theorem mp_48 {a b : Nat → Int} (ha : Dig a 16) (hb : Dig b 16) : B48 (mp a b 16) := ⟨fun j _ => by
 have := mp_bd ha hb j 16 (by omega)
 omega⟩
theorem mq_zero (a b : Nat → Int) (i j : Nat) : mq a b i 0 j = mp a b i j := by
 unfold mq rw1
 rw [if_neg (by omega)]
 omega
theorem mq_at (a b : Nat → Int) (i k : Nat) : mq a b i k (i + k) = mp a b i (i + k) := by
 unfold mq rw1
 rw [if_neg (by omega)]
 omega
theorem mq_next (a b : Nat → Int) (i k j : Nat) : upd (mq a b i k) (i + k) (mp a b i (i + k) + a i * b k) j = mq a b i (k + 1) j := by
 unfold upd
 by_cases h : j = i + k
 ·subst h
  rw [if_pos rfl]
  unfold mq
  rw [rw1_next, if_pos rfl]
  unfold rw1
  rw [if_neg (by omega)]
  omega
 ·rw [if_neg h]
  unfold mq
  rw [rw1_next, if_neg h]
  omega
open Go.RowKit
theorem rmul_any (a b : Nat → Int) (w : World) (ha : Dig a 16) (hb : Dig b 16) : Cs 41 #[.agg (arr 16 a), .agg (arr 16 b)] w (.agg (arr 16 (d16 ((S a 16 * S b 16) % Pm)))) := by
 go_enter Tryz.func41, Tryz.ntmps41
 go_wp2
 rw [show #[Value.int IntKind.u64 0, Value.int IntKind.u64 0, Value.int IntKind.u64 0, Value.int IntKind.u64 0, Value.int IntKind.u64 0, Value.int IntKind.u64 0, Value.int IntKind.u64 0, Value.int IntKind.u64 0, Value.int IntKind.u64 0, Value.int IntKind.u64 0, Value.int IntKind.u64 0, Value.int IntKind.u64 0, Value.int IntKind.u64 0, Value.int IntKind.u64 0, Value.int IntKind.u64 0, Value.int IntKind.u64 0] = arr 16 (fun _ => 0) from rfl, show #[Value.int IntKind.u64 0, Value.int IntKind.u64 0, Value.int IntKind.u64 0, Value.int IntKind.u64 0, Value.int IntKind.u64 0, Value.int IntKind.u64 0, Value.int IntKind.u64 0, Value.int IntKind.u64 0, Value.int IntKind.u64 0, Value.int IntKind.u64 0, Value.int IntKind.u64 0, Value.int IntKind.u64 0, Value.int IntKind.u64 0, Value.int IntKind.u64 0, Value.int IntKind.u64 0, Value.int IntKind.u64 0, Value.int IntKind.u64 0, Value.int IntKind.u64 0, Value.int IntKind.u64 0, Value.int IntKind.u64 0, Value.int IntKind.u64 0, Value.int IntKind.u64 0, Value.int IntKind.u64 0, Value.int IntKind.u64 0, Value.int IntKind.u64 0, Value.int IntKind.u64 0, Value.int IntKind.u64 0, Value.int IntKind.u64 0, Value.int IntKind.u64 0, Value.int IntKind.u64 0, Value.int IntKind.u64 0, Value.int IntKind.u64 0] = arr 32 (fun _ => 0) from rfl]
 have R1 : Row ((((w.alloc (.cells (arr 16 a) 88)).alloc (.cells (arr 16 b) 88)).alloc (.cells (arr 16 fun _ => 0) 88)).alloc (.cells (arr 32 fun _ => 0) 108)) w.heap.size 88 16 a := (((Row.new w 88 16 a).alloc _).alloc _).alloc _
 have R2 : Row ((((w.alloc (.cells (arr 16 a) 88)).alloc (.cells (arr 16 b) 88)).alloc (.cells (arr 16 fun _ => 0) 88)).alloc (.cells (arr 32 fun _ => 0) 108)) (w.heap.size + 1) 88 16 b := ((Row.new' _ 88 16 _ (by simp)).alloc _).alloc _
 have R3 : Row ((((w.alloc (.cells (arr 16 a) 88)).alloc (.cells (arr 16 b) 88)).alloc (.cells (arr 16 fun _ => 0) 88)).alloc (.cells (arr 32 fun _ => 0) 108)) (w.heap.size + 1 + 1) 88 16 (fun _ => 0) := (Row.new' _ 88 16 _ (by simp)).alloc _
 have R4 : Row ((((w.alloc (.cells (arr 16 a) 88)).alloc (.cells (arr 16 b) 88)).alloc (.cells (arr 16 fun _ => 0) 88)).alloc (.cells (arr 32 fun _ => 0) 108)) (w.heap.size + 1 + 1 + 1) 108 32 (fun _ => 0) := Row.new' _ 108 32 _ (by simp)
 have O : Below w.heap.size w ((((w.alloc (.cells (arr 16 a) 88)).alloc (.cells (arr 16 b) 88)).alloc (.cells (arr 16 fun _ => 0) 88)).alloc (.cells (arr 32 fun _ => 0) 108)) := ((((Below.refl _ _).alloc (Nat.le_refl _) _).alloc (by simp) _).alloc (by simp; omega) _).alloc (by simp; omega) _
 generalize ((((w.alloc (.cells (arr 16 a) 88)).alloc (.cells (arr 16 b) 88)).alloc (.cells (arr 16 fun _ => 0) 88)).alloc (.cells (arr 32 fun _ => 0) 108)) = W at R1 R2 R3 R4 O ⊢
 go_loopw [6] (fun x wr => ∃ i : Nat, i ≤ 16 ∧ x = .int .i64 i ∧ Row wr w.heap.size 88 16 a ∧ Row wr (w.heap.size + 1) 88 16 b ∧ Row wr (w.heap.size + 1 + 1) 88 16 (fun _ => 0) ∧ Row wr (w.heap.size + 1 + 1 + 1) 108 32 (mp a b i) ∧ Below w.heap.size w wr) (fun x _ => 16 - (intOf x).toNat)
 case atStart => exact ⟨0, by omega, rfl, R1, R2, R3, R4, O⟩
 case round =>
  clear R1 R2 R3 R4 O
  obtain ⟨i, hi, rfl, R1, R2, R3, R4, O⟩ := hrel
  by_cases hlt : i < 16
  ·go_wp2
   go_loopw [7] (fun y wq => ∃ k : Nat, k ≤ 16 ∧ y = .int .i64 k ∧ Row wq w.heap.size 88 16 a ∧ Row wq (w.heap.size + 1) 88 16 b ∧ Row wq (w.heap.size + 1 + 1) 88 16 (fun _ => 0) ∧ Row wq (w.heap.size + 1 + 1 + 1) 108 32 (mq a b i k) ∧ Below w.heap.size w wq) (fun y _ => 16 - (intOf y).toNat)
   case atStart => exact ⟨0, by omega, rfl, R1, R2, R3, R4.congr (fun j _ => (mq_zero a b i j).symm), O⟩
   case round =>
    clear R1 R2 R3 R4 O
    obtain ⟨k, hk, rfl, R1, R2, R3, R4, O⟩ := hrel
    by_cases hkl : k < 16
    ·have c := R1.cell hlt
     have d := R2.cell hkl
     have e := R4.cell (i := i + k) (by omega)
     rw [mq_at] at e
     have f := R4.free
     have hp := dmul (ha i hlt) (hb k hkl)
     have hm := mp_bd ha hb (i + k) i hi
     have i1 : (0 : Int) ≤ (i : Int) := by omega
     have i2 : (i : Int) < 16 := by omega
     have k1 : (0 : Int) ≤ (k : Int) := by omega
     have k2 : (k : Int) < 16 := by omega
     obtain ⟨p0, p1⟩ := hp
     obtain ⟨m0, m1⟩ := hm
     have m2 : mp a b i (i + k) < 100000000000 := by omega
     clear m1
     go_wp2_with fail
     go_region
     go_wp2
     exact ⟨⟨k + 1, by omega, by go_num, rowD (R1.other (a := ⟨w.heap.size + 1 + 1 + 1, i + k, none⟩) (by simp <;> omega) _), rowD (R2.other (a := ⟨w.heap.size + 1 + 1 + 1, i + k, none⟩) (by simp <;> omega) _), rowD (R3.other (a := ⟨w.heap.size + 1 + 1 + 1, i + k, none⟩) (by simp) _), rowD ((R4.set (i + k) (mp a b i (i + k) + a i * b k)).congr (fun j _ => mq_next a b i k j)), (O.setCell (p := ⟨w.heap.size + 1 + 1 + 1, i + k, none⟩) (by simp <;> omega) _).drew⟩, by simp [intOf]; omega⟩
    ·have hk' : k = 16 := by omega
     subst hk'
     go_wp2
     exact ⟨⟨i + 1, by omega, by go_num, R1, R2, R3, R4, O⟩, by simp [intOf]; omega⟩
  ·have hi' : i = 16 := by omega
   subst hi'
   have HR := hide R4
   clear R4 R1 R2
   go_wp2_with (refine wpList_load_row rfl 108 _ rfl (w.heap.size + 1 + 1 + 1) rfl 108 (arr 32 (mp a b 16)) (0, 0) _ HR.out Tryz.underlying108 rfl (info108 _) ?_)
   try rw [show ∀ (a : Act) (v : Value), a.put none v = a from fun _ _ => rfl]
   refine (reduce_any (mp a b 16) _ (mp_48 ha hb)).mono ?_
   rintro _ w3 ⟨rfl, hb3⟩
   replace R3 := R3.keep hb3
   replace O := O.trans (hb3.mono O.size)
   clear hb3 HR
   rw [mp_S a b 16 (by omega)]
   have RR := hide (R3.setAll (d16 ((S a 16 * S b 16) % Pm)))
   have OO := hide (below_setCells (g := w.heap.size + 1 + 1) (by omega) (arr 16 (d16 ((S a 16 * S b 16) % Pm))).toList 0 O)
   go_wp2_with (refine wpList_store_mid rfl 88 _ _ rfl (w.heap.size + 1 + 1) 0 (arr 16 (d16 ((S a 16 * S b 16) % Pm))) rfl rfl (by rw [arr_size]; exact R3.there) (info88 _) (arr_one _ _) ?_)
   exact bodyPost_ret (v := .agg (arr 16 (d16 ((S a 16 * S b 16) % Pm)))) (results_cell_row Tryz.results41 _ _ (w.heap.size + 1 + 1) 88 (arr 16 (d16 ((S a 16 * S b 16) % Pm))) (0, 0) _ rfl RR.out Tryz.underlying88 rfl (info88 _)) rfl ⟨rfl, OO.out⟩
end Go.Proofs.YtffimigpbcilbaaGreatDoor.Mon
