/- The contracts of wordsOf, number and Of: which number 32 bytes are. -/
import Derived.Test.YtiiniodidkfbiaaLeast
namespace Go.Proofs.Ytiiniodidkfbiaa
open Go.RowKit

/-- Byte i of a string, as a number. -/
def bt (s : ByteArray) (i : Nat) : Int := ((s.data[i]?.getD 0).toNat : Int)

theorem bt_bd (s : ByteArray) (i : Nat) : 0 ≤ bt s i ∧ bt s i < 256 := by
  unfold bt
  have := (s.data[i]?.getD 0).toNat_lt
  omega

theorem bt_at (s : ByteArray) (i : Nat) (h : i < s.size) : ((s[i]'h).toNat : Int) = bt s i := by
  unfold bt
  have h' : i < s.data.size := h
  rw [Array.getElem?_eq_getElem h']
  rfl

/-- The first r bytes of word j. -/
def sw (s : ByteArray) (j : Nat) : Nat → Int
  | 0 => 0
  | r + 1 => sw s j r + bt s (8 * j + r) * 256 ^ r

theorem sw_bd (s : ByteArray) (j r : Nat) : 0 ≤ sw s j r ∧ sw s j r < 256 ^ r := by
  induction r with
  | zero => simp [sw]
  | succ r ih =>
    have hb := bt_bd s (8 * j + r)
    have hp : (0 : Int) < 256 ^ r := Int.pow_pos (by decide)
    have h1 : bt s (8 * j + r) * 256 ^ r ≤ 255 * 256 ^ r := Int.mul_le_mul_of_nonneg_right (by omega) (by omega)
    have h2 : 0 ≤ bt s (8 * j + r) * 256 ^ r := Int.mul_nonneg hb.1 (by omega)
    have h3 : (256 : Int) ^ (r + 1) = 256 * 256 ^ r := by rw [Int.pow_succ, Int.mul_comm]
    simp only [sw]
    omega

theorem swor0 (s : ByteArray) (j i : Nat) (hi : i = 8 * j + 0) : bits BinOp.or IntKind.u64 0 (bt s i) = sw s j 1 := by
  have hb := bt_bd s i
  rw [or_join 8 256 (by decide) ⟨by decide, by decide⟩ ⟨hb.1, by omega⟩ (by decide) (by omega)]
  simp [sw, hi]

theorem swor1 (s : ByteArray) (j i : Nat) (hi : i = 8 * j + 1) : bits BinOp.or IntKind.u64 (sw s j 1) (bt s i * 256) = sw s j 2 := by
  have hb := bt_bd s i
  have hs := sw_bd s j 1
  have e : (256 : Int) ^ 1 = 256 := by decide
  rw [e] at hs
  rw [or_join' 8 256 (by decide) ⟨hs.1, by omega⟩ ⟨by omega, by omega⟩ (by omega) (by omega)]
  show _ = sw s j 1 + bt s (8 * j + 1) * 256 ^ 1
  rw [e, hi]

theorem swor2 (s : ByteArray) (j i : Nat) (hi : i = 8 * j + 2) : bits BinOp.or IntKind.u64 (sw s j 2) (bt s i * 65536) = sw s j 3 := by
  have hb := bt_bd s i
  have hs := sw_bd s j 2
  have e : (256 : Int) ^ 2 = 65536 := by decide
  rw [e] at hs
  rw [or_join' 16 65536 (by decide) ⟨hs.1, by omega⟩ ⟨by omega, by omega⟩ (by omega) (by omega)]
  show _ = sw s j 2 + bt s (8 * j + 2) * 256 ^ 2
  rw [e, hi]

theorem swor3 (s : ByteArray) (j i : Nat) (hi : i = 8 * j + 3) : bits BinOp.or IntKind.u64 (sw s j 3) (bt s i * 16777216) = sw s j 4 := by
  have hb := bt_bd s i
  have hs := sw_bd s j 3
  have e : (256 : Int) ^ 3 = 16777216 := by decide
  rw [e] at hs
  rw [or_join' 24 16777216 (by decide) ⟨hs.1, by omega⟩ ⟨by omega, by omega⟩ (by omega) (by omega)]
  show _ = sw s j 3 + bt s (8 * j + 3) * 256 ^ 3
  rw [e, hi]

theorem swor4 (s : ByteArray) (j i : Nat) (hi : i = 8 * j + 4) : bits BinOp.or IntKind.u64 (sw s j 4) (bt s i * 4294967296) = sw s j 5 := by
  have hb := bt_bd s i
  have hs := sw_bd s j 4
  have e : (256 : Int) ^ 4 = 4294967296 := by decide
  rw [e] at hs
  rw [or_join' 32 4294967296 (by decide) ⟨hs.1, by omega⟩ ⟨by omega, by omega⟩ (by omega) (by omega)]
  show _ = sw s j 4 + bt s (8 * j + 4) * 256 ^ 4
  rw [e, hi]

theorem swor5 (s : ByteArray) (j i : Nat) (hi : i = 8 * j + 5) : bits BinOp.or IntKind.u64 (sw s j 5) (bt s i * 1099511627776) = sw s j 6 := by
  have hb := bt_bd s i
  have hs := sw_bd s j 5
  have e : (256 : Int) ^ 5 = 1099511627776 := by decide
  rw [e] at hs
  rw [or_join' 40 1099511627776 (by decide) ⟨hs.1, by omega⟩ ⟨by omega, by omega⟩ (by omega) (by omega)]
  show _ = sw s j 5 + bt s (8 * j + 5) * 256 ^ 5
  rw [e, hi]

theorem swor6 (s : ByteArray) (j i : Nat) (hi : i = 8 * j + 6) : bits BinOp.or IntKind.u64 (sw s j 6) (bt s i * 281474976710656) = sw s j 7 := by
  have hb := bt_bd s i
  have hs := sw_bd s j 6
  have e : (256 : Int) ^ 6 = 281474976710656 := by decide
  rw [e] at hs
  rw [or_join' 48 281474976710656 (by decide) ⟨hs.1, by omega⟩ ⟨by omega, by omega⟩ (by omega) (by omega)]
  show _ = sw s j 6 + bt s (8 * j + 6) * 256 ^ 6
  rw [e, hi]

theorem swor7 (s : ByteArray) (j i : Nat) (hi : i = 8 * j + 7) : bits BinOp.or IntKind.u64 (sw s j 7) (bt s i * 72057594037927936) = sw s j 8 := by
  have hb := bt_bd s i
  have hs := sw_bd s j 7
  have e : (256 : Int) ^ 7 = 72057594037927936 := by decide
  rw [e] at hs
  rw [or_join' 56 72057594037927936 (by decide) ⟨hs.1, by omega⟩ ⟨by omega, by omega⟩ (by omega) (by omega)]
  show _ = sw s j 7 + bt s (8 * j + 7) * 256 ^ 7
  rw [e, hi]

theorem belowN {B : Nat} {a w : World} {n : Nat} (h : Below B a w) : Below B a (w.drewN n) := ⟨h.os, h.tape, h.output, h.size, h.block⟩

/-- The memory of wordsOf: the result's block and the words so far. -/
structure WW (w W : World) (a b c d : Int) : Prop where
  old : Below w.heap.size w W
  size : w.heap.size + 1 < W.heap.size
  free : ∀ o, W.frozen? ⟨w.heap.size + 1, o, none⟩ = false
  free0 : ∀ o, W.frozen? ⟨w.heap.size, o, none⟩ = false
  c0 : W.cell? ⟨w.heap.size + 1, 0, none⟩ = some (.int .u64 a)
  c1 : W.cell? ⟨w.heap.size + 1, 1, none⟩ = some (.int .u64 b)
  c2 : W.cell? ⟨w.heap.size + 1, 2, none⟩ = some (.int .u64 c)
  c3 : W.cell? ⟨w.heap.size + 1, 3, none⟩ = some (.int .u64 d)
  r0 : W.cell? ⟨w.heap.size, 0, none⟩ = some (.int .u64 0)
  r1 : W.cell? ⟨w.heap.size, 1, none⟩ = some (.int .u64 0)
  r2 : W.cell? ⟨w.heap.size, 2, none⟩ = some (.int .u64 0)
  r3 : W.cell? ⟨w.heap.size, 3, none⟩ = some (.int .u64 0)

theorem WW.start (w : World) : WW w ((w.alloc (.cells #[.int .u64 0, .int .u64 0, .int .u64 0, .int .u64 0] 63)).alloc (.cells #[.int .u64 0, .int .u64 0, .int .u64 0, .int .u64 0] 63)) 0 0 0 0 := by
  refine ⟨((Below.refl _ _).alloc (Nat.le_refl _) _).alloc (by simp) _, by simp, ?_, ?_, ?_, ?_, ?_, ?_, ?_, ?_, ?_, ?_⟩ <;> simp [go_sem]

theorem WW.set0 {w W : World} {a b c d : Int} (h : WW w W a b c d) (v : Int) : WW w (W.setCell ⟨w.heap.size + 1, 0, none⟩ (.int .u64 v)).drew v b c d := by
  obtain ⟨h1, h2, h3, h4, h5, h6, h7, h8, h9, h10, h11, h12⟩ := h
  refine ⟨(h1.setCell (p := ⟨w.heap.size + 1, 0, none⟩) (by simp) _).drew, ?_, ?_, ?_, ?_, ?_, ?_, ?_, ?_, ?_, ?_, ?_⟩ <;> simp [go_sem, h2, h3, h4, h5, h6, h7, h8, h9, h10, h11, h12]

theorem WW.set1 {w W : World} {a b c d : Int} (h : WW w W a b c d) (v : Int) : WW w (W.setCell ⟨w.heap.size + 1, 1, none⟩ (.int .u64 v)).drew a v c d := by
  obtain ⟨h1, h2, h3, h4, h5, h6, h7, h8, h9, h10, h11, h12⟩ := h
  refine ⟨(h1.setCell (p := ⟨w.heap.size + 1, 1, none⟩) (by simp) _).drew, ?_, ?_, ?_, ?_, ?_, ?_, ?_, ?_, ?_, ?_, ?_⟩ <;> simp [go_sem, h2, h3, h4, h5, h6, h7, h8, h9, h10, h11, h12]

theorem WW.set2 {w W : World} {a b c d : Int} (h : WW w W a b c d) (v : Int) : WW w (W.setCell ⟨w.heap.size + 1, 2, none⟩ (.int .u64 v)).drew a b v d := by
  obtain ⟨h1, h2, h3, h4, h5, h6, h7, h8, h9, h10, h11, h12⟩ := h
  refine ⟨(h1.setCell (p := ⟨w.heap.size + 1, 2, none⟩) (by simp) _).drew, ?_, ?_, ?_, ?_, ?_, ?_, ?_, ?_, ?_, ?_, ?_⟩ <;> simp [go_sem, h2, h3, h4, h5, h6, h7, h8, h9, h10, h11, h12]

theorem WW.set3 {w W : World} {a b c d : Int} (h : WW w W a b c d) (v : Int) : WW w (W.setCell ⟨w.heap.size + 1, 3, none⟩ (.int .u64 v)).drew a b c v := by
  obtain ⟨h1, h2, h3, h4, h5, h6, h7, h8, h9, h10, h11, h12⟩ := h
  refine ⟨(h1.setCell (p := ⟨w.heap.size + 1, 3, none⟩) (by simp) _).drew, ?_, ?_, ?_, ?_, ?_, ?_, ?_, ?_, ?_, ?_, ?_⟩ <;> simp [go_sem, h2, h3, h4, h5, h6, h7, h8, h9, h10, h11, h12]

/-- Word j when k bytes have been read. -/
def swk (s : ByteArray) (k j : Nat) : Int := sw s j (min (k - 8 * j) 8)

set_option maxRecDepth 100000 in
set_option maxHeartbeats 8000000 in
theorem wordsOf_any (s : ByteArray) (w : World) (hs : s.size = 32) :
    Calls Try.prog 42 #[.string s] w fun r w' => r = .returned (.agg #[.int .u64 (sw s 0 8), .int .u64 (sw s 1 8), .int .u64 (sw s 2 8), .int .u64 (sw s 3 8)]) ∧ Below w.heap.size w w' := by
  go_enter Try.func42, Try.ntmps42
  go_wp2
  have H0 := WW.start w
  generalize (w.alloc (.cells #[.int .u64 0, .int .u64 0, .int .u64 0, .int .u64 0] 63)).alloc (.cells #[.int .u64 0, .int .u64 0, .int .u64 0, .int .u64 0] 63) = W at H0 ⊢
  go_loopw [5] (fun c wr => ∃ k : Nat, k ≤ 32 ∧ c = .int .i64 k ∧ WW w wr (swk s k 0) (swk s k 1) (swk s k 2) (swk s k 3)) (fun c _ => 32 - (intOf c).toNat)
  case atStart => exact ⟨0, by omega, rfl, H0⟩
  case round =>
    clear H0
    obtain ⟨k, hk, rfl, H⟩ := hrel
    by_cases hlt : k < 32
    · have hc : k = 0 ∨ k = 1 ∨ k = 2 ∨ k = 3 ∨ k = 4 ∨ k = 5 ∨ k = 6 ∨ k = 7 ∨ k = 8 ∨ k = 9 ∨ k = 10 ∨ k = 11 ∨ k = 12 ∨ k = 13 ∨ k = 14 ∨ k = 15 ∨ k = 16 ∨ k = 17 ∨ k = 18 ∨ k = 19 ∨ k = 20 ∨ k = 21 ∨ k = 22 ∨ k = 23 ∨ k = 24 ∨ k = 25 ∨ k = 26 ∨ k = 27 ∨ k = 28 ∨ k = 29 ∨ k = 30 ∨ k = 31 := by omega
      clear hlt hk
      rcases hc with rfl | rfl | rfl | rfl | rfl | rfl | rfl | rfl | rfl | rfl | rfl | rfl | rfl | rfl | rfl | rfl | rfl | rfl | rfl | rfl | rfl | rfl | rfl | rfl | rfl | rfl | rfl | rfl | rfl | rfl | rfl | rfl
      · replace H : WW w wr (sw s 0 0) (sw s 1 0) (sw s 2 0) (sw s 3 0) := H
        have hb := bt_at s 0 (by omega)
        obtain ⟨p, q⟩ := bt_bd s 0
        have e := swor0 s 0 0 (by decide)
        have c := H.c0
        have f := H.free
        rw [show sw s 0 0 = 0 from rfl] at c
        replace H := hide (H.set0 (sw s 0 1))
        go_wp2
        go_region
        go_wp2
        go_roundw
        case rel => exact ⟨1, by omega, rfl, H.out⟩
        case measure => simp [intOf]
      · replace H : WW w wr (sw s 0 1) (sw s 1 0) (sw s 2 0) (sw s 3 0) := H
        have hb := bt_at s 1 (by omega)
        obtain ⟨p, q⟩ := bt_bd s 1
        have e := swor1 s 0 1 (by decide)
        have c := H.c0
        have f := H.free
        skip
        replace H := hide (H.set0 (sw s 0 2))
        go_wp2
        go_region
        go_wp2
        go_roundw
        case rel => exact ⟨2, by omega, rfl, H.out⟩
        case measure => simp [intOf]
      · replace H : WW w wr (sw s 0 2) (sw s 1 0) (sw s 2 0) (sw s 3 0) := H
        have hb := bt_at s 2 (by omega)
        obtain ⟨p, q⟩ := bt_bd s 2
        have e := swor2 s 0 2 (by decide)
        have c := H.c0
        have f := H.free
        skip
        replace H := hide (H.set0 (sw s 0 3))
        go_wp2
        go_region
        go_wp2
        go_roundw
        case rel => exact ⟨3, by omega, rfl, H.out⟩
        case measure => simp [intOf]
      · replace H : WW w wr (sw s 0 3) (sw s 1 0) (sw s 2 0) (sw s 3 0) := H
        have hb := bt_at s 3 (by omega)
        obtain ⟨p, q⟩ := bt_bd s 3
        have e := swor3 s 0 3 (by decide)
        have c := H.c0
        have f := H.free
        skip
        replace H := hide (H.set0 (sw s 0 4))
        go_wp2
        go_region
        go_wp2
        go_roundw
        case rel => exact ⟨4, by omega, rfl, H.out⟩
        case measure => simp [intOf]
      · replace H : WW w wr (sw s 0 4) (sw s 1 0) (sw s 2 0) (sw s 3 0) := H
        have hb := bt_at s 4 (by omega)
        obtain ⟨p, q⟩ := bt_bd s 4
        have e := swor4 s 0 4 (by decide)
        have c := H.c0
        have f := H.free
        skip
        replace H := hide (H.set0 (sw s 0 5))
        go_wp2
        go_region
        go_wp2
        go_roundw
        case rel => exact ⟨5, by omega, rfl, H.out⟩
        case measure => simp [intOf]
      · replace H : WW w wr (sw s 0 5) (sw s 1 0) (sw s 2 0) (sw s 3 0) := H
        have hb := bt_at s 5 (by omega)
        obtain ⟨p, q⟩ := bt_bd s 5
        have e := swor5 s 0 5 (by decide)
        have c := H.c0
        have f := H.free
        skip
        replace H := hide (H.set0 (sw s 0 6))
        go_wp2
        go_region
        go_wp2
        go_roundw
        case rel => exact ⟨6, by omega, rfl, H.out⟩
        case measure => simp [intOf]
      · replace H : WW w wr (sw s 0 6) (sw s 1 0) (sw s 2 0) (sw s 3 0) := H
        have hb := bt_at s 6 (by omega)
        obtain ⟨p, q⟩ := bt_bd s 6
        have e := swor6 s 0 6 (by decide)
        have c := H.c0
        have f := H.free
        skip
        replace H := hide (H.set0 (sw s 0 7))
        go_wp2
        go_region
        go_wp2
        go_roundw
        case rel => exact ⟨7, by omega, rfl, H.out⟩
        case measure => simp [intOf]
      · replace H : WW w wr (sw s 0 7) (sw s 1 0) (sw s 2 0) (sw s 3 0) := H
        have hb := bt_at s 7 (by omega)
        obtain ⟨p, q⟩ := bt_bd s 7
        have e := swor7 s 0 7 (by decide)
        have c := H.c0
        have f := H.free
        skip
        replace H := hide (H.set0 (sw s 0 8))
        go_wp2
        go_region
        go_wp2
        go_roundw
        case rel => exact ⟨8, by omega, rfl, H.out⟩
        case measure => simp [intOf]
      · replace H : WW w wr (sw s 0 8) (sw s 1 0) (sw s 2 0) (sw s 3 0) := H
        have hb := bt_at s 8 (by omega)
        obtain ⟨p, q⟩ := bt_bd s 8
        have e := swor0 s 1 8 (by decide)
        have c := H.c1
        have f := H.free
        rw [show sw s 1 0 = 0 from rfl] at c
        replace H := hide (H.set1 (sw s 1 1))
        go_wp2
        go_region
        go_wp2
        go_roundw
        case rel => exact ⟨9, by omega, rfl, H.out⟩
        case measure => simp [intOf]
      · replace H : WW w wr (sw s 0 8) (sw s 1 1) (sw s 2 0) (sw s 3 0) := H
        have hb := bt_at s 9 (by omega)
        obtain ⟨p, q⟩ := bt_bd s 9
        have e := swor1 s 1 9 (by decide)
        have c := H.c1
        have f := H.free
        skip
        replace H := hide (H.set1 (sw s 1 2))
        go_wp2
        go_region
        go_wp2
        go_roundw
        case rel => exact ⟨10, by omega, rfl, H.out⟩
        case measure => simp [intOf]
      · replace H : WW w wr (sw s 0 8) (sw s 1 2) (sw s 2 0) (sw s 3 0) := H
        have hb := bt_at s 10 (by omega)
        obtain ⟨p, q⟩ := bt_bd s 10
        have e := swor2 s 1 10 (by decide)
        have c := H.c1
        have f := H.free
        skip
        replace H := hide (H.set1 (sw s 1 3))
        go_wp2
        go_region
        go_wp2
        go_roundw
        case rel => exact ⟨11, by omega, rfl, H.out⟩
        case measure => simp [intOf]
      · replace H : WW w wr (sw s 0 8) (sw s 1 3) (sw s 2 0) (sw s 3 0) := H
        have hb := bt_at s 11 (by omega)
        obtain ⟨p, q⟩ := bt_bd s 11
        have e := swor3 s 1 11 (by decide)
        have c := H.c1
        have f := H.free
        skip
        replace H := hide (H.set1 (sw s 1 4))
        go_wp2
        go_region
        go_wp2
        go_roundw
        case rel => exact ⟨12, by omega, rfl, H.out⟩
        case measure => simp [intOf]
      · replace H : WW w wr (sw s 0 8) (sw s 1 4) (sw s 2 0) (sw s 3 0) := H
        have hb := bt_at s 12 (by omega)
        obtain ⟨p, q⟩ := bt_bd s 12
        have e := swor4 s 1 12 (by decide)
        have c := H.c1
        have f := H.free
        skip
        replace H := hide (H.set1 (sw s 1 5))
        go_wp2
        go_region
        go_wp2
        go_roundw
        case rel => exact ⟨13, by omega, rfl, H.out⟩
        case measure => simp [intOf]
      · replace H : WW w wr (sw s 0 8) (sw s 1 5) (sw s 2 0) (sw s 3 0) := H
        have hb := bt_at s 13 (by omega)
        obtain ⟨p, q⟩ := bt_bd s 13
        have e := swor5 s 1 13 (by decide)
        have c := H.c1
        have f := H.free
        skip
        replace H := hide (H.set1 (sw s 1 6))
        go_wp2
        go_region
        go_wp2
        go_roundw
        case rel => exact ⟨14, by omega, rfl, H.out⟩
        case measure => simp [intOf]
      · replace H : WW w wr (sw s 0 8) (sw s 1 6) (sw s 2 0) (sw s 3 0) := H
        have hb := bt_at s 14 (by omega)
        obtain ⟨p, q⟩ := bt_bd s 14
        have e := swor6 s 1 14 (by decide)
        have c := H.c1
        have f := H.free
        skip
        replace H := hide (H.set1 (sw s 1 7))
        go_wp2
        go_region
        go_wp2
        go_roundw
        case rel => exact ⟨15, by omega, rfl, H.out⟩
        case measure => simp [intOf]
      · replace H : WW w wr (sw s 0 8) (sw s 1 7) (sw s 2 0) (sw s 3 0) := H
        have hb := bt_at s 15 (by omega)
        obtain ⟨p, q⟩ := bt_bd s 15
        have e := swor7 s 1 15 (by decide)
        have c := H.c1
        have f := H.free
        skip
        replace H := hide (H.set1 (sw s 1 8))
        go_wp2
        go_region
        go_wp2
        go_roundw
        case rel => exact ⟨16, by omega, rfl, H.out⟩
        case measure => simp [intOf]
      · replace H : WW w wr (sw s 0 8) (sw s 1 8) (sw s 2 0) (sw s 3 0) := H
        have hb := bt_at s 16 (by omega)
        obtain ⟨p, q⟩ := bt_bd s 16
        have e := swor0 s 2 16 (by decide)
        have c := H.c2
        have f := H.free
        rw [show sw s 2 0 = 0 from rfl] at c
        replace H := hide (H.set2 (sw s 2 1))
        go_wp2
        go_region
        go_wp2
        go_roundw
        case rel => exact ⟨17, by omega, rfl, H.out⟩
        case measure => simp [intOf]
      · replace H : WW w wr (sw s 0 8) (sw s 1 8) (sw s 2 1) (sw s 3 0) := H
        have hb := bt_at s 17 (by omega)
        obtain ⟨p, q⟩ := bt_bd s 17
        have e := swor1 s 2 17 (by decide)
        have c := H.c2
        have f := H.free
        skip
        replace H := hide (H.set2 (sw s 2 2))
        go_wp2
        go_region
        go_wp2
        go_roundw
        case rel => exact ⟨18, by omega, rfl, H.out⟩
        case measure => simp [intOf]
      · replace H : WW w wr (sw s 0 8) (sw s 1 8) (sw s 2 2) (sw s 3 0) := H
        have hb := bt_at s 18 (by omega)
        obtain ⟨p, q⟩ := bt_bd s 18
        have e := swor2 s 2 18 (by decide)
        have c := H.c2
        have f := H.free
        skip
        replace H := hide (H.set2 (sw s 2 3))
        go_wp2
        go_region
        go_wp2
        go_roundw
        case rel => exact ⟨19, by omega, rfl, H.out⟩
        case measure => simp [intOf]
      · replace H : WW w wr (sw s 0 8) (sw s 1 8) (sw s 2 3) (sw s 3 0) := H
        have hb := bt_at s 19 (by omega)
        obtain ⟨p, q⟩ := bt_bd s 19
        have e := swor3 s 2 19 (by decide)
        have c := H.c2
        have f := H.free
        skip
        replace H := hide (H.set2 (sw s 2 4))
        go_wp2
        go_region
        go_wp2
        go_roundw
        case rel => exact ⟨20, by omega, rfl, H.out⟩
        case measure => simp [intOf]
      · replace H : WW w wr (sw s 0 8) (sw s 1 8) (sw s 2 4) (sw s 3 0) := H
        have hb := bt_at s 20 (by omega)
        obtain ⟨p, q⟩ := bt_bd s 20
        have e := swor4 s 2 20 (by decide)
        have c := H.c2
        have f := H.free
        skip
        replace H := hide (H.set2 (sw s 2 5))
        go_wp2
        go_region
        go_wp2
        go_roundw
        case rel => exact ⟨21, by omega, rfl, H.out⟩
        case measure => simp [intOf]
      · replace H : WW w wr (sw s 0 8) (sw s 1 8) (sw s 2 5) (sw s 3 0) := H
        have hb := bt_at s 21 (by omega)
        obtain ⟨p, q⟩ := bt_bd s 21
        have e := swor5 s 2 21 (by decide)
        have c := H.c2
        have f := H.free
        skip
        replace H := hide (H.set2 (sw s 2 6))
        go_wp2
        go_region
        go_wp2
        go_roundw
        case rel => exact ⟨22, by omega, rfl, H.out⟩
        case measure => simp [intOf]
      · replace H : WW w wr (sw s 0 8) (sw s 1 8) (sw s 2 6) (sw s 3 0) := H
        have hb := bt_at s 22 (by omega)
        obtain ⟨p, q⟩ := bt_bd s 22
        have e := swor6 s 2 22 (by decide)
        have c := H.c2
        have f := H.free
        skip
        replace H := hide (H.set2 (sw s 2 7))
        go_wp2
        go_region
        go_wp2
        go_roundw
        case rel => exact ⟨23, by omega, rfl, H.out⟩
        case measure => simp [intOf]
      · replace H : WW w wr (sw s 0 8) (sw s 1 8) (sw s 2 7) (sw s 3 0) := H
        have hb := bt_at s 23 (by omega)
        obtain ⟨p, q⟩ := bt_bd s 23
        have e := swor7 s 2 23 (by decide)
        have c := H.c2
        have f := H.free
        skip
        replace H := hide (H.set2 (sw s 2 8))
        go_wp2
        go_region
        go_wp2
        go_roundw
        case rel => exact ⟨24, by omega, rfl, H.out⟩
        case measure => simp [intOf]
      · replace H : WW w wr (sw s 0 8) (sw s 1 8) (sw s 2 8) (sw s 3 0) := H
        have hb := bt_at s 24 (by omega)
        obtain ⟨p, q⟩ := bt_bd s 24
        have e := swor0 s 3 24 (by decide)
        have c := H.c3
        have f := H.free
        rw [show sw s 3 0 = 0 from rfl] at c
        replace H := hide (H.set3 (sw s 3 1))
        go_wp2
        go_region
        go_wp2
        go_roundw
        case rel => exact ⟨25, by omega, rfl, H.out⟩
        case measure => simp [intOf]
      · replace H : WW w wr (sw s 0 8) (sw s 1 8) (sw s 2 8) (sw s 3 1) := H
        have hb := bt_at s 25 (by omega)
        obtain ⟨p, q⟩ := bt_bd s 25
        have e := swor1 s 3 25 (by decide)
        have c := H.c3
        have f := H.free
        skip
        replace H := hide (H.set3 (sw s 3 2))
        go_wp2
        go_region
        go_wp2
        go_roundw
        case rel => exact ⟨26, by omega, rfl, H.out⟩
        case measure => simp [intOf]
      · replace H : WW w wr (sw s 0 8) (sw s 1 8) (sw s 2 8) (sw s 3 2) := H
        have hb := bt_at s 26 (by omega)
        obtain ⟨p, q⟩ := bt_bd s 26
        have e := swor2 s 3 26 (by decide)
        have c := H.c3
        have f := H.free
        skip
        replace H := hide (H.set3 (sw s 3 3))
        go_wp2
        go_region
        go_wp2
        go_roundw
        case rel => exact ⟨27, by omega, rfl, H.out⟩
        case measure => simp [intOf]
      · replace H : WW w wr (sw s 0 8) (sw s 1 8) (sw s 2 8) (sw s 3 3) := H
        have hb := bt_at s 27 (by omega)
        obtain ⟨p, q⟩ := bt_bd s 27
        have e := swor3 s 3 27 (by decide)
        have c := H.c3
        have f := H.free
        skip
        replace H := hide (H.set3 (sw s 3 4))
        go_wp2
        go_region
        go_wp2
        go_roundw
        case rel => exact ⟨28, by omega, rfl, H.out⟩
        case measure => simp [intOf]
      · replace H : WW w wr (sw s 0 8) (sw s 1 8) (sw s 2 8) (sw s 3 4) := H
        have hb := bt_at s 28 (by omega)
        obtain ⟨p, q⟩ := bt_bd s 28
        have e := swor4 s 3 28 (by decide)
        have c := H.c3
        have f := H.free
        skip
        replace H := hide (H.set3 (sw s 3 5))
        go_wp2
        go_region
        go_wp2
        go_roundw
        case rel => exact ⟨29, by omega, rfl, H.out⟩
        case measure => simp [intOf]
      · replace H : WW w wr (sw s 0 8) (sw s 1 8) (sw s 2 8) (sw s 3 5) := H
        have hb := bt_at s 29 (by omega)
        obtain ⟨p, q⟩ := bt_bd s 29
        have e := swor5 s 3 29 (by decide)
        have c := H.c3
        have f := H.free
        skip
        replace H := hide (H.set3 (sw s 3 6))
        go_wp2
        go_region
        go_wp2
        go_roundw
        case rel => exact ⟨30, by omega, rfl, H.out⟩
        case measure => simp [intOf]
      · replace H : WW w wr (sw s 0 8) (sw s 1 8) (sw s 2 8) (sw s 3 6) := H
        have hb := bt_at s 30 (by omega)
        obtain ⟨p, q⟩ := bt_bd s 30
        have e := swor6 s 3 30 (by decide)
        have c := H.c3
        have f := H.free
        skip
        replace H := hide (H.set3 (sw s 3 7))
        go_wp2
        go_region
        go_wp2
        go_roundw
        case rel => exact ⟨31, by omega, rfl, H.out⟩
        case measure => simp [intOf]
      · replace H : WW w wr (sw s 0 8) (sw s 1 8) (sw s 2 8) (sw s 3 7) := H
        have hb := bt_at s 31 (by omega)
        obtain ⟨p, q⟩ := bt_bd s 31
        have e := swor7 s 3 31 (by decide)
        have c := H.c3
        have f := H.free
        skip
        replace H := hide (H.set3 (sw s 3 8))
        go_wp2
        go_region
        go_wp2
        go_roundw
        case rel => exact ⟨32, by omega, rfl, H.out⟩
        case measure => simp [intOf]
    · have e : k = 32 := by omega
      subst e
      replace H : WW w wr (sw s 0 8) (sw s 1 8) (sw s 2 8) (sw s 3 8) := H
      obtain ⟨h1, h2, h3, h4, h5, h6, h7, h8, h9, h10, h11, h12⟩ := H
      have H1 := hide h1
      clear h1
      go_wp2
      refine bodyPost_ret (v := .agg #[.int .u64 (sw s 0 8), .int .u64 (sw s 1 8), .int .u64 (sw s 2 8), .int .u64 (sw s 3 8)]) (by simp [results, Try.results42, go_sem, h9, h10, h11, h12]) rfl ⟨rfl, ?_⟩
      exact (((H1.out.setCell (p := ⟨w.heap.size, 0, none⟩) (Nat.le_refl _) _).setCell (p := ⟨w.heap.size, 1, none⟩) (Nat.le_refl _) _).setCell (p := ⟨w.heap.size, 2, none⟩) (Nat.le_refl _) _).setCell (p := ⟨w.heap.size, 3, none⟩) (Nat.le_refl _) _

end Go.Proofs.Ytiiniodidkfbiaa
