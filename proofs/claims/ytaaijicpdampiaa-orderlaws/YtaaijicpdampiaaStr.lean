/- The contracts of wordsOf, number and Of: which number 32 bytes are. -/
import Derived.Test.YtaaijicpdampiaaLie
namespace Go.Proofs.Ytaaijicpdampiaa
open Go.RowKit

/-- Byte i of a string, as a number. -/
def bt (s : ByteArray) (i : Nat) : Int := ((s.data[i]?.getD 0).toNat : Int)

theorem bt_bd (s : ByteArray) (i : Nat) : 0 ≤ bt s i ∧ bt s i < 256 := by
  unfold bt
  have := (s.data[i]?.getD 0).toNat_lt
  omega

theorem bt_at (s : ByteArray) (i : Nat) (h : i < s.size) : ((s[i]'h).toNat : Int) = bt s i := by
  unfold bt
  have h' : i < s.data.size := h
  rw [Array.getElem?_eq_getElem h']
  rfl

/-- The first r bytes of word j. -/
def sw (s : ByteArray) (j : Nat) : Nat → Int
  | 0 => 0
  | r + 1 => sw s j r + bt s (8 * j + r) * 256 ^ r

theorem sw_bd (s : ByteArray) (j r : Nat) : 0 ≤ sw s j r ∧ sw s j r < 256 ^ r := by
  induction r with
  | zero => simp [sw]
  | succ r ih =>
    have hb := bt_bd s (8 * j + r)
    have hp : (0 : Int) < 256 ^ r := Int.pow_pos (by decide)
    have h1 : bt s (8 * j + r) * 256 ^ r ≤ 255 * 256 ^ r := Int.mul_le_mul_of_nonneg_right (by omega) (by omega)
    have h2 : 0 ≤ bt s (8 * j + r) * 256 ^ r := Int.mul_nonneg hb.1 (by omega)
    have h3 : (256 : Int) ^ (r + 1) = 256 * 256 ^ r := by rw [Int.pow_succ, Int.mul_comm]
    simp only [sw]
    omega

theorem swor0 (s : ByteArray) (j i : Nat) (hi : i = 8 * j + 0) : bits BinOp.or IntKind.u64 0 (bt s i) = sw s j 1 := by
  have hb := bt_bd s i
  rw [or_join 8 256 (by decide) ⟨by decide, by decide⟩ ⟨hb.1, by omega⟩ (by decide) (by omega)]
  simp [sw, hi]

theorem swor1 (s : ByteArray) (j i : Nat) (hi : i = 8 * j + 1) : bits BinOp.or IntKind.u64 (sw s j 1) (bt s i * 256) = sw s j 2 := by
  have hb := bt_bd s i
  have hs := sw_bd s j 1
  have e : (256 : Int) ^ 1 = 256 := by decide
  rw [e] at hs
  rw [or_join' 8 256 (by decide) ⟨hs.1, by omega⟩ ⟨by omega, by omega⟩ (by omega) (by omega)]
  show _ = sw s j 1 + bt s (8 * j + 1) * 256 ^ 1
  rw [e, hi]

theorem swor2 (s : ByteArray) (j i : Nat) (hi : i = 8 * j + 2) : bits BinOp.or IntKind.u64 (sw s j 2) (bt s i * 65536) = sw s j 3 := by
  have hb := bt_bd s i
  have hs := sw_bd s j 2
  have e : (256 : Int) ^ 2 = 65536 := by decide
  rw [e] at hs
  rw [or_join' 16 65536 (by decide) ⟨hs.1, by omega⟩ ⟨by omega, by omega⟩ (by omega) (by omega)]
  show _ = sw s j 2 + bt s (8 * j + 2) * 256 ^ 2
  rw [e, hi]

theorem swor3 (s : ByteArray) (j i : Nat) (hi : i = 8 * j + 3) : bits BinOp.or IntKind.u64 (sw s j 3) (bt s i * 16777216) = sw s j 4 := by
  have hb := bt_bd s i
  have hs := sw_bd s j 3
  have e : (256 : Int) ^ 3 = 16777216 := by decide
  rw [e] at hs
  rw [or_join' 24 16777216 (by decide) ⟨hs.1, by omega⟩ ⟨by omega, by omega⟩ (by omega) (by omega)]
  show _ = sw s j 3 + bt s (8 * j + 3) * 256 ^ 3
  rw [e, hi]

theorem swor4 (s : ByteArray) (j i : Nat) (hi : i = 8 * j + 4) : bits BinOp.or IntKind.u64 (sw s j 4) (bt s i * 4294967296) = sw s j 5 := by
  have hb := bt_bd s i
  have hs := sw_bd s j 4
  have e : (256 : Int) ^ 4 = 4294967296 := by decide
  rw [e] at hs
  rw [or_join' 32 4294967296 (by decide) ⟨hs.1, by omega⟩ ⟨by omega, by omega⟩ (by omega) (by omega)]
  show _ = sw s j 4 + bt s (8 * j + 4) * 256 ^ 4
  rw [e, hi]

theorem swor5 (s : ByteArray) (j i : Nat) (hi : i = 8 * j + 5) : bits BinOp.or IntKind.u64 (sw s j 5) (bt s i * 1099511627776) = sw s j 6 := by
  have hb := bt_bd s i
  have hs := sw_bd s j 5
  have e : (256 : Int) ^ 5 = 1099511627776 := by decide
  rw [e] at hs
  rw [or_join' 40 1099511627776 (by decide) ⟨hs.1, by omega⟩ ⟨by omega, by omega⟩ (by omega) (by omega)]
  show _ = sw s j 5 + bt s (8 * j + 5) * 256 ^ 5
  rw [e, hi]

theorem swor6 (s : ByteArray) (j i : Nat) (hi : i = 8 * j + 6) : bits BinOp.or IntKind.u64 (sw s j 6) (bt s i * 281474976710656) = sw s j 7 := by
  have hb := bt_bd s i
  have hs := sw_bd s j 6
  have e : (256 : Int) ^ 6 = 281474976710656 := by decide
  rw [e] at hs
  rw [or_join' 48 281474976710656 (by decide) ⟨hs.1, by omega⟩ ⟨by omega, by omega⟩ (by omega) (by omega)]
  show _ = sw s j 6 + bt s (8 * j + 6) * 256 ^ 6
  rw [e, hi]

theorem swor7 (s : ByteArray) (j i : Nat) (hi : i = 8 * j + 7) : bits BinOp.or IntKind.u64 (sw s j 7) (bt s i * 72057594037927936) = sw s j 8 := by
  have hb := bt_bd s i
  have hs := sw_bd s j 7
  have e : (256 : Int) ^ 7 = 72057594037927936 := by decide
  rw [e] at hs
  rw [or_join' 56 72057594037927936 (by decide) ⟨hs.1, by omega⟩ ⟨by omega, by omega⟩ (by omega) (by omega)]
  show _ = sw s j 7 + bt s (8 * j + 7) * 256 ^ 7
  rw [e, hi]

/-- The number that 32 bytes are. -/
def val (s : ByteArray) : Int := sw s 0 8 + 18446744073709551616 * sw s 1 8 + 340282366920938463463374607431768211456 * sw s 2 8 + 6277101735386680763835789423207666416102355444464034512896 * sw s 3 8

end Go.Proofs.Ytaaijicpdampiaa
