/- Bytes and their number: what the document's Of makes of them is that number modulo the order. -/
import Derived.Test.YtaaijicpdampiaaOrdN
namespace Go.Proofs.Ytaaijicpdampiaa
open Go.RowKit

/-- The number of the first k bytes. -/
def bv (s : ByteArray) : Nat → Int
  | 0 => 0
  | k + 1 => bv s k + bt s k * 256 ^ k

theorem p8 (n : Nat) : (0 : Int) < 256 ^ n := Int.pow_pos (by decide)
theorem p8s (n : Nat) : (256 : Int) ^ (n + 1) = 256 * 256 ^ n := by rw [Int.pow_succ, Int.mul_comm]

theorem bv_bd (s : ByteArray) : ∀ k, 0 ≤ bv s k ∧ bv s k < 256 ^ k
  | 0 => by simp [bv]
  | k + 1 => by
    have ih := bv_bd s k
    have hb := bt_bd s k
    have hp := p8 k
    have h1 : bt s k * 256 ^ k ≤ 255 * 256 ^ k := Int.mul_le_mul_of_nonneg_right (by omega) (by omega)
    have h2 : 0 ≤ bt s k * 256 ^ k := Int.mul_nonneg hb.1 (by omega)
    rw [p8s]
    simp only [bv]
    omega

theorem bv_split (s : ByteArray) (j : Nat) : ∀ k, ∃ q : Int, bv s (j + 1 + k) = bv s j + 256 ^ j * (bt s j + 256 * q)
  | 0 => ⟨0, by show bv s j + bt s j * 256 ^ j = _; rw [Int.mul_zero, Int.add_zero, Int.mul_comm]⟩
  | k + 1 => by
    obtain ⟨q, hq⟩ := bv_split s j k
    refine ⟨q + bt s (j + 1 + k) * 256 ^ k, ?_⟩
    show bv s (j + 1 + k) + bt s (j + 1 + k) * 256 ^ (j + 1 + k) = _
    rw [hq, Int.pow_add, Int.pow_succ, Int.mul_add 256 q, ← Int.add_assoc (bt s j), Int.mul_add (256 ^ j) (bt s j + 256 * q), ← Int.add_assoc]
    congr 1
    generalize (256 : Int) ^ j = X
    generalize (256 : Int) ^ k = Y
    rw [Int.mul_comm (bt s (j + 1 + k)), Int.mul_assoc X 256 Y, Int.mul_assoc X, Int.mul_assoc 256 Y, Int.mul_comm Y]

theorem bv_at (s : ByteArray) {j m : Nat} (h : j < m) : bv s m / 256 ^ j % 256 = bt s j := by
  obtain ⟨q, hq⟩ := bv_split s j (m - (j + 1))
  rw [show j + 1 + (m - (j + 1)) = m by omega] at hq
  have hp := p8 j
  have hb := bv_bd s j
  have ht := bt_bd s j
  rw [hq, Int.add_mul_ediv_left _ _ (by omega), Int.ediv_eq_zero_of_lt hb.1 hb.2]
  omega

theorem bit_at (s : ByteArray) {p m : Nat} (h : p < 8 * m) : bit s p = bv s m / 2 ^ p % 2 := by
  have e : (2 : Int) ^ p = 256 ^ (p / 8) * 2 ^ (p % 8) := by
    have e1 : (256 : Int) ^ (p / 8) = 2 ^ (8 * (p / 8)) := by rw [Int.pow_mul]; rfl
    rw [e1, ← Int.pow_add]
    congr 1
    omega
  have hj : bv s m / 256 ^ (p / 8) % 256 = bt s (p / 8) := bv_at s (by omega)
  have hp := p8 (p / 8)
  unfold bit
  rw [e, ← Int.ediv_ediv_of_nonneg (by omega), ← hj]
  generalize bv s m / 256 ^ (p / 8) = A
  have h8 : p % 8 < 8 := by omega
  generalize p % 8 = r at *
  rcases (show r = 0 ∨ r = 1 ∨ r = 2 ∨ r = 3 ∨ r = 4 ∨ r = 5 ∨ r = 6 ∨ r = 7 by omega) with rfl | rfl | rfl | rfl | rfl | rfl | rfl | rfl
  · simp only [Int.pow_zero]; omega
  · simp only [show (2 : Int) ^ 1 = 2 from by decide]; omega
  · simp only [show (2 : Int) ^ 2 = 4 from by decide]; omega
  · simp only [show (2 : Int) ^ 3 = 8 from by decide]; omega
  · simp only [show (2 : Int) ^ 4 = 16 from by decide]; omega
  · simp only [show (2 : Int) ^ 5 = 32 from by decide]; omega
  · simp only [show (2 : Int) ^ 6 = 64 from by decide]; omega
  · simp only [show (2 : Int) ^ 7 = 128 from by decide]; omega

theorem ov_val (s : ByteArray) (m : Nat) : ∀ k, k ≤ 8 * m → ov s (8 * m) k = bv s m / 2 ^ (8 * m - k) % Lm
  | 0, _ => by
    have hb := bv_bd s m
    have e : (256 : Int) ^ m = 2 ^ (8 * m) := by rw [Int.pow_mul]; rfl
    rw [Nat.sub_zero, ← e, Int.ediv_eq_zero_of_lt hb.1 hb.2]
    rfl
  | k + 1, h => by
    have ih := ov_val s m k (by omega)
    show (2 * ov s (8 * m) k + bit s (8 * m - 1 - k)) % Lm = _
    have hb := bit_at s (p := 8 * m - 1 - k) (m := m) (by omega)
    have e2 : 8 * m - k = (8 * m - 1 - k) + 1 := by omega
    have e3 : 8 * m - (k + 1) = 8 * m - 1 - k := by omega
    have hp : (0 : Int) < 2 ^ (8 * m - 1 - k) := Int.pow_pos (by decide)
    rw [ih, hb, e2, e3, Int.pow_succ, ← Int.ediv_ediv_of_nonneg (by omega)]
    generalize bv s m / 2 ^ (8 * m - 1 - k) = A
    rw [Int.add_emod, Int.mul_emod, Int.emod_emod_of_dvd _ (Int.dvd_refl _), ← Int.mul_emod, ← Int.add_emod]
    congr 1
    omega

theorem ov_all (s : ByteArray) (m n : Nat) (hn : n = 8 * m) : ov s n n = bv s m % Lm := by
  subst hn
  rw [ov_val s m _ (Nat.le_refl _), Nat.sub_self, Int.pow_zero, Int.ediv_one]

theorem bt_out (s : ByteArray) (i : Nat) (h : s.size ≤ i) : bt s i = 0 := by
  unfold bt
  have h' : s.data.size ≤ i := h
  rw [Array.getElem?_eq_none h']
  rfl

theorem bv_out (s : ByteArray) : ∀ k, bv s (s.size + k) = bv s s.size
  | 0 => rfl
  | k + 1 => by
    show bv s (s.size + k) + bt s (s.size + k) * 256 ^ (s.size + k) = _
    rw [bt_out s _ (by omega), bv_out s k]
    omega

theorem bv_64 (s : ByteArray) (h : s.size ≤ 64) : bv s 64 = bv s s.size := by
  have := bv_out s (64 - s.size)
  rwa [show s.size + (64 - s.size) = 64 by omega] at this

theorem sw_bv (s : ByteArray) (j : Nat) : ∀ r, bv s (8 * j + r) = bv s (8 * j) + 256 ^ (8 * j) * sw s j r
  | 0 => by simp [sw]
  | r + 1 => by
    have ih := sw_bv s j r
    show bv s (8 * j + r) + bt s (8 * j + r) * 256 ^ (8 * j + r) = bv s (8 * j) + 256 ^ (8 * j) * (sw s j r + bt s (8 * j + r) * 256 ^ r)
    rw [ih, Int.pow_add, Int.mul_add, ← Int.add_assoc]
    congr 1
    rw [Int.mul_left_comm]

theorem Q_bv (s : ByteArray) : ∀ n, Q (fun j => sw s j 8) n = bv s (8 * n)
  | 0 => rfl
  | n + 1 => by
    have ih := Q_bv s n
    have e := sw_bv s n 8
    have e2 : (256 : Int) ^ (8 * n) = 18446744073709551616 ^ n := by rw [Int.pow_mul]; rfl
    rw [show 8 * (n + 1) = 8 * n + 8 by omega, e, e2]
    simp only [Q]
    rw [ih, Int.mul_comm]

theorem sw_wds (s : ByteArray) (n : Nat) : Wds (fun j => sw s j 8) n := fun j _ => by
  have := sw_bd s j 8
  have e : (256 : Int) ^ 8 = 18446744073709551616 := by decide
  rw [e] at this
  exact this

theorem val_bv (s : ByteArray) : val s = bv s 32 := by
  have e := Q_bv s 4
  rw [Q4] at e
  rw [show 32 = 8 * 4 from rfl, ← e]
  unfold val
  omega

/-- The n bytes of a number. -/
def le (N : Int) (n : Nat) : List Int := (List.range n).map fun i => N / 256 ^ i % 256

theorem le_len (N : Int) (n : Nat) : (le N n).length = n := by simp [le]
theorem le_get (N : Int) {n i : Nat} (h : i < n) : (le N n)[i]? = some (N / 256 ^ i % 256) := by simp [le, h]

theorem bs_size (l : List Int) : (bs l).size = l.length := by simp [bs, ByteArray.size]
theorem bt_bs (l : List Int) (i : Nat) (x : Int) (hl : l[i]? = some x) (h0 : 0 ≤ x) (h1 : x < 256) : bt (bs l) i = x := by
  unfold bt bs
  simp only [List.getElem?_toArray, List.getElem?_map, hl, Option.map_some, Option.getD_some]
  simp only [UInt8.toNat_ofNat']
  omega

theorem bt_le (N : Int) {n i : Nat} (h : i < n) : bt (bs (le N n)) i = N / 256 ^ i % 256 := bt_bs _ _ _ (le_get N h) (by omega) (by omega)

theorem bv_le (N : Int) (h0 : 0 ≤ N) (n : Nat) : ∀ k, k ≤ n → bv (bs (le N n)) k = N % 256 ^ k
  | 0, _ => by simp [bv, Int.emod_one]
  | k + 1, h => by
    have ih := bv_le N h0 n k (by omega)
    have hp := p8 k
    show bv (bs (le N n)) k + bt (bs (le N n)) k * 256 ^ k = _
    rw [ih, bt_le N (by omega), Int.pow_succ]
    have e1 := Int.emod_add_mul_ediv N (256 ^ k)
    rw [Int.emod_def N (256 ^ k * 256), ← Int.ediv_ediv_of_nonneg (by omega)]
    generalize N / 256 ^ k = A at *
    have e3 : A % 256 * 256 ^ k = A * 256 ^ k - 256 * (A / 256) * 256 ^ k := by
      rw [← Int.sub_mul]
      congr 1
      omega
    rw [e3]
    generalize A / 256 = B at *
    generalize (256 : Int) ^ k = X at *
    rw [Int.mul_comm A X, show 256 * B * X = X * 256 * B by rw [Int.mul_comm (256 * B) X, ← Int.mul_assoc]]
    omega

end Go.Proofs.Ytaaijicpdampiaa
