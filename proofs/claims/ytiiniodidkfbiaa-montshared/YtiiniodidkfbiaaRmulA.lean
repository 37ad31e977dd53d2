/- The product of two numbers of 16 digits, row by row. -/
import Derived.Test.YtiiniodidkfbiaaRed
namespace Go.Proofs.Ytiiniodidkfbiaa
open Go.RowKit

/-- Of row i the first k products. -/
def rw1 (a b : Nat → Int) (i k : Nat) : Nat → Int := fun j => if i ≤ j ∧ j < i + k then a i * b (j - i) else 0
/-- The first i rows. -/
def mp (a b : Nat → Int) : Nat → Nat → Int
  | 0, _ => 0
  | i + 1, j => mp a b i j + rw1 a b i 16 j
/-- i rows, and of the next one k products. -/
def mq (a b : Nat → Int) (i k : Nat) : Nat → Int := fun j => mp a b i j + rw1 a b i k j

theorem S_add' (f g : Nat → Int) : ∀ n, S (fun i => f i + g i) n = S f n + S g n
  | 0 => rfl
  | n + 1 => by
    have ih := S_add' f g n
    simp only [S]
    rw [ih, Int.add_mul]
    omega

theorem S_one (m : Nat) (v : Int) : ∀ n, S (fun j => if j = m then v else 0) n = if m < n then v * 65536 ^ m else 0
  | 0 => by simp [S]
  | n + 1 => by
    have ih := S_one m v n
    simp only [S]
    rw [ih]
    by_cases h1 : m < n
    · rw [if_pos h1, if_neg (show ¬ n = m by omega), if_pos (show m < n + 1 by omega)]
      simp
    · rw [if_neg h1]
      by_cases h2 : n = m
      · subst h2
        rw [if_pos rfl, if_pos (by omega)]
        simp
      · rw [if_neg h2, if_neg (show ¬ m < n + 1 by omega)]
        simp

theorem rw1_next (a b : Nat → Int) (i k j : Nat) : rw1 a b i (k + 1) j = rw1 a b i k j + if j = i + k then a i * b k else 0 := by
  unfold rw1
  by_cases h1 : j = i + k
  · subst h1
    rw [if_pos (by omega), if_neg (by omega), if_pos rfl, show i + k - i = k by omega]
    omega
  · rw [if_neg h1]
    by_cases h2 : i ≤ j ∧ j < i + k
    · rw [if_pos h2, if_pos (by omega)]
      omega
    · rw [if_neg h2, if_neg (by omega)]
      omega

theorem rw1_S (a b : Nat → Int) (i : Nat) : ∀ k, i + k ≤ 32 → S (rw1 a b i k) 32 = a i * 65536 ^ i * S b k
  | 0, _ => by
    rw [S_congr (g := fun _ => 0) fun j _ => by unfold rw1; rw [if_neg (by omega)], S_zero]
    simp [S]
  | k + 1, h => by
    have ih := rw1_S a b i k (by omega)
    rw [S_congr fun j _ => rw1_next a b i k j, S_add', ih, S_one, if_pos (by omega)]
    simp only [S]
    rw [Int.pow_add, Int.mul_add]
    congr 1
    rw [Int.mul_assoc, Int.mul_assoc, Int.mul_left_comm (65536 ^ i)]

theorem mp_S (a b : Nat → Int) : ∀ i, i ≤ 16 → S (mp a b i) 32 = S a i * S b 16
  | 0, _ => by
    show S (fun _ => 0) 32 = _
    rw [S_zero]
    simp [S]
  | i + 1, h => by
    have ih := mp_S a b i (by omega)
    have e : S (mp a b (i + 1)) 32 = S (fun j => mp a b i j + rw1 a b i 16 j) 32 := rfl
    rw [e, S_add', ih, rw1_S a b i 16 (by omega)]
    simp only [S]
    rw [Int.add_mul]

theorem dmul {x y : Int} (hx : 0 ≤ x ∧ x < 65536) (hy : 0 ≤ y ∧ y < 65536) : 0 ≤ x * y ∧ x * y ≤ 4294836225 := by
  refine ⟨Int.mul_nonneg hx.1 hy.1, ?_⟩
  have h1 : x * y ≤ 65535 * y := Int.mul_le_mul_of_nonneg_right (by omega) hy.1
  omega

theorem rw1_bd {a b : Nat → Int} (ha : Dig a 16) (hb : Dig b 16) {i k : Nat} (hi : i < 16) (hk : k ≤ 16) (j : Nat) : 0 ≤ rw1 a b i k j ∧ rw1 a b i k j ≤ 4294836225 := by
  unfold rw1
  by_cases h : i ≤ j ∧ j < i + k
  · rw [if_pos h]
    exact dmul (ha i hi) (hb (j - i) (by omega))
  · rw [if_neg h]
    omega

theorem mp_bd {a b : Nat → Int} (ha : Dig a 16) (hb : Dig b 16) (j : Nat) : ∀ i, i ≤ 16 → 0 ≤ mp a b i j ∧ mp a b i j ≤ 4294836225 * i
  | 0, _ => by simp [mp]
  | i + 1, h => by
    have ih := mp_bd ha hb j i (by omega)
    have h2 := rw1_bd ha hb (i := i) (k := 16) (by omega) (by omega) j
    simp only [mp]
    omega

theorem mp_48 {a b : Nat → Int} (ha : Dig a 16) (hb : Dig b 16) : B48 (mp a b 16) := ⟨fun j _ => by
  have := mp_bd ha hb j 16 (by omega)
  omega⟩

theorem mq_zero (a b : Nat → Int) (i j : Nat) : mq a b i 0 j = mp a b i j := by
  unfold mq rw1
  rw [if_neg (by omega)]
  omega
theorem mq_end (a b : Nat → Int) (i j : Nat) : mq a b i 16 j = mp a b (i + 1) j := rfl
theorem mq_at (a b : Nat → Int) (i k : Nat) : mq a b i k (i + k) = mp a b i (i + k) := by
  unfold mq rw1
  rw [if_neg (by omega)]
  omega
theorem mq_next (a b : Nat → Int) (i k j : Nat) : upd (mq a b i k) (i + k) (mp a b i (i + k) + a i * b k) j = mq a b i (k + 1) j := by
  unfold upd
  by_cases h : j = i + k
  · subst h
    rw [if_pos rfl]
    unfold mq
    rw [rw1_next, if_pos rfl]
    unfold rw1
    rw [if_neg (by omega)]
    omega
  · rw [if_neg h]
    unfold mq
    rw [rw1_next, if_neg h]
    omega

end Go.Proofs.Ytiiniodidkfbiaa
