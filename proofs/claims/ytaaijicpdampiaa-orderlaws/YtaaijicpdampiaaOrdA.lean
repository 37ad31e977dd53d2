/- Numbers of words of 64 bits: sums with carries, differences with borrows. -/
import Derived.Test.YtaaijicpdampiaaWide
import Derived.Test.YtaaijicpdampiaaRowB
import Derived.Test.YtaaijicpdampiaaLie
namespace Go.Proofs.Ytaaijicpdampiaa
open Go.RowKit

/-- The number of the first n words. -/
def Q (f : Nat → Int) : Nat → Int
  | 0 => 0
  | n + 1 => Q f n + f n * 18446744073709551616 ^ n
/-- Each of the first n words is one. -/
def Wds (f : Nat → Int) (n : Nat) : Prop := ∀ i, i < n → W64 (f i)
theorem Wds.le {f : Nat → Int} {n m : Nat} (h : Wds f n) (hm : m ≤ n) : Wds f m := fun i hi => h i (by omega)
theorem p64 (n : Nat) : (0 : Int) < 18446744073709551616 ^ n := Int.pow_pos (by decide)
theorem p64s (n : Nat) : (18446744073709551616 : Int) ^ (n + 1) = 18446744073709551616 * 18446744073709551616 ^ n := by rw [Int.pow_succ, Int.mul_comm]
theorem Q_congr {f g : Nat → Int} : ∀ {n : Nat}, (∀ i, i < n → f i = g i) → Q f n = Q g n
  | 0, _ => rfl
  | n + 1, h => by
    simp only [Q]
    rw [Q_congr (n := n) fun i hi => h i (by omega), h n (by omega)]
theorem Q_bd {f : Nat → Int} : ∀ {n : Nat}, Wds f n → 0 ≤ Q f n ∧ Q f n < 18446744073709551616 ^ n
  | 0, _ => by simp [Q]
  | n + 1, h => by
    have ih := Q_bd (n := n) (h.le (by omega))
    have hd := h n (by omega)
    have hp := p64 n
    have h1 : f n * 18446744073709551616 ^ n ≤ 18446744073709551615 * 18446744073709551616 ^ n := Int.mul_le_mul_of_nonneg_right (by have := hd.2; omega) (by omega)
    have h2 : 0 ≤ f n * 18446744073709551616 ^ n := Int.mul_nonneg hd.1 (by omega)
    rw [p64s]
    simp only [Q]
    omega

/-- The carry into word k. -/
def pc (f g : Nat → Int) : Nat → Int
  | 0 => 0
  | k + 1 => (f k + g k + pc f g k) / 18446744073709551616
def ps (f g : Nat → Int) : Nat → Int := fun k => (f k + g k + pc f g k) % 18446744073709551616
theorem pc_bd {f g : Nat → Int} (hf : Wds f 4) (hg : Wds g 4) : ∀ k, k ≤ 4 → 0 ≤ pc f g k ∧ pc f g k ≤ 1
  | 0, _ => by simp [pc]
  | k + 1, h => by
    have ih := pc_bd hf hg k (by omega)
    have h1 := hf k (by omega)
    have h2 := hg k (by omega)
    unfold W64 at h1 h2
    simp only [pc]
    omega
theorem ps_wds (f g : Nat → Int) (n : Nat) : Wds (ps f g) n := fun i _ => by unfold ps W64; omega
theorem ps_Q (f g : Nat → Int) : ∀ k, Q (ps f g) k + pc f g k * 18446744073709551616 ^ k = Q f k + Q g k
  | 0 => by simp [Q, pc]
  | k + 1 => by
    have ih := ps_Q f g k
    have e : pc f g (k + 1) * 18446744073709551616 ^ (k + 1) = 18446744073709551616 * pc f g (k + 1) * 18446744073709551616 ^ k := by rw [p64s, ← Int.mul_assoc, Int.mul_comm (pc f g (k + 1)) 18446744073709551616]
    have e2 : ps f g k = f k + g k + pc f g k - 18446744073709551616 * pc f g (k + 1) := by
      simp only [ps, pc]
      omega
    simp only [Q]
    rw [e, e2, Int.sub_mul, Int.add_mul, Int.add_mul]
    omega

/-- The borrow from word k. -/
def br (f g : Nat → Int) : Nat → Int
  | 0 => 0
  | k + 1 => if f k < g k + br f g k then 1 else 0
def ms (f g : Nat → Int) : Nat → Int := fun k => (f k - g k - br f g k) % 18446744073709551616
theorem br_bd (f g : Nat → Int) : ∀ k, 0 ≤ br f g k ∧ br f g k ≤ 1
  | 0 => by simp [br]
  | k + 1 => by
    simp only [br]
    split <;> omega
theorem ms_wds (f g : Nat → Int) (n : Nat) : Wds (ms f g) n := fun i _ => by unfold ms W64; omega
theorem ms_Q {f g : Nat → Int} (hf : Wds f 4) (hg : Wds g 4) : ∀ k, k ≤ 4 → Q (ms f g) k - br f g k * 18446744073709551616 ^ k = Q f k - Q g k
  | 0, _ => by simp [Q, br]
  | k + 1, h => by
    have ih := ms_Q hf hg k (by omega)
    have h1 := hf k (by omega)
    have h2 := hg k (by omega)
    have h3 := br_bd f g k
    unfold W64 at h1 h2
    have e : br f g (k + 1) * 18446744073709551616 ^ (k + 1) = 18446744073709551616 * br f g (k + 1) * 18446744073709551616 ^ k := by rw [p64s, ← Int.mul_assoc, Int.mul_comm (br f g (k + 1)) 18446744073709551616]
    have e2 : ms f g k = f k - g k - br f g k + 18446744073709551616 * br f g (k + 1) := by
      simp only [ms, br]
      split <;> omega
    simp only [Q]
    rw [e, e2, Int.add_mul, Int.sub_mul, Int.sub_mul]
    omega

/-- The words of a number. -/
def d64 (N : Int) : Nat → Int := fun i => N / 18446744073709551616 ^ i % 18446744073709551616
theorem d64_wds (N : Int) (n : Nat) : Wds (d64 N) n := fun i _ => by unfold d64 W64; omega
theorem d64_Q (N : Int) (h0 : 0 ≤ N) : ∀ n, Q (d64 N) n = N % 18446744073709551616 ^ n
  | 0 => by simp [Q, Int.emod_one]
  | n + 1 => by
    simp only [Q]
    rw [d64_Q N h0 n, d64, Int.pow_succ]
    have hp := p64 n
    have e1 := Int.emod_add_mul_ediv N (18446744073709551616 ^ n)
    have e2 := Int.emod_add_mul_ediv (N / 18446744073709551616 ^ n) 18446744073709551616
    rw [Int.emod_def N (18446744073709551616 ^ n * 18446744073709551616), ← Int.ediv_ediv_of_nonneg (by omega)]
    generalize N / 18446744073709551616 ^ n = A at *
    have e3 : A % 18446744073709551616 * 18446744073709551616 ^ n = A * 18446744073709551616 ^ n - 18446744073709551616 * (A / 18446744073709551616) * 18446744073709551616 ^ n := by
      rw [← Int.sub_mul]
      congr 1
      omega
    rw [e3]
    generalize A / 18446744073709551616 = B at *
    generalize (18446744073709551616 : Int) ^ n = X at *
    rw [Int.mul_comm A X, show 18446744073709551616 * B * X = X * 18446744073709551616 * B by rw [Int.mul_comm (18446744073709551616 * B) X, ← Int.mul_assoc]]
    omega
theorem Q_inj {f g : Nat → Int} : ∀ {n : Nat}, Wds f n → Wds g n → Q f n = Q g n → ∀ i, i < n → f i = g i
  | 0, _, _, _, i, hi => by omega
  | n + 1, hf, hg, h, i, hi => by
    have b1 := Q_bd (hf.le (m := n) (by omega))
    have b2 := Q_bd (hg.le (m := n) (by omega))
    have hp := p64 n
    simp only [Q] at h
    have hn : f n = g n := by
      generalize Q f n = a at *
      generalize Q g n = b at *
      generalize (18446744073709551616 : Int) ^ n = X at *
      have h2 : (f n - g n) * X = b - a := by rw [Int.sub_mul]; omega
      by_cases e : f n - g n = 0
      · omega
      · exfalso
        by_cases hl : 1 ≤ f n - g n
        · have : 1 * X ≤ (f n - g n) * X := Int.mul_le_mul_of_nonneg_right hl (by omega)
          omega
        · have : (f n - g n) * X ≤ (-1) * X := Int.mul_le_mul_of_nonneg_right (by omega) (by omega)
          omega
    by_cases hi2 : i = n
    · rw [hi2]; exact hn
    · exact Q_inj (n := n) (hf.le (by omega)) (hg.le (by omega)) (by rw [hn] at h; omega) i (by omega)

/-- Of the words f the first k have become those of r. -/
def upto (k : Nat) (r f : Nat → Int) : Nat → Int := fun i => if i < k then r i else f i
theorem upto_zero (r f : Nat → Int) (i : Nat) : f i = upto 0 r f i := by unfold upto; rw [if_neg (by omega)]
theorem upto_at (k : Nat) (r f : Nat → Int) : upto k r f k = f k := by unfold upto; rw [if_neg (by omega)]
theorem upto_end {n : Nat} (r f : Nat → Int) (i : Nat) (hi : i < n) : upto n r f i = r i := by unfold upto; rw [if_pos hi]
theorem upto_next (k : Nat) (r f : Nat → Int) {v : Int} (hv : r k = v) (i : Nat) : upd (upto k r f) k v i = upto (k + 1) r f i := by
  unfold upd upto
  by_cases h : i = k
  · subst h
    rw [if_pos rfl, if_pos (by omega), hv]
  · rw [if_neg h]
    by_cases h2 : i < k
    · rw [if_pos h2, if_pos (by omega)]
    · rw [if_neg h2, if_neg (by omega)]
theorem rowD {w : World} {g : Nat} {T : TypeId} {n : Nat} {f : Nat → Int} (h : Row w g T n f) : Row w.drew g T n f := h

theorem info25 (f : Nat → Int) : (Try.prog.info? 25).map (·.size) = some (arr 4 f).size := by rw [arr_size]; kernel_rfl
theorem info27 (f : Nat → Int) : (Try.prog.info? 27).map (·.size) = some (arr 4 f).size := by rw [arr_size]; kernel_rfl
theorem info52 (f : Nat → Int) : (Try.prog.info? 52).map (·.size) = some (arr 8 f).size := by rw [arr_size]; kernel_rfl

end Go.Proofs.Ytaaijicpdampiaa
