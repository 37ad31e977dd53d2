/- Numbers in parts of 16 bits. -/
import Derived.Test.YtnglfpekdedgfaaDoorB5
namespace Go.Proofs.YtnglfpekdedgfaaDoor
open Go.RowKit

theorem info40_ex : (Tryd.prog.info? 40).isSome = true := by kernel_rfl
theorem info40_eq : Tryd.prog.info? 40 = some ((Tryd.prog.info? 40).get info40_ex) := (Option.some_get info40_ex).symm
theorem info40_z : ((Tryd.prog.info? 40).get info40_ex).zero = some (.int .u64 0) := by kernel_rfl
/-- The m-th part. -/
def dg (A : Nat) : Nat → Int := fun m => ((A / 65536 ^ m % 65536 : Nat) : Int)
def nf (t : Nat → Nat) : Nat → Int := fun m => ((t m : Nat) : Int)
def valN (t : Nat → Nat) : Nat → Nat
  | 0 => 0
  | n + 1 => valN t n + t n * 65536 ^ n

theorem valN_upd_ge (t : Nat → Nat) (m v : Nat) : ∀ n, n ≤ m → valN (upd t m v) n = valN t n
  | 0, _ => rfl
  | n + 1, h => by
    unfold valN
    rw [valN_upd_ge t m v n (by omega)]
    simp only [upd]
    rw [if_neg (by omega)]
theorem valN_upd (t : Nat → Nat) (m d : Nat) : ∀ n, m < n → valN (upd t m (t m + d)) n = valN t n + d * 65536 ^ m
  | 0, h => absurd h (by omega)
  | n + 1, h => by
    unfold valN
    by_cases e : m = n
    · subst e
      rw [valN_upd_ge t m _ m (Nat.le_refl _)]
      simp only [upd, if_true]
      rw [Nat.add_mul]
      omega
    · rw [valN_upd t m d n (by omega)]
      simp only [upd]
      rw [if_neg (by omega)]
      omega
theorem valN_split (t : Nat → Nat) (m : Nat) : ∀ n, m ≤ n → ∃ r, valN t n = valN t m + 65536 ^ m * r
  | n, h => by
    obtain ⟨k, rfl⟩ : ∃ k, n = m + k := ⟨n - m, by omega⟩
    clear h
    induction k with
    | zero => exact ⟨0, by simp⟩
    | succ k ih =>
      obtain ⟨r, hr⟩ := ih
      refine ⟨r + 65536 ^ k * t (m + k), ?_⟩
      show valN t (m + k) + t (m + k) * 65536 ^ (m + k) = _
      rw [hr, Nat.pow_add, Nat.mul_add, Nat.add_assoc, Nat.mul_comm (t (m + k)), Nat.mul_assoc]
/-- The parts below the 16th hang on the number modulo 2^256 alone. -/
theorem part_mod (V m : Nat) (h : m < 16) : V % 65536 ^ 16 / 65536 ^ m % 65536 = V / 65536 ^ m % 65536 := by
  have e : (65536 : Nat) ^ 16 = 65536 ^ m * 65536 ^ (16 - m) := by rw [← Nat.pow_add]; congr 1; omega
  rw [e, Nat.mod_mul_right_div_self]
  exact Nat.mod_mod_of_dvd _ (by
    obtain ⟨k, hk⟩ : ∃ k, 16 - m = k + 1 := ⟨15 - m, by omega⟩
    rw [hk, Nat.pow_succ]
    exact Nat.dvd_mul_left _ _)
theorem row_step (A B V i : Nat) (hi : i < 16) (h : V % 65536 ^ 16 = (A % 65536 ^ i * B) % 65536 ^ 16) :
    (V + A / 65536 ^ i % 65536 * 65536 ^ i * (B % 65536 ^ (16 - i))) % 65536 ^ 16 = (A % 65536 ^ (i + 1) * B) % 65536 ^ 16 := by
  have e : (65536 : Nat) ^ 16 = 65536 ^ i * 65536 ^ (16 - i) := by rw [← Nat.pow_add]; congr 1; omega
  have e2 : 65536 ^ i * (B % 65536 ^ (16 - i)) = (65536 ^ i * B) % 65536 ^ 16 := by rw [e, Nat.mul_mod_mul_left]
  have hA : A % 65536 ^ (i + 1) = A % 65536 ^ i + 65536 ^ i * (A / 65536 ^ i % 65536) := Nat.mod_pow_succ
  rw [Nat.mul_assoc, e2, hA]
  clear hA e2 e
  generalize (65536 : Nat) ^ 16 = M at *
  generalize (65536 : Nat) ^ i = P at *
  generalize A / P % 65536 = a at *
  generalize A % P = A' at *
  have k1 : (a * (P * B % M)) % M = (a * (P * B)) % M := by
    conv => lhs; rw [Nat.mul_mod, Nat.mod_mod, ← Nat.mul_mod]
  rw [Nat.add_mod, h, k1, ← Nat.add_mod, Nat.add_mul, Nat.mul_comm P a, Nat.mul_assoc]
theorem bit16 (n : Nat) (h : n < 18446744073709551616) : un (n : Int) 65535 = ((n % 65536 : Nat) : Int) := by
  unfold un
  have e1 : BitVec.ofInt 64 (n : Int) = BitVec.ofNat 64 n := by simp
  have e2 : BitVec.ofInt 64 65535 = BitVec.ofNat 64 65535 := by decide
  rw [e1, e2, BitVec.toNat_and, BitVec.toNat_ofNat, BitVec.toNat_ofNat, Nat.mod_eq_of_lt (by simpa using h), show 65535 % 2 ^ 64 = 2 ^ 16 - 1 by decide, Nat.and_two_pow_sub_one_eq_mod]
  have : n % 2 ^ 16 < 65536 := Nat.mod_lt _ (by decide)
  simp [IntKind.wrap, IntKind.signed, IntKind.bits]
  omega
theorem ua_nat (a b : Nat) (h : a + b < 18446744073709551616) : ua (a : Int) (b : Int) = ((a + b : Nat) : Int) := by
  rw [ua_eq]
  omega
theorem um_nat (a b : Nat) (h : a * b < 18446744073709551616) : um (a : Int) (b : Int) = ((a * b : Nat) : Int) := by
  unfold um
  rw [← Int.natCast_mul]
  simp [IntKind.wrap, IntKind.signed, IntKind.bits]
  omega
theorem sr_nat (a n : Nat) : sr (a : Int) n = ((a / 2 ^ n : Nat) : Int) := by
  unfold sr
  rw [Int.fdiv_eq_ediv_of_nonneg _ (Int.le_of_lt (Int.pow_pos (by decide)))]
  simp
theorem dg_lt (A m : Nat) : A / 65536 ^ m % 65536 < 65536 := Nat.mod_lt _ (by decide)
theorem dg_mul_lt (A B i k : Nat) : A / 65536 ^ i % 65536 * (B / 65536 ^ k % 65536) ≤ 4294967296 :=
  Nat.le_trans (Nat.mul_le_mul (Nat.le_of_lt (dg_lt A i)) (Nat.le_of_lt (dg_lt B k))) (by decide)

end Go.Proofs.YtnglfpekdedgfaaDoor
