/- The document's powers are the program's: both are powers with one exponent; so are the roots. -/
import Derived.Test.YtiiniodidkfbiaaPowN
import Derived.Test.YtiiniodidkfbiaaRinv
namespace Go.Proofs.Ytiiniodidkfbiaa
open Go.RowKit

theorem Cg.pow {x y : Int} (h : Cg x y) : ∀ n : Nat, Cg (x ^ n) (y ^ n)
  | 0 => by rw [Int.pow_zero, Int.pow_zero]; exact Cg.refl _
  | n + 1 => by
    rw [Int.pow_succ, Int.pow_succ]
    exact (Cg.pow h n).mul h

theorem sqz_pow : ∀ (n : Nat) (y : Int), sqz y n = y ^ (2 ^ n)
  | 0, y => by simp [sqz, Int.pow_succ]
  | n + 1, y => by
    unfold sqz
    rw [sqz_pow n, Nat.pow_succ, Nat.mul_comm, Int.pow_mul, Int.pow_succ, Int.pow_succ, Int.pow_zero, Int.one_mul]

theorem onz_pow (x : Int) : ∀ n : Nat, onz x n = x ^ (2 ^ n - 1)
  | 0 => by simp [onz]
  | n + 1 => by
    have hp : 0 < 2 ^ n := Nat.two_pow_pos n
    unfold onz
    rw [onz_pow x n, ← Int.pow_add, ← Int.pow_succ]
    congr 1
    rw [Nat.pow_succ]
    omega

/-- The exponent that n bits are. -/
def exf (f : Nat → Bool) : Nat → Nat
  | 0 => 0
  | i + 1 => 2 * exf f i + (f i).toNat

theorem pwm_pow (x : Int) (f : Nat → Bool) : ∀ i, Cg (pwm x f i) (x ^ exf f i)
  | 0 => by simp [pwm, exf]; exact Cg.refl _
  | i + 1 => by
    have ih := pwm_pow x f i
    have h2 : Cg (pwm x f i * pwm x f i % Pm) (x ^ (2 * exf f i)) := by
      refine (cg_emod _).trans ?_
      rw [Nat.two_mul, Int.pow_add]
      exact ih.mul ih
    unfold pwm exf
    cases hf : f i
    · rw [if_neg (by simp)]
      exact h2
    · rw [if_pos rfl]
      refine (cg_emod _).trans ?_
      rw [Bool.toNat_true, Int.pow_succ]
      exact h2.mul (Cg.refl x)

theorem ex255 : exf (xbit 255 21) 255 = 2 ^ 255 - 21 := by decide +kernel
theorem invF_pow (x : E5) : Cg (invF x).n (x.n ^ (2 ^ 255 - 21)) := by
  refine (invF_n x).trans (Cg.of_eq ?_)
  rw [sqz_pow, sqz_pow, onz_pow, onz_pow, ← Int.pow_mul, ← Int.pow_add, ← Int.pow_add]

theorem rinv_val {x : E5} {A : Int} (h : Cg x.n A) : Cg (invF x).n (pwm A (xbit 255 21) 255) := by
  refine (invF_pow x).trans ((h.pow _).trans ?_)
  rw [← ex255]
  exact (pwm_pow A _ 255).symm

end Go.Proofs.Ytiiniodidkfbiaa
