/- What the powers are as numbers: squares, and rows of bits that are all 1. -/
import Derived.Test.YtiiniodidkfbiaaRoot
namespace Go.Proofs.Ytiiniodidkfbiaa
open Go.RowKit

/-- y, squared n times. -/
def sqz (y : Int) : Nat → Int
  | 0 => y
  | n + 1 => sqz (y * y) n
/-- The power of n bits that are all 1. -/
def onz (x : Int) : Nat → Int
  | 0 => 1
  | k + 1 => onz x k * onz x k * x

theorem sqz_succ (n : Nat) : ∀ y, sqz y (n + 1) = sqz y n * sqz y n := by
  induction n with
  | zero => intro y; rfl
  | succ n ih => intro y; exact ih (y * y)

theorem onz_add (x : Int) (m : Nat) : ∀ k, onz x (m + k) = sqz (onz x m) k * onz x k
  | 0 => by simp [sqz, onz]
  | k + 1 => by
    have ih := onz_add x m k
    rw [← Nat.add_assoc]
    simp only [onz]
    rw [ih, sqz_succ]
    generalize sqz (onz x m) k = a
    generalize onz x k = b
    simp only [Int.mul_assoc, Int.mul_left_comm b a]

theorem sqz_cg {y z : Int} : ∀ {n : Nat}, Cg y z → Cg (sqz y n) (sqz z n) := by
  intro n
  induction n generalizing y z with
  | zero => intro h; exact h
  | succ n ih => intro h; exact ih (h.mul h)

theorem onz_cg {y z : Int} (h : Cg y z) : ∀ {n : Nat}, Cg (onz y n) (onz z n)
  | 0 => Cg.refl _
  | n + 1 => ((onz_cg h (n := n)).mul (onz_cg h (n := n))).mul h

theorem squaresF_n : ∀ (n : Nat) (x : E5), Cg (squaresF n x).n (sqz x.n n)
  | 0, _ => Cg.refl _
  | n + 1, x => (squaresF_n n (mulF x x)).trans (sqz_cg (mulF_n x x))

theorem onesF_n (x : E5) : ∀ (f n : Nat), n < 2 ^ f → Cg (onesF x f n).n (onz x.n n) := by
  intro f
  induction f with
  | zero =>
    intro n h
    have e : n = 0 := by omega
    subst e
    exact smallF_n 1
  | succ f ih =>
    intro n h
    unfold onesF
    by_cases h0 : n = 0
    · rw [if_pos h0]
      subst h0
      exact smallF_n 1
    · rw [if_neg h0]
      have hp : 2 ^ (f + 1) = 2 * 2 ^ f := by rw [Nat.pow_succ, Nat.mul_comm]
      have hh := ih (n / 2) (by omega)
      have he : Cg (mulF (squaresF (n / 2) (onesF x f (n / 2))) (onesF x f (n / 2))).n (onz x.n (n / 2 + n / 2)) := by
        rw [onz_add]
        exact (mulF_n _ _).trans (((squaresF_n _ _).trans (sqz_cg hh)).mul hh)
      by_cases h2 : n % 2 = 0
      · rw [if_pos h2]
        rw [show n / 2 + n / 2 = n by omega] at he
        exact he
      · rw [if_neg h2]
        refine (mulF_n _ _).trans ?_
        have e : onz x.n n = onz x.n (n / 2 + n / 2) * onz x.n (n / 2 + n / 2) * x.n := by
          rw [show onz x.n n = onz x.n (n / 2 + n / 2 + 1) by congr 1; omega]
          rfl
        rw [e]
        exact ((squaresF_n 1 _).trans (he.mul he)).mul (Cg.refl _)

theorem invF_n (x : E5) : Cg (invF x).n (sqz (onz x.n 250) 5 * sqz x.n 3 * onz x.n 2) := by
  unfold invF
  exact (mulF_n _ _).trans (((mulF_n _ _).trans (((squaresF_n 5 _).trans (sqz_cg (onesF_n x 8 250 (by decide)))).mul (squaresF_n 3 x))).mul (onesF_n x 8 2 (by decide)))

theorem rootR_n (x : E5) : Cg (rootR x).n (sqz (onz x.n 251) 1) := by
  unfold rootR
  exact (squaresF_n 1 _).trans (sqz_cg (onesF_n x 8 251 (by decide)))

/-- The same, modulo the prime, to be reckoned. -/
def pQ : Nat := 57896044618658097711785492504343953926634992332820282019728792003956564819948
abbrev pN : Nat := pQ + 1
def sqm (y : Nat) : Nat → Nat
  | 0 => y
  | n + 1 => sqm (y * y % pN) n
def onm (x : Nat) : Nat → Nat
  | 0 => 1
  | k + 1 => onm x k * onm x k % pN * x % pN

theorem pN_P : (pN : Int) = Pm := by decide
theorem cg_mod (a : Nat) : Cg ((a % pN : Nat) : Int) (a : Int) := by
  rw [Int.natCast_emod, pN_P]
  exact cg_emod _

theorem sqm_cg {y : Int} : ∀ {n a : Nat}, Cg y (a : Int) → Cg (sqz y n) (sqm a n : Int) := by
  intro n
  induction n generalizing y with
  | zero => intro a h; exact h
  | succ n ih =>
    intro a h
    refine ih ?_
    have h2 := h.mul h
    rw [← Int.natCast_mul] at h2
    exact h2.trans (cg_mod _).symm

theorem onm_cg {x : Int} {a : Nat} (h : Cg x (a : Int)) : ∀ {n : Nat}, Cg (onz x n) (onm a n : Int)
  | 0 => Cg.refl _
  | n + 1 => by
    have ih := onm_cg h (n := n)
    have h1 := ih.mul ih
    rw [← Int.natCast_mul] at h1
    have h2 := (h1.trans (cg_mod _).symm).mul h
    rw [← Int.natCast_mul] at h2
    exact h2.trans (cg_mod _).symm

theorem emod_of {x : Int} {a : Nat} (h : Cg x (a : Int)) : x % Pm = ((a % pN : Nat) : Int) := by
  rw [h.emod, Int.natCast_emod, pN_P]

end Go.Proofs.Ytiiniodidkfbiaa
