/- The document's powers are the program's: both are powers with one exponent; so are the roots. -/
import Derived.Test.YtamokcoobfmogaaRroot
import Derived.Test.YtamokcoobfmogaaAlive0
namespace Go.Proofs.Ytamokcoobfmogaa
open Go.RowKit

theorem Cg.pow {x y : Int} (h : Cg x y) : ∀ n : Nat, Cg (x ^ n) (y ^ n)
  | 0 => by rw [Int.pow_zero, Int.pow_zero]; exact Cg.refl _
  | n + 1 => by
    rw [Int.pow_succ, Int.pow_succ]
    exact (Cg.pow h n).mul h

theorem sqz_pow : ∀ (n : Nat) (y : Int), sqz y n = y ^ (2 ^ n)
  | 0, y => by simp [sqz, Int.pow_succ]
  | n + 1, y => by
    unfold sqz
    rw [sqz_pow n, Nat.pow_succ, Nat.mul_comm, Int.pow_mul, Int.pow_succ, Int.pow_succ, Int.pow_zero, Int.one_mul]

theorem onz_pow (x : Int) : ∀ n : Nat, onz x n = x ^ (2 ^ n - 1)
  | 0 => by simp [onz]
  | n + 1 => by
    have hp : 0 < 2 ^ n := Nat.two_pow_pos n
    unfold onz
    rw [onz_pow x n, ← Int.pow_add, ← Int.pow_succ]
    congr 1
    rw [Nat.pow_succ]
    omega

/-- The exponent that n bits are. -/
def exf (f : Nat → Bool) : Nat → Nat
  | 0 => 0
  | i + 1 => 2 * exf f i + (f i).toNat

theorem pwm_pow (x : Int) (f : Nat → Bool) : ∀ i, Cg (pwm x f i) (x ^ exf f i)
  | 0 => by simp [pwm, exf]; exact Cg.refl _
  | i + 1 => by
    have ih := pwm_pow x f i
    have h2 : Cg (pwm x f i * pwm x f i % Pm) (x ^ (2 * exf f i)) := by
      refine (cg_emod _).trans ?_
      rw [Nat.two_mul, Int.pow_add]
      exact ih.mul ih
    unfold pwm exf
    cases hf : f i
    · rw [if_neg (by simp)]
      exact h2
    · rw [if_pos rfl]
      refine (cg_emod _).trans ?_
      rw [Bool.toNat_true, Int.pow_succ]
      exact h2.mul (Cg.refl x)

theorem ex255 : exf (xbit 255 21) 255 = 2 ^ 255 - 21 := by decide +kernel
theorem ex252 : exf (xbit 252 2) 252 = 2 ^ 252 - 2 := by decide +kernel
theorem ex253 : exf (xbit 253 5) 253 = 2 ^ 253 - 5 := by decide +kernel

theorem invF_pow (x : E5) : Cg (invF x).n (x.n ^ (2 ^ 255 - 21)) := by
  refine (invF_n x).trans (Cg.of_eq ?_)
  rw [sqz_pow, sqz_pow, onz_pow, onz_pow, ← Int.pow_mul, ← Int.pow_add, ← Int.pow_add]

theorem rootR_pow (x : E5) : Cg (rootR x).n (x.n ^ (2 ^ 252 - 2)) := by
  refine (rootR_n x).trans (Cg.of_eq ?_)
  rw [sqz_pow, onz_pow, ← Int.pow_mul]

/-- 2 to the power of (p - 1) / 4 is the program's root of -1. -/
theorem rmo_pow : pwm 2 (xbit 253 5) 253 = rmo.n := by decide +kernel
theorem rmo_sq : Cg (rmo.n * rmo.n) (-1) := Cg.of_emod (by decide +kernel)

theorem rinv_val {x : E5} {A : Int} (h : Cg x.n A) : Cg (invF x).n (pwm A (xbit 255 21) 255) := by
  refine (invF_pow x).trans ((h.pow _).trans ?_)
  rw [← ex255]
  exact (pwm_pow A _ 255).symm

theorem oddC (N : Int) : par (d16 N) = (N % 2 == 1) := by
  unfold par
  have hd := d16_dig N 1 0 (by omega)
  rw [u64_and _ 1 hd.1 (by omega) (by decide) (by decide), show (1 : Int).toNat = 1 from rfl, nat_mask1]
  have e : d16 N 0 = N % 65536 := by simp [d16]
  rw [e]
  have : (((N % 65536).toNat % 2 : Nat) : Int) = N % 2 := by omega
  rw [this]

theorem eqA {M : Int} {a : Nat → Int} (ha : Dig a 16) : eqw (d16 (M % Pm)) a 0 16 = (M % Pm == S a 16) := by
  rw [Bool.eq_iff_iff, eqw_iff, beq_iff_eq]
  constructor
  · intro h
    rw [← dS M]
    exact S_congr fun i hi => h i (by omega) (by omega)
  · intro h i _ hi
    exact S_inj (d16_dig _ 16) ha (by rw [dS]; exact h) i (by omega)

theorem em (M : Int) : 0 ≤ M % Pm ∧ M % Pm < Pm := ⟨Int.emod_nonneg M (by decide), Int.emod_lt_of_pos M Pm_pos⟩
theorem em_self {M : Int} (h : 0 ≤ M ∧ M < Pm) : M % Pm = M := Int.emod_eq_of_lt h.1 h.2

/-- The document's answer for the root of a number, as a number. -/
def rrF (A : Int) : Int × Bool :=
  let U := pwm A (xbit 252 2) 252
  let V := U * rmo.n % Pm
  if U * U % Pm = A then (if U % 2 = 1 then (- U) % Pm else U, true) else if V * V % Pm = A then (if V % 2 = 1 then (- V) % Pm else V, true) else (0, false)

theorem rrF_bd (A : Int) : 0 ≤ (rrF A).1 ∧ (rrF A).1 < Pm := by
  unfold rrF
  have h1 := pwm_bd A (xbit 252 2) 252
  have h2 := em (pwm A (xbit 252 2) 252 * rmo.n)
  simp only
  generalize pwm A (xbit 252 2) 252 = U at h1 h2 ⊢
  generalize U * rmo.n % Pm = V at h2 ⊢
  have hn : ∀ {U : Int}, 0 ≤ U ∧ U < Pm → 0 ≤ (if U % 2 = 1 then (- U) % Pm else U) ∧ (if U % 2 = 1 then (- U) % Pm else U) < Pm := fun {U} hU => by
    split
    · exact em _
    · exact hU
  by_cases e : U * U % Pm = A
  · rw [if_pos e]
    exact hn h1
  · rw [if_neg e]
    by_cases e2 : V * V % Pm = A
    · rw [if_pos e2]
      exact hn h2
    · rw [if_neg e2]
      exact ⟨Int.le_refl 0, Pm_pos⟩

theorem odd_fix {y : E5} {U : Int} (hU : 0 ≤ U ∧ U < Pm) (h : Cg y.n U) : (if y.n % Pm % 2 == 1 then negF y else y).n % Pm = if U % 2 = 1 then (- U) % Pm else U := by
  have e : y.n % Pm = U := by rw [h.emod, em_self hU]
  rw [e]
  by_cases h2 : U % 2 = 1
  · rw [if_pos h2, if_pos (by simp [h2]), ((negF_n y).trans h.neg).emod]
  · rw [if_neg h2, if_neg (by simp [h2]), e]

theorem root_val {x : E5} {A : Int} (hA : 0 ≤ A ∧ A < Pm) (h : Cg x.n A) : (rootF x).2 = (rrF A).2 ∧ (rootF x).1.n % Pm = (rrF A).1 := by
  have hr : Cg (rootR x).n (pwm A (xbit 252 2) 252) := by
    refine (rootR_pow x).trans ((h.pow _).trans ?_)
    rw [← ex252]
    exact (pwm_pow A _ 252).symm
  have hU := pwm_bd A (xbit 252 2) 252
  have hx : x.n % Pm = A := by rw [h.emod, em_self hA]
  unfold rootF rrF anyRootF
  generalize pwm A (xbit 252 2) 252 = U at *
  generalize rootR x = r at *
  have hrr : (mulF r r).n % Pm = U * U % Pm := ((mulF_n r r).trans (hr.mul hr)).emod
  have hV := em (U * rmo.n)
  have hrm : Cg (mulF r rmo).n (U * rmo.n % Pm) := ((mulF_n r rmo).trans (hr.mul (Cg.refl _))).trans (cg_emod _).symm
  have hVV : Cg ((U * rmo.n % Pm) * (U * rmo.n % Pm)) (- (U * U)) := by
    refine ((cg_emod _).mul (cg_emod _)).trans ?_
    have e : U * rmo.n * (U * rmo.n) = U * U * (rmo.n * rmo.n) := by rw [Int.mul_assoc, Int.mul_assoc, Int.mul_left_comm rmo.n U]
    rw [e]
    have := (Cg.refl (U * U)).mul rmo_sq
    rw [show U * U * -1 = -(U * U) by omega] at this
    exact this
  have hng : (negF x).n % Pm = (- A) % Pm := ((negF_n x).trans h.neg).emod
  simp only
  generalize U * rmo.n % Pm = V at *
  rw [hrr, hx, hng]
  by_cases h1 : U * U % Pm = A
  · rw [if_pos h1]
    have b1 : (U * U % Pm == A) = true := by simp [h1]
    rw [b1]
    exact ⟨rfl, odd_fix hU hr⟩
  · have b1 : (U * U % Pm == A) = false := by simp [h1]
    rw [if_neg h1, b1]
    by_cases h2 : V * V % Pm = A
    · have b2 : (U * U % Pm == (- A) % Pm) = true := by
        rw [beq_iff_eq]
        have := (Cg.of_emod (h2.trans (em_self hA).symm)).symm.trans hVV
        have := this.neg
        rw [Int.neg_neg] at this
        exact this.symm.emod
      rw [if_pos h2, b2]
      exact ⟨rfl, odd_fix hV hrm⟩
    · have b2 : (U * U % Pm == (- A) % Pm) = false := by
        rw [beq_eq_false_iff_ne]
        intro e
        apply h2
        have := (Cg.of_emod e).neg
        rw [Int.neg_neg] at this
        rw [(hVV.trans this).emod, em_self hA]
      rw [if_neg h2, b2]
      refine ⟨rfl, ?_⟩
      show (if zeroE.n % Pm % 2 == 1 then negF zeroE else zeroE).n % Pm = 0
      decide

theorem S_d2 : S (d16 2) 16 = 2 := bS ⟨by decide, by decide⟩

theorem rroot_any (a : Nat → Int) (w : World) (ha : Dig a 16) :
    Calls Try.prog 28 #[.agg (arr 16 a)] w fun r w' => r = .returned (.tuple #[.agg (arr 16 (d16 (rrF (S a 16)).1)), .bool (rrF (S a 16)).2]) ∧ Below w.heap.size w w' := by
  have hU := pwm_bd (S a 16) (xbit 252 2) 252
  have hI : S (d16 (pwm 2 (xbit 253 5) 253)) 16 = rmo.n := by rw [bS (pwm_bd _ _ _), rmo_pow]
  have sU := bS hU
  have sV : S (d16 (S (d16 (pwm (S a 16) (xbit 252 2) 252)) 16 * S (d16 (pwm 2 (xbit 253 5) 253)) 16 % Pm)) 16 = pwm (S a 16) (xbit 252 2) 252 * rmo.n % Pm := by rw [dS, sU, hI]
  have H := rroot_gen a (d16 (pwm (S a 16) (xbit 252 2) 252)) (d16 (pwm 2 (xbit 253 5) 253)) (d16 (S (d16 (pwm (S a 16) (xbit 252 2) 252)) 16 * S (d16 (pwm 2 (xbit 253 5) 253)) 16 % Pm)) _ _ _ _ w
    ⟨fun w b h => power_any a 252 _ b w ha h (by decide), fun w b h => by
      have := power_any (d16 2) 253 _ b w (d16_dig _ 16) h (by decide)
      rwa [S_d2] at this, fun w => rmul_any _ _ w (d16_dig _ 16) (d16_dig _ 16), fun w => rmul_any _ _ w (d16_dig _ 16) (d16_dig _ 16), fun w => rmul_any _ _ w (d16_dig _ 16) (d16_dig _ 16), fun w => rneg_any _ w (d16_dig _ 16) (by rw [sU]; exact hU.2), fun w => rneg_any _ w (d16_dig _ 16) (by rw [sV]; exact (em _).2)⟩
  rw [sV, hI, sU] at H
  have e : rrG a (d16 (pwm (S a 16) (xbit 252 2) 252)) (d16 (pwm (S a 16) (xbit 252 2) 252 * rmo.n % Pm)) (d16 (pwm (S a 16) (xbit 252 2) 252 * pwm (S a 16) (xbit 252 2) 252 % Pm)) (d16 (pwm (S a 16) (xbit 252 2) 252 * rmo.n % Pm * (pwm (S a 16) (xbit 252 2) 252 * rmo.n % Pm) % Pm)) (d16 (-pwm (S a 16) (xbit 252 2) 252 % Pm)) (d16 (-(pwm (S a 16) (xbit 252 2) 252 * rmo.n % Pm) % Pm)) = (d16 (rrF (S a 16)).1, (rrF (S a 16)).2) := by
    unfold rrG rrF
    rw [eqA ha, eqA ha, oddC, oddC]
    simp only [beq_iff_eq]
    generalize pwm (S a 16) (xbit 252 2) 252 = U
    generalize U * rmo.n % Pm = V
    by_cases h1 : U * U % Pm = S a 16
    · rw [if_pos h1, if_pos h1]
      by_cases h2 : U % 2 = 1
      · rw [if_pos h2, if_pos h2]
      · rw [if_neg h2, if_neg h2]
    · rw [if_neg h1, if_neg h1]
      by_cases h3 : V * V % Pm = S a 16
      · rw [if_pos h3, if_pos h3]
        by_cases h2 : V % 2 = 1
        · rw [if_pos h2, if_pos h2]
        · rw [if_neg h2, if_neg h2]
      · rw [if_neg h3, if_neg h3]
        exact Prod.ext (funext fun i => by simp [d16]) rfl
  simp only [e] at H
  exact H

end Go.Proofs.Ytamokcoobfmogaa
