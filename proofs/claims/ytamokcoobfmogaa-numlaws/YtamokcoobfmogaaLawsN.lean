/- Of numbers modulo the prime: powers, squares; just one of a number and twice it has a root. -/
import Derived.Test.YtamokcoobfmogaaInvN
import Derived.Test.YtamokcoobfmogaaPratt
namespace Go.Proofs.Ytamokcoobfmogaa

theorem cg_nat {a b : Nat} (h : a % pN = b % pN) : Cg (a : Int) (b : Int) := by
  refine Cg.of_emod ?_
  rw [← pN_P, ← Int.natCast_emod, ← Int.natCast_emod, h]

theorem cast_pow (i : Nat) : ((2 ^ i : Nat) : Int) = (2 : Int) ^ i := by simp

theorem genPN : Gen pN 2 := genP

theorem some_pow {A : Int} (h0 : 0 < A) (h1 : A < Pm) : ∃ i : Nat, Cg A ((2 : Int) ^ i) := by
  have hlt : A.toNat < pN := by have := pN_P; omega
  obtain ⟨i, hi⟩ := genPN.all A.toNat (by omega) hlt
  refine ⟨i, ?_⟩
  have h : Cg ((A.toNat : Nat) : Int) ((2 ^ i : Nat) : Int) := cg_nat (by rw [Nat.mod_eq_of_lt hlt]; exact hi.symm)
  rw [cast_pow] at h
  rwa [show ((A.toNat : Nat) : Int) = A by omega] at h

theorem two_full : Cg ((2 : Int) ^ (pN - 1)) 1 := by
  have h : Cg ((2 ^ (pN - 1) : Nat) : Int) ((1 : Nat) : Int) := cg_nat (by rw [show (1 : Nat) % pN = 1 by decide]; exact genPN.per)
  rw [cast_pow] at h
  exact h

/-- (p - 1) / 4 -/
def hN : Nat := 14474011154664524427946373126085988481658748083205070504932198000989141204987
theorem hN4 : 4 * hN = pN - 1 := by decide
theorem two_half : Cg ((2 : Int) ^ (2 * hN)) (-1) := by
  have e : pmf pN 255 2 (2 * hN) = pN - 1 := by decide +kernel
  rw [pmf_eq pN 255 2 _ (by decide)] at e
  have h : Cg ((2 ^ (2 * hN) : Nat) : Int) ((pN - 1 : Nat) : Int) := cg_nat (by rw [e]; decide)
  rw [cast_pow] at h
  refine h.trans ⟨1, ?_⟩
  decide

theorem Cg.pow_one {x : Int} (h : Cg x 1) (k : Nat) : Cg (x ^ k) 1 := by
  have := h.pow k
  rwa [Int.one_pow] at this

/-- Each number but 0, to the power of p - 1, is 1. -/
theorem fermat {A : Int} {i : Nat} (h : Cg A ((2 : Int) ^ i)) : Cg (A ^ (pN - 1)) 1 := by
  refine (h.pow _).trans ?_
  rw [← Int.pow_mul, Nat.mul_comm, Int.pow_mul]
  exact two_full.pow_one i

theorem neg_one_pow : ∀ k : Nat, ((-1 : Int) ^ k = 1 ∧ k % 2 = 0) ∨ ((-1 : Int) ^ k = -1 ∧ k % 2 = 1)
  | 0 => .inl ⟨rfl, rfl⟩
  | k + 1 => by
    rw [Int.pow_succ]
    rcases neg_one_pow k with ⟨h1, h2⟩ | ⟨h1, h2⟩
    · exact .inr ⟨by rw [h1]; rfl, by omega⟩
    · exact .inl ⟨by rw [h1]; rfl, by omega⟩

theorem quarter {A : Int} {i : Nat} (h : Cg A ((2 : Int) ^ i)) : (i % 2 = 0 ∧ (Cg (A ^ hN) 1 ∨ Cg (A ^ hN) (-1))) ∨ (i % 2 = 1 ∧ Cg (A ^ (2 * hN)) (-1)) := by
  by_cases hi : i % 2 = 0
  · left
    refine ⟨hi, ?_⟩
    obtain ⟨k, rfl⟩ : ∃ k, i = 2 * k := ⟨i / 2, by omega⟩
    have e : Cg (A ^ hN) ((-1) ^ k) := by
      refine (h.pow _).trans ?_
      rw [← Int.pow_mul, show 2 * k * hN = 2 * hN * k by rw [Nat.mul_assoc, Nat.mul_assoc, Nat.mul_comm k hN], Int.pow_mul]
      exact two_half.pow k
    rcases neg_one_pow k with ⟨h1, _⟩ | ⟨h1, _⟩
    · rw [h1] at e; exact .inl e
    · rw [h1] at e; exact .inr e
  · right
    refine ⟨by omega, ?_⟩
    have e : Cg (A ^ (2 * hN)) ((-1) ^ i) := by
      refine (h.pow _).trans ?_
      rw [← Int.pow_mul, Nat.mul_comm, Int.pow_mul]
      exact two_half.pow i
    rcases neg_one_pow i with ⟨_, h2⟩ | ⟨h1, _⟩
    · omega
    · rw [h1] at e; exact e

theorem sq_pow {A U : Int} (h : Cg U (A ^ (2 ^ 252 - 2))) : Cg (U * U) (A * A ^ hN) := by
  refine (h.mul h).trans (Cg.of_eq ?_)
  rw [← Int.pow_add, Int.mul_comm, ← Int.pow_succ]
  congr 1

theorem half_no {A U : Int} {i : Nat} (hA : Cg A ((2 : Int) ^ i)) (hU : Cg (U * U) (A * A ^ hN)) (hh : Cg (A ^ (2 * hN)) (-1)) (h : Cg ((U * U) * (U * U)) (A * A)) : False := by
  have e1 : Cg ((U * U) * (U * U)) (A * A * A ^ (2 * hN)) := by
    refine (hU.mul hU).trans (Cg.of_eq ?_)
    rw [Nat.two_mul, Int.pow_add, Int.mul_assoc, Int.mul_left_comm (A ^ hN) A, ← Int.mul_assoc]
  have e2 : Cg (A * A * A ^ (2 * hN)) (A * A * (-1)) := (Cg.refl _).mul hh
  have e3 : Cg (A * A) (A * A * (-1)) := h.symm.trans (e1.trans e2)
  have hf := fermat hA
  have e4 : A ^ (pN - 1) = A * A * A ^ (pN - 3) := by
    rw [show pN - 1 = pN - 3 + 1 + 1 by decide, Int.pow_succ, Int.pow_succ, Int.mul_assoc, Int.mul_comm]
  have e5 : Cg (A * A * A ^ (pN - 3)) (A * A * (-1) * A ^ (pN - 3)) := e3.mul (Cg.refl _)
  rw [show A * A * (-1) * A ^ (pN - 3) = - (A * A * A ^ (pN - 3)) by rw [Int.mul_neg, Int.mul_one, Int.neg_mul], ← e4] at e5
  have e6 : Cg 1 (-1) := hf.symm.trans (e5.trans hf.neg)
  have := e6.emod
  revert this
  decide

theorem rrF_has {A : Int} {i : Nat} (h0 : 0 ≤ A) (h1 : A < Pm) (h : Cg A ((2 : Int) ^ i)) : (rrF A).2 = decide (i % 2 = 0) := by
  have hU : Cg (pwm A (xbit 252 2) 252) (A ^ (2 ^ 252 - 2)) := by
    rw [← ex252]
    exact pwm_pow A _ 252
  have hUU := sq_pow hU
  unfold rrF
  generalize pwm A (xbit 252 2) 252 = U at *
  simp only
  have hVV : Cg ((U * rmo.n % Pm) * (U * rmo.n % Pm)) (- (U * U)) := by
    refine ((cg_emod _).mul (cg_emod _)).trans ?_
    have e : U * rmo.n * (U * rmo.n) = U * U * (rmo.n * rmo.n) := by rw [Int.mul_assoc, Int.mul_assoc, Int.mul_left_comm rmo.n U]
    rw [e]
    have := (Cg.refl (U * U)).mul rmo_sq
    rw [show U * U * -1 = -(U * U) by omega] at this
    exact this
  generalize U * rmo.n % Pm = V at *
  have hs : ∀ {B : Int}, Cg B A → B % Pm = A := fun hB => by rw [hB.emod, em_self ⟨h0, h1⟩]
  have hs2 : ∀ {B : Int}, B % Pm = A → Cg B A := fun hB => Cg.of_emod (by rw [hB, em_self ⟨h0, h1⟩])
  rcases quarter h with ⟨hi, hq | hq⟩ | ⟨hi, hq⟩
  · rw [if_pos (hs (hUU.trans (by have := (Cg.refl A).mul hq; rwa [Int.mul_one] at this)))]
    simp [hi]
  · rw [decide_eq_true hi]
    split
    · rfl
    · rw [if_pos (hs (hVV.trans (by
        have := (hUU.trans ((Cg.refl A).mul hq)).neg
        rwa [show -(A * -1) = A by omega] at this)))]
  · rw [decide_eq_false (by omega)]
    rw [if_neg (fun e => half_no h hUU hq ((hs2 e).mul (hs2 e))), if_neg (fun e => half_no h hUU hq (by
      have := (hVV.symm.trans (hs2 e)).neg
      rw [Int.neg_neg] at this
      have := this.mul this
      rwa [show -A * -A = A * A by rw [Int.neg_mul_neg]] at this))]

theorem rrF_root {A : Int} (h0 : 0 ≤ A) (h1 : A < Pm) (h : (rrF A).2 = true) : Cg ((rrF A).1 * (rrF A).1) A := by
  have hs2 : ∀ {B : Int}, B % Pm = A → Cg B A := fun hB => Cg.of_emod (by rw [hB, em_self ⟨h0, h1⟩])
  have hn : ∀ {U : Int}, Cg (U * U) A → Cg ((if U % 2 = 1 then (- U) % Pm else U) * (if U % 2 = 1 then (- U) % Pm else U)) A := fun {U} hU => by
    split
    · refine ((cg_emod _).mul (cg_emod _)).trans ?_
      rw [Int.neg_mul_neg]
      exact hU
    · exact hU
  unfold rrF at h ⊢
  simp only at h ⊢
  generalize pwm A (xbit 252 2) 252 = U at h ⊢
  generalize U * rmo.n % Pm = V at h ⊢
  by_cases e : U * U % Pm = A
  · rw [if_pos e]
    exact hn (hs2 e)
  · rw [if_neg e] at h ⊢
    by_cases e2 : V * V % Pm = A
    · rw [if_pos e2]
      exact hn (hs2 e2)
    · rw [if_neg e2] at h
      cases h

theorem rrF_even (A : Int) : (rrF A).1 % 2 = 0 := by
  have hn : ∀ {U : Int}, 0 ≤ U ∧ U < Pm → (if U % 2 = 1 then (- U) % Pm else U) % 2 = 0 := fun {U} hU => by
    split
    · rename_i e
      have : (- U) % Pm = Pm - U := by
        have e2 : Cg (- U) (Pm - U) := ⟨-1, by omega⟩
        rw [e2.emod, em_self ⟨by omega, by omega⟩]
      rw [this]
      have : Pm % 2 = 1 := by decide
      omega
    · omega
  unfold rrF
  simp only
  have h1 := pwm_bd A (xbit 252 2) 252
  generalize pwm A (xbit 252 2) 252 = U at h1 ⊢
  have h2 := em (U * rmo.n)
  generalize U * rmo.n % Pm = V at h2 ⊢
  by_cases e : U * U % Pm = A
  · rw [if_pos e]
    exact hn h1
  · rw [if_neg e]
    by_cases e2 : V * V % Pm = A
    · rw [if_pos e2]
      exact hn h2
    · rw [if_neg e2]
      rfl

theorem rrF_zero : rrF 0 = (0, true) := by
  have hU : pwm 0 (xbit 252 2) 252 = 0 := by
    have h := (pwm_pow 0 (xbit 252 2) 252).emod
    rw [em_self (pwm_bd _ _ _), ex252, Int.zero_pow (by decide)] at h
    exact h
  unfold rrF
  simp only [hU]
  decide

end Go.Proofs.Ytamokcoobfmogaa
