/- Numbers modulo a prime are the powers of one of them: shown by the factors of the prime without 1. -/
import Derived.Test.YtiiniodidkfbiaaArith
namespace Go.Proofs.Ytiiniodidkfbiaa

def IsP (p : Nat) : Prop := 1 < p ∧ ∀ d, d ∣ p → d = 1 ∨ d = p

/-- Powers modulo m, by squares; f bits. -/
def pmf (m : Nat) : Nat → Nat → Nat → Nat
  | 0, _, _ => 1 % m
  | f + 1, a, e => pmf m f (a * a % m) (e / 2) * a ^ (e % 2) % m

theorem pmf_eq (m : Nat) : ∀ (f a e : Nat), e < 2 ^ f → pmf m f a e = a ^ e % m
  | 0, a, e, h => by
    have : e = 0 := by simp at h; exact h
    subst this
    rfl
  | f + 1, a, e, h => by
    have h2 : e / 2 < 2 ^ f := by rw [Nat.pow_succ] at h; omega
    unfold pmf
    rw [pmf_eq m f _ _ h2, ← Nat.pow_mod, Nat.mod_mul_mod, ← Nat.pow_two, ← Nat.pow_mul, ← Nat.pow_add, show 2 * (e / 2) + e % 2 = e by omega]

theorem one_pow_mod {n x : Nat} (hn : 1 < n) (h : x % n = 1) (k : Nat) : x ^ k % n = 1 := by
  rw [Nat.pow_mod, h, Nat.one_pow, Nat.mod_eq_of_lt hn]

theorem mul_one_mod {n x y : Nat} (h : x % n = 1) : x * y % n = y % n := by
  rw [Nat.mul_mod, h, Nat.one_mul, Nat.mod_mod]

theorem pow_gcd {n g : Nat} (hn : 1 < n) (d e : Nat) : g ^ d % n = 1 → g ^ e % n = 1 → g ^ Nat.gcd d e % n = 1 := by
  induction d, e using Nat.gcd.induction with
  | H0 e => intro _ h; rwa [Nat.gcd_zero_left]
  | H1 d e _ ih =>
    intro h1 h2
    rw [Nat.gcd_rec]
    refine ih ?_ h1
    have e1 : g ^ e = (g ^ d) ^ (e / d) * g ^ (e % d) := by rw [← Nat.pow_mul, ← Nat.pow_add, Nat.div_add_mod]
    rw [e1, mul_one_mod (one_pow_mod hn h1 _)] at h2
    exact h2

def prod : List Nat → Nat
  | [] => 1
  | x :: l => x * prod l

theorem prod_coprime {m : Nat} : ∀ (l : List Nat), (∀ x ∈ l, Nat.Coprime x m) → Nat.Coprime (prod l) m
  | [], _ => Nat.coprime_one_left m
  | x :: l, h => Nat.Coprime.mul_left (h x (List.mem_cons_self)) (prod_coprime l fun y hy => h y (List.mem_cons_of_mem _ hy))

theorem divides_part {d N : Nat} (l : List Nat) (hl : ∀ x ∈ l, IsP x) (hN : prod l = N) (hd : d ∣ N) (hne : d ≠ N) : ∃ x ∈ l, d ∣ N / x := by
  obtain ⟨m, hm⟩ := hd
  by_cases h : ∃ x ∈ l, x ∣ m
  · obtain ⟨x, hx, y, hy⟩ := h
    refine ⟨x, hx, y, ?_⟩
    have hx0 : 0 < x := by have := (hl x hx).1; omega
    rw [hm, hy, Nat.mul_left_comm, Nat.mul_div_cancel_left _ hx0]
  · exfalso
    have hc : ∀ x ∈ l, Nat.Coprime x m := fun x hx => by
      rcases (hl x hx).2 _ (Nat.gcd_dvd_left x m) with h1 | h1
      · exact h1
      · exact absurd ⟨x, hx, h1 ▸ Nat.gcd_dvd_right x m⟩ h
    have hp := prod_coprime l hc
    rw [hN] at hp
    have : m ∣ Nat.gcd N m := Nat.dvd_gcd ⟨d, by rw [hm, Nat.mul_comm]⟩ (Nat.dvd_refl m)
    rw [hp] at this
    have m1 : m = 1 := Nat.dvd_one.1 this
    rw [m1, Nat.mul_one] at hm
    exact hne hm.symm

theorem pigeon : ∀ (n : Nat) (f : Nat → Nat), (∀ i, i < n → f i < n) → (∀ i j, i < n → j < n → f i = f j → i = j) → ∀ y, y < n → ∃ i, i < n ∧ f i = y
  | 0, _, _, _, y, hy => by omega
  | n + 1, f, hf, hi, y, hy => by
    by_cases hl : ∃ i, i < n ∧ f i = n
    · obtain ⟨i0, hi0, he0⟩ := hl
      have hfn : f n < n := by
        have h1 := hf n (by omega)
        have h2 : f n ≠ n := fun h => by
          have := hi n i0 (by omega) (by omega) (h.trans he0.symm)
          omega
        omega
      have ih := pigeon n (fun i => if i = i0 then f n else f i) (fun i h => by
        by_cases e : i = i0
        · simp only [e, if_true]; exact hfn
        · simp only [e, if_false]
          have h1 := hf i (by omega)
          have h2 : f i ≠ n := fun h3 => e (hi i i0 (by omega) (by omega) (h3.trans he0.symm))
          omega) (fun i j h1 h2 h3 => by
        by_cases e1 : i = i0
        · by_cases e2 : j = i0
          · omega
          · simp only [e1, e2, if_true, if_false] at h3
            have := hi n j (by omega) (by omega) h3
            omega
        · by_cases e2 : j = i0
          · simp only [e1, e2, if_true, if_false] at h3
            have := hi i n (by omega) (by omega) h3
            omega
          · simp only [e1, e2, if_false] at h3
            exact hi i j (by omega) (by omega) h3)
      by_cases hyn : y = n
      · exact ⟨i0, by omega, by omega⟩
      · obtain ⟨i, h1, h2⟩ := ih y (by omega)
        by_cases e : i = i0
        · simp only [e, if_true] at h2
          exact ⟨n, by omega, h2⟩
        · simp only [e, if_false] at h2
          exact ⟨i, by omega, h2⟩
    · have ih := pigeon n f (fun i h => by
        have h1 := hf i (by omega)
        have h2 : f i ≠ n := fun h3 => hl ⟨i, h, h3⟩
        omega) (fun i j h1 h2 h3 => hi i j (by omega) (by omega) h3)
      by_cases hfn : f n = n
      · by_cases hyn : y = n
        · exact ⟨n, by omega, by omega⟩
        · obtain ⟨i, h1, h2⟩ := ih y (by omega)
          exact ⟨i, by omega, h2⟩
      · obtain ⟨i, h1, h2⟩ := ih (f n) (by have := hf n (by omega); omega)
        have := hi i n (by omega) (by omega) h2
        omega

/-- Each number below n but 0 is a power of g. -/
structure Gen (n g : Nat) : Prop where
  gt : 1 < n
  per : g ^ (n - 1) % n = 1
  all : ∀ a, 0 < a → a < n → ∃ i, g ^ i % n = a

theorem gen_of {n g : Nat} (hn : 1 < n) (l : List Nat) (hl : ∀ x ∈ l, IsP x) (hN : prod l = n - 1) (hg : g ^ (n - 1) % n = 1) (ho : ∀ x ∈ l, g ^ ((n - 1) / x) % n ≠ 1) : Gen n g := by
  have hord : ∀ k, 0 < k → k < n - 1 → g ^ k % n ≠ 1 := by
    intro k h0 hk he
    have h1 := pow_gcd hn k (n - 1) he hg
    have h2 : Nat.gcd k (n - 1) ∣ n - 1 := Nat.gcd_dvd_right _ _
    have h3 : Nat.gcd k (n - 1) ≤ k := Nat.le_of_dvd h0 (Nat.gcd_dvd_left _ _)
    obtain ⟨x, hx, y, hy⟩ := divides_part l hl hN h2 (by omega)
    refine ho x hx ?_
    rw [hy, Nat.pow_mul]
    exact one_pow_mod hn h1 y
  have hinj : ∀ i j, i < j → j < n - 1 → g ^ i % n ≠ g ^ j % n := by
    intro i j hij hj he
    refine hord (j - i) (by omega) (by omega) ?_
    have e1 : g ^ i * g ^ (n - 1 - i) % n = 1 := by rw [← Nat.pow_add, show i + (n - 1 - i) = n - 1 by omega, hg]
    have e2 : g ^ j * g ^ (n - 1 - i) % n = g ^ (j - i) % n := by
      rw [← Nat.pow_add, show j + (n - 1 - i) = (n - 1) + (j - i) by omega, Nat.pow_add, mul_one_mod hg]
    rw [← e2, Nat.mul_mod, ← he, ← Nat.mul_mod, e1]
  have hpos : ∀ i, i < n - 1 → 0 < g ^ i % n := by
    intro i hi
    apply Nat.pos_of_ne_zero
    intro h0
    have e1 : g ^ i * g ^ (n - 1 - i) % n = 1 := by rw [← Nat.pow_add, show i + (n - 1 - i) = n - 1 by omega, hg]
    rw [Nat.mul_mod, h0, Nat.zero_mul, Nat.zero_mod] at e1
    cases e1
  refine ⟨hn, hg, fun a h0 ha => ?_⟩
  obtain ⟨i, h1, h2⟩ := pigeon (n - 1) (fun i => g ^ i % n - 1) (fun i hi => by
    have := hpos i hi
    have := Nat.mod_lt (g ^ i) (show 0 < n by omega)
    show g ^ i % n - 1 < n - 1
    omega) (fun i j hi hj he => by
    have h1 := hpos i hi
    have h2 := hpos j hj
    have he2 : g ^ i % n - 1 = g ^ j % n - 1 := he
    have he' : g ^ i % n = g ^ j % n := by omega
    by_cases e : i = j
    · exact e
    · exfalso
      by_cases hlt : i < j
      · exact hinj i j hlt hj he'
      · exact hinj j i (by omega) hi he'.symm) (a - 1) (by omega)
  refine ⟨i, ?_⟩
  have := hpos i h1
  have h3 : g ^ i % n - 1 = a - 1 := h2
  omega

theorem Gen.isP {n g : Nat} (h : Gen n g) : IsP n := by
  obtain ⟨hn, hg, ha⟩ := h
  refine ⟨hn, fun d hd => ?_⟩
  by_cases e : d = n
  · exact .inr e
  · left
    have hle := Nat.le_of_dvd (by omega) hd
    have h0 : 0 < d := Nat.pos_of_ne_zero fun h => by
      subst h
      have := Nat.eq_zero_of_zero_dvd hd
      omega
    obtain ⟨i, hi⟩ := ha d h0 (by omega)
    have e1 : g ^ i * g ^ ((n - 1) * (i + 1) - i) % n = 1 := by
      have h2 : i ≤ (n - 1) * (i + 1) := by
        have : 1 * (i + 1) ≤ (n - 1) * (i + 1) := Nat.mul_le_mul_right _ (by omega)
        omega
      rw [← Nat.pow_add, show i + ((n - 1) * (i + 1) - i) = (n - 1) * (i + 1) by omega, Nat.pow_mul]
      exact one_pow_mod hn hg _
    have e2 : d ∣ g ^ i * g ^ ((n - 1) * (i + 1) - i) := by
      refine Nat.dvd_trans ?_ (Nat.dvd_mul_right _ _)
      rw [← Nat.div_add_mod (g ^ i) n, hi]
      exact (Nat.dvd_add_right (Nat.dvd_trans hd (Nat.dvd_mul_right _ _))).2 (Nat.dvd_refl d)
    have e3 : d ∣ 1 := by
      rw [← e1]
      exact (Nat.dvd_mod_iff hd).2 e2
    exact Nat.dvd_one.1 e3

end Go.Proofs.Ytiiniodidkfbiaa
