/- Numbers modulo a prime are the powers of one of them: shown by the factors of the prime without 1.
   2^255 - 19 is a prime, and each number modulo it but 0 is a power of 2. The order of the base point is a prime. -/
import Derived.Test.YtiiniodidkfbiaaArith
namespace Go.Proofs.Ytiiniodidkfbiaa

def IsP (p : Nat) : Prop := 1 < p ∧ ∀ d, d ∣ p → d = 1 ∨ d = p

/-- Powers modulo m, by squares; f bits. -/
def pmf (m : Nat) : Nat → Nat → Nat → Nat
  | 0, _, _ => 1 % m
  | f + 1, a, e => pmf m f (a * a % m) (e / 2) * a ^ (e % 2) % m

theorem pmf_eq (m : Nat) : ∀ (f a e : Nat), e < 2 ^ f → pmf m f a e = a ^ e % m
  | 0, a, e, h => by
    have : e = 0 := by simp at h; exact h
    subst this
    rfl
  | f + 1, a, e, h => by
    have h2 : e / 2 < 2 ^ f := by rw [Nat.pow_succ] at h; omega
    unfold pmf
    rw [pmf_eq m f _ _ h2, ← Nat.pow_mod, Nat.mod_mul_mod, ← Nat.pow_two, ← Nat.pow_mul, ← Nat.pow_add, show 2 * (e / 2) + e % 2 = e by omega]

theorem one_pow_mod {n x : Nat} (hn : 1 < n) (h : x % n = 1) (k : Nat) : x ^ k % n = 1 := by
  rw [Nat.pow_mod, h, Nat.one_pow, Nat.mod_eq_of_lt hn]

theorem mul_one_mod {n x y : Nat} (h : x % n = 1) : x * y % n = y % n := by
  rw [Nat.mul_mod, h, Nat.one_mul, Nat.mod_mod]

theorem pow_gcd {n g : Nat} (hn : 1 < n) (d e : Nat) : g ^ d % n = 1 → g ^ e % n = 1 → g ^ Nat.gcd d e % n = 1 := by
  induction d, e using Nat.gcd.induction with
  | H0 e => intro _ h; rwa [Nat.gcd_zero_left]
  | H1 d e _ ih =>
    intro h1 h2
    rw [Nat.gcd_rec]
    refine ih ?_ h1
    have e1 : g ^ e = (g ^ d) ^ (e / d) * g ^ (e % d) := by rw [← Nat.pow_mul, ← Nat.pow_add, Nat.div_add_mod]
    rw [e1, mul_one_mod (one_pow_mod hn h1 _)] at h2
    exact h2

def prod : List Nat → Nat
  | [] => 1
  | x :: l => x * prod l

theorem prod_coprime {m : Nat} : ∀ (l : List Nat), (∀ x ∈ l, Nat.Coprime x m) → Nat.Coprime (prod l) m
  | [], _ => Nat.coprime_one_left m
  | x :: l, h => Nat.Coprime.mul_left (h x (List.mem_cons_self)) (prod_coprime l fun y hy => h y (List.mem_cons_of_mem _ hy))

theorem divides_part {d N : Nat} (l : List Nat) (hl : ∀ x ∈ l, IsP x) (hN : prod l = N) (hd : d ∣ N) (hne : d ≠ N) : ∃ x ∈ l, d ∣ N / x := by
  obtain ⟨m, hm⟩ := hd
  by_cases h : ∃ x ∈ l, x ∣ m
  · obtain ⟨x, hx, y, hy⟩ := h
    refine ⟨x, hx, y, ?_⟩
    have hx0 : 0 < x := by have := (hl x hx).1; omega
    rw [hm, hy, Nat.mul_left_comm, Nat.mul_div_cancel_left _ hx0]
  · exfalso
    have hc : ∀ x ∈ l, Nat.Coprime x m := fun x hx => by
      rcases (hl x hx).2 _ (Nat.gcd_dvd_left x m) with h1 | h1
      · exact h1
      · exact absurd ⟨x, hx, h1 ▸ Nat.gcd_dvd_right x m⟩ h
    have hp := prod_coprime l hc
    rw [hN] at hp
    have : m ∣ Nat.gcd N m := Nat.dvd_gcd ⟨d, by rw [hm, Nat.mul_comm]⟩ (Nat.dvd_refl m)
    rw [hp] at this
    have m1 : m = 1 := Nat.dvd_one.1 this
    rw [m1, Nat.mul_one] at hm
    exact hne hm.symm

theorem pigeon : ∀ (n : Nat) (f : Nat → Nat), (∀ i, i < n → f i < n) → (∀ i j, i < n → j < n → f i = f j → i = j) → ∀ y, y < n → ∃ i, i < n ∧ f i = y
  | 0, _, _, _, y, hy => by omega
  | n + 1, f, hf, hi, y, hy => by
    by_cases hl : ∃ i, i < n ∧ f i = n
    · obtain ⟨i0, hi0, he0⟩ := hl
      have hfn : f n < n := by
        have h1 := hf n (by omega)
        have h2 : f n ≠ n := fun h => by
          have := hi n i0 (by omega) (by omega) (h.trans he0.symm)
          omega
        omega
      have ih := pigeon n (fun i => if i = i0 then f n else f i) (fun i h => by
        by_cases e : i = i0
        · simp only [e, if_true]; exact hfn
        · simp only [e, if_false]
          have h1 := hf i (by omega)
          have h2 : f i ≠ n := fun h3 => e (hi i i0 (by omega) (by omega) (h3.trans he0.symm))
          omega) (fun i j h1 h2 h3 => by
        by_cases e1 : i = i0
        · by_cases e2 : j = i0
          · omega
          · simp only [e1, e2, if_true, if_false] at h3
            have := hi n j (by omega) (by omega) h3
            omega
        · by_cases e2 : j = i0
          · simp only [e1, e2, if_true, if_false] at h3
            have := hi i n (by omega) (by omega) h3
            omega
          · simp only [e1, e2, if_false] at h3
            exact hi i j (by omega) (by omega) h3)
      by_cases hyn : y = n
      · exact ⟨i0, by omega, by omega⟩
      · obtain ⟨i, h1, h2⟩ := ih y (by omega)
        by_cases e : i = i0
        · simp only [e, if_true] at h2
          exact ⟨n, by omega, h2⟩
        · simp only [e, if_false] at h2
          exact ⟨i, by omega, h2⟩
    · have ih := pigeon n f (fun i h => by
        have h1 := hf i (by omega)
        have h2 : f i ≠ n := fun h3 => hl ⟨i, h, h3⟩
        omega) (fun i j h1 h2 h3 => hi i j (by omega) (by omega) h3)
      by_cases hfn : f n = n
      · by_cases hyn : y = n
        · exact ⟨n, by omega, by omega⟩
        · obtain ⟨i, h1, h2⟩ := ih y (by omega)
          exact ⟨i, by omega, h2⟩
      · obtain ⟨i, h1, h2⟩ := ih (f n) (by have := hf n (by omega); omega)
        have := hi i n (by omega) (by omega) h2
        omega

/-- Each number below n but 0 is a power of g. -/
structure Gen (n g : Nat) : Prop where
  gt : 1 < n
  per : g ^ (n - 1) % n = 1
  all : ∀ a, 0 < a → a < n → ∃ i, g ^ i % n = a

theorem gen_of {n g : Nat} (hn : 1 < n) (l : List Nat) (hl : ∀ x ∈ l, IsP x) (hN : prod l = n - 1) (hg : g ^ (n - 1) % n = 1) (ho : ∀ x ∈ l, g ^ ((n - 1) / x) % n ≠ 1) : Gen n g := by
  have hord : ∀ k, 0 < k → k < n - 1 → g ^ k % n ≠ 1 := by
    intro k h0 hk he
    have h1 := pow_gcd hn k (n - 1) he hg
    have h2 : Nat.gcd k (n - 1) ∣ n - 1 := Nat.gcd_dvd_right _ _
    have h3 : Nat.gcd k (n - 1) ≤ k := Nat.le_of_dvd h0 (Nat.gcd_dvd_left _ _)
    obtain ⟨x, hx, y, hy⟩ := divides_part l hl hN h2 (by omega)
    refine ho x hx ?_
    rw [hy, Nat.pow_mul]
    exact one_pow_mod hn h1 y
  have hinj : ∀ i j, i < j → j < n - 1 → g ^ i % n ≠ g ^ j % n := by
    intro i j hij hj he
    refine hord (j - i) (by omega) (by omega) ?_
    have e1 : g ^ i * g ^ (n - 1 - i) % n = 1 := by rw [← Nat.pow_add, show i + (n - 1 - i) = n - 1 by omega, hg]
    have e2 : g ^ j * g ^ (n - 1 - i) % n = g ^ (j - i) % n := by
      rw [← Nat.pow_add, show j + (n - 1 - i) = (n - 1) + (j - i) by omega, Nat.pow_add, mul_one_mod hg]
    rw [← e2, Nat.mul_mod, ← he, ← Nat.mul_mod, e1]
  have hpos : ∀ i, i < n - 1 → 0 < g ^ i % n := by
    intro i hi
    apply Nat.pos_of_ne_zero
    intro h0
    have e1 : g ^ i * g ^ (n - 1 - i) % n = 1 := by rw [← Nat.pow_add, show i + (n - 1 - i) = n - 1 by omega, hg]
    rw [Nat.mul_mod, h0, Nat.zero_mul, Nat.zero_mod] at e1
    cases e1
  refine ⟨hn, hg, fun a h0 ha => ?_⟩
  obtain ⟨i, h1, h2⟩ := pigeon (n - 1) (fun i => g ^ i % n - 1) (fun i hi => by
    have := hpos i hi
    have := Nat.mod_lt (g ^ i) (show 0 < n by omega)
    show g ^ i % n - 1 < n - 1
    omega) (fun i j hi hj he => by
    have h1 := hpos i hi
    have h2 := hpos j hj
    have he2 : g ^ i % n - 1 = g ^ j % n - 1 := he
    have he' : g ^ i % n = g ^ j % n := by omega
    by_cases e : i = j
    · exact e
    · exfalso
      by_cases hlt : i < j
      · exact hinj i j hlt hj he'
      · exact hinj j i (by omega) hi he'.symm) (a - 1) (by omega)
  refine ⟨i, ?_⟩
  have := hpos i h1
  have h3 : g ^ i % n - 1 = a - 1 := h2
  omega

theorem Gen.isP {n g : Nat} (h : Gen n g) : IsP n := by
  obtain ⟨hn, hg, ha⟩ := h
  refine ⟨hn, fun d hd => ?_⟩
  by_cases e : d = n
  · exact .inr e
  · left
    have hle := Nat.le_of_dvd (by omega) hd
    have h0 : 0 < d := Nat.pos_of_ne_zero fun h => by
      subst h
      have := Nat.eq_zero_of_zero_dvd hd
      omega
    obtain ⟨i, hi⟩ := ha d h0 (by omega)
    have e1 : g ^ i * g ^ ((n - 1) * (i + 1) - i) % n = 1 := by
      have h2 : i ≤ (n - 1) * (i + 1) := by
        have : 1 * (i + 1) ≤ (n - 1) * (i + 1) := Nat.mul_le_mul_right _ (by omega)
        omega
      rw [← Nat.pow_add, show i + ((n - 1) * (i + 1) - i) = (n - 1) * (i + 1) by omega, Nat.pow_mul]
      exact one_pow_mod hn hg _
    have e2 : d ∣ g ^ i * g ^ ((n - 1) * (i + 1) - i) := by
      refine Nat.dvd_trans ?_ (Nat.dvd_mul_right _ _)
      rw [← Nat.div_add_mod (g ^ i) n, hi]
      exact (Nat.dvd_add_right (Nat.dvd_trans hd (Nat.dvd_mul_right _ _))).2 (Nat.dvd_refl d)
    have e3 : d ∣ 1 := by
      rw [← e1]
      exact (Nat.dvd_mod_iff hd).2 e2
    exact Nat.dvd_one.1 e3

theorem gen_by {n g : Nat} (f : Nat) (l : List Nat) (hn : 1 < n) (hl : ∀ x ∈ l, IsP x) (hN : prod l = n - 1) (hf : n - 1 < 2 ^ f) (hg : pmf n f g (n - 1) = 1) (ho : (l.all fun x => !Nat.beq (pmf n f g ((n - 1) / x)) 1) = true) : Gen n g := by
  refine gen_of hn l hl hN (by rw [← pmf_eq n f g _ hf]; exact hg) fun x hx he => ?_
  have h := List.all_eq_true.1 ho x hx
  rw [pmf_eq n f g _ (Nat.lt_of_le_of_lt (Nat.div_le_self _ _) hf), he] at h
  cases h

theorem isP2 : IsP 2 := ⟨by decide, fun d h => by
  have := Nat.le_of_dvd (by decide) h
  have : d ≠ 0 := fun e => by subst e; have := Nat.eq_zero_of_zero_dvd h; omega
  omega⟩
theorem all_nil {Q : Nat → Prop} : ∀ x ∈ ([] : List Nat), Q x := fun _ h => by cases h
theorem all_cons {Q : Nat → Prop} {a : Nat} {l : List Nat} (h : Q a) (hl : ∀ x ∈ l, Q x) : ∀ x ∈ a :: l, Q x := fun x hx => by
  rcases List.mem_cons.1 hx with e | e
  · rw [e]; exact h
  · exact hl x e

theorem isP_0 : IsP 3 := Gen.isP (g := 2) (gen_by 2 [2] (by decide) (all_cons isP2 all_nil) (by decide +kernel) (by decide +kernel) (by decide +kernel) (by decide +kernel))
theorem isP_1 : IsP 17 := Gen.isP (g := 3) (gen_by 5 [2, 2, 2, 2] (by decide) (all_cons isP2 (all_cons isP2 (all_cons isP2 (all_cons isP2 all_nil)))) (by decide +kernel) (by decide +kernel) (by decide +kernel) (by decide +kernel))
theorem isP_2 : IsP 7 := Gen.isP (g := 3) (gen_by 3 [2, 3] (by decide) (all_cons isP2 (all_cons isP_0 all_nil)) (by decide +kernel) (by decide +kernel) (by decide +kernel) (by decide +kernel))
theorem isP_3 : IsP 239 := Gen.isP (g := 7) (gen_by 8 [2, 7, 17] (by decide) (all_cons isP2 (all_cons isP_2 (all_cons isP_1 all_nil))) (by decide +kernel) (by decide +kernel) (by decide +kernel) (by decide +kernel))
theorem isP_4 : IsP 479 := Gen.isP (g := 13) (gen_by 9 [2, 239] (by decide) (all_cons isP2 (all_cons isP_3 all_nil)) (by decide +kernel) (by decide +kernel) (by decide +kernel) (by decide +kernel))
theorem isP_5 : IsP 32573 := Gen.isP (g := 2) (gen_by 15 [2, 2, 17, 479] (by decide) (all_cons isP2 (all_cons isP2 (all_cons isP_1 (all_cons isP_4 all_nil)))) (by decide +kernel) (by decide +kernel) (by decide +kernel) (by decide +kernel))
theorem isP_6 : IsP 65147 := Gen.isP (g := 2) (gen_by 16 [2, 32573] (by decide) (all_cons isP2 (all_cons isP_5 all_nil)) (by decide +kernel) (by decide +kernel) (by decide +kernel) (by decide +kernel))
theorem isP_7 : IsP 5 := Gen.isP (g := 2) (gen_by 3 [2, 2] (by decide) (all_cons isP2 (all_cons isP2 all_nil)) (by decide +kernel) (by decide +kernel) (by decide +kernel) (by decide +kernel))
theorem isP_8 : IsP 11 := Gen.isP (g := 2) (gen_by 4 [2, 5] (by decide) (all_cons isP2 (all_cons isP_7 all_nil)) (by decide +kernel) (by decide +kernel) (by decide +kernel) (by decide +kernel))
theorem isP_9 : IsP 353 := Gen.isP (g := 3) (gen_by 9 [2, 2, 2, 2, 2, 11] (by decide) (all_cons isP2 (all_cons isP2 (all_cons isP2 (all_cons isP2 (all_cons isP2 (all_cons isP_8 all_nil)))))) (by decide +kernel) (by decide +kernel) (by decide +kernel) (by decide +kernel))
theorem isP_10 : IsP 29 := Gen.isP (g := 2) (gen_by 5 [2, 2, 7] (by decide) (all_cons isP2 (all_cons isP2 (all_cons isP_2 all_nil))) (by decide +kernel) (by decide +kernel) (by decide +kernel) (by decide +kernel))
theorem isP_11 : IsP 59 := Gen.isP (g := 2) (gen_by 6 [2, 29] (by decide) (all_cons isP2 (all_cons isP_10 all_nil)) (by decide +kernel) (by decide +kernel) (by decide +kernel) (by decide +kernel))
theorem isP_12 : IsP 487 := Gen.isP (g := 3) (gen_by 9 [2, 3, 3, 3, 3, 3] (by decide) (all_cons isP2 (all_cons isP_0 (all_cons isP_0 (all_cons isP_0 (all_cons isP_0 (all_cons isP_0 all_nil)))))) (by decide +kernel) (by decide +kernel) (by decide +kernel) (by decide +kernel))
theorem isP_13 : IsP 57467 := Gen.isP (g := 2) (gen_by 16 [2, 59, 487] (by decide) (all_cons isP2 (all_cons isP_11 (all_cons isP_12 all_nil))) (by decide +kernel) (by decide +kernel) (by decide +kernel) (by decide +kernel))
theorem isP_14 : IsP 13 := Gen.isP (g := 2) (gen_by 4 [2, 2, 3] (by decide) (all_cons isP2 (all_cons isP2 (all_cons isP_0 all_nil))) (by decide +kernel) (by decide +kernel) (by decide +kernel) (by decide +kernel))
theorem isP_15 : IsP 131 := Gen.isP (g := 2) (gen_by 8 [2, 5, 13] (by decide) (all_cons isP2 (all_cons isP_7 (all_cons isP_14 all_nil))) (by decide +kernel) (by decide +kernel) (by decide +kernel) (by decide +kernel))
theorem isP_16 : IsP 132049 := Gen.isP (g := 26) (gen_by 18 [2, 2, 2, 2, 3, 3, 7, 131] (by decide) (all_cons isP2 (all_cons isP2 (all_cons isP2 (all_cons isP2 (all_cons isP_0 (all_cons isP_0 (all_cons isP_2 (all_cons isP_15 all_nil)))))))) (by decide +kernel) (by decide +kernel) (by decide +kernel) (by decide +kernel))
theorem isP_17 : IsP 43 := Gen.isP (g := 3) (gen_by 6 [2, 3, 7] (by decide) (all_cons isP2 (all_cons isP_0 (all_cons isP_2 all_nil))) (by decide +kernel) (by decide +kernel) (by decide +kernel) (by decide +kernel))
theorem isP_18 : IsP 23 := Gen.isP (g := 5) (gen_by 5 [2, 11] (by decide) (all_cons isP2 (all_cons isP_8 all_nil)) (by decide +kernel) (by decide +kernel) (by decide +kernel) (by decide +kernel))
theorem isP_19 : IsP 3727 := Gen.isP (g := 3) (gen_by 12 [2, 3, 3, 3, 3, 23] (by decide) (all_cons isP2 (all_cons isP_0 (all_cons isP_0 (all_cons isP_0 (all_cons isP_0 (all_cons isP_18 all_nil)))))) (by decide +kernel) (by decide +kernel) (by decide +kernel) (by decide +kernel))
theorem isP_20 : IsP 1923133 := Gen.isP (g := 2) (gen_by 21 [2, 2, 3, 43, 3727] (by decide) (all_cons isP2 (all_cons isP2 (all_cons isP_0 (all_cons isP_17 (all_cons isP_19 all_nil))))) (by decide +kernel) (by decide +kernel) (by decide +kernel) (by decide +kernel))
theorem isP_21 : IsP 31 := Gen.isP (g := 3) (gen_by 5 [2, 3, 5] (by decide) (all_cons isP2 (all_cons isP_0 (all_cons isP_7 all_nil))) (by decide +kernel) (by decide +kernel) (by decide +kernel) (by decide +kernel))
theorem isP_22 : IsP 53 := Gen.isP (g := 2) (gen_by 6 [2, 2, 13] (by decide) (all_cons isP2 (all_cons isP2 (all_cons isP_14 all_nil))) (by decide +kernel) (by decide +kernel) (by decide +kernel) (by decide +kernel))
theorem isP_23 : IsP 107 := Gen.isP (g := 2) (gen_by 7 [2, 53] (by decide) (all_cons isP2 (all_cons isP_22 all_nil)) (by decide +kernel) (by decide +kernel) (by decide +kernel) (by decide +kernel))
theorem isP_24 : IsP 37 := Gen.isP (g := 2) (gen_by 6 [2, 2, 3, 3] (by decide) (all_cons isP2 (all_cons isP2 (all_cons isP_0 (all_cons isP_0 all_nil)))) (by decide +kernel) (by decide +kernel) (by decide +kernel) (by decide +kernel))
theorem isP_25 : IsP 223 := Gen.isP (g := 3) (gen_by 8 [2, 3, 37] (by decide) (all_cons isP2 (all_cons isP_0 (all_cons isP_24 all_nil))) (by decide +kernel) (by decide +kernel) (by decide +kernel) (by decide +kernel))
theorem isP_26 : IsP 173 := Gen.isP (g := 2) (gen_by 8 [2, 2, 43] (by decide) (all_cons isP2 (all_cons isP2 (all_cons isP_17 all_nil))) (by decide +kernel) (by decide +kernel) (by decide +kernel) (by decide +kernel))
theorem isP_27 : IsP 4153 := Gen.isP (g := 5) (gen_by 13 [2, 2, 2, 3, 173] (by decide) (all_cons isP2 (all_cons isP2 (all_cons isP2 (all_cons isP_0 (all_cons isP_26 all_nil))))) (by decide +kernel) (by decide +kernel) (by decide +kernel) (by decide +kernel))
theorem isP_28 : IsP 41 := Gen.isP (g := 6) (gen_by 6 [2, 2, 2, 5] (by decide) (all_cons isP2 (all_cons isP2 (all_cons isP2 (all_cons isP_7 all_nil)))) (by decide +kernel) (by decide +kernel) (by decide +kernel) (by decide +kernel))
theorem isP_29 : IsP 1723 := Gen.isP (g := 3) (gen_by 11 [2, 3, 7, 41] (by decide) (all_cons isP2 (all_cons isP_0 (all_cons isP_2 (all_cons isP_28 all_nil)))) (by decide +kernel) (by decide +kernel) (by decide +kernel) (by decide +kernel))
theorem isP_30 : IsP 430751 := Gen.isP (g := 17) (gen_by 19 [2, 5, 5, 5, 1723] (by decide) (all_cons isP2 (all_cons isP_7 (all_cons isP_7 (all_cons isP_7 (all_cons isP_29 all_nil))))) (by decide +kernel) (by decide +kernel) (by decide +kernel) (by decide +kernel))
theorem isP_31 : IsP 31757755568855353 := Gen.isP (g := 10) (gen_by 55 [2, 2, 2, 3, 31, 107, 223, 4153, 430751] (by decide) (all_cons isP2 (all_cons isP2 (all_cons isP2 (all_cons isP_0 (all_cons isP_21 (all_cons isP_23 (all_cons isP_25 (all_cons isP_27 (all_cons isP_30 all_nil))))))))) (by decide +kernel) (by decide +kernel) (by decide +kernel) (by decide +kernel))
theorem isP_32 : IsP 19 := Gen.isP (g := 2) (gen_by 5 [2, 3, 3] (by decide) (all_cons isP2 (all_cons isP_0 (all_cons isP_0 all_nil))) (by decide +kernel) (by decide +kernel) (by decide +kernel) (by decide +kernel))
theorem isP_33 : IsP 83 := Gen.isP (g := 2) (gen_by 7 [2, 41] (by decide) (all_cons isP2 (all_cons isP_28 all_nil)) (by decide +kernel) (by decide +kernel) (by decide +kernel) (by decide +kernel))
theorem isP_34 : IsP 9463 := Gen.isP (g := 3) (gen_by 14 [2, 3, 19, 83] (by decide) (all_cons isP2 (all_cons isP_0 (all_cons isP_32 (all_cons isP_33 all_nil)))) (by decide +kernel) (by decide +kernel) (by decide +kernel) (by decide +kernel))
theorem isP_35 : IsP 37853 := Gen.isP (g := 2) (gen_by 16 [2, 2, 9463] (by decide) (all_cons isP2 (all_cons isP2 (all_cons isP_34 all_nil))) (by decide +kernel) (by decide +kernel) (by decide +kernel) (by decide +kernel))
theorem isP_36 : IsP 75707 := Gen.isP (g := 2) (gen_by 17 [2, 37853] (by decide) (all_cons isP2 (all_cons isP_35 all_nil)) (by decide +kernel) (by decide +kernel) (by decide +kernel) (by decide +kernel))
theorem isP_37 : IsP 47 := Gen.isP (g := 5) (gen_by 6 [2, 23] (by decide) (all_cons isP2 (all_cons isP_18 all_nil)) (by decide +kernel) (by decide +kernel) (by decide +kernel) (by decide +kernel))
theorem isP_38 : IsP 127 := Gen.isP (g := 3) (gen_by 7 [2, 3, 3, 7] (by decide) (all_cons isP2 (all_cons isP_0 (all_cons isP_0 (all_cons isP_2 all_nil)))) (by decide +kernel) (by decide +kernel) (by decide +kernel) (by decide +kernel))
theorem isP_39 : IsP 103 := Gen.isP (g := 5) (gen_by 7 [2, 3, 17] (by decide) (all_cons isP2 (all_cons isP_0 (all_cons isP_1 all_nil))) (by decide +kernel) (by decide +kernel) (by decide +kernel) (by decide +kernel))
theorem isP_40 : IsP 991 := Gen.isP (g := 6) (gen_by 10 [2, 3, 3, 5, 11] (by decide) (all_cons isP2 (all_cons isP_0 (all_cons isP_0 (all_cons isP_7 (all_cons isP_8 all_nil))))) (by decide +kernel) (by decide +kernel) (by decide +kernel) (by decide +kernel))
theorem isP_41 : IsP 8574133 := Gen.isP (g := 2) (gen_by 24 [2, 2, 3, 7, 103, 991] (by decide) (all_cons isP2 (all_cons isP2 (all_cons isP_0 (all_cons isP_2 (all_cons isP_39 (all_cons isP_40 all_nil)))))) (by decide +kernel) (by decide +kernel) (by decide +kernel) (by decide +kernel))
theorem isP_42 : IsP 1919519569386763 := Gen.isP (g := 2) (gen_by 51 [2, 3, 7, 19, 47, 47, 127, 8574133] (by decide) (all_cons isP2 (all_cons isP_0 (all_cons isP_2 (all_cons isP_32 (all_cons isP_37 (all_cons isP_37 (all_cons isP_38 (all_cons isP_41 all_nil)))))))) (by decide +kernel) (by decide +kernel) (by decide +kernel) (by decide +kernel))
theorem isP_43 : IsP 2437 := Gen.isP (g := 2) (gen_by 12 [2, 2, 3, 7, 29] (by decide) (all_cons isP2 (all_cons isP2 (all_cons isP_0 (all_cons isP_2 (all_cons isP_10 all_nil))))) (by decide +kernel) (by decide +kernel) (by decide +kernel) (by decide +kernel))
theorem isP_44 : IsP 97 := Gen.isP (g := 5) (gen_by 7 [2, 2, 2, 2, 2, 3] (by decide) (all_cons isP2 (all_cons isP2 (all_cons isP2 (all_cons isP2 (all_cons isP2 (all_cons isP_0 all_nil)))))) (by decide +kernel) (by decide +kernel) (by decide +kernel) (by decide +kernel))
theorem isP_45 : IsP 419 := Gen.isP (g := 2) (gen_by 9 [2, 11, 19] (by decide) (all_cons isP2 (all_cons isP_8 (all_cons isP_32 all_nil))) (by decide +kernel) (by decide +kernel) (by decide +kernel) (by decide +kernel))
theorem isP_46 : IsP 569003 := Gen.isP (g := 2) (gen_by 20 [2, 7, 97, 419] (by decide) (all_cons isP2 (all_cons isP_2 (all_cons isP_44 (all_cons isP_45 all_nil)))) (by decide +kernel) (by decide +kernel) (by decide +kernel) (by decide +kernel))
theorem isP_47 : IsP 2773320623 := Gen.isP (g := 5) (gen_by 32 [2, 2437, 569003] (by decide) (all_cons isP2 (all_cons isP_43 (all_cons isP_46 all_nil))) (by decide +kernel) (by decide +kernel) (by decide +kernel) (by decide +kernel))
theorem isP_48 : IsP 72106336199 := Gen.isP (g := 7) (gen_by 37 [2, 13, 2773320623] (by decide) (all_cons isP2 (all_cons isP_14 (all_cons isP_47 all_nil))) (by decide +kernel) (by decide +kernel) (by decide +kernel) (by decide +kernel))
theorem isP_49 : IsP 75445702479781427272750846543864801 := Gen.isP (g := 7) (gen_by 116 [2, 2, 2, 2, 2, 3, 3, 5, 5, 75707, 1919519569386763, 72106336199] (by decide) (all_cons isP2 (all_cons isP2 (all_cons isP2 (all_cons isP2 (all_cons isP2 (all_cons isP_0 (all_cons isP_0 (all_cons isP_7 (all_cons isP_7 (all_cons isP_36 (all_cons isP_42 (all_cons isP_48 all_nil)))))))))))) (by decide +kernel) (by decide +kernel) (by decide +kernel) (by decide +kernel))
theorem isP_50 : IsP 74058212732561358302231226437062788676166966415465897661863160754340907 := Gen.isP (g := 2) (gen_by 236 [2, 3, 353, 57467, 132049, 1923133, 31757755568855353, 75445702479781427272750846543864801] (by decide) (all_cons isP2 (all_cons isP_0 (all_cons isP_9 (all_cons isP_13 (all_cons isP_16 (all_cons isP_20 (all_cons isP_31 (all_cons isP_49 all_nil)))))))) (by decide +kernel) (by decide +kernel) (by decide +kernel) (by decide +kernel))
theorem genP : Gen 57896044618658097711785492504343953926634992332820282019728792003956564819949 2 := gen_by 255 [2, 2, 3, 65147, 74058212732561358302231226437062788676166966415465897661863160754340907] (by decide) (all_cons isP2 (all_cons isP2 (all_cons isP_0 (all_cons isP_6 (all_cons isP_50 all_nil))))) (by decide +kernel) (by decide +kernel) (by decide +kernel) (by decide +kernel)

theorem isQ_0 : IsP 3 := Gen.isP (g := 2) (gen_by 2 [2] (by decide) (all_cons isP2 all_nil) (by decide +kernel) (by decide +kernel) (by decide +kernel) (by decide +kernel))
theorem isQ_1 : IsP 5 := Gen.isP (g := 2) (gen_by 3 [2, 2] (by decide) (all_cons isP2 (all_cons isP2 all_nil)) (by decide +kernel) (by decide +kernel) (by decide +kernel) (by decide +kernel))
theorem isQ_2 : IsP 11 := Gen.isP (g := 2) (gen_by 4 [2, 5] (by decide) (all_cons isP2 (all_cons isQ_1 all_nil)) (by decide +kernel) (by decide +kernel) (by decide +kernel) (by decide +kernel))
theorem isQ_3 : IsP 23 := Gen.isP (g := 5) (gen_by 5 [2, 11] (by decide) (all_cons isP2 (all_cons isQ_2 all_nil)) (by decide +kernel) (by decide +kernel) (by decide +kernel) (by decide +kernel))
theorem isQ_4 : IsP 47 := Gen.isP (g := 5) (gen_by 6 [2, 23] (by decide) (all_cons isP2 (all_cons isQ_3 all_nil)) (by decide +kernel) (by decide +kernel) (by decide +kernel) (by decide +kernel))
theorem isQ_5 : IsP 34123 := Gen.isP (g := 2) (gen_by 16 [2, 3, 11, 11, 47] (by decide) (all_cons isP2 (all_cons isQ_0 (all_cons isQ_2 (all_cons isQ_2 (all_cons isQ_4 all_nil))))) (by decide +kernel) (by decide +kernel) (by decide +kernel) (by decide +kernel))
theorem isQ_6 : IsP 409477 := Gen.isP (g := 2) (gen_by 19 [2, 2, 3, 34123] (by decide) (all_cons isP2 (all_cons isP2 (all_cons isQ_0 (all_cons isQ_5 all_nil)))) (by decide +kernel) (by decide +kernel) (by decide +kernel) (by decide +kernel))
theorem isQ_7 : IsP 14741173 := Gen.isP (g := 2) (gen_by 24 [2, 2, 3, 3, 409477] (by decide) (all_cons isP2 (all_cons isP2 (all_cons isQ_0 (all_cons isQ_0 (all_cons isQ_6 all_nil))))) (by decide +kernel) (by decide +kernel) (by decide +kernel) (by decide +kernel))
theorem isQ_8 : IsP 58964693 := Gen.isP (g := 2) (gen_by 26 [2, 2, 14741173] (by decide) (all_cons isP2 (all_cons isP2 (all_cons isQ_7 all_nil))) (by decide +kernel) (by decide +kernel) (by decide +kernel) (by decide +kernel))
theorem isQ_9 : IsP 7 := Gen.isP (g := 3) (gen_by 3 [2, 3] (by decide) (all_cons isP2 (all_cons isQ_0 all_nil)) (by decide +kernel) (by decide +kernel) (by decide +kernel) (by decide +kernel))
theorem isQ_10 : IsP 17 := Gen.isP (g := 3) (gen_by 5 [2, 2, 2, 2] (by decide) (all_cons isP2 (all_cons isP2 (all_cons isP2 (all_cons isP2 all_nil)))) (by decide +kernel) (by decide +kernel) (by decide +kernel) (by decide +kernel))
theorem isQ_11 : IsP 43 := Gen.isP (g := 3) (gen_by 6 [2, 3, 7] (by decide) (all_cons isP2 (all_cons isQ_0 (all_cons isQ_9 all_nil))) (by decide +kernel) (by decide +kernel) (by decide +kernel) (by decide +kernel))
theorem isQ_12 : IsP 30703 := Gen.isP (g := 3) (gen_by 15 [2, 3, 7, 17, 43] (by decide) (all_cons isP2 (all_cons isQ_0 (all_cons isQ_9 (all_cons isQ_10 (all_cons isQ_11 all_nil))))) (by decide +kernel) (by decide +kernel) (by decide +kernel) (by decide +kernel))
theorem isQ_13 : IsP 13 := Gen.isP (g := 2) (gen_by 4 [2, 2, 3] (by decide) (all_cons isP2 (all_cons isP2 (all_cons isQ_0 all_nil))) (by decide +kernel) (by decide +kernel) (by decide +kernel) (by decide +kernel))
theorem isQ_14 : IsP 79 := Gen.isP (g := 3) (gen_by 7 [2, 3, 13] (by decide) (all_cons isP2 (all_cons isQ_0 (all_cons isQ_13 all_nil))) (by decide +kernel) (by decide +kernel) (by decide +kernel) (by decide +kernel))
theorem isQ_15 : IsP 41081 := Gen.isP (g := 3) (gen_by 16 [2, 2, 2, 5, 13, 79] (by decide) (all_cons isP2 (all_cons isP2 (all_cons isP2 (all_cons isQ_1 (all_cons isQ_13 (all_cons isQ_14 all_nil)))))) (by decide +kernel) (by decide +kernel) (by decide +kernel) (by decide +kernel))
theorem isQ_16 : IsP 82163 := Gen.isP (g := 2) (gen_by 17 [2, 41081] (by decide) (all_cons isP2 (all_cons isQ_15 all_nil)) (by decide +kernel) (by decide +kernel) (by decide +kernel) (by decide +kernel))
theorem isQ_17 : IsP 41 := Gen.isP (g := 6) (gen_by 6 [2, 2, 2, 5] (by decide) (all_cons isP2 (all_cons isP2 (all_cons isP2 (all_cons isQ_1 all_nil)))) (by decide +kernel) (by decide +kernel) (by decide +kernel) (by decide +kernel))
theorem isQ_18 : IsP 1723 := Gen.isP (g := 3) (gen_by 11 [2, 3, 7, 41] (by decide) (all_cons isP2 (all_cons isQ_0 (all_cons isQ_9 (all_cons isQ_17 all_nil)))) (by decide +kernel) (by decide +kernel) (by decide +kernel) (by decide +kernel))
theorem isQ_19 : IsP 17231 := Gen.isP (g := 13) (gen_by 15 [2, 5, 1723] (by decide) (all_cons isP2 (all_cons isQ_1 (all_cons isQ_18 all_nil))) (by decide +kernel) (by decide +kernel) (by decide +kernel) (by decide +kernel))
theorem isQ_20 : IsP 137849 := Gen.isP (g := 3) (gen_by 18 [2, 2, 2, 17231] (by decide) (all_cons isP2 (all_cons isP2 (all_cons isP2 (all_cons isQ_19 all_nil)))) (by decide +kernel) (by decide +kernel) (by decide +kernel) (by decide +kernel))
theorem isQ_21 : IsP 67 := Gen.isP (g := 2) (gen_by 7 [2, 3, 11] (by decide) (all_cons isP2 (all_cons isQ_0 (all_cons isQ_2 all_nil))) (by decide +kernel) (by decide +kernel) (by decide +kernel) (by decide +kernel))
theorem isQ_22 : IsP 22111 := Gen.isP (g := 6) (gen_by 15 [2, 3, 5, 11, 67] (by decide) (all_cons isP2 (all_cons isQ_0 (all_cons isQ_1 (all_cons isQ_2 (all_cons isQ_21 all_nil))))) (by decide +kernel) (by decide +kernel) (by decide +kernel) (by decide +kernel))
theorem isQ_23 : IsP 132667 := Gen.isP (g := 5) (gen_by 18 [2, 3, 22111] (by decide) (all_cons isP2 (all_cons isQ_0 (all_cons isQ_22 all_nil))) (by decide +kernel) (by decide +kernel) (by decide +kernel) (by decide +kernel))
theorem isQ_24 : IsP 3044861653679985063343 := Gen.isP (g := 5) (gen_by 72 [2, 3, 11, 30703, 82163, 137849, 132667] (by decide) (all_cons isP2 (all_cons isQ_0 (all_cons isQ_2 (all_cons isQ_12 (all_cons isQ_16 (all_cons isQ_20 (all_cons isQ_23 all_nil))))))) (by decide +kernel) (by decide +kernel) (by decide +kernel) (by decide +kernel))
theorem isQ_25 : IsP 198211423230930754013084525763697 := Gen.isP (g := 5) (gen_by 108 [2, 2, 2, 2, 3, 23, 58964693, 3044861653679985063343] (by decide) (all_cons isP2 (all_cons isP2 (all_cons isP2 (all_cons isP2 (all_cons isQ_0 (all_cons isQ_3 (all_cons isQ_8 (all_cons isQ_24 all_nil)))))))) (by decide +kernel) (by decide +kernel) (by decide +kernel) (by decide +kernel))
theorem isQ_26 : IsP 269 := Gen.isP (g := 2) (gen_by 9 [2, 2, 67] (by decide) (all_cons isP2 (all_cons isP2 (all_cons isQ_21 all_nil))) (by decide +kernel) (by decide +kernel) (by decide +kernel) (by decide +kernel))
theorem isQ_27 : IsP 73 := Gen.isP (g := 5) (gen_by 7 [2, 2, 2, 3, 3] (by decide) (all_cons isP2 (all_cons isP2 (all_cons isP2 (all_cons isQ_0 (all_cons isQ_0 all_nil))))) (by decide +kernel) (by decide +kernel) (by decide +kernel) (by decide +kernel))
theorem isQ_28 : IsP 307 := Gen.isP (g := 5) (gen_by 9 [2, 3, 3, 17] (by decide) (all_cons isP2 (all_cons isQ_0 (all_cons isQ_0 (all_cons isQ_10 all_nil)))) (by decide +kernel) (by decide +kernel) (by decide +kernel) (by decide +kernel))
theorem isQ_29 : IsP 113 := Gen.isP (g := 3) (gen_by 7 [2, 2, 2, 2, 7] (by decide) (all_cons isP2 (all_cons isP2 (all_cons isP2 (all_cons isP2 (all_cons isQ_9 all_nil))))) (by decide +kernel) (by decide +kernel) (by decide +kernel) (by decide +kernel))
theorem isQ_30 : IsP 2939 := Gen.isP (g := 2) (gen_by 12 [2, 13, 113] (by decide) (all_cons isP2 (all_cons isQ_13 (all_cons isQ_29 all_nil))) (by decide +kernel) (by decide +kernel) (by decide +kernel) (by decide +kernel))
theorem isQ_31 : IsP 5879 := Gen.isP (g := 11) (gen_by 13 [2, 2939] (by decide) (all_cons isP2 (all_cons isQ_30 all_nil)) (by decide +kernel) (by decide +kernel) (by decide +kernel) (by decide +kernel))
theorem isQ_32 : IsP 292386187 := Gen.isP (g := 2) (gen_by 29 [2, 3, 3, 3, 3, 307, 5879] (by decide) (all_cons isP2 (all_cons isQ_0 (all_cons isQ_0 (all_cons isQ_0 (all_cons isQ_0 (all_cons isQ_28 (all_cons isQ_31 all_nil))))))) (by decide +kernel) (by decide +kernel) (by decide +kernel) (by decide +kernel))
theorem isQ_33 : IsP 213441916511 := Gen.isP (g := 13) (gen_by 38 [2, 5, 73, 292386187] (by decide) (all_cons isP2 (all_cons isQ_1 (all_cons isQ_27 (all_cons isQ_32 all_nil)))) (by decide +kernel) (by decide +kernel) (by decide +kernel) (by decide +kernel))
theorem isQ_34 : IsP 1361 := Gen.isP (g := 3) (gen_by 11 [2, 2, 2, 2, 5, 17] (by decide) (all_cons isP2 (all_cons isP2 (all_cons isP2 (all_cons isP2 (all_cons isQ_1 (all_cons isQ_10 all_nil)))))) (by decide +kernel) (by decide +kernel) (by decide +kernel) (by decide +kernel))
theorem isQ_35 : IsP 19 := Gen.isP (g := 2) (gen_by 5 [2, 3, 3] (by decide) (all_cons isP2 (all_cons isQ_0 (all_cons isQ_0 all_nil))) (by decide +kernel) (by decide +kernel) (by decide +kernel) (by decide +kernel))
theorem isQ_36 : IsP 2851 := Gen.isP (g := 2) (gen_by 12 [2, 3, 5, 5, 19] (by decide) (all_cons isP2 (all_cons isQ_0 (all_cons isQ_1 (all_cons isQ_1 (all_cons isQ_35 all_nil))))) (by decide +kernel) (by decide +kernel) (by decide +kernel) (by decide +kernel))
theorem isQ_37 : IsP 2551 := Gen.isP (g := 6) (gen_by 12 [2, 3, 5, 5, 17] (by decide) (all_cons isP2 (all_cons isQ_0 (all_cons isQ_1 (all_cons isQ_1 (all_cons isQ_10 all_nil))))) (by decide +kernel) (by decide +kernel) (by decide +kernel) (by decide +kernel))
theorem isQ_38 : IsP 1224481 := Gen.isP (g := 13) (gen_by 21 [2, 2, 2, 2, 2, 3, 5, 2551] (by decide) (all_cons isP2 (all_cons isP2 (all_cons isP2 (all_cons isP2 (all_cons isP2 (all_cons isQ_0 (all_cons isQ_1 (all_cons isQ_37 all_nil)))))))) (by decide +kernel) (by decide +kernel) (by decide +kernel) (by decide +kernel))
theorem isQ_39 : IsP 3797 := Gen.isP (g := 2) (gen_by 12 [2, 2, 13, 73] (by decide) (all_cons isP2 (all_cons isP2 (all_cons isQ_13 (all_cons isQ_27 all_nil)))) (by decide +kernel) (by decide +kernel) (by decide +kernel) (by decide +kernel))
theorem isQ_40 : IsP 531581 := Gen.isP (g := 2) (gen_by 20 [2, 2, 5, 7, 3797] (by decide) (all_cons isP2 (all_cons isP2 (all_cons isQ_1 (all_cons isQ_9 (all_cons isQ_39 all_nil))))) (by decide +kernel) (by decide +kernel) (by decide +kernel) (by decide +kernel))
theorem isQ_41 : IsP 1257559732178653 := Gen.isP (g := 2) (gen_by 51 [2, 2, 3, 7, 23, 1224481, 531581] (by decide) (all_cons isP2 (all_cons isP2 (all_cons isQ_0 (all_cons isQ_9 (all_cons isQ_3 (all_cons isQ_38 (all_cons isQ_40 all_nil))))))) (by decide +kernel) (by decide +kernel) (by decide +kernel) (by decide +kernel))
theorem isQ_42 : IsP 4434155615661930479 := Gen.isP (g := 17) (gen_by 62 [2, 41, 43, 1257559732178653] (by decide) (all_cons isP2 (all_cons isQ_17 (all_cons isQ_11 (all_cons isQ_41 all_nil)))) (by decide +kernel) (by decide +kernel) (by decide +kernel) (by decide +kernel))
theorem isQ_43 : IsP 172054593956031949258510691 := Gen.isP (g := 2) (gen_by 88 [2, 5, 1361, 2851, 4434155615661930479] (by decide) (all_cons isP2 (all_cons isQ_1 (all_cons isQ_34 (all_cons isQ_36 (all_cons isQ_42 all_nil))))) (by decide +kernel) (by decide +kernel) (by decide +kernel) (by decide +kernel))
theorem isQ_44 : IsP 19757330305831588566944191468367130476339 := Gen.isP (g := 2) (gen_by 134 [2, 269, 213441916511, 172054593956031949258510691] (by decide) (all_cons isP2 (all_cons isQ_26 (all_cons isQ_33 (all_cons isQ_43 all_nil)))) (by decide +kernel) (by decide +kernel) (by decide +kernel) (by decide +kernel))
theorem isQ_45 : IsP 276602624281642239937218680557139826668747 := Gen.isP (g := 2) (gen_by 138 [2, 7, 19757330305831588566944191468367130476339] (by decide) (all_cons isP2 (all_cons isQ_9 (all_cons isQ_44 all_nil))) (by decide +kernel) (by decide +kernel) (by decide +kernel) (by decide +kernel))
theorem isL : IsP 7237005577332262213973186563042994240857116359379907606001950938285454250989 := Gen.isP (g := 2) (gen_by 253 [2, 2, 3, 11, 198211423230930754013084525763697, 276602624281642239937218680557139826668747] (by decide) (all_cons isP2 (all_cons isP2 (all_cons isQ_0 (all_cons isQ_2 (all_cons isQ_25 (all_cons isQ_45 all_nil)))))) (by decide +kernel) (by decide +kernel) (by decide +kernel) (by decide +kernel))

end Go.Proofs.Ytiiniodidkfbiaa
